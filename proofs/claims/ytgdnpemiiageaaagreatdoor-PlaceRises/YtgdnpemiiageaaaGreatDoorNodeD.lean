/-
  A part of the proof.
-/
import Derived.Test.YtgdnpemiiageaaaGreatDoorNodeC
import Derived.Test.YtgdnpemiiageaaaGreatDoorPlainC
import Derived.Test.YtgdnpemiiageaaaGreatDoorShelf
set_option maxHeartbeats 16000000
set_option maxRecDepth 100000
namespace Go.Proofs.YtgdnpemiiageaaaGreatDoor
open Go.RowKit
set_option linter.unusedSimpArgs false
section
variable {B pb:Nat} {tv:Value} {L:List M.Tk}
theorem A0a {w w1 w2:World} {ok:Nat->Prop} {d:Nat} {s:M.St} {φ ψ:M.Sp->Option (M.Out Int)} {e:Ending} (hk:Kept B ok w w1) (h:O8 w1 B pb tv L ok d s.nx φ e w2) (hv:∀o,M.Ev L φ o->M.Ev L ψ o):O8 w B pb tv L ok d s ψ e w2:=by
 obtain⟨k,o,ev,hp⟩:=h;refine⟨hk.trans k,o,hv o ev, ?_⟩;cases o with
 |fail er p=>exact hp
 |ok s' x=>
  obtain⟨h1,h2,h3,h4⟩:=hp;exact⟨h1,h2,Q8a h3,h4⟩
theorem Z9 {w w1 w2:World} {ok:Nat->Prop} {d:Nat} {s:M.St} {φ ψ:M.Sp->Option (M.Out Int)} {e:Ending} (hk:Kept B ok w w1) (h:O8 w1 B pb tv L ok d s φ e w2) (hv:∀o,M.Ev L φ o->M.Ev L ψ o):O8 w B pb tv L ok d s ψ e w2:=by
 obtain⟨k,o,ev,hp⟩:=h;refine⟨hk.trans k,o,hv o ev, ?_⟩;cases o with
 |fail er p=>exact hp
 |ok s' x=>exact hp
theorem J8 {w w2:World} {ok:Nat->Prop} {d:Nat} {s:M.St} {φ:M.Sp->Option (M.Out Int)} {e:Ending} (h:O8 w B pb tv L ok d s φ e w2):(∃x,e= .returned (iV x))\/∃er p,e=gu er p:=by
 obtain⟨k,o,ev,hp⟩:=h;cases o with
 |fail er p=>exact .inr ⟨er,p,hp.1⟩
 |ok s' x=>exact .inl ⟨x,hp.1⟩
theorem N9a (hL:LOk L) (hX:∀(d:Nat) (s s':M.St) (x:Int),M.Ev L (fun r=>r.expr d s) (.ok s' x)->(s.N.length:Int)<=x) (m:Nat) (hE:∀m',m'<=m->I7 B pb tv L 143 (fun d s r=>r.expr d s) m') (hK:∀m',m'<m->I7 B pb tv L 145 (fun d s r=>r.block d s) m'):I7 B pb tv L 91 (fun d s r=>r.any d s) m:=by
 intro w ok d s hm hok hB h;have hi:=h.at';have hs:=hL.short;have HA:=A0 (N7a hL h);have FS:Hid (∀a,Chg No w a->Pst a B pb tv L ok d s):=fun a ha=>h.still ha;have V:Hid (∀o φ,M.Ev L φ o->(∀r,(M.step L r).any d s=φ r)->M.Ev L (fun r=>r.any d s) o):=fun o φ ho he=>M.Ev.step (ho.eq (fun r=>he r));clear h;generalize hat:((M.tk L s.i).at':Int)=at0 at *;have AT:=A0 hat;clear hat;go_enter Tryz.func91,Tryz.ntmps91;go_wp2_with fail
 refine HA.out.mono ?_;rintro e w0 ⟨rfl,hc⟩;have K:=A0 (B8 (B:=B) (ok:=ok) hc);have P:=A0 (FS.out w0 hc);clear hc HA FS;have HT:=F5 hL P.out [108,101,116];generalize hq:M.isM L s.i [[108,101,116]]=q0 at HT;have Q0:=A0 hq;have HT2:=A0 HT;clear hq HT P;go_wp2_with fail
 refine HT2.out.mono ?_;rintro e w1 ⟨rfl,hk,hp⟩;have K':=A0 (K.out.trans hk);clear hk HT2 K;have K:=A0 K'.out;clear K';cases q0
 case true=>
  have P:Hid (Pst w1 B pb tv L ok d s.nx):=hp;clear hp;have H1:=A0 (V9c hL (L.length - s.nx.i) (fun m' hm'=>hE m' (by simp only[M.St.nx]at hm';omega)) at0 w1 ok d s.nx (Nat.le_refl _) (fun g hg=>hok g (Nat.le_trans K.out.size hg)) (Nat.le_trans hB K.out.size) P.out);clear P;go_wp2_with fail
  refine H1.out.mono ?_;rintro e w9 hpost;have PX:=A0 (A0a K.out hpost (fun o ho=>V.out o _ ho (fun r=>by simp only[M.step,Q0.out,Bool.false_eq_true,if_false,if_true,AT.out];try rfl)));have hend:=J8 hpost;clear hpost H1 K V;rcases hend with ⟨x,rfl⟩|⟨er,p,rfl⟩
  · go_wp2_with fail
    go_ret;exact PX.out
  · exact⟨rfl,PX.out⟩
 have P:Hid (Pst w1 B pb tv L ok d s):=hp;clear hp;have HT:=F5 hL P.out [112,114,105,110,116];generalize hq:M.isM L s.i [[112,114,105,110,116]]=q1 at HT;have Q1:=A0 hq;have HT2:=A0 HT;clear hq HT P;go_wp2_with fail
 refine HT2.out.mono ?_;rintro e w2 ⟨rfl,hk,hp⟩;have K':=A0 (K.out.trans hk);clear hk HT2 K;have K:=A0 K'.out;clear K';cases q1
 case true=>
  have P:Hid (Pst w2 B pb tv L ok d s.nx):=hp;clear hp;have H1:=A0 (B5a hL (L.length - s.nx.i) (fun m' hm'=>hE m' (by simp only[M.St.nx]at hm';omega)) 21 at0 w2 ok d s.nx (Nat.le_refl _) (fun g hg=>hok g (Nat.le_trans K.out.size hg)) (Nat.le_trans hB K.out.size) P.out);clear P;go_wp2_with fail
  refine H1.out.mono ?_;rintro e w9 hpost;have PX:=A0 (A0a K.out hpost (fun o ho=>V.out o _ ho (fun r=>by simp only[M.step,Q0.out,Q1.out,Bool.false_eq_true,if_false,if_true,AT.out];try rfl)));have hend:=J8 hpost;clear hpost H1 K V;rcases hend with ⟨x,rfl⟩|⟨er,p,rfl⟩
  · go_wp2_with fail
    go_ret;exact PX.out
  · exact⟨rfl,PX.out⟩
 have P:Hid (Pst w2 B pb tv L ok d s):=hp;clear hp;have HT:=F5 hL P.out [114,101,116,117,114,110];generalize hq:M.isM L s.i [[114,101,116,117,114,110]]=q2 at HT;have Q2:=A0 hq;have HT2:=A0 HT;clear hq HT P;go_wp2_with fail
 refine HT2.out.mono ?_;rintro e w3 ⟨rfl,hk,hp⟩;have K':=A0 (K.out.trans hk);clear hk HT2 K;have K:=A0 K'.out;clear K';cases q2
 case true=>
  have P:Hid (Pst w3 B pb tv L ok d s.nx):=hp;clear hp;have H1:=A0 (B5a hL (L.length - s.nx.i) (fun m' hm'=>hE m' (by simp only[M.St.nx]at hm';omega)) 24 at0 w3 ok d s.nx (Nat.le_refl _) (fun g hg=>hok g (Nat.le_trans K.out.size hg)) (Nat.le_trans hB K.out.size) P.out);clear P;go_wp2_with fail
  refine H1.out.mono ?_;rintro e w9 hpost;have PX:=A0 (A0a K.out hpost (fun o ho=>V.out o _ ho (fun r=>by simp only[M.step,Q0.out,Q1.out,Q2.out,Bool.false_eq_true,if_false,if_true,AT.out];try rfl)));have hend:=J8 hpost;clear hpost H1 K V;rcases hend with ⟨x,rfl⟩|⟨er,p,rfl⟩
  · go_wp2_with fail
    go_ret;exact PX.out
  · exact⟨rfl,PX.out⟩
 have P:Hid (Pst w3 B pb tv L ok d s):=hp;clear hp;have HT:=F5 hL P.out [105,102];generalize hq:M.isM L s.i [[105,102]]=q3 at HT;have Q3:=A0 hq;have HT2:=A0 HT;clear hq HT P;go_wp2_with fail
 refine HT2.out.mono ?_;rintro e w4 ⟨rfl,hk,hp⟩;have K':=A0 (K.out.trans hk);clear hk HT2 K;have K:=A0 K'.out;clear K';cases q3
 case true=>
  have P:Hid (Pst w4 B pb tv L ok d s.nx):=hp;clear hp;have H1:=A0 (T0b hL (L.length - s.nx.i) (fun m' hm'=>hE m' (by simp only[M.St.nx]at hm';omega)) (fun m' hm'=>hK m' (by simp only[M.St.nx]at hm';omega)) at0 w4 ok d s.nx (Nat.le_refl _) (fun g hg=>hok g (Nat.le_trans K.out.size hg)) (Nat.le_trans hB K.out.size) P.out);clear P;go_wp2_with fail
  refine H1.out.mono ?_;rintro e w9 hpost;have PX:=A0 (A0a K.out hpost (fun o ho=>V.out o _ ho (fun r=>by simp only[M.step,Q0.out,Q1.out,Q2.out,Q3.out,L7b,Bool.false_eq_true,if_false,if_true,AT.out];try rfl)));have hend:=J8 hpost;clear hpost H1 K V;rcases hend with ⟨x,rfl⟩|⟨er,p,rfl⟩
  · go_wp2_with fail
    go_ret;exact PX.out
  · exact⟨rfl,PX.out⟩
 have P:Hid (Pst w4 B pb tv L ok d s):=hp;clear hp;have HT:=F5 hL P.out [119,104,105,108,101];generalize hq:M.isM L s.i [[119,104,105,108,101]]=q4 at HT;have Q4:=A0 hq;have HT2:=A0 HT;clear hq HT P;go_wp2_with fail
 refine HT2.out.mono ?_;rintro e w5 ⟨rfl,hk,hp⟩;have K':=A0 (K.out.trans hk);clear hk HT2 K;have K:=A0 K'.out;clear K';cases q4
 case true=>
  have P:Hid (Pst w5 B pb tv L ok d s.nx):=hp;clear hp;have H1:=A0 (L4c hL (L.length - s.nx.i) (fun m' hm'=>hE m' (by simp only[M.St.nx]at hm';omega)) (fun m' hm'=>hK m' (by simp only[M.St.nx]at hm';omega)) at0 w5 ok d s.nx (Nat.le_refl _) (fun g hg=>hok g (Nat.le_trans K.out.size hg)) (Nat.le_trans hB K.out.size) P.out);clear P;go_wp2_with fail
  refine H1.out.mono ?_;rintro e w9 hpost;have PX:=A0 (A0a K.out hpost (fun o ho=>V.out o _ ho (fun r=>by simp only[M.step,Q0.out,Q1.out,Q2.out,Q3.out,Q4.out,L7b,Bool.false_eq_true,if_false,if_true,AT.out];try rfl)));have hend:=J8 hpost;clear hpost H1 K V;rcases hend with ⟨x,rfl⟩|⟨er,p,rfl⟩
  · go_wp2_with fail
    go_ret;exact PX.out
  · exact⟨rfl,PX.out⟩
 have P:Hid (Pst w5 B pb tv L ok d s):=hp;clear hp;have H1:=A0 (L4b hL hX m hE w5 ok d s hm (fun g hg=>hok g (Nat.le_trans K.out.size hg)) (Nat.le_trans hB K.out.size) P.out);clear P;go_wp2_with fail
 refine H1.out.mono ?_;rintro e w9 hpost;have PX:=A0 (Z9 K.out hpost (fun o ho=>V.out o _ ho (fun r=>by simp only[M.step,Q0.out,Q1.out,Q2.out,Q3.out,Q4.out,Bool.false_eq_true,if_false,if_true,AT.out];try rfl)));have hend:=J8 hpost;clear hpost H1 K V;rcases hend with ⟨x,rfl⟩|⟨er,p,rfl⟩
 · go_wp2_with fail
   go_ret;exact PX.out
 · exact⟨rfl,PX.out⟩
theorem W3a (hL:LOk L) (m:Nat) (hU:I7 B pb tv L 91 (fun d s r=>r.any d s) m):I7 B pb tv L 55 (fun d s r=>r.stmt d s) m:=by
 intro w ok d s hm hok hB h;have HI:=A0 (C3a hL (h.alloc (.cells (M4a [[108,101,116],[112,114,105,110,116],[114,101,116,117,114,110],[105,102],[119,104,105,108,101]]) 9)) w.heap.size 5 [[108,101,116],[112,114,105,110,116],[114,101,116,117,114,110],[105,102],[119,104,105,108,101]] (U6 _ _ _) (by decide));have HB:Hid (∀a,Chg No w a->Calls Tryz.prog 89 #[pV pb] a fun e w'=>e= .returned (.bool (M.H6a L s.i))/\Chg No a w'):=fun a ha=>V9a hL (h.still ha);have HN:Hid (∀a,Chg No w a->∀b,Calls Tryz.prog 90 #[pV pb,.bool b,.func (.func 91) #[pV pb] #[]] a (O8 a B pb tv L ok d s (fun r=>M.inside L b d s (fun d s=>r.any d s)))):=fun a hc b=>C9a (w:=a) (ok:=ok) hL m _ hU b hm (fun g hg=>hok g (Nat.le_trans hc.size hg)) (Nat.le_trans hB hc.size) (h.still hc);have V:Hid (∀b o,b=M.G7d L s.i->M.Ev L (fun r=>M.inside L b d s (fun d s=>r.any d s)) o->M.Ev L (fun r=>r.stmt d s) o):=fun b o hb ho=>M.Ev.step (ho.eq (fun r=>by rw[hb];rfl));have hbs:M.G7d L s.i=(M.isM L s.i [[108,101,116],[112,114,105,110,116],[114,101,116,117,114,110],[105,102],[119,104,105,108,101]]||M.H6a L s.i):=rfl;rw[hbs]at V;clear hbs h hU;generalize M.isM L s.i [[108,101,116],[112,114,105,110,116],[114,101,116,117,114,110],[105,102],[119,104,105,108,101]]=q at *;generalize M.H6a L s.i=q2 at *;go_enter Tryz.func55,Tryz.ntmps55;go_wp2_with fail
 refine HI.out.mono ?_;rintro e w1 ⟨rfl,hc⟩;have C1:Hid (Chg No w w1):=(Chg.alloc No _ _).trans hc (fun _ _ x=>x);clear hc HI;cases q
 · go_wp2_with fail
   refine(HB.out w1 C1.out).mono ?_;rintro e w2 ⟨rfl,hc⟩;have C2:Hid (Chg No w w2):=C1.out.trans hc (fun _ _ x=>x);clear hc C1 HB;go_wp2_with fail
   refine(HN.out w2 C2.out q2).mono ?_;rintro e w9 hpost;have PX:=A0 (Z9 (B8 C2.out) hpost (fun o ho=>V.out q2 o (by simp) ho));have hend:=J8 hpost;clear hpost V C2 HN;rcases hend with ⟨x,rfl⟩|⟨er,p,rfl⟩
   · go_wp2_with fail
     go_ret;exact PX.out
   · exact⟨rfl,PX.out⟩
 · go_wp2_with fail
   refine(HN.out w1 C1.out true).mono ?_;rintro e w9 hpost;have PX:=A0 (Z9 (B8 C1.out) hpost (fun o ho=>V.out true o (by simp) ho));have hend:=J8 hpost;clear hpost V C1 HN;rcases hend with ⟨x,rfl⟩|⟨er,p,rfl⟩
   · go_wp2_with fail
     go_ret;exact PX.out
   · exact⟨rfl,PX.out⟩
end
open Go.RowKit
theorem Chg.bytes (S:Nat->Prop) (w:World) (e:TypeId) (t:ByteArray):Chg S w (Lib.bytesWorld w e t):=by
 exact⟨rfl,rfl,rfl,by rw[Lib.bytesWorld_size];omega,fun k hk _=>Lib.bytesWorld_at_old w e t k hk⟩
section
variable {B pb:Nat} {tv:Value} {L:List M.Tk}
theorem J4b (hL:LOk L) (hN:M.NuL L) (at0:Int) (w:World) (ok:Nat->Prop) (d:Nat) (s:M.St) (h3:(M.tk L s.i).kind=3) (hok:∀g,w.heap.size<=g->ok g) (hB:B<=w.heap.size) (h:Pst w B pb tv L ok d s):
 Calls Tryz.prog 191 #[pV pb,iV at0] w (O8 w B pb tv L ok d s (fun _=>M.addN s.nx ⟨1,0,0,0,[],[],M.E8a (M.tk L s.i).text,-1,at0⟩)):=by
 have hi:=h.at';have hs:=hL.short;have hfw:=h.few;have HT:=A0 (Z6 hL h (by rw[h3];decide));have hnu:=hN s.i h3;have hf1:=@S7;have HO:=A0 (fun a=>Tryz.strconv_Atoi ⟨(M.tk L s.i).text.toArray⟩ (M.E8a (M.tk L s.i).text) (by have:=hnu.2.1;simp[ByteArray.size];omega) (by simpa using M.T2b _ hnu) a);clear h hnu;generalize M.E8a (M.tk L s.i).text=vv at *;generalize M.tk L s.i=tt at *;clear h3;go_enter Tryz.func191,Tryz.ntmps191;go_wp2_with fail
 refine HT.out.mono ?_;rintro e w1 ⟨rfl,hk,hp⟩;have K1:=A0 hk;have P1:=A0 hp;clear hk hp HT;simp only[tkv];go_wp2_with fail
 refine(HO.out w1).mono ?_;rintro e w2 ⟨rfl,t,rfl⟩;have K2:=A0 (K1.out.trans (B8 (Chg.bytes _ w1 5 t)));have P2:=A0 (P1.out.still (Chg.bytes _ w1 5 t));clear K1 P1 HO;generalize Lib.bytesWorld w1 5 t=w2 at *;have hj:=P2.out.at';simp only[M.St.nx]at hj;have HA:=A0 (J2 hL P2.out (M.Nd.mk 1 0 0 0 [] [] vv (-1) at0) 0 none 0 0 ⟨_,rfl,World.ownsRow_nil _ _ _ _,by simp[Value.ownBlock]⟩ rfl (by simp only[M.St.nx];omega) (Nat.le_trans hB K2.out.size) (fun g hg=>hok g (Nat.le_trans K2.out.size hg)));have GX:=A0 (show D6 s ⟨s.nx.i,s.nx.N++[M.Nd.mk 1 0 0 0 [] [] vv (-1) at0],s.nx.T⟩ by
  simp only[D6,M.St.nx,List.length_append,List.length_cons,List.length_nil]
  omega)
 have hxx:(0:Int)<=(s.nx.N.length:Int)/\(s.nx.N.length:Int)<((s.nx.N++[M.Nd.mk 1 0 0 0 [] [] vv (-1) at0]).length:Int):=by simp;omega
 clear P2;go_wp2_with fail
 refine HA.out.mono ?_;rintro e w9 ⟨rfl,k9,p9⟩;have K9:=A0 (K2.out.trans k9);have P9:=A0 p9;clear k9 p9 HA;go_wp2_with fail
 go_ret;exact D8 K9.out M.Ev.pure P9.out GX.out hxx
end
open Go.RowKit
set_option linter.unusedSimpArgs false
def Z7c (B pb:Nat) (tv:Value) (L:List M.Tk) (K:Nat) (φ:Int->Nat->M.St->M.Sp->Option (M.Out Int)) (m:Nat):Prop:=
 ∀(at0:Int) (w:World) (ok:Nat->Prop) (d:Nat) (s:M.St),L.length - s.i<=m->(∀g,w.heap.size<=g->ok g)->B<=w.heap.size->Pst w B pb tv L ok d s->
  Calls Tryz.prog K #[pV pb,iV at0] w (O8 w B pb tv L ok d s (φ at0 d s))
def fnS (L:List M.Tk) (at0:Int) (d:Nat) (s:M.St) (r:M.Sp):Option (M.Out Int):=M.A3 (M.need L s [40]) fun s1 _=>M.A3 (r.list .par [41] d s1 [] []) fun s2 l=>M.A3 (M.typeIf L r d s2) fun s3 t=>M.A3 (r.block d s3) fun s4 x=>M.addN s4 ⟨6,x,0,0,l,[],0,t,at0⟩
def J1c (at0:Int) (d:Nat) (s:M.St) (r:M.Sp):Option (M.Out Int):=M.A3 (r.list .obj [125] d s [] []) fun s' l=>M.addN s' ⟨10,0,0,0,l,[],0,-1,at0⟩
section
variable {B pb:Nat} {tv:Value} {L:List M.Tk}
theorem O3b (hL:LOk L) (hN:M.NuL L) (m:Nat) (hE:∀m',m'<m->I7 B pb tv L 143 (fun d s r=>r.expr d s) m') (hF:∀m',m'<m->Z7c B pb tv L 192 (fnS L) m') (hO:∀m',m'<m->Z7c B pb tv L 193 J1c m'):I7 B pb tv L 190 (fun d s r=>r.simple d s) m:=by
 intro w ok d s hm hok hB h;have hi:=h.at';have hs:=hL.short;have hfw:=h.few;have HA:=A0 (N7a hL h);have FS:Hid (∀a,Chg No w a->Pst a B pb tv L ok d s):=fun a ha=>h.still ha;have FT:Hid (∀a,Chg No w a->Calls Tryz.prog 86 #[pV pb] a fun e w'=>e= .returned (tkv (M.tk L s.i))/\Chg No a w'):=fun a ha=>R6 hL (h.still ha);have TK:Hid (∀a,(M.tk L s.i).kind≠6->Pst a B pb tv L ok d s->Calls Tryz.prog 165 #[pV pb] a fun e w'=>e= .returned (tkv (M.tk L s.i))/\Kept B ok a w'/\Pst w' B pb tv L ok d s.nx):=fun a hk ha=>Z6 hL ha hk;have NB:Hid (∀at0 a,(M.tk L s.i).kind=3->(∀g,a.heap.size<=g->ok g)->B<=a.heap.size->Pst a B pb tv L ok d s->Calls Tryz.prog 191 #[pV pb,iV at0] a (O8 a B pb tv L ok d s (fun _=>M.addN s.nx ⟨1,0,0,0,[],[],M.E8a (M.tk L s.i).text,-1,at0⟩))):=fun at0 a h3 ho hb ha=>J4b hL hN at0 a ok d s h3 ho hb ha;have V:Hid (∀o φ,M.Ev L φ o->(∀r,(M.step L r).simple d s=φ r)->M.Ev L (fun r=>r.simple d s) o):=fun o φ ho he=>M.Ev.step (ho.eq (fun r=>he r));have hf0:=T9;have hf1:=S7;clear h;generalize hat:((M.tk L s.i).at':Int)=at0 at *;have AT:=A0 hat;clear hat;generalize hkd:(M.tk L s.i).kind=kd at *;have KD:=A0 hkd;clear hkd;generalize htx:(M.tk L s.i).text=tx at *;have TX:=A0 htx;clear htx;have tke:tkv (M.tk L s.i)= .agg #[iV kd,.string ⟨tx.toArray⟩,iV at0]:=by rw[tkv,KD.out,TX.out,AT.out]
 rw[tke]at FT TK;clear tke;go_enter Tryz.func190,Tryz.ntmps190;go_wp2_with fail
 refine HA.out.mono ?_;rintro e wa ⟨rfl,hc⟩;have C1:=A0 hc;clear hc HA;go_wp2_with fail
 refine(FT.out wa C1.out).mono ?_;rintro e w0 ⟨rfl,hc⟩;have C2:Hid (Chg No w w0):=C1.out.trans hc (fun _ _ x=>x);have K:=A0 (B8 (B:=B) (ok:=ok) C2.out);have P:=A0 (FS.out w0 C2.out);clear hc FT FS C1 C2;by_cases h3:kd=3
 case pos=>
  subst h3;have H1:=A0 (NB.out at0 w0 rfl (fun g hg=>hok g (Nat.le_trans K.out.size hg)) (Nat.le_trans hB K.out.size) P.out);clear P NB;go_wp2_with fail
  refine H1.out.mono ?_;rintro e w9 hpost;have PX:=A0 (Z9 K.out hpost (fun o ho=>V.out o _ ho (fun r=>by simp only[M.step,KD.out,TX.out,AT.out,if_pos,Bool.false_eq_true,if_false,if_true];try rfl)));have hend:=J8 hpost;clear hpost H1 K V;rcases hend with ⟨x,rfl⟩|⟨er,p,rfl⟩
  · go_wp2_with fail
    go_ret;exact PX.out
  · exact⟨rfl,PX.out⟩
 clear NB;have b3:(kd==3)=false:=by simp[h3]
 by_cases h4:kd=4
 case pos=>
  subst h4;have H1:=A0 (TK.out w0 (by decide) P.out);clear P TK;go_wp2_with fail
  refine H1.out.mono ?_;rintro e w1 ⟨rfl,hk,hp⟩;have K':=A0 (K.out.trans hk);have P:=A0 hp;clear hk hp H1 K;have K:=A0 K'.out;clear K';have hj:=P.out.at';have HX:=A0 (J2 hL P.out (M.Nd.mk 2 0 0 0 [] tx 0 (-1) at0) 0 none 0 0 ⟨_,rfl,World.ownsRow_nil _ _ _ _,by simp[Value.ownBlock]⟩ rfl (by simp only[M.St.nx]at *;omega) (Nat.le_trans hB K.out.size) (fun g hg=>hok g (Nat.le_trans K.out.size hg)));have EV:=A0 (V.out _ (fun r=>M.addN s.nx (M.Nd.mk 2 0 0 0 [] tx 0 (-1) at0)) M.Ev.pure (fun r=>by simp only[M.step,KD.out,TX.out,AT.out,(by decide:¬(4:Int)=3),Bool.false_eq_true,if_false,if_true];try rfl));have GX:=A0 (show D6 s ⟨(s.nx).i,(s.nx).N++[(M.Nd.mk 2 0 0 0 [] tx 0 (-1) at0)],(s.nx).T⟩ by
   simp only[D6,M.St.nx,List.length_append,List.length_cons,List.length_nil]at *
   omega)
  have hxx:(0:Int)<=((s.nx).N.length:Int)/\((s.nx).N.length:Int)<(((s.nx).N++[(M.Nd.mk 2 0 0 0 [] tx 0 (-1) at0)]).length:Int):=by simp;omega
  clear P V;go_wp2_with fail
  refine HX.out.mono ?_;rintro e w9 ⟨rfl,k9,p9⟩;have K9:=A0 (K.out.trans k9);have P9:=A0 p9;clear k9 p9 HX;go_wp2_with fail
  go_ret;exact D8 K9.out EV.out P9.out GX.out hxx
 have b4:(kd==4)=false:=by simp[h4]
 by_cases h1:kd=1
 case pos=>
  subst h1;have H1:=A0 (TK.out w0 (by decide) P.out);clear P TK;go_wp2_with fail
  refine H1.out.mono ?_;rintro e w1 ⟨rfl,hk,hp⟩;have K':=A0 (K.out.trans hk);have P:=A0 hp;clear hk hp H1 K;have K:=A0 K'.out;clear K';have hj:=P.out.at';have HX:=A0 (J2 hL P.out (M.Nd.mk 5 0 0 0 [] tx 0 (-1) at0) 0 none 0 0 ⟨_,rfl,World.ownsRow_nil _ _ _ _,by simp[Value.ownBlock]⟩ rfl (by simp only[M.St.nx]at *;omega) (Nat.le_trans hB K.out.size) (fun g hg=>hok g (Nat.le_trans K.out.size hg)));have EV:=A0 (V.out _ (fun r=>M.addN s.nx (M.Nd.mk 5 0 0 0 [] tx 0 (-1) at0)) M.Ev.pure (fun r=>by simp only[M.step,KD.out,TX.out,AT.out,(by decide:¬(1:Int)=3),(by decide:¬(1:Int)=4),Bool.false_eq_true,if_false,if_true];try rfl));have GX:=A0 (show D6 s ⟨(s.nx).i,(s.nx).N++[(M.Nd.mk 5 0 0 0 [] tx 0 (-1) at0)],(s.nx).T⟩ by
   simp only[D6,M.St.nx,List.length_append,List.length_cons,List.length_nil]at *
   omega)
  have hxx:(0:Int)<=((s.nx).N.length:Int)/\((s.nx).N.length:Int)<(((s.nx).N++[(M.Nd.mk 5 0 0 0 [] tx 0 (-1) at0)]).length:Int):=by simp;omega
  clear P V;go_wp2_with fail
  refine HX.out.mono ?_;rintro e w9 ⟨rfl,k9,p9⟩;have K9:=A0 (K.out.trans k9);have P9:=A0 p9;clear k9 p9 HX;go_wp2_with fail
  go_ret;exact D8 K9.out EV.out P9.out GX.out hxx
 have b1:(kd==1)=false:=by simp[h1]
 clear TK;have HT:=F5 hL P.out [116,114,117,101];generalize hq:M.isM L s.i [[116,114,117,101]]=q0 at HT;have Q0:=A0 hq;have HT2:=A0 HT;clear hq HT P;go_wp2_with fail
 refine HT2.out.mono ?_;rintro e w1 ⟨rfl,hk,hp⟩;have K':=A0 (K.out.trans hk);clear hk HT2 K;have K:=A0 K'.out;clear K';cases q0
 case true=>
  have P:Hid (Pst w1 B pb tv L ok d s.nx):=hp;have hj:=hp.at';clear hp;have HX:=A0 (J2 hL P.out (M.Nd.mk 3 0 0 0 [] [] 1 (-1) at0) 0 none 0 0 ⟨_,rfl,World.ownsRow_nil _ _ _ _,by simp[Value.ownBlock]⟩ rfl (by simp only[M.St.nx]at *;omega) (Nat.le_trans hB K.out.size) (fun g hg=>hok g (Nat.le_trans K.out.size hg)));have EV:=A0 (V.out _ (fun r=>M.addN s.nx (M.Nd.mk 3 0 0 0 [] [] 1 (-1) at0)) M.Ev.pure (fun r=>by simp only[M.step,KD.out,TX.out,AT.out,h3,h4,h1,Q0.out,Bool.false_eq_true,if_false,if_true];try rfl));have GX:=A0 (show D6 s ⟨(s.nx).i,(s.nx).N++[(M.Nd.mk 3 0 0 0 [] [] 1 (-1) at0)],(s.nx).T⟩ by
   simp only[D6,M.St.nx,List.length_append,List.length_cons,List.length_nil]at *
   omega)
  have hxx:(0:Int)<=((s.nx).N.length:Int)/\((s.nx).N.length:Int)<(((s.nx).N++[(M.Nd.mk 3 0 0 0 [] [] 1 (-1) at0)]).length:Int):=by simp;omega
  clear P V;go_wp2_with fail
  refine HX.out.mono ?_;rintro e w9 ⟨rfl,k9,p9⟩;have K9:=A0 (K.out.trans k9);have P9:=A0 p9;clear k9 p9 HX;go_wp2_with fail
  go_ret;exact D8 K9.out EV.out P9.out GX.out hxx
 have P:Hid (Pst w1 B pb tv L ok d s):=hp;clear hp;have HT:=F5 hL P.out [102,97,108,115,101];generalize hq:M.isM L s.i [[102,97,108,115,101]]=q1 at HT;have Q1:=A0 hq;have HT2:=A0 HT;clear hq HT P;go_wp2_with fail
 refine HT2.out.mono ?_;rintro e w2 ⟨rfl,hk,hp⟩;have K':=A0 (K.out.trans hk);clear hk HT2 K;have K:=A0 K'.out;clear K';cases q1
 case true=>
  have P:Hid (Pst w2 B pb tv L ok d s.nx):=hp;have hj:=hp.at';clear hp;have HX:=A0 (J2 hL P.out (M.Nd.mk 3 0 0 0 [] [] 0 (-1) at0) 0 none 0 0 ⟨_,rfl,World.ownsRow_nil _ _ _ _,by simp[Value.ownBlock]⟩ rfl (by simp only[M.St.nx]at *;omega) (Nat.le_trans hB K.out.size) (fun g hg=>hok g (Nat.le_trans K.out.size hg)));have EV:=A0 (V.out _ (fun r=>M.addN s.nx (M.Nd.mk 3 0 0 0 [] [] 0 (-1) at0)) M.Ev.pure (fun r=>by simp only[M.step,KD.out,TX.out,AT.out,h3,h4,h1,Q0.out,Q1.out,Bool.false_eq_true,if_false,if_true];try rfl));have GX:=A0 (show D6 s ⟨(s.nx).i,(s.nx).N++[(M.Nd.mk 3 0 0 0 [] [] 0 (-1) at0)],(s.nx).T⟩ by
   simp only[D6,M.St.nx,List.length_append,List.length_cons,List.length_nil]at *
   omega)
  have hxx:(0:Int)<=((s.nx).N.length:Int)/\((s.nx).N.length:Int)<(((s.nx).N++[(M.Nd.mk 3 0 0 0 [] [] 0 (-1) at0)]).length:Int):=by simp;omega
  clear P V;go_wp2_with fail
  refine HX.out.mono ?_;rintro e w9 ⟨rfl,k9,p9⟩;have K9:=A0 (K.out.trans k9);have P9:=A0 p9;clear k9 p9 HX;go_wp2_with fail
  go_ret;exact D8 K9.out EV.out P9.out GX.out hxx
 have P:Hid (Pst w2 B pb tv L ok d s):=hp;clear hp;have HT:=F5 hL P.out [110,117,108,108];generalize hq:M.isM L s.i [[110,117,108,108]]=q2 at HT;have Q2:=A0 hq;have HT2:=A0 HT;clear hq HT P;go_wp2_with fail
 refine HT2.out.mono ?_;rintro e w3 ⟨rfl,hk,hp⟩;have K':=A0 (K.out.trans hk);clear hk HT2 K;have K:=A0 K'.out;clear K';cases q2
 case true=>
  have P:Hid (Pst w3 B pb tv L ok d s.nx):=hp;have hj:=hp.at';clear hp;have HX:=A0 (J2 hL P.out (M.Nd.mk 4 0 0 0 [] [] 0 (-1) at0) 0 none 0 0 ⟨_,rfl,World.ownsRow_nil _ _ _ _,by simp[Value.ownBlock]⟩ rfl (by simp only[M.St.nx]at *;omega) (Nat.le_trans hB K.out.size) (fun g hg=>hok g (Nat.le_trans K.out.size hg)));have EV:=A0 (V.out _ (fun r=>M.addN s.nx (M.Nd.mk 4 0 0 0 [] [] 0 (-1) at0)) M.Ev.pure (fun r=>by simp only[M.step,KD.out,TX.out,AT.out,h3,h4,h1,Q0.out,Q1.out,Q2.out,Bool.false_eq_true,if_false,if_true];try rfl));have GX:=A0 (show D6 s ⟨(s.nx).i,(s.nx).N++[(M.Nd.mk 4 0 0 0 [] [] 0 (-1) at0)],(s.nx).T⟩ by
   simp only[D6,M.St.nx,List.length_append,List.length_cons,List.length_nil]at *
   omega)
  have hxx:(0:Int)<=((s.nx).N.length:Int)/\((s.nx).N.length:Int)<(((s.nx).N++[(M.Nd.mk 4 0 0 0 [] [] 0 (-1) at0)]).length:Int):=by simp;omega
  clear P V;go_wp2_with fail
  refine HX.out.mono ?_;rintro e w9 ⟨rfl,k9,p9⟩;have K9:=A0 (K.out.trans k9);have P9:=A0 p9;clear k9 p9 HX;go_wp2_with fail
  go_ret;exact D8 K9.out EV.out P9.out GX.out hxx
 have P:Hid (Pst w3 B pb tv L ok d s):=hp;clear hp;have HT:=F5 hL P.out [102,110];generalize hq:M.isM L s.i [[102,110]]=q3 at HT;have Q3:=A0 hq;have HT2:=A0 HT;clear hq HT P;go_wp2_with fail
 refine HT2.out.mono ?_;rintro e w4 ⟨rfl,hk,hp⟩;have K':=A0 (K.out.trans hk);clear hk HT2 K;have K:=A0 K'.out;clear K';cases q3
 case true=>
  have P:Hid (Pst w4 B pb tv L ok d s.nx):=hp;have hj:=hp.at';clear hp;have H1:=A0 (hF (L.length - s.nx.i) (by simp only[M.St.nx];omega) at0 w4 ok d s.nx (Nat.le_refl _) (fun g hg=>hok g (Nat.le_trans K.out.size hg)) (Nat.le_trans hB K.out.size) P.out);clear P;go_wp2_with fail
  refine H1.out.mono ?_;rintro e w9 hpost;have PX:=A0 (A0a K.out hpost (fun o ho=>V.out o _ ho (fun r=>by simp only[M.step,KD.out,TX.out,AT.out,h3,h4,h1,Q0.out,Q1.out,Q2.out,Q3.out,Bool.false_eq_true,if_false,if_true];try rfl)));have hend:=J8 hpost;clear hpost H1 K V;rcases hend with ⟨x,rfl⟩|⟨er,p,rfl⟩
  · go_wp2_with fail
    go_ret;exact PX.out
  · exact⟨rfl,PX.out⟩
 have P:Hid (Pst w4 B pb tv L ok d s):=hp;clear hp;have HT:=F5 hL P.out [91];generalize hq:M.isM L s.i [[91]]=q4 at HT;have Q4:=A0 hq;have HT2:=A0 HT;clear hq HT P;go_wp2_with fail
 refine HT2.out.mono ?_;rintro e w5 ⟨rfl,hk,hp⟩;have K':=A0 (K.out.trans hk);clear hk HT2 K;have K:=A0 K'.out;clear K';cases q4
 case true=>
  have P:Hid (Pst w5 B pb tv L ok d s.nx):=hp;have hj:=hp.at';clear hp;have H1:=A0 (Y4 (w:=w5) (ok:=ok) hL (L.length - s.nx.i) (fun m' hm'=>hE m' (by simp only[M.St.nx]at hm';omega)) [93] (Nat.le_refl _) (fun g hg=>hok g (Nat.le_trans K.out.size hg)) (Nat.le_trans hB K.out.size) P.out);clear P;go_wp2_with fail
  refine H1.out.mono ?_;rintro e w7 ⟨hk,o,hev,hpost⟩;have K':=A0 (K.out.trans hk);have E1:=A0 hev;have hz:=K.out.size;clear hk hev H1 K;have K:=A0 K'.out;clear K';have VL:=A0 (fun o (ho:M.Ev L (fun r=>M.A3 (r.list .expr [93] d s.nx [] []) fun s' l=>M.addN s' (M.Nd.mk 11 0 0 0 l [] 0 (-1) at0)) o)=>V.out o _ ho (fun r=>by simp only[M.step,KD.out,TX.out,AT.out,h3,h4,h1,Q0.out,Q1.out,Q2.out,Q3.out,Q4.out,Bool.false_eq_true,if_false,if_true];try rfl));cases o with
  |fail er p=>
   obtain⟨rfl,he⟩:=hpost;exact⟨rfl,B9 K.out (VL.out _ (M.Ev.bad E1.out)) he⟩
  |ok s1 l=>
   obtain⟨la,lc,rfl,ho,hl,hp,hg⟩:=hpost;have hg1:_/\_/\_/\_:=hg;simp only[M.St.nx]at hg1;have P:=A0 hp;have O1:=A0 ho;have hi1:=hp.at';clear hp ho hg;have HX:=A0 (J2 hL P.out (M.Nd.mk 11 0 0 0 l [] 0 (-1) at0) 0 la l.length lc ⟨_,rfl,C9 O1.out (Nat.zero_le _),fun g hg=>hok g (by have:=(A9 O1.out g hg).1;omega)⟩ rfl (by simp only[M.St.nx]at *;omega) (Nat.le_trans hB K.out.size) (fun g hg=>hok g (Nat.le_trans K.out.size hg)));have EV:=A0 (VL.out _ (M.Ev.bind (k:=fun r s' l=>M.addN s' (M.Nd.mk 11 0 0 0 l [] 0 (-1) at0)) E1.out M.Ev.pure));have GX:=A0 (show D6 s ⟨(s1).i,(s1).N++[(M.Nd.mk 11 0 0 0 l [] 0 (-1) at0)],(s1).T⟩ by
    simp only[D6,M.St.nx,List.length_append,List.length_cons,List.length_nil]at *
    omega)
   have hxx:(0:Int)<=((s1).N.length:Int)/\((s1).N.length:Int)<(((s1).N++[(M.Nd.mk 11 0 0 0 l [] 0 (-1) at0)]).length:Int):=by simp;omega
   clear P V;go_wp2_with fail
   refine HX.out.mono ?_;rintro e w9 ⟨rfl,k9,p9⟩;have K9:=A0 (K.out.trans k9);have P9:=A0 p9;clear k9 p9 HX;go_wp2_with fail
   go_ret;exact D8 K9.out EV.out P9.out GX.out hxx
 have P:Hid (Pst w5 B pb tv L ok d s):=hp;clear hp;have HT:=F5 hL P.out [123];generalize hq:M.isM L s.i [[123]]=q5 at HT;have Q5:=A0 hq;have HT2:=A0 HT;clear hq HT P;go_wp2_with fail
 refine HT2.out.mono ?_;rintro e w6 ⟨rfl,hk,hp⟩;have K':=A0 (K.out.trans hk);clear hk HT2 K;have K:=A0 K'.out;clear K';cases q5
 case true=>
  have P:Hid (Pst w6 B pb tv L ok d s.nx):=hp;have hj:=hp.at';clear hp;have H1:=A0 (hO (L.length - s.nx.i) (by simp only[M.St.nx];omega) at0 w6 ok d s.nx (Nat.le_refl _) (fun g hg=>hok g (Nat.le_trans K.out.size hg)) (Nat.le_trans hB K.out.size) P.out);clear P;go_wp2_with fail
  refine H1.out.mono ?_;rintro e w9 hpost;have PX:=A0 (A0a K.out hpost (fun o ho=>V.out o _ ho (fun r=>by simp only[M.step,KD.out,TX.out,AT.out,h3,h4,h1,Q0.out,Q1.out,Q2.out,Q3.out,Q4.out,Q5.out,Bool.false_eq_true,if_false,if_true];try rfl)));have hend:=J8 hpost;clear hpost H1 K V;rcases hend with ⟨x,rfl⟩|⟨er,p,rfl⟩
  · go_wp2_with fail
    go_ret;exact PX.out
  · exact⟨rfl,PX.out⟩
 have P:Hid (Pst w6 B pb tv L ok d s):=hp;clear hp;have H1:=A0 (F2b hL m hE w6 ok d s hm (fun g hg=>hok g (Nat.le_trans K.out.size hg)) (Nat.le_trans hB K.out.size) P.out);clear P;go_wp2_with fail
 refine H1.out.mono ?_;rintro e w9 hpost;have PX:=A0 (Z9 K.out hpost (fun o ho=>V.out o _ ho (fun r=>by simp only[M.step,KD.out,TX.out,AT.out,h3,h4,h1,Q0.out,Q1.out,Q2.out,Q3.out,Q4.out,Q5.out,Bool.false_eq_true,if_false,if_true];try rfl)));have hend:=J8 hpost;clear hpost H1 K V;rcases hend with ⟨x,rfl⟩|⟨er,p,rfl⟩
 · go_wp2_with fail
   go_ret;exact PX.out
 · exact⟨rfl,PX.out⟩
end
end Go.Proofs.YtgdnpemiiageaaaGreatDoor
