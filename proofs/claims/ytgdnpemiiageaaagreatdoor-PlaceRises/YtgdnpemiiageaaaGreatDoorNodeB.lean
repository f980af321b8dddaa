/-
  A part of the proof.
-/
import Derived.Test.YtgdnpemiiageaaaGreatDoorNodeE
set_option maxHeartbeats 16000000
set_option maxRecDepth 100000
namespace Go.Proofs.YtgdnpemiiageaaaGreatDoor
open Go.RowKit
def L8b (L:List M.Tk) (d:Nat) (s:M.St) (r:M.Sp):Option (M.Out Int):=M.A3 (M.need L s [40]) fun s _=>M.A3 (r.expr d s) fun s x=>M.A3 (M.need L s [41]) fun s _=>some (.ok s x)
theorem J3b {α β γ:Type} (x:Option (M.Out α)) (f:M.St->α->Option (M.Out β)) (g:M.St->β->Option (M.Out γ)):M.A3 (M.A3 x f) g=M.A3 x fun s a=>M.A3 (f s a) g:=by
 rcases x with _|⟨s,a⟩|⟨e,p⟩<;>rfl
theorem L7b (L:List M.Tk) (d:Nat) (s:M.St) (r:M.Sp) {β:Type} (k:M.St->Int->Option (M.Out β)):M.A3 (L8b L d s r) k=M.A3 (M.need L s [40]) fun s _=>M.A3 (r.expr d s) fun s x=>M.A3 (M.need L s [41]) fun s _=>k s x:=by
 unfold L8b;simp only[J3b];rfl
section
variable {B pb:Nat} {tv:Value} {L:List M.Tk}
def B2d (w:World) (B pb:Nat) (tv:Value) (L:List M.Tk) (ok:Nat->Prop) (d:Nat) (s:M.St) (φ:M.Sp->Option (M.Out Int)) (e:Ending) (w':World):Prop:=
 Kept B ok w w'/\∃o,M.Ev L φ o/\match o with
  | .ok s' x=>e= .returned (iV x)/\Pst w' B pb tv L ok d s'/\(s.i<s'.i/\s'.N.length+s.i+2<=s.N.length+s'.i/\s'.T.length+s.i<=s.T.length+s'.i/\s.N.length<=s'.N.length)/\0<=x/\x<s'.N.length
  | .fail er p=>e=gu er p/\er≠0
theorem I5a {w w':World} {ok:Nat->Prop} {d:Nat} {s:M.St} {φ:M.Sp->Option (M.Out Int)} {er p:Int} (hk:Kept B ok w w') (hev:M.Ev L φ (.fail er p)) (he:er≠0):B2d w B pb tv L ok d s φ (gu er p) w':=⟨hk,_,hev,rfl,he⟩
theorem I0a (hL:LOk L) (m:Nat) (hE:∀m',m'<=m->I7 B pb tv L 143 (fun d s r=>r.expr d s) m') (w:World) (ok:Nat->Prop) (d:Nat) (s:M.St) (hm:L.length - s.i<=m) (hok:∀g,w.heap.size<=g->ok g) (hB:B<=w.heap.size) (h:Pst w B pb tv L ok d s):
 Calls Tryz.prog 144 #[pV pb] w (B2d w B pb tv L ok d s (fun r=>M.A3 (M.need L s [40]) fun t0 (_:Unit)=>M.A3 (r.expr d t0) fun t1 x=>M.A3 (M.need L t1 [41]) fun t2 (_:Unit)=>some (M.Out.ok t2 x))):=by
 have hi0:=h.at';have hs:=hL.short;have hfw:=h.few;have K:=A0 (Kept.refl B ok w);generalize hFF:(fun (r:M.Sp)=>M.A3 (M.need L s [40]) fun t0 (_:Unit)=>M.A3 (r.expr d t0) fun t1 x=>M.A3 (M.need L t1 [41]) fun t2 (_:Unit)=>some (M.Out.ok t2 x))=FF;have V:Hid (∀o,M.Ev L (fun r=>M.A3 (M.need L s [40]) fun t0 (_:Unit)=>M.A3 (r.expr d t0) fun t1 x=>M.A3 (M.need L t1 [41]) fun t2 (_:Unit)=>some (M.Out.ok t2 x)) o->M.Ev L FF o):=by
  rw[<-hFF];exact fun _ x=>x
 have P:=A0 h;clear h hFF;go_enter Tryz.func144,Tryz.ntmps144;have H1:=A0 (G5 hL P.out [40]);clear P;go_wp2_with fail
 refine H1.out.mono ?_;rintro e w1 ⟨hk,hr⟩;have K':=A0 (K.out.trans hk);clear hk H1 K;have K:=A0 K'.out;clear K';rcases hr with ⟨hb,rfl,hp⟩|⟨hb,rfl⟩
 case inr=>exact⟨rfl,I5a K.out (V.out _ (M.Ev.bad (k:=fun r t0 (_:Unit)=>M.A3 (r.expr d t0) fun t1 x=>M.A3 (M.need L t1 [41]) fun t2 (_:Unit)=>some (M.Out.ok t2 x)) (O9 hb))) (by decide)⟩
 have V':=A0 (fun o (ho:M.Ev L (fun r=>M.A3 (r.expr d (s).nx) fun t1 x=>M.A3 (M.need L t1 [41]) fun t2 (_:Unit)=>some (M.Out.ok t2 x)) o)=>V.out o (M.Ev.bind (k:=fun r t0 (_:Unit)=>M.A3 (r.expr d t0) fun t1 x=>M.A3 (M.need L t1 [41]) fun t2 (_:Unit)=>some (M.Out.ok t2 x)) (K8 hb) ho));clear V hb;have V:=A0 V'.out;clear V';have P:=A0 hp;have hi1:=hp.at';clear hp;have H1:=A0 (hE (L.length - ((s).nx).i) (by simp only[M.St.nx];omega) w1 ok d ((s).nx) (Nat.le_refl _) (fun g hg=>hok g (Nat.le_trans K.out.size hg)) (Nat.le_trans hB K.out.size) P.out);clear P;go_wp2_with fail
 refine H1.out.mono ?_;rintro e w2 ⟨hk,o,hev,hpost⟩;have K':=A0 (K.out.trans hk);have E1:=A0 hev;clear hk hev H1 K;have K:=A0 K'.out;clear K';cases o with
 |fail er p=>
  obtain⟨rfl,he⟩:=hpost;exact⟨rfl,I5a K.out (V.out _ (M.Ev.bad (k:=fun r t1 x=>M.A3 (M.need L t1 [41]) fun t2 (_:Unit)=>some (M.Out.ok t2 x)) E1.out)) he⟩
 |ok s2 x=>
  obtain⟨rfl,hp,hg,hx2⟩:=hpost;have hg2:_/\_/\_/\_:=hg;simp only[M.St.nx]at hg2;have V':=A0 (fun o (ho:M.Ev L (fun r=>M.A3 (M.need L s2 [41]) fun t2 (_:Unit)=>some (M.Out.ok t2 x)) o)=>V.out o (M.Ev.bind (k:=fun r t1 x=>M.A3 (M.need L t1 [41]) fun t2 (_:Unit)=>some (M.Out.ok t2 x)) E1.out ho));clear V E1;have V:=A0 V'.out;clear V';have P:=A0 hp;have hi2:=hp.at';clear hp hg;have H1:=A0 (G5 hL P.out [41]);clear P;go_wp2_with fail
  refine H1.out.mono ?_;rintro e w3 ⟨hk,hr⟩;have K':=A0 (K.out.trans hk);clear hk H1 K;have K:=A0 K'.out;clear K';rcases hr with ⟨hb,rfl,hp⟩|⟨hb,rfl⟩
  case inr=>exact⟨rfl,I5a K.out (V.out _ (M.Ev.bad (k:=fun r t2 (_:Unit)=>some (M.Out.ok t2 x)) (O9 hb))) (by decide)⟩
  have V':=A0 (fun o (ho:M.Ev L (fun r=>some (M.Out.ok (s2).nx x)) o)=>V.out o (M.Ev.bind (k:=fun r t2 (_:Unit)=>some (M.Out.ok t2 x)) (K8 hb) ho));clear V hb;have V:=A0 V'.out;clear V';have P:=A0 hp;have hi3:=hp.at';clear hp;have EV:=A0 (V.out _ M.Ev.pure);have GX:Hid (s.i<((s2).nx).i/\((s2).nx).N.length+s.i+2<=s.N.length+((s2).nx).i/\((s2).nx).T.length+s.i<=s.T.length+((s2).nx).i/\s.N.length<=((s2).nx).N.length):=(show _/\_/\_/\_ from by simp only[M.St.nx];omega);clear V;go_wp2_with fail
  go_ret;exact⟨K.out,_,EV.out,rfl,P.out,GX.out,hx2⟩
theorem V9c (hL:LOk L) (m:Nat) (hE:∀m',m'<=m->I7 B pb tv L 143 (fun d s r=>r.expr d s) m') (at0:Int) (w:World) (ok:Nat->Prop) (d:Nat) (s:M.St) (hm:L.length - s.i<=m) (hok:∀g,w.heap.size<=g->ok g) (hB:B<=w.heap.size) (h:Pst w B pb tv L ok d s):
 Calls Tryz.prog 120 #[pV pb,iV at0] w (O8 w B pb tv L ok d s (fun r=>if (M.tk L (s).i).kind=1 then M.A3 (M.typeIf L r d (s).nx) fun t0 ty=>M.A3 (M.need L t0 [61]) fun t1 (_:Unit)=>M.A3 (r.expr d t1) fun t2 x=>M.A3 (M.need L t2 [59]) fun t3 (_:Unit)=>M.addN t3 (M.Nd.mk 17 x 0 0 [] (M.tk L (s).i).text 0 ty at0) else M.flt L (s).i 1)):=by
 have hi0:=h.at';have hs:=hL.short;have hfw:=h.few;have K:=A0 (Kept.refl B ok w);generalize hFF:(fun (r:M.Sp)=>if (M.tk L (s).i).kind=1 then M.A3 (M.typeIf L r d (s).nx) fun t0 ty=>M.A3 (M.need L t0 [61]) fun t1 (_:Unit)=>M.A3 (r.expr d t1) fun t2 x=>M.A3 (M.need L t2 [59]) fun t3 (_:Unit)=>M.addN t3 (M.Nd.mk 17 x 0 0 [] (M.tk L (s).i).text 0 ty at0) else M.flt L (s).i 1)=FF;have V:Hid (∀o,M.Ev L (fun r=>if (M.tk L (s).i).kind=1 then M.A3 (M.typeIf L r d (s).nx) fun t0 ty=>M.A3 (M.need L t0 [61]) fun t1 (_:Unit)=>M.A3 (r.expr d t1) fun t2 x=>M.A3 (M.need L t2 [59]) fun t3 (_:Unit)=>M.addN t3 (M.Nd.mk 17 x 0 0 [] (M.tk L (s).i).text 0 ty at0) else M.flt L (s).i 1) o->M.Ev L FF o):=by
  rw[<-hFF];exact fun _ x=>x
 have P:=A0 h;clear h hFF;go_enter Tryz.func120,Tryz.ntmps120;have H1:=A0 (N0a hL P.out);clear P;go_wp2_with fail
 refine H1.out.mono ?_;rintro e w1 ⟨hk,hr⟩;have K':=A0 (K.out.trans hk);clear hk H1 K;have K:=A0 K'.out;clear K';rcases hr with ⟨hb,rfl,hp⟩|⟨hb,rfl⟩
 case inr=>exact⟨rfl,B9 K.out (V.out _ (M.Ev.pure.eq (fun r=>by rw[if_neg hb];rfl))) (by decide)⟩
 have V':=A0 (fun o (ho:M.Ev L (fun r=>M.A3 (M.typeIf L r d (s).nx) fun t0 ty=>M.A3 (M.need L t0 [61]) fun t1 (_:Unit)=>M.A3 (r.expr d t1) fun t2 x=>M.A3 (M.need L t2 [59]) fun t3 (_:Unit)=>M.addN t3 (M.Nd.mk 17 x 0 0 [] (M.tk L (s).i).text 0 ty at0)) o)=>V.out o (ho.eq (fun r=>by rw[if_pos hb])));clear V hb;have V:=A0 V'.out;clear V';generalize (M.tk L (s).i).text=nm at *;have P:=A0 hp;have hi1:=hp.at';clear hp;have H1:=A0 (C1a hL P.out (fun g hg=>hok g (Nat.le_trans K.out.size hg)) (Nat.le_trans hB K.out.size));clear P;go_wp2_with fail
 refine H1.out.mono ?_;rintro e w2 ⟨hk,o,hev,hpost⟩;have K':=A0 (K.out.trans hk);have E1:=A0 hev;clear hk hev H1 K;have K:=A0 K'.out;clear K';cases o with
 |fail er p=>
  obtain⟨rfl,he⟩:=hpost;exact⟨rfl,B9 K.out (V.out _ (M.Ev.bad (k:=fun r t1 ty=>M.A3 (M.need L t1 [61]) fun t2 (_:Unit)=>M.A3 (r.expr d t2) fun t3 x=>M.A3 (M.need L t3 [59]) fun t4 (_:Unit)=>M.addN t4 (M.Nd.mk 17 x 0 0 [] nm 0 ty at0)) E1.out)) he⟩
 |ok s2 ty=>
  obtain⟨rfl,hp,hg⟩:=hpost;have hg2:_/\_/\_/\_:=hg;simp only[M.St.nx]at hg2;have V':=A0 (fun o (ho:M.Ev L (fun r=>M.A3 (M.need L s2 [61]) fun t2 (_:Unit)=>M.A3 (r.expr d t2) fun t3 x=>M.A3 (M.need L t3 [59]) fun t4 (_:Unit)=>M.addN t4 (M.Nd.mk 17 x 0 0 [] nm 0 ty at0)) o)=>V.out o (M.Ev.bind (k:=fun r t1 ty=>M.A3 (M.need L t1 [61]) fun t2 (_:Unit)=>M.A3 (r.expr d t2) fun t3 x=>M.A3 (M.need L t3 [59]) fun t4 (_:Unit)=>M.addN t4 (M.Nd.mk 17 x 0 0 [] nm 0 ty at0)) E1.out ho));clear V E1;have V:=A0 V'.out;clear V';have P:=A0 hp;have hi2:=hp.at';clear hp hg;have H1:=A0 (G5 hL P.out [61]);clear P;go_wp2_with fail
  refine H1.out.mono ?_;rintro e w3 ⟨hk,hr⟩;have K':=A0 (K.out.trans hk);clear hk H1 K;have K:=A0 K'.out;clear K';rcases hr with ⟨hb,rfl,hp⟩|⟨hb,rfl⟩
  case inr=>exact⟨rfl,B9 K.out (V.out _ (M.Ev.bad (k:=fun r t2 (_:Unit)=>M.A3 (r.expr d t2) fun t3 x=>M.A3 (M.need L t3 [59]) fun t4 (_:Unit)=>M.addN t4 (M.Nd.mk 17 x 0 0 [] nm 0 ty at0)) (O9 hb))) (by decide)⟩
  have V':=A0 (fun o (ho:M.Ev L (fun r=>M.A3 (r.expr d (s2).nx) fun t3 x=>M.A3 (M.need L t3 [59]) fun t4 (_:Unit)=>M.addN t4 (M.Nd.mk 17 x 0 0 [] nm 0 ty at0)) o)=>V.out o (M.Ev.bind (k:=fun r t2 (_:Unit)=>M.A3 (r.expr d t2) fun t3 x=>M.A3 (M.need L t3 [59]) fun t4 (_:Unit)=>M.addN t4 (M.Nd.mk 17 x 0 0 [] nm 0 ty at0)) (K8 hb) ho));clear V hb;have V:=A0 V'.out;clear V';have P:=A0 hp;have hi3:=hp.at';clear hp;have H1:=A0 (hE (L.length - ((s2).nx).i) (by simp only[M.St.nx];omega) w3 ok d ((s2).nx) (Nat.le_refl _) (fun g hg=>hok g (Nat.le_trans K.out.size hg)) (Nat.le_trans hB K.out.size) P.out);clear P;go_wp2_with fail
  refine H1.out.mono ?_;rintro e w4 ⟨hk,o,hev,hpost⟩;have K':=A0 (K.out.trans hk);have E1:=A0 hev;clear hk hev H1 K;have K:=A0 K'.out;clear K';cases o with
  |fail er p=>
   obtain⟨rfl,he⟩:=hpost;exact⟨rfl,B9 K.out (V.out _ (M.Ev.bad (k:=fun r t3 x=>M.A3 (M.need L t3 [59]) fun t4 (_:Unit)=>M.addN t4 (M.Nd.mk 17 x 0 0 [] nm 0 ty at0)) E1.out)) he⟩
  |ok s4 x=>
   obtain⟨rfl,hp,hg,hx4⟩:=hpost;have hg4:_/\_/\_/\_:=hg;simp only[M.St.nx]at hg4;have V':=A0 (fun o (ho:M.Ev L (fun r=>M.A3 (M.need L s4 [59]) fun t4 (_:Unit)=>M.addN t4 (M.Nd.mk 17 x 0 0 [] nm 0 ty at0)) o)=>V.out o (M.Ev.bind (k:=fun r t3 x=>M.A3 (M.need L t3 [59]) fun t4 (_:Unit)=>M.addN t4 (M.Nd.mk 17 x 0 0 [] nm 0 ty at0)) E1.out ho));clear V E1;have V:=A0 V'.out;clear V';have P:=A0 hp;have hi4:=hp.at';clear hp hg;have H1:=A0 (G5 hL P.out [59]);clear P;go_wp2_with fail
   refine H1.out.mono ?_;rintro e w5 ⟨hk,hr⟩;have K':=A0 (K.out.trans hk);clear hk H1 K;have K:=A0 K'.out;clear K';rcases hr with ⟨hb,rfl,hp⟩|⟨hb,rfl⟩
   case inr=>exact⟨rfl,B9 K.out (V.out _ (M.Ev.bad (k:=fun r t4 (_:Unit)=>M.addN t4 (M.Nd.mk 17 x 0 0 [] nm 0 ty at0)) (O9 hb))) (by decide)⟩
   have V':=A0 (fun o (ho:M.Ev L (fun r=>M.addN (s4).nx (M.Nd.mk 17 x 0 0 [] nm 0 ty at0)) o)=>V.out o (M.Ev.bind (k:=fun r t4 (_:Unit)=>M.addN t4 (M.Nd.mk 17 x 0 0 [] nm 0 ty at0)) (K8 hb) ho));clear V hb;have V:=A0 V'.out;clear V';have P:=A0 hp;have hi5:=hp.at';clear hp;have HA:=A0 (L9 hL P.out (M.Nd.mk 17 x 0 0 [] nm 0 ty at0) none 0 0 ⟨_,rfl,World.ownsRow_nil _ _ _ _,by simp[Value.ownBlock]⟩ (by simp only[M.St.nx];omega) (Nat.le_trans hB K.out.size) (fun g hg=>hok g (Nat.le_trans K.out.size hg)));have EV:=A0 (V.out _ M.Ev.pure);have GX:=A0 (show D6 s ⟨((s4).nx).i,((s4).nx).N++[(M.Nd.mk 17 x 0 0 [] nm 0 ty at0)],((s4).nx).T⟩ by
    simp only[D6,M.St.nx,List.length_append,List.length_cons,List.length_nil]
    omega)
   have hxx:(0:Int)<=(((s4).nx).N.length:Int)/\(((s4).nx).N.length:Int)<((((s4).nx).N++[(M.Nd.mk 17 x 0 0 [] nm 0 ty at0)]).length:Int):=by simp;omega
   clear P V;go_wp2_with fail
   refine HA.out.mono ?_;rintro e w9 ⟨rfl,k9,p9⟩;have K9:=A0 (K.out.trans k9);have P9:=A0 p9;clear k9 p9 HA;go_wp2_with fail
   go_ret;exact D8 K9.out EV.out P9.out GX.out hxx
theorem B5a (hL:LOk L) (m:Nat) (hE:∀m',m'<=m->I7 B pb tv L 143 (fun d s r=>r.expr d s) m') (kd at0:Int) (w:World) (ok:Nat->Prop) (d:Nat) (s:M.St) (hm:L.length - s.i<=m) (hok:∀g,w.heap.size<=g->ok g) (hB:B<=w.heap.size) (h:Pst w B pb tv L ok d s):
 Calls Tryz.prog 121 #[pV pb,iV kd,iV at0] w (O8 w B pb tv L ok d s (fun r=>M.A3 (r.expr d s) fun t0 x=>M.A3 (M.need L t0 [59]) fun t1 (_:Unit)=>M.addN t1 (M.Nd.mk kd x 0 0 [] [] 0 (-1) at0))):=by
 have hi0:=h.at';have hs:=hL.short;have hfw:=h.few;have K:=A0 (Kept.refl B ok w);generalize hFF:(fun (r:M.Sp)=>M.A3 (r.expr d s) fun t0 x=>M.A3 (M.need L t0 [59]) fun t1 (_:Unit)=>M.addN t1 (M.Nd.mk kd x 0 0 [] [] 0 (-1) at0))=FF;have V:Hid (∀o,M.Ev L (fun r=>M.A3 (r.expr d s) fun t0 x=>M.A3 (M.need L t0 [59]) fun t1 (_:Unit)=>M.addN t1 (M.Nd.mk kd x 0 0 [] [] 0 (-1) at0)) o->M.Ev L FF o):=by
  rw[<-hFF];exact fun _ x=>x
 have P:=A0 h;clear h hFF;go_enter Tryz.func121,Tryz.ntmps121;have H1:=A0 (hE (L.length - (s).i) (by omega) w ok d (s) (Nat.le_refl _) (fun g hg=>hok g (Nat.le_trans K.out.size hg)) (Nat.le_trans hB K.out.size) P.out);clear P;go_wp2_with fail
 refine H1.out.mono ?_;rintro e w1 ⟨hk,o,hev,hpost⟩;have K':=A0 (K.out.trans hk);have E1:=A0 hev;clear hk hev H1 K;have K:=A0 K'.out;clear K';cases o with
 |fail er p=>
  obtain⟨rfl,he⟩:=hpost;exact⟨rfl,B9 K.out (V.out _ (M.Ev.bad (k:=fun r t0 x=>M.A3 (M.need L t0 [59]) fun t1 (_:Unit)=>M.addN t1 (M.Nd.mk kd x 0 0 [] [] 0 (-1) at0)) E1.out)) he⟩
 |ok s1 x=>
  obtain⟨rfl,hp,hg,hx1⟩:=hpost;have hg1:_/\_/\_/\_:=hg;skip
  have V':=A0 (fun o (ho:M.Ev L (fun r=>M.A3 (M.need L s1 [59]) fun t1 (_:Unit)=>M.addN t1 (M.Nd.mk kd x 0 0 [] [] 0 (-1) at0)) o)=>V.out o (M.Ev.bind (k:=fun r t0 x=>M.A3 (M.need L t0 [59]) fun t1 (_:Unit)=>M.addN t1 (M.Nd.mk kd x 0 0 [] [] 0 (-1) at0)) E1.out ho));clear V E1;have V:=A0 V'.out;clear V';have P:=A0 hp;have hi1:=hp.at';clear hp hg;have H1:=A0 (G5 hL P.out [59]);clear P;go_wp2_with fail
  refine H1.out.mono ?_;rintro e w2 ⟨hk,hr⟩;have K':=A0 (K.out.trans hk);clear hk H1 K;have K:=A0 K'.out;clear K';rcases hr with ⟨hb,rfl,hp⟩|⟨hb,rfl⟩
  case inr=>exact⟨rfl,B9 K.out (V.out _ (M.Ev.bad (k:=fun r t1 (_:Unit)=>M.addN t1 (M.Nd.mk kd x 0 0 [] [] 0 (-1) at0)) (O9 hb))) (by decide)⟩
  have V':=A0 (fun o (ho:M.Ev L (fun r=>M.addN (s1).nx (M.Nd.mk kd x 0 0 [] [] 0 (-1) at0)) o)=>V.out o (M.Ev.bind (k:=fun r t1 (_:Unit)=>M.addN t1 (M.Nd.mk kd x 0 0 [] [] 0 (-1) at0)) (K8 hb) ho));clear V hb;have V:=A0 V'.out;clear V';have P:=A0 hp;have hi2:=hp.at';clear hp;have HA:=A0 (J2 hL P.out (M.Nd.mk kd x 0 0 [] [] 0 (-1) at0) 0 none 0 0 ⟨_,rfl,World.ownsRow_nil _ _ _ _,by simp[Value.ownBlock]⟩ rfl (by simp only[M.St.nx];omega) (Nat.le_trans hB K.out.size) (fun g hg=>hok g (Nat.le_trans K.out.size hg)));have EV:=A0 (V.out _ M.Ev.pure);have GX:=A0 (show D6 s ⟨((s1).nx).i,((s1).nx).N++[(M.Nd.mk kd x 0 0 [] [] 0 (-1) at0)],((s1).nx).T⟩ by
   simp only[D6,M.St.nx,List.length_append,List.length_cons,List.length_nil]
   omega)
  have hxx:(0:Int)<=(((s1).nx).N.length:Int)/\(((s1).nx).N.length:Int)<((((s1).nx).N++[(M.Nd.mk kd x 0 0 [] [] 0 (-1) at0)]).length:Int):=by simp;omega
  clear P V;go_wp2_with fail
  refine HA.out.mono ?_;rintro e w9 ⟨rfl,k9,p9⟩;have K9:=A0 (K.out.trans k9);have P9:=A0 p9;clear k9 p9 HA;go_wp2_with fail
  go_ret;exact D8 K9.out EV.out P9.out GX.out hxx
theorem L4c (hL:LOk L) (m:Nat) (hE:∀m',m'<=m->I7 B pb tv L 143 (fun d s r=>r.expr d s) m') (hK:∀m',m'<=m->I7 B pb tv L 145 (fun d s r=>r.block d s) m') (at0:Int) (w:World) (ok:Nat->Prop) (d:Nat) (s:M.St) (hm:L.length - s.i<=m) (hok:∀g,w.heap.size<=g->ok g) (hB:B<=w.heap.size) (h:Pst w B pb tv L ok d s):
 Calls Tryz.prog 123 #[pV pb,iV at0] w (O8 w B pb tv L ok d s (fun r=>M.A3 (L8b L d s r) fun t0 x=>M.A3 (r.block d t0) fun t1 y=>M.addN t1 (M.Nd.mk 23 x y 0 [] [] 0 (-1) at0))):=by
 have hi0:=h.at';have hs:=hL.short;have hfw:=h.few;have K:=A0 (Kept.refl B ok w);generalize hFF:(fun (r:M.Sp)=>M.A3 (L8b L d s r) fun t0 x=>M.A3 (r.block d t0) fun t1 y=>M.addN t1 (M.Nd.mk 23 x y 0 [] [] 0 (-1) at0))=FF;have V:Hid (∀o,M.Ev L (fun r=>M.A3 (L8b L d s r) fun t0 x=>M.A3 (r.block d t0) fun t1 y=>M.addN t1 (M.Nd.mk 23 x y 0 [] [] 0 (-1) at0)) o->M.Ev L FF o):=by
  rw[<-hFF];exact fun _ x=>x
 have P:=A0 h;clear h hFF;go_enter Tryz.func123,Tryz.ntmps123;have H1:=A0 (I0a hL (L.length - (s).i) (fun m' hm'=>hE m' (by omega)) w ok d (s) (Nat.le_refl _) (fun g hg=>hok g (Nat.le_trans K.out.size hg)) (Nat.le_trans hB K.out.size) P.out);clear P;go_wp2_with fail
 refine H1.out.mono ?_;rintro e w1 ⟨hk,o,hev,hpost⟩;have K':=A0 (K.out.trans hk);have E1:=A0 hev;clear hk hev H1 K;have K:=A0 K'.out;clear K';cases o with
 |fail er p=>
  obtain⟨rfl,he⟩:=hpost;exact⟨rfl,B9 K.out (V.out _ (M.Ev.bad (k:=fun r t0 x=>M.A3 (r.block d t0) fun t1 y=>M.addN t1 (M.Nd.mk 23 x y 0 [] [] 0 (-1) at0)) E1.out)) he⟩
 |ok s1 x=>
  obtain⟨rfl,hp,hg,hx1⟩:=hpost;have hg1:_/\_/\_/\_:=hg;skip
  have V':=A0 (fun o (ho:M.Ev L (fun r=>M.A3 (r.block d s1) fun t1 y=>M.addN t1 (M.Nd.mk 23 x y 0 [] [] 0 (-1) at0)) o)=>V.out o (M.Ev.bind (k:=fun r t0 x=>M.A3 (r.block d t0) fun t1 y=>M.addN t1 (M.Nd.mk 23 x y 0 [] [] 0 (-1) at0)) E1.out ho));clear V E1;have V:=A0 V'.out;clear V';have P:=A0 hp;have hi1:=hp.at';clear hp hg;have H1:=A0 (hK (L.length - (s1).i) (by omega) w1 ok d (s1) (Nat.le_refl _) (fun g hg=>hok g (Nat.le_trans K.out.size hg)) (Nat.le_trans hB K.out.size) P.out);clear P;go_wp2_with fail
  refine H1.out.mono ?_;rintro e w2 ⟨hk,o,hev,hpost⟩;have K':=A0 (K.out.trans hk);have E1:=A0 hev;clear hk hev H1 K;have K:=A0 K'.out;clear K';cases o with
  |fail er p=>
   obtain⟨rfl,he⟩:=hpost;exact⟨rfl,B9 K.out (V.out _ (M.Ev.bad (k:=fun r t1 y=>M.addN t1 (M.Nd.mk 23 x y 0 [] [] 0 (-1) at0)) E1.out)) he⟩
  |ok s2 y=>
   obtain⟨rfl,hp,hg,hx2⟩:=hpost;have hg2:_/\_/\_/\_:=hg;skip
   have V':=A0 (fun o (ho:M.Ev L (fun r=>M.addN s2 (M.Nd.mk 23 x y 0 [] [] 0 (-1) at0)) o)=>V.out o (M.Ev.bind (k:=fun r t1 y=>M.addN t1 (M.Nd.mk 23 x y 0 [] [] 0 (-1) at0)) E1.out ho));clear V E1;have V:=A0 V'.out;clear V';have P:=A0 hp;have hi2:=hp.at';clear hp hg;have HA:=A0 (J2 hL P.out (M.Nd.mk 23 x y 0 [] [] 0 (-1) at0) 0 none 0 0 ⟨_,rfl,World.ownsRow_nil _ _ _ _,by simp[Value.ownBlock]⟩ rfl (by omega) (Nat.le_trans hB K.out.size) (fun g hg=>hok g (Nat.le_trans K.out.size hg)));have EV:=A0 (V.out _ M.Ev.pure);have GX:=A0 (show D6 s ⟨(s2).i,(s2).N++[(M.Nd.mk 23 x y 0 [] [] 0 (-1) at0)],(s2).T⟩ by
    simp only[D6,List.length_append,List.length_cons,List.length_nil]
    omega)
   have hxx:(0:Int)<=((s2).N.length:Int)/\((s2).N.length:Int)<(((s2).N++[(M.Nd.mk 23 x y 0 [] [] 0 (-1) at0)]).length:Int):=by simp;omega
   clear P V;go_wp2_with fail
   refine HA.out.mono ?_;rintro e w9 ⟨rfl,k9,p9⟩;have K9:=A0 (K.out.trans k9);have P9:=A0 p9;clear k9 p9 HA;go_wp2_with fail
   go_ret;exact D8 K9.out EV.out P9.out GX.out hxx
end
open Go.RowKit
section
variable {B pb:Nat} {tv:Value} {L:List M.Tk}
theorem T0b (hL:LOk L) (m:Nat) (hE:∀m',m'<=m->I7 B pb tv L 143 (fun d s r=>r.expr d s) m') (hK:∀m',m'<=m->I7 B pb tv L 145 (fun d s r=>r.block d s) m') (at0:Int) (w:World) (ok:Nat->Prop) (d:Nat) (s:M.St) (hm:L.length - s.i<=m) (hok:∀g,w.heap.size<=g->ok g) (hB:B<=w.heap.size) (h:Pst w B pb tv L ok d s):
 Calls Tryz.prog 122 #[pV pb,iV at0] w (O8 w B pb tv L ok d s (fun r=>M.A3 (L8b L d s r) fun t0 x=>M.A3 (r.block d t0) fun t1 y=>M.A3 (if M.isM L (t1).i [[101,108,115,101]] then r.block d (t1).nx else some (.ok (t1) (-1))) fun t2 z=>M.addN t2 (M.Nd.mk 22 x y z [] [] 0 (-1) at0))):=by
 have hi0:=h.at';have hs:=hL.short;have hfw:=h.few;have K:=A0 (Kept.refl B ok w);generalize hFF:(fun (r:M.Sp)=>M.A3 (L8b L d s r) fun t0 x=>M.A3 (r.block d t0) fun t1 y=>M.A3 (if M.isM L (t1).i [[101,108,115,101]] then r.block d (t1).nx else some (.ok (t1) (-1))) fun t2 z=>M.addN t2 (M.Nd.mk 22 x y z [] [] 0 (-1) at0))=FF;have V:Hid (∀o,M.Ev L (fun r=>M.A3 (L8b L d s r) fun t0 x=>M.A3 (r.block d t0) fun t1 y=>M.A3 (if M.isM L (t1).i [[101,108,115,101]] then r.block d (t1).nx else some (.ok (t1) (-1))) fun t2 z=>M.addN t2 (M.Nd.mk 22 x y z [] [] 0 (-1) at0)) o->M.Ev L FF o):=by
  rw[<-hFF];exact fun _ x=>x
 have P:=A0 h;clear h hFF;go_enter Tryz.func122,Tryz.ntmps122;have H1:=A0 (I0a hL (L.length - (s).i) (fun m' hm'=>hE m' (by omega)) w ok d (s) (Nat.le_refl _) (fun g hg=>hok g (Nat.le_trans K.out.size hg)) (Nat.le_trans hB K.out.size) P.out);clear P;go_wp2_with fail
 refine H1.out.mono ?_;rintro e w1 ⟨hk,o,hev,hpost⟩;have K':=A0 (K.out.trans hk);have E1:=A0 hev;clear hk hev H1 K;have K:=A0 K'.out;clear K';cases o with
 |fail er p=>
  obtain⟨rfl,he⟩:=hpost;exact⟨rfl,B9 K.out (V.out _ (M.Ev.bad (k:=fun r t0 x=>M.A3 (r.block d t0) fun t1 y=>M.A3 (if M.isM L (t1).i [[101,108,115,101]] then r.block d (t1).nx else some (.ok (t1) (-1))) fun t2 z=>M.addN t2 (M.Nd.mk 22 x y z [] [] 0 (-1) at0)) E1.out)) he⟩
 |ok s1 x=>
  obtain⟨rfl,hp,hg,hx1⟩:=hpost;have hg1:_/\_/\_/\_:=hg;skip
  have V':=A0 (fun o (ho:M.Ev L (fun r=>M.A3 (r.block d s1) fun t1 y=>M.A3 (if M.isM L (t1).i [[101,108,115,101]] then r.block d (t1).nx else some (.ok (t1) (-1))) fun t2 z=>M.addN t2 (M.Nd.mk 22 x y z [] [] 0 (-1) at0)) o)=>V.out o (M.Ev.bind (k:=fun r t0 x=>M.A3 (r.block d t0) fun t1 y=>M.A3 (if M.isM L (t1).i [[101,108,115,101]] then r.block d (t1).nx else some (.ok (t1) (-1))) fun t2 z=>M.addN t2 (M.Nd.mk 22 x y z [] [] 0 (-1) at0)) E1.out ho));clear V E1;have V:=A0 V'.out;clear V';have P:=A0 hp;have hi1:=hp.at';clear hp hg;have H1:=A0 (hK (L.length - (s1).i) (by omega) w1 ok d (s1) (Nat.le_refl _) (fun g hg=>hok g (Nat.le_trans K.out.size hg)) (Nat.le_trans hB K.out.size) P.out);clear P;go_wp2_with fail
  refine H1.out.mono ?_;rintro e w2 ⟨hk,o,hev,hpost⟩;have K':=A0 (K.out.trans hk);have E1:=A0 hev;clear hk hev H1 K;have K:=A0 K'.out;clear K';cases o with
  |fail er p=>
   obtain⟨rfl,he⟩:=hpost;exact⟨rfl,B9 K.out (V.out _ (M.Ev.bad (k:=fun r t1 y=>M.A3 (if M.isM L (t1).i [[101,108,115,101]] then r.block d (t1).nx else some (.ok (t1) (-1))) fun t2 z=>M.addN t2 (M.Nd.mk 22 x y z [] [] 0 (-1) at0)) E1.out)) he⟩
  |ok s2 y=>
   obtain⟨rfl,hp,hg,hx2⟩:=hpost;have hg2:_/\_/\_/\_:=hg;skip
   have V':=A0 (fun o (ho:M.Ev L (fun r=>M.A3 (if M.isM L (s2).i [[101,108,115,101]] then r.block d (s2).nx else some (.ok (s2) (-1))) fun t2 z=>M.addN t2 (M.Nd.mk 22 x y z [] [] 0 (-1) at0)) o)=>V.out o (M.Ev.bind (k:=fun r t1 y=>M.A3 (if M.isM L (t1).i [[101,108,115,101]] then r.block d (t1).nx else some (.ok (t1) (-1))) fun t2 z=>M.addN t2 (M.Nd.mk 22 x y z [] [] 0 (-1) at0)) E1.out ho));clear V E1;have V:=A0 V'.out;clear V';have P:=A0 hp;have hi2:=hp.at';clear hp hg;have H1:=F5 hL P.out [101,108,115,101];generalize hq:M.isM L (s2).i [[101,108,115,101]]=q at H1;have HQ:=A0 hq;have H2:=A0 H1;clear P hq H1;go_wp2_with fail
   refine H2.out.mono ?_;rintro e w3 ⟨rfl,hk,hp⟩;have K':=A0 (K.out.trans hk);clear hk H2 K;have K:=A0 K'.out;clear K';cases q
   case false=>
    have P:Hid (Pst w3 B pb tv L ok d (s2)):=hp;have V':=A0 (fun o (ho:M.Ev L (fun r=>M.addN s2 (M.Nd.mk 22 x y (-1) [] [] 0 (-1) at0)) o)=>V.out o (M.Ev.bind (k:=fun r t2 z=>M.addN t2 (M.Nd.mk 22 x y z [] [] 0 (-1) at0)) (M.Ev.pure.eq (fun r=>by rw[HQ.out];rfl)) ho));clear V hp;have V:=A0 V'.out;clear V';have HA:=A0 (J2 hL P.out (M.Nd.mk 22 x y (-1) [] [] 0 (-1) at0) 0 none 0 0 ⟨_,rfl,World.ownsRow_nil _ _ _ _,by simp[Value.ownBlock]⟩ rfl (by omega) (Nat.le_trans hB K.out.size) (fun g hg=>hok g (Nat.le_trans K.out.size hg)));have EV:=A0 (V.out _ M.Ev.pure);have GX:=A0 (show D6 s ⟨(s2).i,(s2).N++[(M.Nd.mk 22 x y (-1) [] [] 0 (-1) at0)],(s2).T⟩ by
     simp only[D6,List.length_append,List.length_cons,List.length_nil]
     omega)
    have hxx:(0:Int)<=((s2).N.length:Int)/\((s2).N.length:Int)<(((s2).N++[(M.Nd.mk 22 x y (-1) [] [] 0 (-1) at0)]).length:Int):=by simp;omega
    clear P V;go_wp2_with fail
    refine HA.out.mono ?_;rintro e w9 ⟨rfl,k9,p9⟩;have K9:=A0 (K.out.trans k9);have P9:=A0 p9;clear k9 p9 HA;go_wp2_with fail
    go_ret;exact D8 K9.out EV.out P9.out GX.out hxx
   case true=>
    have P:Hid (Pst w3 B pb tv L ok d (s2).nx):=hp;have hj2:=hp.at';simp only[M.St.nx]at hj2;clear hp;have H1:=A0 (hK (L.length - (s2).nx.i) (by simp only[M.St.nx];omega) w3 ok d (s2).nx (Nat.le_refl _) (fun g hg=>hok g (Nat.le_trans K.out.size hg)) (Nat.le_trans hB K.out.size) P.out);clear P;go_wp2_with fail
    refine H1.out.mono ?_;rintro e w3b ⟨hk,o,hev,hpost⟩;have K':=A0 (K.out.trans hk);have E1:=A0 (hev.eq (ψ:=fun r=>if M.isM L (s2).i [[101,108,115,101]] then r.block d (s2).nx else some (.ok (s2) (-1))) (fun r=>by rw[HQ.out];rfl));clear hk hev H1 K;have K:=A0 K'.out;clear K';cases o with
    |fail er p=>
     obtain⟨rfl,he⟩:=hpost;exact⟨rfl,B9 K.out (V.out _ (M.Ev.bad (k:=fun r t2 z=>M.addN t2 (M.Nd.mk 22 x y z [] [] 0 (-1) at0)) E1.out)) he⟩
    |ok s3 z=>
     obtain⟨rfl,hp,hg,hx3⟩:=hpost;have hg3:_/\_/\_/\_:=hg;simp only[M.St.nx]at hg3;have V':=A0 (fun o (ho:M.Ev L (fun r=>M.addN s3 (M.Nd.mk 22 x y z [] [] 0 (-1) at0)) o)=>V.out o (M.Ev.bind (k:=fun r t2 z=>M.addN t2 (M.Nd.mk 22 x y z [] [] 0 (-1) at0)) E1.out ho));clear V E1;have V:=A0 V'.out;clear V';have P:=A0 hp;have hi3:=hp.at';clear hp hg;have HA:=A0 (J2 hL P.out (M.Nd.mk 22 x y z [] [] 0 (-1) at0) 0 none 0 0 ⟨_,rfl,World.ownsRow_nil _ _ _ _,by simp[Value.ownBlock]⟩ rfl (by omega) (Nat.le_trans hB K.out.size) (fun g hg=>hok g (Nat.le_trans K.out.size hg)));have EV:=A0 (V.out _ M.Ev.pure);have GX:=A0 (show D6 s ⟨(s3).i,(s3).N++[(M.Nd.mk 22 x y z [] [] 0 (-1) at0)],(s3).T⟩ by
      simp only[D6,List.length_append,List.length_cons,List.length_nil]
      omega)
     have hxx:(0:Int)<=((s3).N.length:Int)/\((s3).N.length:Int)<(((s3).N++[(M.Nd.mk 22 x y z [] [] 0 (-1) at0)]).length:Int):=by simp;omega
     clear P V;go_wp2_with fail
     refine HA.out.mono ?_;rintro e w9 ⟨rfl,k9,p9⟩;have K9:=A0 (K.out.trans k9);have P9:=A0 p9;clear k9 p9 HA;go_wp2_with fail
     go_ret;exact D8 K9.out EV.out P9.out GX.out hxx
theorem X5a {d:Nat} {s:M.St} {acc:List Int} (hq:M.isM L s.i [[125]]=true):M.Ev L (fun r=>r.blockL d s acc) (.ok s.nx acc):=
 M.Ev.step (M.Ev.pure.eq fun r=>by show (if M.isM L s.i [[125]] then _ else _)=_;rw[hq];rfl)
theorem U8a {d:Nat} {s:M.St} {acc:List Int} {o:M.Out (List Int)} (hq:M.isM L s.i [[125]]=false) (h:M.Ev L (fun r=>M.A3 (r.stmt d s) fun s x=>r.blockL d s (acc++[x])) o):M.Ev L (fun r=>r.blockL d s acc) o:=
 M.Ev.step (h.eq fun r=>by show (if M.isM L s.i [[125]] then _ else _)=_;rw[hq];rfl)
theorem D6c (hL:LOk L) (m:Nat) (hS:∀m',m'<m->I7 B pb tv L 55 (fun d s r=>r.stmt d s) m'):I7 B pb tv L 145 (fun d s r=>r.block d s) m:=by
 intro w ok d s hm hok hB h;have hi:=h.at';have hs:=hL.short;have hfw:=h.few;have HA:=A0 (N7a hL h);have FS:Hid (∀a,Chg No w a->Pst a B pb tv L ok d s):=fun a ha=>h.still ha;have V:Hid (∀o,M.Ev L (fun r=>M.A3 (M.need L s [123]) fun s1 _=>M.A3 (r.blockL d s1 []) fun s2 l=>M.addN s2 (M.Nd.mk 26 0 0 0 l [] 0 (-1) ((M.tk L s.i).at':Int))) o->M.Ev L (fun r=>r.block d s) o):=fun o ho=>M.Ev.step (ho.eq (fun r=>rfl));obtain⟨i0,hi0,hz0,hz1,hz2⟩:=info_parts Tryz.infoInt;clear h;generalize ((M.tk L s.i).at':Int)=at0 at *;go_enter Tryz.func145,Tryz.ntmps145;go_wp2_with fail
 refine HA.out.mono ?_;rintro e w1 ⟨rfl,hc⟩;have K1:=A0 (B8 (B:=B) (ok:=ok) hc);have H1:=A0 (G5 hL (FS.out w1 hc) [123]);clear hc HA FS;go_wp2_with fail
 refine H1.out.mono ?_;rintro e w2 ⟨hk,hr⟩;have K2:=A0 (K1.out.trans hk);clear hk H1 K1;rcases hr with ⟨hb,rfl,hp⟩|⟨hb,rfl⟩
 case inr=>exact⟨rfl,B9 K2.out (V.out _ (M.Ev.bad (O9 hb))) (by decide)⟩
 have V2:=A0 (fun o (ho:M.Ev L (fun r=>M.A3 (r.blockL d s.nx []) fun s2 l=>M.addN s2 (M.Nd.mk 26 0 0 0 l [] 0 (-1) at0)) o)=>V.out o (M.Ev.bind (k:=fun r s1 (_:Unit)=>M.A3 (r.blockL d s1 []) fun s2 l=>M.addN s2 (M.Nd.mk 26 0 0 0 l [] 0 (-1) at0)) (K8 hb) ho));have P2:=A0 hp;clear hb hp V;go_wp2_with fail
 go_loopw [4] (fun v wr=>∃(acc:List Int) (s':M.St) (ad:Option Addr) (c:Nat),v= .slice ad acc.length c/\acc.length<=s'.i/\Hid (Kept B ok w wr)/\Hid (G0 s.nx s')/\Hid (wr.ownsRow w.heap.size 3 1 (.slice ad acc.length c) acc.length (C7 acc))/\
  Hid (Pst wr B pb tv L (fun g=>ok g/\some g≠Value.ownBlock (.slice ad acc.length c)) d s')/\Hid (∀o,M.Ev L (fun r=>M.A3 (r.blockL d s' acc) fun s2 l=>M.addN s2 (M.Nd.mk 26 0 0 0 l [] 0 (-1) at0)) o->M.Ev L (fun r=>r.block d s) o)) (fun _ wr=>L.length - nxt wr pb)
 case atStart=>exact⟨[],s.nx,none,0,rfl,by simp,K2.out,⟨Nat.le_refl _,by omega,by omega,by omega⟩,World.ownsRow_nil _ _ _ _,P2.out.mono (fun g hg _=>⟨hg,by simp[Value.ownBlock]⟩),V2.out⟩
 case round=>
  clear K2 P2 V2;obtain⟨acc,s',ad,c,rfl,hacc,KR,GR,OR,PR,VR⟩:=hrel;have HT:=F5 hL PR.out [125];have hi':=PR.out.at';have hnx:=PR.out.nxt;have hfw':=PR.out.few;have hge:=GR.out;simp only[G0,M.St.nx]at hge;generalize hq:M.isM L s'.i [[125]]=q at *;have Q1:=A0 hq;clear hq;go_wp2_with fail
  refine HT.mono ?_;clear HT;rintro e w3 ⟨rfl,hk,hp⟩;have K3:=A0 (KR.out.trans (hk.mono fun _ h=>h.1));have O3:=A0 (D9 OR.out hk (by decide));have P3:=A0 hp;clear hk hp OR PR KR;cases q
  · have PX:Hid (Pst w3 B pb tv L (fun g=>ok g/\some g≠Value.ownBlock (.slice ad acc.length c)) d s'):=P3.out;clear P3;have HM:=A0 (hS (L.length - s'.i) (by omega) w3 _ d s' (Nat.le_refl _) (fun g hg=>⟨hok g (Nat.le_trans K3.out.size hg),fun hx=>by have:=(O3.out.lt g hx.symm).2;omega⟩) (Nat.le_trans hB K3.out.size) PX.out);clear PX;go_wp2_with fail
    refine HM.out.mono ?_;rintro e w4 ⟨hk,o,hev,hpost⟩;have K4:=A0 (K3.out.trans (hk.mono fun _ h=>h.1));have O4:=A0 (D9 O3.out hk (by decide));have E4:=A0 hev;clear hk hev K3 O3 HM;cases o with
    |fail er p=>
     obtain⟨rfl,he⟩:=hpost;exact⟨rfl,B9 K4.out (VR.out _ (M.Ev.bad (U8a Q1.out (M.Ev.bad (k:=fun r s x=>r.blockL d s (acc++[x])) E4.out)))) he⟩
    |ok s4 y=>
     obtain⟨rfl,hp,hg,_⟩:=hpost;have P4:=A0 hp;have hg4:_/\_/\_/\_:=hg;have hi4:=hp.at';clear hp hg;have VN:=A0 (fun o (ho:M.Ev L (fun r=>M.A3 (r.blockL d s4 (acc++[y])) fun s2 l=>M.addN s2 (M.Nd.mk 26 0 0 0 l [] 0 (-1) at0)) o)=>VR.out o (by
      obtain⟨f1,h1⟩:=E4.out;obtain⟨f2,h2⟩:=ho;refine⟨f1+f2+1,fun f hf=> ?_⟩;obtain⟨g,rfl⟩:∃g,f=g+1:=⟨f - 1,by omega⟩;have a1:(M.sp' L g).stmt d s'=some (.ok s4 y):=h1 g (by omega);have a2:=h2 g (by omega);have a3:=h2 (g+1) (by omega);show M.A3 (if M.isM L s'.i [[125]] then some (.ok s'.nx acc) else M.A3 ((M.sp' L g).stmt d s') fun s x=>(M.sp' L g).blockL d s (acc++[x])) _=some o;rw[Q1.out,if_neg (by decide),a1];exact a2))
     clear VR;have hw3:=A0 (O4.out.alloc (.cells #[iV y] 3));go_wp2_with (at_builtin;refine wpList_append_own_at _ rfl _ _ 48 rfl w.heap.size 3 i0 (iV 0) 1 8 Tryz.underlying48 hi0 hz0 hz1 hz2 rfl (by decide) _ _ _ rfl hw3.out (aD w4.heap.size 0) 1 1 [iV y] rfl rfl ?c1 ?c2 ?c3 ?c4 ?c5 ?_)
     case c1=>exact cell_one_new _ _ _
     case c2=>intro u hu;simp at hu;rcases hu with rfl;rfl
     case c3=>simp only[maxLen];omega
     case c4=>omega
     case c5=>have:=K4.out.size;simp;omega
     intro v' w5 hown2 hg2 _ hat;obtain⟨ad2,c2,hv2⟩:=B6 hown2;rw[hv2]at hown2 hat⊢;have PG:=A0 ((P4.out.alloc (.cells #[iV y] 3)).grown (v:= .slice ad acc.length c) (v':= .slice ad2 (acc.length+1) c2) (O4.out.alloc _) (.inl rfl) hg2 (by simpa using hat));have KG:=A0 ((K4.out.alloc (.cells #[iV y] 3)).grown (O4.out.alloc _) hg2);have OG:=A0 hown2;clear hown2 hg2 hat hw3 P4 O4 K4 hv2;go_wp2_with fail
     go_roundw
     case rel=>
      refine⟨acc++[y],s4,ad2,c2,by simp,by simp;omega,KG.out,(show G0 s.nx s4 from by simp only[G0,M.St.nx];omega), ?_, ?_,VN.out⟩
      · have:=OG.out;show World.ownsRow _ _ _ _ _ _ _;rw[J9];simpa using this
      · have:=PG.out;show Pst _ _ _ _ _ _ _ _;simpa using this
     case measure=>
      have h3:=PG.out.nxt;rw[h3,hnx];omega
  · have PX:Hid (Pst w3 B pb tv L (fun g=>ok g/\some g≠Value.ownBlock (.slice ad acc.length c)) d s'.nx):=P3.out;have PY:=A0 (PX.out.mono (ok':=ok) (fun g hg _=>hg.1));have hi3:=PX.out.at';clear P3 PX;have HAd:=A0 (J2 hL PY.out (M.Nd.mk 26 0 0 0 acc [] 0 (-1) at0) 0 ad acc.length c ⟨_,rfl,C9 O3.out (Nat.zero_le _),fun g hg=>hok g (A9 O3.out g hg).1⟩ rfl (by simp only[M.St.nx];omega) (Nat.le_trans hB K3.out.size) (fun g hg=>hok g (Nat.le_trans K3.out.size hg)));have EV:=A0 (VR.out _ (M.Ev.bind (k:=fun _ s2 l=>M.addN s2 (M.Nd.mk 26 0 0 0 l [] 0 (-1) at0)) (X5a Q1.out) M.Ev.pure));have GX:=A0 (show D6 s ⟨s'.nx.i,s'.nx.N++[M.Nd.mk 26 0 0 0 acc [] 0 (-1) at0],s'.nx.T⟩ by
     simp only[D6,M.St.nx,List.length_append,List.length_cons,List.length_nil]
     omega)
    clear PY VR O3;go_wp2_with fail
    refine HAd.out.mono ?_;rintro e w9 ⟨rfl,k9,p9⟩;have K9:=A0 (K3.out.trans k9);have P9:=A0 p9;clear k9 p9 HAd;go_wp2_with fail
    go_ret;exact D8 K9.out EV.out P9.out GX.out (by simp only[M.St.nx,List.length_append,List.length_cons,List.length_nil];omega)
end
end Go.Proofs.YtgdnpemiiageaaaGreatDoor
