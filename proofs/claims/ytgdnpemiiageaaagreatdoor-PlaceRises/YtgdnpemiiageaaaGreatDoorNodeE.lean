/-
  A part of the proof.
-/
import Derived.Test.YtgdnpemiiageaaaGreatDoorTwo
set_option maxHeartbeats 16000000
set_option maxRecDepth 100000
namespace Go.Proofs.YtgdnpemiiageaaaGreatDoor
open Go.RowKit
section
variable {w:World} {B pb:Nat} {tv:Value} {L:List M.Tk} {ok:Nat->Prop} {d:Nat} {s:M.St}
def B1d (w:World) (B pb:Nat) (tv:Value) (L:List M.Tk) (ok:Nat->Prop) (d:Nat) (s:M.St) (φ:M.Sp->Option (M.Out Int)) (e:Ending) (w':World):Prop:=
 Kept B ok w w'/\∃o,M.Ev L φ o/\match o with
  | .ok s' x=>e= .returned (iV x)/\Pst w' B pb tv L ok d s'/\G0 s s'/\0<=x/\x<s'.N.length
  | .fail er p=>e=gu er p/\er≠0
def N3d (B pb:Nat) (tv:Value) (L:List M.Tk) (m:Nat):Prop:=
 ∀(w:World) (ok:Nat->Prop) (d:Nat) (s:M.St) (k:Nat),k<s.N.length->L.length - s.i<=m->(∀g,w.heap.size<=g->ok g)->B<=w.heap.size->Pst w B pb tv L ok d s->
  Calls Tryz.prog 189 #[pV pb,iV (k:Int)] w (B1d w B pb tv L ok d s (fun r=>r.tail d s (k:Int)))
theorem Y4 (hL:LOk L) (m:Nat) (hTyp:∀m',m'<=m->I7 B pb tv L 143 (fun d s r=>r.expr d s) m') (E:List UInt8) (hm:L.length - s.i<=m) (hok:∀g,w.heap.size<=g->ok g) (hB:B<=w.heap.size) (h:Pst w B pb tv L ok d s):
 Calls Tryz.prog 187 #[pV pb,.string ⟨E.toArray⟩,.func (.func 143) #[pV pb] #[]] w (Y2b w B pb tv L ok d s (fun r=>r.list .expr E d s [] [])):=by
 have hs:=hL.short;have hi:=h.at';have HP:=A0 h;clear h;go_enter Tryz.func187,Tryz.ntmps187;go_wp2_with fail
 go_loopw [7] (fun v wr=>∃(acc:List Int) (s':M.St) (ad:Option Addr) (c:Nat),v= .slice ad acc.length c/\acc.length<=s'.i/\Hid (Kept B ok w wr)/\Hid (G0 s s')/\Hid (wr.ownsRow w.heap.size 3 1 (.slice ad acc.length c) acc.length (C7 acc))/\
  Hid (Pst wr B pb tv L (fun g=>ok g/\some g≠Value.ownBlock (.slice ad acc.length c)) d s')/\Hid (∀o,M.Ev L (fun r=>r.list .expr E d s' [] acc) o->M.Ev L (fun r=>r.list .expr E d s [] []) o)) (fun _ wr=>L.length - nxt wr pb)
 case atStart=>exact⟨[],s,none,0,rfl,by simp,Kept.refl _ _ _,⟨Nat.le_refl _,by omega,by omega,by omega⟩,World.ownsRow_nil _ _ _ _,HP.out.mono (fun g hg _=>⟨hg,by simp[Value.ownBlock]⟩),fun _ h=>h⟩
 case round=>
  obtain⟨acc,s',ad,c,rfl,hacc,KR,GR,OR,PR,VR⟩:=hrel;have HT:=F5 hL PR.out E;have hi':=PR.out.at';have hnx:=PR.out.nxt;generalize hq:M.isM L s'.i [E]=q at *;have Q1:=A0 hq;clear hq;go_wp2_with fail
  refine HT.mono ?_;clear HT;rintro e w3 ⟨rfl,hk,hp⟩;have K3:=A0 (KR.out.trans (hk.mono fun _ h=>h.1));have P3:=A0 hp;have O3:=A0 (D9 OR.out hk (by decide));clear hk hp OR PR KR;cases q
  · have PX:Pst w3 B pb tv L (fun g=>ok g/\some g≠Value.ownBlock (.slice ad acc.length c)) d s':=by simpa using P3.out
    clear P3;by_cases hz:acc.length=0
    · have HC:Hid ((if acc.length=0 then some (.ok s' ()) else M.need L s' [44])=some (M.Out.ok s' ())):=by show _=_;rw[if_pos hz]
      have ha:acc=[]:=List.eq_nil_of_length_eq_zero hz;subst ha;simp only[List.length_nil]at O3 PX hacc⊢;clear hz;have hj:s.i<=s'.i:=GR.out.1;have HM:=hTyp (L.length - s'.i) (by first|(simp only[M.St.nx];omega)|omega) w3 _ d s' (Nat.le_refl _) (fun g hg=>⟨hok g (Nat.le_trans K3.out.size hg),fun hx=>by have:=(O3.out.lt g hx.symm).2;omega⟩) (Nat.le_trans hB K3.out.size) PX;clear PX;go_wp2_with fail
      refine HM.mono ?_;clear HM;rintro e w4 ⟨hk,o,hev,hpost⟩;have K4:=A0 (K3.out.trans (hk.mono fun _ h=>h.1));have O4:=A0 (D9 O3.out hk (by decide));have E4:=A0 hev;clear hk hev K3 O3;cases o with
      |fail er p=>
       obtain⟨rfl,he⟩:=hpost;exact⟨rfl,U8 K4.out (VR.out _ (F4 Q1.out HC.out (M.Ev.bad (M.Ev.bad E4.out)))) he⟩
      |ok s4 y=>
       obtain⟨rfl,hp,hg,_⟩:=hpost;have P4:=A0 hp;have G4:=A0 hg;have hi4:=hp.at';clear hp hg;have VN:=A0 (fun o (ho:M.Ev L (fun r=>r.list .expr E d s4 [] ([]++[y])) o)=>VR.out o (F4 Q1.out HC.out (M.Ev.bind (M.Ev.bind E4.out (k:=fun _ s x=>some (.ok s (x,[]))) M.Ev.pure) ho)));clear VR;obtain⟨i0,hi0,hz0,hz1,hz2⟩:=info_parts Tryz.infoInt;have hw3:=A0 (O4.out.alloc (.cells #[iV y] 3));have hl4:0+1<=s4.i:=by
        have h2:=G4.out.1;first|(simp only[M.St.nx]at h2;omega)|omega
       go_wp2_with (at_builtin;refine wpList_append_own_at _ rfl _ _ 48 rfl w.heap.size 3 i0 (iV 0) 1 8 Tryz.underlying48 hi0 hz0 hz1 hz2 rfl (by decide) _ _ _ rfl hw3.out (aD w4.heap.size 0) 1 1 [iV y] rfl rfl ?c1 ?c2 ?c3 ?c4 ?c5 ?_)
       case c1=>exact cell_one_new _ _ _
       case c2=>intro u hu;simp at hu;rcases hu with rfl;rfl
       case c3=>simp only[maxLen];omega
       case c4=>omega
       case c5=>have:=K4.out.size;simp;omega
       · intro v' w5 hown2 hg2 _ hat;obtain⟨ad2,c2,hv2⟩:=B6 hown2;rw[hv2]at hown2 hat⊢;have PG:=A0 ((P4.out.alloc (.cells #[iV y] 3)).grown (v:= .slice ad 0 c) (v':= .slice ad2 (0+1) c2) (O4.out.alloc _) (.inl rfl) hg2 (by simpa using hat));have KG:=A0 ((K4.out.alloc (.cells #[iV y] 3)).grown (O4.out.alloc _) hg2);have OG:=A0 hown2;clear hown2 hg2 hat hw3 P4 O4 K4 hv2;go_wp2_with fail
         go_roundw
         case rel=>
          have h1:=GR.out;have h2:=G4.out;simp only[D6,G0]at h1 h2;refine⟨[y],s4,ad2,c2,by simp,by simp;omega,KG.out,⟨by omega,by omega,by omega,by omega⟩, ?_, ?_,VN.out⟩
          · have:=OG.out;show World.ownsRow _ _ _ _ _ _ _;simpa[C7]using this
          · have:=PG.out;show Pst _ _ _ _ _ _ _ _;simpa using this
         case measure=>
          have h2:=G4.out;have h3:=PG.out.nxt;simp only[D6]at h2;rw[h3,hnx];omega
    · have hz':(0:Int)<(acc.length:Int):=by omega
      have HN:=G5 hL PX [44];go_wp2_with fail
      refine HN.mono ?_;clear HN;rintro e w6 ⟨hk,hr⟩;have K6:=A0 (K3.out.trans (hk.mono fun _ h=>h.1));have O6:=A0 (D9 O3.out hk (by decide));clear hk K3 O3 PX;rcases hr with ⟨hb,rfl,PX⟩|⟨hb,rfl⟩
      · have hi6:=PX.at';have HC:Hid ((if acc.length=0 then some (.ok s' ()) else M.need L s' [44])=some (M.Out.ok s'.nx ())):=by show _=_;rw[if_neg hz,M.need,hb];rfl
        clear hb;have hj:s.i<=s'.i:=GR.out.1;have HM:=hTyp (L.length - s'.nx.i) (by first|(simp only[M.St.nx];omega)|omega) w6 _ d s'.nx (Nat.le_refl _) (fun g hg=>⟨hok g (Nat.le_trans K6.out.size hg),fun hx=>by have:=(O6.out.lt g hx.symm).2;omega⟩) (Nat.le_trans hB K6.out.size) PX;clear PX;go_wp2_with fail
        refine HM.mono ?_;clear HM;rintro e w4 ⟨hk,o,hev,hpost⟩;have K4:=A0 (K6.out.trans (hk.mono fun _ h=>h.1));have O4:=A0 (D9 O6.out hk (by decide));have E4:=A0 hev;clear hk hev K6 O6;cases o with
        |fail er p=>
         obtain⟨rfl,he⟩:=hpost;exact⟨rfl,U8 K4.out (VR.out _ (F4 Q1.out HC.out (M.Ev.bad (M.Ev.bad E4.out)))) he⟩
        |ok s4 y=>
         obtain⟨rfl,hp,hg,_⟩:=hpost;have P4:=A0 hp;have G4:=A0 hg;have hi4:=hp.at';clear hp hg;have VN:=A0 (fun o (ho:M.Ev L (fun r=>r.list .expr E d s4 [] (acc++[y])) o)=>VR.out o (F4 Q1.out HC.out (M.Ev.bind (M.Ev.bind E4.out (k:=fun _ s x=>some (.ok s (x,[]))) M.Ev.pure) ho)));clear VR;obtain⟨i0,hi0,hz0,hz1,hz2⟩:=info_parts Tryz.infoInt;have hw3:=A0 (O4.out.alloc (.cells #[iV y] 3));have hl4:acc.length+1<=s4.i:=by
          have h2:=G4.out.1;first|(simp only[M.St.nx]at h2;omega)|omega
         go_wp2_with (at_builtin;refine wpList_append_own_at _ rfl _ _ 48 rfl w.heap.size 3 i0 (iV 0) 1 8 Tryz.underlying48 hi0 hz0 hz1 hz2 rfl (by decide) _ _ _ rfl hw3.out (aD w4.heap.size 0) 1 1 [iV y] rfl rfl ?c1 ?c2 ?c3 ?c4 ?c5 ?_)
         case c1=>exact cell_one_new _ _ _
         case c2=>intro u hu;simp at hu;rcases hu with rfl;rfl
         case c3=>simp only[maxLen];omega
         case c4=>omega
         case c5=>have:=K4.out.size;simp;omega
         · intro v' w5 hown2 hg2 _ hat;obtain⟨ad2,c2,hv2⟩:=B6 hown2;rw[hv2]at hown2 hat⊢;have PG:=A0 ((P4.out.alloc (.cells #[iV y] 3)).grown (v:= .slice ad acc.length c) (v':= .slice ad2 (acc.length+1) c2) (O4.out.alloc _) (.inl rfl) hg2 (by simpa using hat));have KG:=A0 ((K4.out.alloc (.cells #[iV y] 3)).grown (O4.out.alloc _) hg2);have OG:=A0 hown2;clear hown2 hg2 hat hw3 P4 O4 K4 hv2;go_wp2_with fail
           go_roundw
           case rel=>
            have h1:=GR.out;have h2:=G4.out;simp only[D6,G0,M.St.nx]at h1 h2;refine⟨acc++[y],s4,ad2,c2,by simp,by simp;omega,KG.out,⟨by omega,by omega,by omega,by omega⟩, ?_, ?_,VN.out⟩
            · have:=OG.out;show World.ownsRow _ _ _ _ _ _ _;rw[J9];simpa using this
            · have:=PG.out;show Pst _ _ _ _ _ _ _ _;simpa using this
           case measure=>
            have h2:=G4.out;have h3:=PG.out.nxt;simp only[D6,M.St.nx]at h2;rw[h3,hnx];omega
      · exact⟨rfl,U8 K6.out (VR.out _ (B9a Q1.out (by rw[if_neg hz,M.need,hb];rfl))) (by decide)⟩
  · have PX:Pst w3 B pb tv L (fun g=>ok g/\some g≠Value.ownBlock (.slice ad acc.length c)) d s'.nx:=by simpa using P3.out
    have PY:=A0 (PX.mono (ok':=ok) (fun g hg _=>hg.1));have EV:=A0 (VR.out _ (B8a Q1.out));have GX:=A0 (show D6 s s'.nx by
     have h2:=GR.out;simp only[D6,G0,M.St.nx]at h2⊢
     omega)
    clear VR P3 PX;go_wp2_with fail
    go_ret;exact I7b K3.out EV.out O3.out (by simp only[M.St.nx];omega) PY.out GX.out
theorem F2b (hL:LOk L) (m:Nat) (hE:∀m',m'<m->I7 B pb tv L 143 (fun d s r=>r.expr d s) m'):
 I7 B pb tv L 194 (fun d s r=>M.A3 (M.need L s [40]) fun s _=>M.A3 (r.expr d s) fun s x=>M.A3 (M.need L s [41]) fun s _=>some (.ok s x)) m:=by
 intro w ok d s hm hok hB h;have hi:=h.at';have hs:=hL.short;have H1:=G5 hL h [40];clear h;go_enter Tryz.func194,Tryz.ntmps194;go_wp2_with fail
 refine H1.mono ?_;clear H1;rintro e w1 ⟨hk,hr⟩;have K1:=A0 hk;clear hk;rcases hr with ⟨hb,rfl,hp⟩|⟨hb,rfl⟩
 · have V1:=A0 (fun o ho=>M.Ev.bind (k:=fun r s (_:Unit)=>M.A3 (r.expr d s) fun s x=>M.A3 (M.need L s [41]) fun s _=>some (M.Out.ok s x)) (K8 hb) ho (o:=o));have hi1:=hp.at';have HM:=hE (L.length - s.nx.i) (by simp only[M.St.nx];omega) w1 ok d s.nx (Nat.le_refl _) (fun g hg=>hok g (Nat.le_trans K1.out.size hg)) (Nat.le_trans hB K1.out.size) hp;clear hp hb;go_wp2_with fail
   refine HM.mono ?_;clear HM;rintro e w2 ⟨hk,o,hev,hpost⟩;have K2:=A0 (K1.out.trans hk);have E2:=A0 hev;clear hk hev K1;cases o with
   |fail er p=>
    obtain⟨rfl,he⟩:=hpost;exact⟨rfl,B9 K2.out (V1.out _ (M.Ev.bad E2.out)) he⟩
   |ok s2 x=>
    obtain⟨rfl,hp,hg,hx⟩:=hpost;have H3:=G5 hL hp [41];have G2:=A0 hg;have V2:=A0 (fun o ho=>V1.out o (M.Ev.bind E2.out ho));clear hp hg V1 E2;go_wp2_with fail
    refine H3.mono ?_;clear H3;rintro e w3 ⟨hk,hr⟩;have K3:=A0 (K2.out.trans hk);clear hk K2;rcases hr with ⟨hb,rfl,hp⟩|⟨hb,rfl⟩
    · have EV:=A0 (V2.out _ (M.Ev.bind (K8 hb) M.Ev.pure));have P3:=A0 hp;have G3:=A0 (show D6 s s2.nx by
       have h2:=G2.out;simp only[D6,M.St.nx]at h2⊢
       omega)
      clear hp hb V2;go_wp2_with fail
      go_ret;exact D8 K3.out EV.out P3.out G3.out hx
    · exact⟨rfl,B9 K3.out (V2.out _ (M.Ev.bad (O9 hb))) (by decide)⟩
 · exact⟨rfl,B9 K1.out (M.Ev.bad (O9 hb)) (by decide)⟩
theorem C1a (hL:LOk L) (h:Pst w B pb tv L ok d s) (hok:∀g,w.heap.size<=g->ok g) (hB:B<=w.heap.size):
 Calls Tryz.prog 141 #[pV pb] w fun e w'=>Kept B ok w w'/\∃o,M.Ev L (fun r=>M.typeIf L r d s) o/\match o with
  | .ok s' x=>e= .returned (iV x)/\Pst w' B pb tv L ok d s'/\G0 s s'
  | .fail er p=>e=gu er p/\er≠0:=by
 have H1:=F5 hL h [58];have HV:Hid (∀o,M.Ev L (fun r=>if M.isM L s.i [[58]] then r.typ d s.nx else some (.ok s (-1))) o->M.Ev L (fun r=>M.typeIf L r d s) o):=fun o ho=>ho;clear h;generalize M.isM L s.i [[58]]=q at *;go_enter Tryz.func141,Tryz.ntmps141;go_wp2_with fail
 refine H1.mono ?_;clear H1;rintro e w1 ⟨rfl,hk,hp⟩;have K1:=A0 hk;cases q
 · have PX:Pst w1 B pb tv L ok d s:=by simpa using hp
   have P1:=A0 PX;clear PX hp hk;go_wp2_with fail
   go_ret;exact⟨K1.out,.ok s (-1),HV.out _ (M.Ev.pure.eq (fun r=>by simp)),rfl,P1.out,⟨Nat.le_refl _,by omega,by omega,by omega⟩⟩
 · have PX:Pst w1 B pb tv L ok d s.nx:=by simpa using hp
   have HM:=U6b hL (L.length - s.nx.i) w1 ok d s.nx (Nat.le_refl _) (fun g hg=>hok g (Nat.le_trans hk.size hg)) (Nat.le_trans hB hk.size) PX;clear PX hp hk;go_wp2_with fail
   refine HM.mono ?_;clear HM;rintro e w2 ⟨hk,o,hev,hpost⟩;have K2:=A0 (K1.out.trans hk);have E2:=A0 (HV.out o (hev.eq (fun r=>by simp)));clear hk hev K1;cases o with
   |fail er p=>
    obtain⟨rfl,he⟩:=hpost;exact⟨rfl,K2.out,_,E2.out,rfl,he⟩
   |ok s2 x=>
    obtain⟨rfl,hp,hg⟩:=hpost;have P2:=A0 hp;have G2:=A0 (show G0 s s2 by
     have h2:=hg;simp only[D6,G0,M.St.nx]at h2⊢
     omega)
    clear hp hg;go_wp2_with fail
    go_ret;exact⟨K2.out,_,E2.out,rfl,P2.out,G2.out⟩
theorem U9 {ok:Nat->Prop} {w w':World} {q:Nat} {cs:Array Value} {e:TypeId} (hk:Kept B ok w w') (h:w.heap[q]? =some (.cells cs e (0,0))) (he:e≠96/\e≠72/\e≠68):w'.heap[q]? =some (.cells cs e (0,0)):=by
 rw[hk.block q (ltG h) (fun x=> ?_)]
 · exact h
 · obtain⟨cs',e',fz,hh,r⟩:=x.2.1;rw[h]at hh;simp only[Option.some.injEq,Obj.cells.injEq]at hh;obtain⟨_,rfl,_⟩:=hh;rcases r with r|r|r
   · exact he.1 r
   · exact he.2.1 r
   · exact he.2.2 r
theorem I8b (hL:LOk L) (m:Nat) (hO:∀m',m'<m->I7 B pb tv L 185 (fun d s r=>r.oper d s) m') (hS:I7 B pb tv L 190 (fun d s r=>r.simple d s) m) (hT:∀m',m'<m->N3d B pb tv L m'):
 I7 B pb tv L 185 (fun d s r=>r.oper d s) m:=by
 intro w ok d s hm hok hB h;have hi:=h.at';have hs:=hL.short;have hfw:=h.few;have HI:=C3a hL (h.alloc (.cells (M4a [[33],[45],[116,121,112,101,111,102]]) 9)) w.heap.size 3 [[33],[45],[116,121,112,101,111,102]] (U6 _ _ _) (by decide);have HK6:=A0 (fun (hq:M.isM L s.i [[33],[45],[116,121,112,101,111,102]]=true)=>K9a hq);have HV:Hid (∀o,M.Ev L (fun r=>if M.isM L s.i [[33],[45],[116,121,112,101,111,102]] then M.A3 (M.inside L (M.H6a L (s.i+1)) d s.nx r.oper) fun s' x=>M.addN s' ⟨13,x,0,0,[],(M.tk L s.i).text,0,-1,(M.tk L s.i).at'⟩
  else M.A3 (r.simple d s) fun s x=>r.tail d s x) o->M.Ev L (fun r=>r.oper d s) o):=fun o ho=>M.Ev.step (ho.eq fun r=>rfl)
 have HP:=A0 h;clear h;have hf1:=S7;have hf2:=B5b;have HTk:=A0 (fun w1 (h1:Pst w1 B pb tv L ok d s)=>Z6 hL h1);generalize M.isM L s.i [[33],[45],[116,121,112,101,111,102]]=q at *;generalize M.tk L s.i=tk at *;obtain⟨kd,tx,pl⟩:=tk;simp only[tkv]at HTk HV HK6;go_enter Tryz.func185,Tryz.ntmps185;go_wp2_with fail
 refine HI.mono ?_;clear HI;rintro e w1 ⟨rfl,hc⟩;have P1:=A0 ((HP.out.alloc _).still hc);have K1:=A0 (((Kept.refl B ok w).alloc _).trans (B8 hc));clear hc HP;cases q
 · have HM:=hS w1 ok d s hm (fun g hg=>hok g (Nat.le_trans K1.out.size hg)) (Nat.le_trans hB K1.out.size) P1.out;clear P1;go_wp2_with fail
   refine HM.mono ?_;clear HM;rintro e w2 ⟨hk,o,hev,hpost⟩;have K2:=A0 (K1.out.trans hk);have E2:=A0 hev;clear hk hev K1;cases o with
   |fail er p=>
    obtain⟨rfl,he⟩:=hpost;exact⟨rfl,B9 K2.out (HV.out _ ((M.Ev.bad E2.out).eq (fun r=>by simp;rfl))) he⟩
   |ok s2 x=>
    obtain⟨rfl,hp,hg,hx⟩:=hpost;obtain⟨kx,rfl⟩:=Int.eq_ofNat_of_zero_le hx.1;have hi2:=hp.at';have hj:=hg.1;have HM:=hT (L.length - s2.i) (by omega) w2 ok d s2 kx (by omega) (Nat.le_refl _) (fun g hg=>hok g (Nat.le_trans K2.out.size hg)) (Nat.le_trans hB K2.out.size) hp;have G2:=A0 hg;clear hp hg;go_wp2_with fail
    refine HM.mono ?_;clear HM;rintro e w3 ⟨hk,o,hev,hpost⟩;have K3:=A0 (K2.out.trans hk);have E3:=A0 (HV.out o ((M.Ev.bind (k:=fun r s x=>r.tail d s x) E2.out hev).eq (fun r=>by simp)));clear hk hev K2 E2;cases o with
    |fail er p=>
     obtain⟨rfl,he⟩:=hpost;exact⟨rfl,B9 K3.out E3.out he⟩
    |ok s3 y=>
     obtain⟨rfl,hp,hg,hy⟩:=hpost;have P3:=A0 hp;have G3:=A0 (show D6 s s3 by
      have h1:=G2.out;have h2:=hg;simp only[D6,G0]at h1 h2⊢
      omega)
     clear hp hg;go_wp2_with fail
     go_ret;exact D8 K3.out E3.out P3.out G3.out hy
 · have V1:=A0 (fun o (ho:M.Ev L (fun r=>M.A3 (M.inside L (M.H6a L (s.i+1)) d s.nx r.oper) fun s' x=>M.addN s' ⟨13,x,0,0,[],tx,0,-1,(pl:Int)⟩) o)=>HV.out o (ho.eq (fun r=>by simp)));clear HV;go_wp2_with fail
   refine(HTk.out _ P1.out (HK6.out trivial)).mono ?_;clear HTk;rintro e w2 ⟨rfl,hk,hp⟩;have K2:=A0 ((K1.out.trans hk).alloc (.cells #[iV kd,.string ⟨tx.toArray⟩,iV (pl:Int)] 119));have P2:=A0 (hp.alloc (.cells #[iV kd,.string ⟨tx.toArray⟩,iV (pl:Int)] 119));have Q2:=A0 (heap_alloc_new w2 (.cells #[iV kd,.string ⟨tx.toArray⟩,iV (pl:Int)] 119));have hi2:=hp.at';have HBg:=V9a hL P2.out;clear hk hp P1 K1;generalize hbg:M.H6a L s.nx.i=bg at *;have B2:=A0 hbg;clear hbg;go_wp2_with fail
   refine HBg.mono ?_;clear HBg;rintro e w3 ⟨rfl,hc⟩;have K3:=A0 (K2.out.trans (B8 hc));have P3:=A0 (P2.out.still hc);have Q3:=A0 (U9 (B8 (B:=B) (ok:=ok) hc) Q2.out (by decide));have hw3:w2.heap.size<w3.heap.size:=by have:=hc.size;simp at this;omega
   have HM:=I8a (w:=w3) (ok:=ok) hL (L.length - s.nx.i) (fun d s r=>r.oper d s) (hO _ (by simp only[M.St.nx];omega)) bg (Nat.le_refl _) (fun g hg=>hok g (Nat.le_trans K3.out.size hg)) (Nat.le_trans hB K3.out.size) P3.out;clear hc P2 K2 Q2 P3;go_wp2_with fail
   refine HM.mono ?_;clear HM;rintro e w4 ⟨hk,o,hev,hpost⟩;have K4:=A0 (K3.out.trans hk);have Q4:=A0 (U9 hk Q3.out (by decide));have hw4:w2.heap.size<w4.heap.size:=Nat.lt_of_lt_of_le hw3 hk.size;have E4:=A0 (hev.eq (ψ:=fun r=>M.inside L (M.H6a L (s.i+1)) d s.nx r.oper) (fun r=>by rw[show M.H6a L (s.i+1)=bg from B2.out]));clear hk hev K3 Q3;cases o with
   |fail er p=>
    obtain⟨rfl,he⟩:=hpost;exact⟨rfl,B9 K4.out (V1.out _ (M.Ev.bad E4.out)) he⟩
   |ok s4 y=>
    obtain⟨rfl,hp,hg,hy⟩:=hpost;have HA:=J2 hL hp ⟨13,y,0,0,[],tx,0,-1,(pl:Int)⟩ 0 none 0 0 ⟨_,rfl,World.ownsRow_nil _ _ _ _,by simp[Value.ownBlock]⟩ rfl (by have:=hg;simp only[D6,M.St.nx]at this;omega) (Nat.le_trans hB K4.out.size) (fun g hg=>hok g (Nat.le_trans K4.out.size hg));have EV:=A0 (V1.out _ (M.Ev.bind E4.out (k:=fun _ s' x=>M.addN s' ⟨13,x,0,0,[],tx,0,-1,(pl:Int)⟩) M.Ev.pure));have GX:=A0 (show D6 s ⟨s4.i,s4.N++[⟨13,y,0,0,[],tx,0,-1,(pl:Int)⟩],s4.T⟩ by
     have h2:=hg;simp only[D6,M.St.nx,List.length_append,List.length_cons,List.length_nil]at h2⊢
     omega)
    have x1:w4.cell? (aD w2.heap.size 1)=some (.string ⟨tx.toArray⟩):=cr Q4.out rfl;have x2:w4.cell? (aD w2.heap.size 2)=some (iV (pl:Int)):=cr Q4.out rfl;clear hp hg;go_wp2_with fail
    refine HA.mono ?_;clear HA;rintro e w5 ⟨rfl,hk,hp⟩;have K5:=A0 (K4.out.trans hk);have P5:=A0 hp;clear hk hp;go_wp2_with fail
    go_ret;exact D8 K5.out EV.out P5.out GX.out (by simp;omega)
end
open Go.RowKit
section
variable {w:World} {B pb:Nat} {tv:Value} {L:List M.Tk} {ok:Nat->Prop} {d:Nat} {s:M.St}
theorem Pst.free {S:Nat->Prop} {w':World} {ok':Nat->Prop} (h:Pst w B pb tv L ok d s) (hc:Chg S w w') (hs:∀k,S k->¬ok k/\tv.ownBlock≠some k) (ho:∀g,ok g->g<w.heap.size->ok' g):Pst w' B pb tv L ok' d s:=by
 obtain⟨h1,h2,h3,h4,h5,nv,yv,nx,yx,hb,hn,hy,hrn,hry⟩:=h;have hlt:=(ltG hb);have c3:w.cell? (aD pb 3)=some nv:=cr hb rfl;have c4:w.cell? (aD pb 4)=some yv:=cr hb rfl;have hbw:w'.heap[pb]? =w.heap[pb]? :=hc.block pb hlt (fun x=>(hs pb x).1 h5.1);have key:∀g,ok g->g<w.heap.size->S g->(∃cur e,w.heap[g]? =some (.cells cur e (0,0))/\(e=126\/e=3))->False:=fun g hg _ hx _=>(hs g hx).1 hg;refine⟨h1,h2,h3,A8 h4 hc fun g hg x=>(hs g x).2 hg,⟨ho _ h5.1 hlt,fun v g hv hg=> ?_,fun v g hv hg=> ?_⟩,nv,yv,nx,yx,hbw.trans hb,A8 hn hc fun g hg x=>(hs g x).1 (h5.2.1 _ g c3 hg),A8 hy hc fun g hg x=>(hs g x).1 (h5.2.2 _ g c4 hg),hrn.imp (NdV.chg hc key ho),hry.imp (TyV.chg hc key ho)⟩
 · rw[World.cell?_of_block (a:=(aD pb 3)) hbw,c3]at hv;cases hv;exact ho g (h5.2.1 _ g c3 hg) (hn.lt g hg).2
 · rw[World.cell?_of_block (a:=(aD pb 4)) hbw,c4]at hv;cases hv;exact ho g (h5.2.2 _ g c4 hg) (hy.lt g hg).2
theorem I3 {ok:Nat->Prop} {a b:World} {q:Nat} {o:Obj} (hk:Kept B ok a b) (h:a.heap[q]? =some o) (hn:¬ok q):b.heap[q]? =some o:=(hk.block q (ltG h) (fun x=>hn x.2.2)).trans h
theorem Pst.nodeAt (h:Pst w B pb tv L ok d s) {k:Nat} (hk:k<s.N.length):∃g c,w.cell? (aD pb 3)=some (.slice (some (aD g 0)) s.N.length c)/\s.N.length<=c/\c<=maxLen/\g<w.heap.size/\pb<w.heap.size/\w.cell? (aD g (k * 9+8))=some (iV (M.atN s (k:Int))):=by
 obtain⟨nv,yv,nx,yx,hb,hn,hy,hrn,hry⟩:=h.blk;obtain⟨na,nc,rfl⟩:=B6 hn;obtain⟨g,rfl,_,hgl,hgc,hgm,hcell⟩:=E7 hn (by omega);obtain⟨nd,hnd,hat⟩:=Rws.at (fun _ _ h=>NdV.len h) k hk hrn;refine⟨g,nc,cr hb rfl,hgc,hgm,hgl,(ltG hb), ?_⟩;obtain⟨lv,rfl,_⟩:=hnd;have hA:M.atN s (k:Int)=s.N[k].at':=by simp[M.atN,List.getD,hk]
 rw[hA];exact hcell _ _ ((hat 8 (by omega)).trans rfl)
theorem Y1c {hd:Int} {o:M.Out Int} (h:M.Ev L (fun r=>if M.isM L s.i [[40]] then M.A3 (r.list .expr [41] d s.nx [] []) fun s' l=>M.A3 (M.addN s' ⟨7,hd,0,0,l,[],0,-1,M.atN s hd⟩) fun s x=>r.tail d s x
 else if M.isM L s.i [[46]] then
  if (M.tk L (s.i+1)).kind=1 then M.A3 (M.addN s.nx.nx ⟨8,hd,0,0,[],(M.tk L (s.i+1)).text,0,-1,M.atN s hd⟩) fun s x=>r.tail d s x else M.flt L (s.i+1) 1
 else if M.isM L s.i [[91]] then M.A3 (r.expr d s.nx) fun s' x=>M.A3 (M.need L s' [93]) fun s' _=>M.A3 (M.addN s' ⟨9,hd,x,0,[],[],0,-1,M.atN s hd⟩) fun s x=>r.tail d s x
 else if M.isM L s.i [[97,115]] then M.A3 (r.typ d s.nx) fun s' t=>M.A3 (M.addN s' ⟨14,hd,0,0,[],[],0,t,M.atN s hd⟩) fun s x=>r.tail d s x
 else some (.ok s hd)) o):M.Ev L (fun r=>r.tail d s hd) o:=M.Ev.step h
theorem A1a {φ:M.Sp->Option (M.Out Int)} {w':World} {er p:Int} (hk:Kept B ok w w') (hev:M.Ev L φ (.fail er p)) (he:er≠0):B1d w B pb tv L ok d s φ (gu er p) w':=⟨hk,_,hev,rfl,he⟩
theorem B3b (hL:LOk L) (m:Nat) (hE:∀m',m'<m->I7 B pb tv L 143 (fun d s r=>r.expr d s) m'):N3d B pb tv L m:=by
 intro w ok d s k hk hm hok hB h;have hs:=hL.short;have H0:=A0 h;have HEG:=A0 hE;have hfw:=h.few;clear h hE;go_enter Tryz.func189,Tryz.ntmps189;go_wp2_with fail
 go_loopw [1] (fun v wr=>∃(hd:Nat) (s':M.St),v=iV (hd:Int)/\hd<s'.N.length/\Hid (Kept B ok w wr)/\Hid (G0 s s')/\Hid (Pst wr B pb tv L ok d s')/\Hid (∀o,M.Ev L (fun r=>r.tail d s' (hd:Int)) o->M.Ev L (fun r=>r.tail d s (k:Int)) o)) (fun _ wr=>L.length - nxt wr pb)
 case atStart=>exact⟨k,s,rfl,hk,Kept.refl _ _ _,⟨Nat.le_refl _,by omega,by omega,by omega⟩,H0.out,fun _ x=>x⟩
 case round=>
  clear H0 hfw hk;obtain⟨hd,s',rfl,hhd,KR,GR,PR,VR⟩:=hrel;obtain⟨g,nc,c3,hc1,hc2,hg,hpl,c8⟩:=PR.out.nodeAt hhd;unfold maxLen at hc2;have hi:=PR.out.at';have hfew:=PR.out.few;have hnx:=PR.out.nxt;have hgr:=GR.out;simp only[G0]at hgr;have hwr:w.heap.size<=wr.heap.size:=KR.out.size;have VT:=A0 (fun o ho=>VR.out o (Y1c (s:=s') (hd:=(hd:Int)) ho));clear VR;generalize hpa:M.atN s' (hd:Int)=pa at *;clear hpa;have ha1:Chg No wr (wr.alloc (.cells #[iV 0,iV (hd:Int),iV 0,iV 0,sN,.string ⟨#[]⟩,iV 0,iV (-1),iV pa] 72)):=Chg.alloc _ _ _;have P1:=A0 (PR.out.chg (ok':=fun g=>ok g/\g≠wr.heap.size) ha1 (fun _ _ _ _ x=>x.elim) (fun g hg hl=>⟨hg,by omega⟩));have Q1:Hid ((wr.alloc (.cells #[iV 0,iV (hd:Int),iV 0,iV 0,sN,.string ⟨#[]⟩,iV 0,iV (-1),iV pa] 72)).heap[wr.heap.size]? =some (.cells #[iV 0,iV (hd:Int),iV 0,iV 0,sN,.string ⟨#[]⟩,iV 0,iV (-1),iV pa] 72 (0,0))):=heap_alloc_new wr _;have K1:=A0 (KR.out.alloc (.cells #[iV 0,iV (hd:Int),iV 0,iV 0,sN,.string ⟨#[]⟩,iV 0,iV (-1),iV pa] 72));have htok:tv.ownBlock≠some wr.heap.size:=PR.out.tokLt (Nat.le_refl _);have HT1:=A0 (F5 hL P1.out [40]);have PR0:=A0 PR.out;clear KR PR ha1 P1;generalize hq1:M.isM L s'.i [[40]]=q1 at *;generalize hq2:M.isM L s'.i [[46]]=q2 at *;generalize hq3:M.isM L s'.i [[91]]=q3 at *;generalize hq4:M.isM L s'.i [[97,115]]=q4 at *;have W1:=A0 (⟨hq1,hq2,hq3,hq4⟩:_/\_/\_/\_);clear hq1 hq2 hq3 hq4;go_wp2_with fail
  refine HT1.out.mono ?_;rintro e w2 ⟨rfl,k2,p2⟩;have K2:=A0 (K1.out.trans (k2.mono fun _ x=>x.1));have Q2:=A0 (I3 k2 Q1.out (fun x=>x.2 rfl));have hw2:wr.heap.size<w2.heap.size:=(ltG Q2.out);have P2:=A0 p2;clear k2 p2 HT1 K1 Q1;cases q1
  case true=>
   have P3:Hid (Pst w2 B pb tv L (fun g=>ok g/\g≠wr.heap.size) d s'.nx):=P2.out;have hi3:=P3.out.at';clear P2;have HL1:=A0 (Y4 (w:=w2) (ok:=(fun g=>ok g/\g≠wr.heap.size)) hL (L.length - s'.nx.i) (fun m' hm'=>HEG.out m' (by simp only[M.St.nx]at *;omega)) [41] (Nat.le_refl _) (fun g hg=>⟨hok g (by omega),by omega⟩) (by omega) P3.out);clear P3;go_wp2_with fail
   refine HL1.out.mono ?_;rintro e w3 ⟨k3,o,hev,hpost⟩;have K3:=A0 (K2.out.trans (k3.mono fun _ x=>x.1));have QQ:=A0 (I3 k3 Q2.out (fun x=>x.2 rfl));have E3:=A0 hev;have hw3:w2.heap.size<=w3.heap.size:=k3.size;clear k3 hev HL1 K2 Q2;cases o with
   |fail er p=>
    obtain⟨rfl,he⟩:=hpost;exact⟨rfl,A1a K3.out (VT.out _ ((M.Ev.bad (k:=fun r s' l=>M.A3 (M.addN s' (M.Nd.mk 7 (hd:Int) 0 0 l [] 0 (-1) pa)) fun s x=>r.tail d s x) E3.out).eq (fun r=>by simp))) he⟩
   |ok s3 l=>
    obtain⟨la,lc,rfl,ho3,hl3,hp3,hg3⟩:=hpost;have h3:=hg3;simp only[D6,M.St.nx]at h3;have EV:=A0 (fun o (ho:M.Ev L (fun r=>r.tail d ⟨s3.i,s3.N++[(M.Nd.mk 7 (hd:Int) 0 0 l [] 0 (-1) pa)],s3.T⟩ (s3.N.length:Int)) o)=>VT.out o ((M.Ev.bind E3.out (k:=fun r s' l=>M.A3 (M.addN s' (M.Nd.mk 7 (hd:Int) 0 0 l [] 0 (-1) pa)) fun s x=>r.tail d s x) (ho.eq (fun r=>rfl))).eq (fun r=>by simp)));have hc5:Chg (fun k=>k=wr.heap.size) w3 ((w3.setCell (aD wr.heap.size 0) (iV 7)).setCell (aD wr.heap.size 4) (.slice la l.length lc)):=((Chg.set w3 (aD wr.heap.size 0) (iV 7)).trans (Chg.set _ (aD wr.heap.size 4) (.slice la l.length lc)) (fun _ _ x=>x));have PP:=A0 (hp3.free (ok':=ok) hc5 (fun k hk=>⟨fun x=>x.2 hk,by rw[show k=wr.heap.size from hk];exact htok⟩) (fun g hg _=>hg.1));have O5:=A0 (A8 ho3 hc5 (fun g hg x=>by
     have x':g=wr.heap.size:=x;have:=(A9 ho3 g hg).1
     omega))
    have KK:=A0 (K3.out.trans' hc5 (fun i hi x=>by have x':i=wr.heap.size:=x;omega));have q0':w3.cell? (aD wr.heap.size 0)=some (iV 0):=cr QQ.out rfl;have q1':w3.cell? (aD wr.heap.size 1)=some (iV (hd:Int)):=cr QQ.out rfl;have q2':w3.cell? (aD wr.heap.size 2)=some (iV 0):=cr QQ.out rfl;have q3':w3.cell? (aD wr.heap.size 3)=some (iV 0):=cr QQ.out rfl;have q4':w3.cell? (aD wr.heap.size 4)=some (sN):=cr QQ.out rfl;have q5':w3.cell? (aD wr.heap.size 5)=some (.string ⟨#[]⟩):=cr QQ.out rfl;have q6':w3.cell? (aD wr.heap.size 6)=some (iV 0):=cr QQ.out rfl;have q7':w3.cell? (aD wr.heap.size 7)=some (iV (-1)):=cr QQ.out rfl;have q8':w3.cell? (aD wr.heap.size 8)=some (iV pa):=cr QQ.out rfl;have z0':=frozen_of_row w3 wr.heap.size 0 _ _ QQ.out;have z4':=frozen_of_row w3 wr.heap.size 4 _ _ QQ.out;have zl':=(ltG QQ.out);clear hp3 hg3 ho3 hc5 E3 QQ K3;have HA:=A0 (L9 hL PP.out (M.Nd.mk 7 (hd:Int) 0 0 l [] 0 (-1) pa) la l.length lc ⟨_,rfl,C9 O5.out (Nat.zero_le _),fun g hg=>hok g (by have:=(A9 O5.out g hg).1;omega)⟩ (by omega) (by have:=KK.out.size;omega) (fun g hg=>hok g (by have:=KK.out.size;omega)));clear PP;go_wp2_with fail
    refine HA.out.mono ?_;rintro e w6 ⟨rfl,k6,p6⟩;have K6:=A0 (KK.out.trans k6);have P6:=A0 p6;clear k6 p6 HA KK;go_wp2;go_roundw
    case rel=>exact⟨s3.N.length,⟨s3.i,s3.N++[(M.Nd.mk 7 (hd:Int) 0 0 l [] 0 (-1) pa)],s3.T⟩,rfl,by simp,K6.out,(show G0 s _ from by simp only[G0,List.length_append,List.length_cons,List.length_nil];omega),P6.out,EV.out⟩
    case measure=>
     have h4:=P6.out.nxt;rw[h4,hnx];simp only;omega
  case false=>
   have PXw2b:Hid (Pst w2 B pb tv L (fun g=>ok g/\g≠wr.heap.size) d s'):=P2.out;clear P2;have HT2:=F5 hL PXw2b.out [46];rw[W1.out.2.1]at HT2;have HT3:=A0 HT2;clear HT2 PXw2b;go_wp2_with fail
   refine HT3.out.mono ?_;rintro e w2b ⟨rfl,k2,p2⟩;have hsw2b:w2.heap.size<=w2b.heap.size:=k2.size;have K2':=A0 (K2.out.trans (k2.mono fun _ x=>x.1));have Q2':=A0 (I3 k2 Q2.out (fun x=>x.2 rfl));clear K2 Q2;have K2:=A0 K2'.out;have Q2:=A0 Q2'.out;have P2:=A0 p2;clear k2 p2 HT3 K2' Q2';cases q2
   case true=>
    have P3:Hid (Pst w2b B pb tv L (fun g=>ok g/\g≠wr.heap.size) d s'.nx):=P2.out;have hi3:=P3.out.at';clear P2;have HN1:=A0 (N0a hL P3.out);have etk:M.tk L s'.nx.i=M.tk L (s'.i+1):=rfl;rw[etk]at HN1;clear P3 etk;have VT2:=A0 (fun o (ho:M.Ev L (fun r=>if (M.tk L (s'.i+1)).kind=1 then M.A3 (M.addN s'.nx.nx (M.Nd.mk 8 (hd:Int) 0 0 [] (M.tk L (s'.i+1)).text 0 (-1) pa)) fun s x=>r.tail d s x else M.flt L (s'.i+1) 1) o)=>VT.out o (ho.eq (fun r=>by simp)));clear VT;go_wp2_with fail
    refine HN1.out.mono ?_;rintro e w3 ⟨k3,hpost⟩;have K3:=A0 (K2.out.trans (k3.mono fun _ x=>x.1));have QQ:=A0 (I3 k3 Q2.out (fun x=>x.2 rfl));have hw3:w2b.heap.size<=w3.heap.size:=k3.size;clear k3 HN1 K2 Q2;rcases hpost with ⟨hkd,rfl,hp3⟩|⟨hkd,rfl⟩
    · have EV0:=A0 (fun o (ho:M.Ev L (fun r=>r.tail d ⟨s'.nx.nx.i,s'.nx.nx.N++[M.Nd.mk 8 (hd:Int) 0 0 [] (M.tk L (s'.i+1)).text 0 (-1) pa],s'.nx.nx.T⟩ (s'.nx.nx.N.length:Int)) o)=>VT2.out o (ho.eq (fun r=>by rw[if_pos hkd];rfl)));generalize (M.tk L (s'.i+1)).text=tx at *;have EV:=A0 EV0.out;clear EV0 VT2;have hi5:=hp3.at';simp only[M.St.nx]at hi5;have hc5:Chg (fun k=>k=wr.heap.size) w3 ((w3.setCell (aD wr.heap.size 0) (iV 8)).setCell (aD wr.heap.size 5) (.string ⟨tx.toArray⟩)):=((Chg.set w3 (aD wr.heap.size 0) (iV 8)).trans (Chg.set _ (aD wr.heap.size 5) (.string ⟨tx.toArray⟩)) (fun _ _ x=>x));have PP:=A0 (hp3.free (ok':=ok) hc5 (fun k hk=>⟨fun x=>x.2 hk,by rw[show k=wr.heap.size from hk];exact htok⟩) (fun g hg _=>hg.1));have KK:=A0 (K3.out.trans' hc5 (fun i hi x=>by have x':i=wr.heap.size:=x;omega));have q0':w3.cell? (aD wr.heap.size 0)=some (iV 0):=cr QQ.out rfl;have q1':w3.cell? (aD wr.heap.size 1)=some (iV (hd:Int)):=cr QQ.out rfl;have q2':w3.cell? (aD wr.heap.size 2)=some (iV 0):=cr QQ.out rfl;have q3':w3.cell? (aD wr.heap.size 3)=some (iV 0):=cr QQ.out rfl;have q4':w3.cell? (aD wr.heap.size 4)=some (sN):=cr QQ.out rfl;have q5':w3.cell? (aD wr.heap.size 5)=some (.string ⟨#[]⟩):=cr QQ.out rfl;have q6':w3.cell? (aD wr.heap.size 6)=some (iV 0):=cr QQ.out rfl;have q7':w3.cell? (aD wr.heap.size 7)=some (iV (-1)):=cr QQ.out rfl;have q8':w3.cell? (aD wr.heap.size 8)=some (iV pa):=cr QQ.out rfl;have z0':=frozen_of_row w3 wr.heap.size 0 _ _ QQ.out;have z5':=frozen_of_row w3 wr.heap.size 5 _ _ QQ.out;have zl':=(ltG QQ.out);clear hp3 hc5 QQ K3;have HA:=A0 (L9 hL PP.out (M.Nd.mk 8 (hd:Int) 0 0 [] tx 0 (-1) pa) none 0 0 ⟨_,rfl,World.ownsRow_nil _ _ _ _,by simp[Value.ownBlock]⟩ (by simp only[M.St.nx];omega) (by have:=KK.out.size;omega) (fun g hg=>hok g (by have:=KK.out.size;omega)));clear PP;go_wp2_with fail
      refine HA.out.mono ?_;rintro e w6 ⟨rfl,k6,p6⟩;have K6:=A0 (KK.out.trans k6);have P6:=A0 p6;clear k6 p6 HA KK;go_wp2;go_roundw
      case rel=>exact⟨s'.nx.nx.N.length,⟨s'.nx.nx.i,s'.nx.nx.N++[(M.Nd.mk 8 (hd:Int) 0 0 [] tx 0 (-1) pa)],s'.nx.nx.T⟩,rfl,by simp,K6.out,(show G0 s _ from by simp only[G0,M.St.nx,List.length_append,List.length_cons,List.length_nil];omega),P6.out,EV.out⟩
      case measure=>
       have h4:=P6.out.nxt;rw[h4,hnx];simp only[M.St.nx];omega
    · exact⟨rfl,A1a K3.out (VT2.out _ (M.Ev.pure.eq (fun r=>by rw[if_neg hkd];rfl))) (by decide)⟩
   case false=>
    have PXw2c:Hid (Pst w2b B pb tv L (fun g=>ok g/\g≠wr.heap.size) d s'):=P2.out;clear P2;have HT2:=F5 hL PXw2c.out [91];rw[W1.out.2.2.1]at HT2;have HT3:=A0 HT2;clear HT2 PXw2c;go_wp2_with fail
    refine HT3.out.mono ?_;rintro e w2c ⟨rfl,k2,p2⟩;have hsw2c:w2b.heap.size<=w2c.heap.size:=k2.size;have K2':=A0 (K2.out.trans (k2.mono fun _ x=>x.1));have Q2':=A0 (I3 k2 Q2.out (fun x=>x.2 rfl));clear K2 Q2;have K2:=A0 K2'.out;have Q2:=A0 Q2'.out;have P2:=A0 p2;clear k2 p2 HT3 K2' Q2';cases q3
    case true=>
     have P3:Hid (Pst w2c B pb tv L (fun g=>ok g/\g≠wr.heap.size) d s'.nx):=P2.out;have hi3:=P3.out.at';clear P2;have HX1:=A0 (HEG.out (L.length - s'.nx.i) (by simp only[M.St.nx]at *;omega) w2c (fun g=>ok g/\g≠wr.heap.size) d s'.nx (Nat.le_refl _) (fun g hg=>⟨hok g (by omega),by omega⟩) (by omega) P3.out);clear P3;go_wp2_with fail
     refine HX1.out.mono ?_;rintro e w3 ⟨k3,o,hev,hpost⟩;have K3:=A0 (K2.out.trans (k3.mono fun _ x=>x.1));have QQ:=A0 (I3 k3 Q2.out (fun x=>x.2 rfl));have E3:=A0 hev;have hw3:w2c.heap.size<=w3.heap.size:=k3.size;clear k3 hev HX1 K2 Q2;cases o with
     |fail er p=>
      obtain⟨rfl,he⟩:=hpost;exact⟨rfl,A1a K3.out (VT.out _ ((M.Ev.bad (k:=fun r s' x=>M.A3 (M.need L s' [93]) fun s' _=>M.A3 (M.addN s' (M.Nd.mk 9 (hd:Int) x 0 [] [] 0 (-1) pa)) fun s x=>r.tail d s x) E3.out).eq (fun r=>by simp))) he⟩
     |ok s3 x=>
      obtain⟨rfl,hp3,hg3,hx3⟩:=hpost;have h3:=hg3;simp only[D6,M.St.nx]at h3;have VN:=A0 (fun o (ho:M.Ev L (fun r=>(fun r s' x=>M.A3 (M.need L s' [93]) fun s' _=>M.A3 (M.addN s' (M.Nd.mk 9 (hd:Int) x 0 [] [] 0 (-1) pa)) fun s x=>r.tail d s x) r s3 x) o)=>VT.out o ((M.Ev.bind E3.out (k:=fun r s' x=>M.A3 (M.need L s' [93]) fun s' _=>M.A3 (M.addN s' (M.Nd.mk 9 (hd:Int) x 0 [] [] 0 (-1) pa)) fun s x=>r.tail d s x) ho).eq (fun r=>by simp)));clear VT E3;have hc5:Chg (fun k=>k=wr.heap.size) w3 ((w3.setCell (aD wr.heap.size 0) (iV 9)).setCell (aD wr.heap.size 2) (iV x)):=((Chg.set w3 (aD wr.heap.size 0) (iV 9)).trans (Chg.set _ (aD wr.heap.size 2) (iV x)) (fun _ _ x=>x));have PP1:=A0 (hp3.free (ok':=(fun g=>ok g/\g≠wr.heap.size)) hc5 (fun k hk=>⟨fun x=>x.2 hk,by rw[show k=wr.heap.size from hk];exact htok⟩) (fun g hg _=>hg));have KK1:=A0 (K3.out.trans' hc5 (fun i hi x=>by have x':i=wr.heap.size:=x;omega));have QQ1:Hid (((w3.setCell (aD wr.heap.size 0) (iV 9)).setCell (aD wr.heap.size 2) (iV x)).heap[wr.heap.size]? =some (.cells #[iV 9,iV (hd:Int),iV x,iV 0,sN,.string ⟨#[]⟩,iV 0,iV (-1),iV pa] 72 (0,0))):=by
       show _=_;have h1:=heap_setCell_same w3 wr.heap.size 0 _ _ (iV 9) QQ.out;rw[heap_setCell_same _ wr.heap.size 2 _ _ (iV x) h1];rfl
      have q0':w3.cell? (aD wr.heap.size 0)=some (iV 0):=cr QQ.out rfl;have q1':w3.cell? (aD wr.heap.size 1)=some (iV (hd:Int)):=cr QQ.out rfl;have q2':w3.cell? (aD wr.heap.size 2)=some (iV 0):=cr QQ.out rfl;have q3':w3.cell? (aD wr.heap.size 3)=some (iV 0):=cr QQ.out rfl;have q4':w3.cell? (aD wr.heap.size 4)=some (sN):=cr QQ.out rfl;have q5':w3.cell? (aD wr.heap.size 5)=some (.string ⟨#[]⟩):=cr QQ.out rfl;have q6':w3.cell? (aD wr.heap.size 6)=some (iV 0):=cr QQ.out rfl;have q7':w3.cell? (aD wr.heap.size 7)=some (iV (-1)):=cr QQ.out rfl;have q8':w3.cell? (aD wr.heap.size 8)=some (iV pa):=cr QQ.out rfl;have z0':=frozen_of_row w3 wr.heap.size 0 _ _ QQ.out;have z2':=frozen_of_row w3 wr.heap.size 2 _ _ QQ.out;have zl':=(ltG QQ.out);have HN:=A0 (G5 hL PP1.out [93]);clear hp3 hc5 QQ K3 PP1;go_wp2_with fail
      refine HN.out.mono ?_;rintro e w4 ⟨k4,hpost⟩;have KK:=A0 (KK1.out.trans (k4.mono fun _ x=>x.1));have Q4:=A0 (I3 k4 QQ1.out (fun x=>x.2 rfl));have hw4:w3.heap.size<=w4.heap.size:=by have:=k4.size;simpa using this
      clear k4 KK1 QQ1 HN;rcases hpost with ⟨hq,rfl,hp4⟩|⟨hq,rfl⟩
      · have hi4:=hp4.at';have PP:=A0 (hp4.mono (ok':=ok) (fun g hg _=>hg.1));have EV:=A0 (fun o (ho:M.Ev L (fun r=>r.tail d ⟨s3.nx.i,s3.nx.N++[(M.Nd.mk 9 (hd:Int) x 0 [] [] 0 (-1) pa)],s3.nx.T⟩ (s3.nx.N.length:Int)) o)=>VN.out o (ho.eq (fun r=>by simp only[M.need,hq,if_true];rfl)));clear VN hp4;simp only[M.St.nx]at hi4;have a0:w4.cell? (aD wr.heap.size 0)=some (iV 9):=cr Q4.out rfl;have a1:w4.cell? (aD wr.heap.size 1)=some (iV (hd:Int)):=cr Q4.out rfl;have a2:w4.cell? (aD wr.heap.size 2)=some (iV x):=cr Q4.out rfl;have a3:w4.cell? (aD wr.heap.size 3)=some (iV 0):=cr Q4.out rfl;have a4:w4.cell? (aD wr.heap.size 4)=some (sN):=cr Q4.out rfl;have a5:w4.cell? (aD wr.heap.size 5)=some (.string ⟨#[]⟩):=cr Q4.out rfl;have a6:w4.cell? (aD wr.heap.size 6)=some (iV 0):=cr Q4.out rfl;have a7:w4.cell? (aD wr.heap.size 7)=some (iV (-1)):=cr Q4.out rfl;have a8:w4.cell? (aD wr.heap.size 8)=some (iV pa):=cr Q4.out rfl;have a9:=(ltG Q4.out);have HA:=A0 (L9 hL PP.out (M.Nd.mk 9 (hd:Int) x 0 [] [] 0 (-1) pa) none 0 0 ⟨_,rfl,World.ownsRow_nil _ _ _ _,by simp[Value.ownBlock]⟩ (by simp only[M.St.nx];omega) (by have:=KK.out.size;omega) (fun g hg=>hok g (by have:=KK.out.size;omega)));clear PP;go_wp2_with fail
        refine HA.out.mono ?_;rintro e w6 ⟨rfl,k6,p6⟩;have K6:=A0 (KK.out.trans k6);have P6:=A0 p6;clear k6 p6 HA KK;go_wp2;go_roundw
        case rel=>exact⟨s3.nx.N.length,⟨s3.nx.i,s3.nx.N++[(M.Nd.mk 9 (hd:Int) x 0 [] [] 0 (-1) pa)],s3.nx.T⟩,rfl,by simp,K6.out,(show G0 s _ from by simp only[G0,M.St.nx,List.length_append,List.length_cons,List.length_nil];omega),P6.out,EV.out⟩
        case measure=>
         have h4:=P6.out.nxt;rw[h4,hnx];simp only[M.St.nx];omega
      · exact⟨rfl,A1a KK.out (VN.out _ (M.Ev.pure.eq (fun r=>by simp only[M.need,hq];rfl))) (by decide)⟩
    case false=>
     have PXw2d:Hid (Pst w2c B pb tv L (fun g=>ok g/\g≠wr.heap.size) d s'):=P2.out;clear P2;have HT2:=F5 hL PXw2d.out [97,115];rw[W1.out.2.2.2]at HT2;have HT3:=A0 HT2;clear HT2 PXw2d;go_wp2_with fail
     refine HT3.out.mono ?_;rintro e w2d ⟨rfl,k2,p2⟩;have hsw2d:w2c.heap.size<=w2d.heap.size:=k2.size;have K2':=A0 (K2.out.trans (k2.mono fun _ x=>x.1));have Q2':=A0 (I3 k2 Q2.out (fun x=>x.2 rfl));clear K2 Q2;have K2:=A0 K2'.out;have Q2:=A0 Q2'.out;have P2:=A0 p2;clear k2 p2 HT3 K2' Q2';cases q4
     case true=>
      have P3:Hid (Pst w2d B pb tv L (fun g=>ok g/\g≠wr.heap.size) d s'.nx):=P2.out;have hi3:=P3.out.at';clear P2;have HX1:=A0 (U6b (B:=B) (pb:=pb) (tv:=tv) hL (L.length - s'.nx.i) w2d (fun g=>ok g/\g≠wr.heap.size) d s'.nx (Nat.le_refl _) (fun g hg=>⟨hok g (by omega),by omega⟩) (by omega) P3.out);clear P3;go_wp2_with fail
      refine HX1.out.mono ?_;rintro e w3 ⟨k3,o,hev,hpost⟩;have K3:=A0 (K2.out.trans (k3.mono fun _ x=>x.1));have QQ:=A0 (I3 k3 Q2.out (fun x=>x.2 rfl));have E3:=A0 hev;have hw3:w2d.heap.size<=w3.heap.size:=k3.size;clear k3 hev HX1 K2 Q2;cases o with
      |fail er p=>
       obtain⟨rfl,he⟩:=hpost;exact⟨rfl,A1a K3.out (VT.out _ ((M.Ev.bad (k:=fun r s' t=>M.A3 (M.addN s' (M.Nd.mk 14 (hd:Int) 0 0 [] [] 0 t pa)) fun s x=>r.tail d s x) E3.out).eq (fun r=>by simp))) he⟩
      |ok s3 x=>
       obtain⟨rfl,hp3,hg3⟩:=hpost;have h3:=hg3;simp only[D6,M.St.nx]at h3;have EV:=A0 (fun o (ho:M.Ev L (fun r=>r.tail d ⟨s3.i,s3.N++[(M.Nd.mk 14 (hd:Int) 0 0 [] [] 0 x pa)],s3.T⟩ (s3.N.length:Int)) o)=>VT.out o ((M.Ev.bind E3.out (k:=fun r s' t=>M.A3 (M.addN s' (M.Nd.mk 14 (hd:Int) 0 0 [] [] 0 t pa)) fun s x=>r.tail d s x) (ho.eq (fun r=>rfl))).eq (fun r=>by simp)));have hc5:Chg (fun k=>k=wr.heap.size) w3 ((w3.setCell (aD wr.heap.size 0) (iV 14)).setCell (aD wr.heap.size 7) (iV x)):=((Chg.set w3 (aD wr.heap.size 0) (iV 14)).trans (Chg.set _ (aD wr.heap.size 7) (iV x)) (fun _ _ x=>x));have PP:=A0 (hp3.free (ok':=ok) hc5 (fun k hk=>⟨fun x=>x.2 hk,by rw[show k=wr.heap.size from hk];exact htok⟩) (fun g hg _=>hg.1));have KK:=A0 (K3.out.trans' hc5 (fun i hi x=>by have x':i=wr.heap.size:=x;omega));have q0':w3.cell? (aD wr.heap.size 0)=some (iV 0):=cr QQ.out rfl;have q1':w3.cell? (aD wr.heap.size 1)=some (iV (hd:Int)):=cr QQ.out rfl;have q2':w3.cell? (aD wr.heap.size 2)=some (iV 0):=cr QQ.out rfl;have q3':w3.cell? (aD wr.heap.size 3)=some (iV 0):=cr QQ.out rfl;have q4':w3.cell? (aD wr.heap.size 4)=some (sN):=cr QQ.out rfl;have q5':w3.cell? (aD wr.heap.size 5)=some (.string ⟨#[]⟩):=cr QQ.out rfl;have q6':w3.cell? (aD wr.heap.size 6)=some (iV 0):=cr QQ.out rfl;have q7':w3.cell? (aD wr.heap.size 7)=some (iV (-1)):=cr QQ.out rfl;have q8':w3.cell? (aD wr.heap.size 8)=some (iV pa):=cr QQ.out rfl;have z0':=frozen_of_row w3 wr.heap.size 0 _ _ QQ.out;have z7':=frozen_of_row w3 wr.heap.size 7 _ _ QQ.out;have zl':=(ltG QQ.out);clear hp3 hg3 hc5 E3 QQ K3;have HA:=A0 (L9 hL PP.out (M.Nd.mk 14 (hd:Int) 0 0 [] [] 0 x pa) none 0 0 ⟨_,rfl,World.ownsRow_nil _ _ _ _,by simp[Value.ownBlock]⟩ (by omega) (by have:=KK.out.size;omega) (fun g hg=>hok g (by have:=KK.out.size;omega)));clear PP;go_wp2_with fail
       refine HA.out.mono ?_;rintro e w6 ⟨rfl,k6,p6⟩;have K6:=A0 (KK.out.trans k6);have P6:=A0 p6;clear k6 p6 HA KK;go_wp2;go_roundw
       case rel=>exact⟨s3.N.length,⟨s3.i,s3.N++[(M.Nd.mk 14 (hd:Int) 0 0 [] [] 0 x pa)],s3.T⟩,rfl,by simp,K6.out,(show G0 s _ from by simp only[G0,List.length_append,List.length_cons,List.length_nil];omega),P6.out,EV.out⟩
       case measure=>
        have h4:=P6.out.nxt;rw[h4,hnx];simp only;omega
     case false=>
      have PE:Hid (Pst w2d B pb tv L (fun g=>ok g/\g≠wr.heap.size) d s'):=P2.out;have PF:=A0 (PE.out.mono (ok':=ok) (fun g hg _=>hg.1));have EE:=A0 (VT.out (.ok s' (hd:Int)) (M.Ev.pure.eq (fun r=>by simp)));have GE:=A0 GR.out;clear P2 PE;go_wp2_with fail
      go_ret;exact⟨K2.out,_,EE.out,rfl,PF.out,GE.out,by omega,by omega⟩
end
end Go.Proofs.YtgdnpemiiageaaaGreatDoor
