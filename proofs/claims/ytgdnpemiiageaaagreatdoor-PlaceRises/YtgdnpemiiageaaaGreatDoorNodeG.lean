/-
  A part of the proof.
-/
import Derived.Test.YtgdnpemiiageaaaGreatDoorNodeD
set_option maxHeartbeats 16000000
set_option maxRecDepth 100000
namespace Go.Proofs.YtgdnpemiiageaaaGreatDoor
open Go.RowKit
section
variable {B pb:Nat} {tv:Value} {L:List M.Tk}
theorem KeptS.andThen {ok:Nat->Prop} {lo:Nat} {a b c:World} (h:KeptS B ok lo a b) (k:Kept B ok b c):KeptS B ok lo a c:=by
 refine⟨k.os.trans h.os,k.tape.trans h.tape,k.output.trans h.output,Nat.le_trans h.size k.size,fun i hi hn=> ?_⟩;have h1:=h.block i hi hn;refine(k.block i (Nat.lt_of_lt_of_le hi h.size) (fun x=>hn ?_)).trans h1;obtain⟨x1,⟨cs,e,fz,hh,r⟩,x3⟩:=x;exact .inl ⟨x1,⟨cs,e,fz,by rw[<-h1];exact hh,r⟩,x3⟩
theorem F6a {ok:Nat->Prop} {lo:Nat} {w w':World} {q:Nat} {cs:Array Value} {e:TypeId} (hk:KeptS B ok lo w w') (h:w.heap[q]? =some (.cells cs e (0,0))) (he:e≠96/\e≠72/\e≠68/\e≠148/\e≠9):w'.heap[q]? =some (.cells cs e (0,0)):=by
 refine(hk.block q (ltG h) (fun hx=> ?_)).trans h;have key:∀cs' e' fz,w.heap[q]? =some (.cells cs' e' fz)->e'=e:=by
  intro cs' e' fz hh';rw[h]at hh';simp only[Option.some.injEq,Obj.cells.injEq]at hh';exact hh'.2.1.symm
 rcases hx with ⟨_,⟨cs',e',fz,hh',r⟩,_⟩|⟨_,cs',e',fz,hh',r⟩
 · have:=key _ _ _ hh';subst this;rcases r with r|r|r
   · exact he.1 r
   · exact he.2.1 r
   · exact he.2.2.1 r
 · have:=key _ _ _ hh';subst this;rcases r with r|r
   · exact he.2.2.2.1 r
   · exact he.2.2.2.2 r
def L6a (w:World) (B pb:Nat) (tv:Value) (L:List M.Tk) (ok:Nat->Prop) (d:Nat) (s:M.St) (lo nb:Nat) (φ:M.Sp->Option (M.Out (Int×List (List UInt8)))) (e:Ending) (w':World):Prop:=
 KeptS B ok lo w w'/\∃o,M.Ev L φ o/\match o with
  | .ok s' x=>e= .returned (iV x.1)/\Nms w' lo nb x.2/\Pst w' B pb tv L ok d s'/\D6 s s'
  | .fail er p=>e=gu er p/\er≠0
theorem J2b (hL:LOk L) (m:Nat) (hE:∀m',m'<=m->I7 B pb tv L 143 (fun d s r=>r.expr d s) m') (w:World) (ok:Nat->Prop) (d:Nat) (s:M.St) (lo nb bx:Nat) (names:List (List UInt8)) (hbx:w.heap[bx]? =some (.cells #[pV pb] 94 (0,0))) (hn:Nms w lo nb names) (hl:names.length<=1001) (hlo:lo<=w.heap.size) (hm:L.length - s.i<=m) (hok:∀g,w.heap.size<=g->ok g) (hB:B<=w.heap.size) (h:Pst w B pb tv L ok d s):
 Calls Tryz.prog 197 #[pV bx,pV nb] w (L6a w B pb tv L ok d s lo nb (fun r=>M.part L r d s names .obj)):=by
 have hi:=h.at';have hs:=hL.short;have hfw:=h.few;have hlx:=(ltG hbx);have BX:Hid (∀a,Chg No w a->a.heap[bx]? =some (.cells #[pV pb] 94 (0,0))):=fun a ha=>(ha.block bx hlx (fun x=>x)).trans hbx;have cb0:w.cell? (aD bx 0)=some (pV pb):=cr hbx rfl;have HA:Hid (∀a,Chg No w a->Calls Tryz.prog 87 #[pV pb] a fun e w'=>e= .returned (iV ((M.tk L s.i).at':Int))/\Hid (Chg No w w')/\w'.cell? (aD bx 0)=some (pV pb)):=fun a ha=>(N7a hL (h.still ha)).mono (by
  rintro e w' ⟨he,hc⟩;have hc2:=ha.trans hc (fun _ _ x=>x);exact⟨he,hc2,cr (BX.out w' hc2) rfl⟩)
 have V:Hid (∀o,M.Ev L (fun r=>M.A3 (M.newName L s names) fun s1 nm=>M.A3 (M.need L s1 [58]) fun s2 _=>M.A3 (r.expr d s2) fun s3 x=>M.A3 (M.addN s3 (M.Nd.mk 15 x 0 0 [] nm 0 (-1) ((M.tk L s.i).at':Int))) fun s4 y=>some (.ok s4 (y,names++[nm]))) o->M.Ev L (fun r=>M.part L r d s names .obj) o):=fun o ho=>ho;have HN:Hid (∀a,Chg No w a->Calls Tryz.prog 186 #[pV pb,pV nb] a fun e w'=>
  (∃er p,e=gu er p/\Hid (L6a w B pb tv L ok d s lo nb (fun r=>M.part L r d s names .obj) (gu er p) w'))\/
  (∃s1 nm,e= .returned (.string ⟨nm.toArray⟩)/\Hid (M.newName L s names=some (.ok s1 nm))/\KeptS B ok lo a w'/\Nms w' lo nb (names++[nm])/\Pst w' B pb tv L ok d s1)):=by
  intro a ha;refine(F4a hL (h.still ha) lo nb names (hn.chg ha (fun _ _ _ _ x=>x.elim)) hl (Nat.le_trans hlo ha.size)).mono ?_;rintro e w' ⟨hk,hr⟩;rcases hnn:M.newName L s names with _|⟨s1,nm⟩|⟨er,p⟩
  · rw[hnn]at hr;exact hr.elim
  · rw[hnn]at hr;exact .inr ⟨s1,nm,hr.1,A0 rfl,hk,hr.2.1,hr.2.2⟩
  · rw[hnn]at hr;have her:er≠0:=by
     unfold M.newName M.flt at hnn;split at hnn
     · split at hnn
       · simp at hnn;omega
       · simp at hnn
     · simp at hnn;omega
    exact .inl ⟨er,p,hr,KeptS.after (B8 ha) hk,_,V.out _ (M.Ev.bad (M.Ev.pure.eq (fun r=>hnn))),rfl,her⟩
 clear h hn hbx;generalize ((M.tk L s.i).at':Int)=at0 at *;go_enter Tryz.func197,Tryz.ntmps197;go_wp2_with fail
 go_region_with (first|(go_at_call 87;refine(HA.out _ (Chg.drewN _ _ 1)).mono ?_;rintro e w1 ⟨rfl,hc,cb1⟩)|(go_at_call 186;refine(HN.out _ (Hid.out (by assumption))).mono ?_;rintro e w2 (⟨er,p,rfl,HF⟩|⟨s1,nm,rfl,hnn,hk2,hn2,hp2⟩);exact⟨rfl,HF.out⟩))
 all_goals
  have K2:=A0 (KeptS.after (B8 (Hid.out hc)) hk2);have hb2:=F6a hk2 (BX.out w1 (Hid.out hc)) (by decide);have cb2:w2.cell? (aD bx 0)=some (pV pb):=cr hb2 rfl;have HD:=A0 (G5 hL hp2 [58]);have N2:=A0 hn2;have V2:=A0 (fun o (ho:M.Ev L (fun r=>M.A3 (M.need L s1 [58]) fun s2 (_:Unit)=>M.A3 (r.expr d s2) fun s3 x=>M.A3 (M.addN s3 (M.Nd.mk 15 x 0 0 [] nm 0 (-1) at0)) fun s4 y=>some (.ok s4 (y,names++[nm]))) o)=>V.out o (M.Ev.bind (k:=fun r s1 nm=>M.A3 (M.need L s1 [58]) fun s2 _=>M.A3 (r.expr d s2) fun s3 x=>M.A3 (M.addN s3 (M.Nd.mk 15 x 0 0 [] nm 0 (-1) at0)) fun s4 y=>some (.ok s4 (y,names++[nm]))) (M.Ev.pure.eq (fun r=>Hid.out hnn)) ho));have hs1:s1=s.nx:=newName_ok (Hid.out hnn);have B2:=A0 hb2;clear hk2 hp2 hn2 hc cb0 cb1 HA HN V BX hb2;go_wp2_with fail
  refine HD.out.mono ?_;rintro e w3 ⟨hk3,hr⟩;have K3:=A0 (K2.out.andThen hk3);have N3:=A0 (N2.out.kept hk3);have B3:=A0 (U9 hk3 B2.out (by decide));clear hk3 K2 N2 B2 HD cb2;rcases hr with ⟨hb,rfl,hp⟩|⟨hb,rfl⟩
  case inr=>exact⟨rfl,K3.out,_,V2.out _ (M.Ev.bad (O9 hb)),rfl,by decide⟩
  have V3:=A0 (fun o (ho:M.Ev L (fun r=>M.A3 (r.expr d s1.nx) fun s3 x=>M.A3 (M.addN s3 (M.Nd.mk 15 x 0 0 [] nm 0 (-1) at0)) fun s4 y=>some (.ok s4 (y,names++[nm]))) o)=>V2.out o (M.Ev.bind (k:=fun r s2 (_:Unit)=>M.A3 (r.expr d s2) fun s3 x=>M.A3 (M.addN s3 (M.Nd.mk 15 x 0 0 [] nm 0 (-1) at0)) fun s4 y=>some (.ok s4 (y,names++[nm]))) (K8 hb) ho));have hi3:=hp.at';have cb3:w3.cell? (aD bx 0)=some (pV pb):=cr B3.out rfl;have HX:Hid (∀a,Chg No w3 a->Calls Tryz.prog 143 #[pV pb] a fun e w4=>
   (∃er p,e=gu er p/\Hid (L6a w B pb tv L ok d s lo nb (fun r=>M.part L r d s names .obj) (gu er p) w4))\/
   (∃s4 x,e= .returned (iV x)/\w4.cell? (aD bx 0)=some (pV pb)/\Hid (KeptS B ok lo w w4/\Nms w4 lo nb (names++[nm])/\Pst w4 B pb tv L ok d s4/\D6 s1.nx s4/\M.Ev L (fun r=>M.part L r d s names .obj) (.ok ⟨s4.i,s4.N++[(M.Nd.mk 15 x 0 0 [] nm 0 (-1) at0)],s4.T⟩ ((s4.N.length:Int),names++[nm]))))):=by
   intro a ha;refine(hE (L.length - s1.nx.i) (by rw[hs1];simp only[M.St.nx];omega) a ok d s1.nx (Nat.le_refl _) (fun g hg=>hok g (Nat.le_trans K3.out.size (Nat.le_trans ha.size hg))) (Nat.le_trans hB (Nat.le_trans K3.out.size ha.size)) (hp.still ha)).mono ?_;rintro e w4 ⟨k4,o,hev,hpost⟩;have k34:Kept B ok w3 w4:=(B8 ha).trans k4;cases o with
   |fail er p=>
    obtain⟨rfl,he⟩:=hpost;exact .inl ⟨er,p,rfl,K3.out.andThen k34,_,V3.out _ (M.Ev.bad hev),rfl,he⟩
   |ok s4 x=>
    obtain⟨rfl,hp4,hg4,hx4⟩:=hpost;refine .inr ⟨s4,x,rfl,by rw[cell_of_row w4 bx 0 _ _ _ (U9 k34 B3.out (by decide))];rfl,K3.out.andThen k34,N3.out.kept k34,hp4,hg4,V3.out _ (M.Ev.bind (k:=fun r s3 x=>M.A3 (M.addN s3 (M.Nd.mk 15 x 0 0 [] nm 0 (-1) at0)) fun s4 y=>some (.ok s4 (y,names++[nm]))) hev (M.Ev.pure.eq (fun r=>rfl)))⟩
  have HY:Hid (∀w4 s4 x,KeptS B ok lo w w4/\Nms w4 lo nb (names++[nm])/\Pst w4 B pb tv L ok d s4/\D6 s1.nx s4/\M.Ev L (fun r=>M.part L r d s names .obj) (.ok ⟨s4.i,s4.N++[(M.Nd.mk 15 x 0 0 [] nm 0 (-1) at0)],s4.T⟩ ((s4.N.length:Int),names++[nm]))->Calls Tryz.prog 56 #[pV pb,.agg #[iV 15,iV x,iV 0,iV 0,sN,.string ⟨nm.toArray⟩,iV 0,iV 0,iV at0]] w4 fun e w5=>
   e= .returned (iV (s4.N.length:Int))/\Hid (L6a w B pb tv L ok d s lo nb (fun r=>M.part L r d s names .obj) (.returned (iV (s4.N.length:Int))) w5)):=by
   rintro w4 s4 x ⟨k4,n4,p4,g4,e4⟩;have g5:_/\_/\_/\_:=g4;rw[hs1]at g5;simp only[M.St.nx]at g5;refine(J2 hL p4 (M.Nd.mk 15 x 0 0 [] nm 0 (-1) at0) 0 none 0 0 ⟨_,rfl,World.ownsRow_nil _ _ _ _,by simp[Value.ownBlock]⟩ rfl (by omega) (Nat.le_trans hB k4.size) (fun g hg=>hok g (Nat.le_trans k4.size hg))).mono ?_;rintro e w5 ⟨rfl,k5,p5⟩;refine⟨rfl,k4.andThen k5,_,e4,rfl,n4.kept k5,p5, ?_⟩;simp only[D6,List.length_append,List.length_cons,List.length_nil];omega
  clear V2 V3 hb hp K3 N3 B3;go_wp2_with fail
  go_region_with (first|(go_at_call 143;refine(HX.out _ (Chg.drewN _ _ 1)).mono ?_;rintro e w4 (⟨er,p,rfl,H4⟩|⟨s4,x,rfl,cb4,H4⟩);exact⟨rfl,H4.out⟩)|(go_at_call 56;refine(HY.out _ _ _ (Hid.out H4)).mono ?_;rintro e w5 ⟨rfl,H5⟩))
  all_goals go_wp2_with fail
  all_goals go_ret
  all_goals exact H5.out
end
open Go.RowKit
section
variable {B pb:Nat} {tv:Value} {L:List M.Tk}
theorem X3a (hL:LOk L) (w:World) (ok:Nat->Prop) (d:Nat) (s:M.St) (lo nb bx:Nat) (names:List (List UInt8)) (hbx:w.heap[bx]? =some (.cells #[pV pb] 94 (0,0))) (hn:Nms w lo nb names) (hl:names.length<=1001) (hlo:lo<=w.heap.size) (hok:∀g,w.heap.size<=g->ok g) (hB:B<=w.heap.size) (h:Pst w B pb tv L ok d s):
 Calls Tryz.prog 196 #[pV bx,pV nb] w (L6a w B pb tv L ok d s lo nb (fun r=>M.part L r d s names .par)):=by
 have hi:=h.at';have hs:=hL.short;have hfw:=h.few;have hlx:=(ltG hbx);have BX:Hid (∀a,Chg No w a->a.heap[bx]? =some (.cells #[pV pb] 94 (0,0))):=fun a ha=>(ha.block bx hlx (fun x=>x)).trans hbx;have cb0:w.cell? (aD bx 0)=some (pV pb):=cr hbx rfl;have HA:Hid (∀a,Chg No w a->Calls Tryz.prog 87 #[pV pb] a fun e w'=>e= .returned (iV ((M.tk L s.i).at':Int))/\Hid (Chg No w w')/\w'.cell? (aD bx 0)=some (pV pb)):=fun a ha=>(N7a hL (h.still ha)).mono (by
  rintro e w' ⟨he,hc⟩;have hc2:=ha.trans hc (fun _ _ x=>x);exact⟨he,hc2,cr (BX.out w' hc2) rfl⟩)
 have V:Hid (∀o,M.Ev L (fun r=>M.A3 (M.newName L s names) fun s1 nm=>M.A3 (M.typeIf L r d s1) fun s3 x=>M.A3 (M.addN s3 (M.Nd.mk 16 0 0 0 [] nm 0 x ((M.tk L s.i).at':Int))) fun s4 y=>some (.ok s4 (y,names++[nm]))) o->M.Ev L (fun r=>M.part L r d s names .par) o):=fun o ho=>ho;have HN:Hid (∀a,Chg No w a->Calls Tryz.prog 186 #[pV pb,pV nb] a fun e w'=>
  (∃er p,e=gu er p/\Hid (L6a w B pb tv L ok d s lo nb (fun r=>M.part L r d s names .par) (gu er p) w'))\/
  (∃s1 nm,e= .returned (.string ⟨nm.toArray⟩)/\Hid (M.newName L s names=some (.ok s1 nm))/\KeptS B ok lo a w'/\Nms w' lo nb (names++[nm])/\Pst w' B pb tv L ok d s1)):=by
  intro a ha;refine(F4a hL (h.still ha) lo nb names (hn.chg ha (fun _ _ _ _ x=>x.elim)) hl (Nat.le_trans hlo ha.size)).mono ?_;rintro e w' ⟨hk,hr⟩;rcases hnn:M.newName L s names with _|⟨s1,nm⟩|⟨er,p⟩
  · rw[hnn]at hr;exact hr.elim
  · rw[hnn]at hr;exact .inr ⟨s1,nm,hr.1,A0 rfl,hk,hr.2.1,hr.2.2⟩
  · rw[hnn]at hr;have her:er≠0:=by
     unfold M.newName M.flt at hnn;split at hnn
     · split at hnn
       · simp at hnn;omega
       · simp at hnn
     · simp at hnn;omega
    exact .inl ⟨er,p,hr,KeptS.after (B8 ha) hk,_,V.out _ (M.Ev.bad (M.Ev.pure.eq (fun r=>hnn))),rfl,her⟩
 clear h hn hbx;generalize ((M.tk L s.i).at':Int)=at0 at *;go_enter Tryz.func196,Tryz.ntmps196;go_wp2_with fail
 go_region_with (first|(go_at_call 87;refine(HA.out _ (Chg.drewN _ _ 1)).mono ?_;rintro e w1 ⟨rfl,hc,cb1⟩)|(go_at_call 186;refine(HN.out _ (Hid.out (by assumption))).mono ?_;rintro e w2 (⟨er,p,rfl,HF⟩|⟨s1,nm,rfl,hnn,hk2,hn2,hp2⟩);exact⟨rfl,HF.out⟩))
 all_goals
  have K3:=A0 (KeptS.after (B8 (Hid.out hc)) hk2);have B3:=A0 (F6a hk2 (BX.out w1 (Hid.out hc)) (by decide));have cb3:w2.cell? (aD bx 0)=some (pV pb):=cr B3.out rfl;have N3:=A0 hn2;have V3:=A0 (fun o (ho:M.Ev L (fun r=>M.A3 (M.typeIf L r d s1) fun s3 x=>M.A3 (M.addN s3 (M.Nd.mk 16 0 0 0 [] nm 0 x at0)) fun s4 y=>some (.ok s4 (y,names++[nm]))) o)=>V.out o (M.Ev.bind (k:=fun r s1 nm=>M.A3 (M.typeIf L r d s1) fun s3 x=>M.A3 (M.addN s3 (M.Nd.mk 16 0 0 0 [] nm 0 x at0)) fun s4 y=>some (.ok s4 (y,names++[nm]))) (M.Ev.pure.eq (fun r=>Hid.out hnn)) ho));have hs1:s1=s.nx:=newName_ok (Hid.out hnn);have P3:=A0 hp2;have hi3:=hp2.at';clear hk2 hp2 hn2 hc cb0 cb1 HA HN V BX;have HX:Hid (∀a,Chg No w2 a->Calls Tryz.prog 141 #[pV pb] a fun e w4=>
   (∃er p,e=gu er p/\Hid (L6a w B pb tv L ok d s lo nb (fun r=>M.part L r d s names .par) (gu er p) w4))\/
   (∃s4 x,e= .returned (iV x)/\w4.cell? (aD bx 0)=some (pV pb)/\Hid (KeptS B ok lo w w4/\Nms w4 lo nb (names++[nm])/\Pst w4 B pb tv L ok d s4/\G0 s1 s4/\M.Ev L (fun r=>M.part L r d s names .par) (.ok ⟨s4.i,s4.N++[(M.Nd.mk 16 0 0 0 [] nm 0 x at0)],s4.T⟩ ((s4.N.length:Int),names++[nm]))))):=by
   intro a ha;refine(C1a hL (P3.out.still ha) (fun g hg=>hok g (Nat.le_trans K3.out.size (Nat.le_trans ha.size hg))) (Nat.le_trans hB (Nat.le_trans K3.out.size ha.size))).mono ?_;rintro e w4 ⟨k4,o,hev,hpost⟩;have k34:Kept B ok w2 w4:=(B8 ha).trans k4;cases o with
   |fail er p=>
    obtain⟨rfl,he⟩:=hpost;exact .inl ⟨er,p,rfl,K3.out.andThen k34,_,V3.out _ (M.Ev.bad hev),rfl,he⟩
   |ok s4 x=>
    obtain⟨rfl,hp4,hg4⟩:=hpost;refine .inr ⟨s4,x,rfl,by rw[cell_of_row w4 bx 0 _ _ _ (U9 k34 B3.out (by decide))];rfl,K3.out.andThen k34,N3.out.kept k34,hp4,hg4,V3.out _ (M.Ev.bind (k:=fun r s3 x=>M.A3 (M.addN s3 (M.Nd.mk 16 0 0 0 [] nm 0 x at0)) fun s4 y=>some (.ok s4 (y,names++[nm]))) hev (M.Ev.pure.eq (fun r=>rfl)))⟩
  have HY:Hid (∀w4 s4 x,KeptS B ok lo w w4/\Nms w4 lo nb (names++[nm])/\Pst w4 B pb tv L ok d s4/\G0 s1 s4/\M.Ev L (fun r=>M.part L r d s names .par) (.ok ⟨s4.i,s4.N++[(M.Nd.mk 16 0 0 0 [] nm 0 x at0)],s4.T⟩ ((s4.N.length:Int),names++[nm]))->Calls Tryz.prog 92 #[pV pb,.agg #[iV 16,iV 0,iV 0,iV 0,sN,.string ⟨nm.toArray⟩,iV 0,iV x,iV at0]] w4 fun e w5=>
   e= .returned (iV (s4.N.length:Int))/\Hid (L6a w B pb tv L ok d s lo nb (fun r=>M.part L r d s names .par) (.returned (iV (s4.N.length:Int))) w5)):=by
   rintro w4 s4 x ⟨k4,n4,p4,g4,e4⟩;have g5:_/\_/\_/\_:=g4;rw[hs1]at g5;simp only[M.St.nx]at g5;refine(L9 hL p4 (M.Nd.mk 16 0 0 0 [] nm 0 x at0) none 0 0 ⟨_,rfl,World.ownsRow_nil _ _ _ _,by simp[Value.ownBlock]⟩ (by omega) (Nat.le_trans hB k4.size) (fun g hg=>hok g (Nat.le_trans k4.size hg))).mono ?_;rintro e w5 ⟨rfl,k5,p5⟩;refine⟨rfl,k4.andThen k5,_,e4,rfl,n4.kept k5,p5, ?_⟩;simp only[D6,List.length_append,List.length_cons,List.length_nil];omega
  clear V3 P3 K3 N3 B3;go_wp2_with fail
  go_region_with (first|(go_at_call 141;refine(HX.out _ (Chg.drewN _ _ 1)).mono ?_;rintro e w4 (⟨er,p,rfl,H4⟩|⟨s4,x,rfl,cb4,H4⟩);exact⟨rfl,H4.out⟩)|(go_at_call 92;refine(HY.out _ _ _ (Hid.out H4)).mono ?_;rintro e w5 ⟨rfl,H5⟩))
  all_goals go_wp2_with fail
  all_goals go_ret
  all_goals exact H5.out
end
end Go.Proofs.YtgdnpemiiageaaaGreatDoor
