/-
  A part of the proof.
-/
import Derived.Test.YtgdnpemiiageaaaGreatDoorNodeG
set_option maxHeartbeats 16000000
set_option maxRecDepth 100000
namespace Go.Proofs.YtgdnpemiiageaaaGreatDoor
open Go.RowKit
section
variable {w:World} {B pb:Nat} {tv:Value} {L:List M.Tk} {ok:Nat->Prop} {d:Nat} {s:M.St}
theorem KeptS.mono {ok ok':Nat->Prop} {lo:Nat} {a b:World} (h:KeptS B ok lo a b) (ho:∀g,ok g->ok' g):KeptS B ok' lo a b:=
 Chg.mono h fun _ _ x=>x.elim (fun x=> .inl ⟨x.1,x.2.1,ho _ x.2.2⟩) .inr
theorem KeptS.trans {ok:Nat->Prop} {lo:Nat} {a b c:World} (h:KeptS B ok lo a b) (k:KeptS B ok lo b c):KeptS B ok lo a c:=by
 refine⟨k.os.trans h.os,k.tape.trans h.tape,k.output.trans h.output,Nat.le_trans h.size k.size,fun i hi hn=> ?_⟩;have h1:=h.block i hi hn;refine(k.block i (Nat.lt_of_lt_of_le hi h.size) (fun x=>hn ?_)).trans h1;rcases x with ⟨x1,⟨cs,e,fz,hh,r⟩,x3⟩|⟨x1,cs,e,fz,hh,r⟩
 · exact .inl ⟨x1,⟨cs,e,fz,by rw[<-h1];exact hh,r⟩,x3⟩
 · exact .inr ⟨x1,cs,e,fz,by rw[<-h1];exact hh,r⟩
theorem KeptS.grown {ok:Nat->Prop} {lo:Nat} {w0 w w':World} {size n:Nat} {e:TypeId} {v:Value} {xs:List Value} (hk:KeptS B ok lo w0 w) (ho:w.ownsRow w0.heap.size e size v n xs) (hg:w.grownBy w' v.ownBlock):KeptS B ok lo w0 w':=
 Chg.trans hk (Chg.grown hg) (fun i hi hx=>by have:=(A9 ho i hx.symm).1;omega)
theorem KeptS.alloc {ok:Nat->Prop} {lo:Nat} {a b:World} (h:KeptS B ok lo a b) (o:Obj):KeptS B ok lo a (b.alloc o):=h.andThen ((Kept.refl _ _ _).alloc o)
theorem I3c {p:M.F7b} {r:M.Sp} {d:Nat} {s s':M.St} {names:List (List UInt8)} {x:Int×List (List UInt8)} (hp:p= .obj\/p= .par) (h:M.part L r d s names p=some (.ok s' x)):x.2.length=names.length+1:=by
 rcases hp with rfl|rfl;all_goals
  simp only[M.part,M.A3]at h;repeat' split at h
  all_goals first
   |(simp only[Option.some.injEq,M.Out.ok.injEq]at h;obtain⟨_,rfl⟩:=h;simp)
   |simp at h
theorem part_len' {p:M.F7b} {d:Nat} {s s':M.St} {names:List (List UInt8)} {x:Int×List (List UInt8)} (hp:p= .obj\/p= .par) (h:M.Ev L (fun r=>M.part L r d s names p) (.ok s' x)):x.2.length=names.length+1:=by
 obtain⟨f,hf⟩:=h;exact I3c hp (hf f (Nat.le_refl _))
def A9b (s s':M.St):Prop:=s.i<s'.i/\s'.N.length+s.i+1<=s.N.length+s'.i/\s'.T.length+s.i<=s.T.length+s'.i/\s.N.length<=s'.N.length
def Y1b (w:World) (B pb:Nat) (tv:Value) (L:List M.Tk) (ok:Nat->Prop) (d:Nat) (s:M.St) (lo:Nat) (φ:M.Sp->Option (M.Out (List Int))) (e:Ending) (w':World):Prop:=
 KeptS B ok lo w w'/\∃o,M.Ev L φ o/\match o with
  | .ok s' l=>∃ad c,e= .returned (.slice ad l.length c)/\w'.ownsRow w.heap.size 3 1 (.slice ad l.length c) l.length (C7 l)/\l.length<=s'.i/\Pst w' B pb tv L ok d s'/\A9b s s'
  | .fail er p=>e=gu er p/\er≠0
theorem U7 {lo:Nat} {φ:M.Sp->Option (M.Out (List Int))} {w':World} {er p:Int} (hk:KeptS B ok lo w w') (hev:M.Ev L φ (.fail er p)) (he:er≠0):Y1b w B pb tv L ok d s lo φ (gu er p) w':=⟨hk,_,hev,rfl,he⟩
theorem I6b {lo:Nat} {φ:M.Sp->Option (M.Out (List Int))} {w':World} {s':M.St} {l:List Int} {ad:Option Addr} {c:Nat} (hk:KeptS B ok lo w w') (hev:M.Ev L φ (.ok s' l)) (ho:w'.ownsRow w.heap.size 3 1 (.slice ad l.length c) l.length (C7 l)) (hl:l.length<=s'.i) (hp:Pst w' B pb tv L ok d s') (hg:A9b s s'):
 Y1b w B pb tv L ok d s lo φ (.returned (.slice ad l.length c)) w':=⟨hk,_,hev,_,_,rfl,ho,hl,hp,hg⟩
def N2d (B pb:Nat) (tv:Value) (L:List M.Tk) (K:Nat) (p:M.F7b) (m:Nat):Prop:=
 ∀(w:World) (ok:Nat->Prop) (d:Nat) (s:M.St) (lo nb bx:Nat) (names:List (List UInt8)),w.heap[bx]? =some (.cells #[pV pb] 94 (0,0))->Nms w lo nb names->names.length<=1001->lo<=w.heap.size->L.length - s.i<=m->(∀g,w.heap.size<=g->ok g)->B<=w.heap.size->Pst w B pb tv L ok d s->
  Calls Tryz.prog K #[pV bx,pV nb] w (L6a w B pb tv L ok d s lo nb (fun r=>M.part L r d s names p))
def bxv (w:World) (bx pb:Nat):Prop:=w.heap[bx]? =some (.cells #[pV pb] 94 (0,0))
theorem bxv.keptS {ok:Nat->Prop} {lo bx:Nat} {w w':World} (h:bxv w bx pb) (hk:KeptS B ok lo w w'):bxv w' bx pb:=F6a hk h (by decide)
theorem bxv.chg {bx:Nat} {S:Nat->Prop} {w w':World} (h:bxv w bx pb) (hc:Chg S w w') (hs:¬S bx):bxv w' bx pb:=(hc.block bx (ltG h) hs).trans h
theorem bxv.grown {w w':World} {bx base size n:Nat} {v:Value} {xs:List Value} (h:bxv w bx pb) (ho:w.ownsRow base 3 size v n xs) (hg:w.grownBy w' v.ownBlock):bxv w' bx pb:=by
 refine h.chg (Chg.grown hg) (fun hx=> ?_);obtain⟨_,cur,hh⟩:=A9 ho bx hx.symm;rw[show w.heap[bx]? =_ from h]at hh;simp only[Option.some.injEq,Obj.cells.injEq]at hh;exact absurd hh.2.1 (by decide)
theorem Nms.grown {w w':World} {lo nb base size n:Nat} {names:List (List UInt8)} {v:Value} {xs:List Value} (h:Nms w lo nb names) (ho:w.ownsRow base 3 size v n xs) (hg:w.grownBy w' v.ownBlock):Nms w' lo nb names:=by
 refine h.chg (Chg.grown hg) (fun k cs e hh hx=> ?_);obtain⟨_,cur,hh2⟩:=A9 ho k hx.symm;rw[hh]at hh2;simp only[Option.some.injEq,Obj.cells.injEq]at hh2;obtain⟨_,rfl,_⟩:=hh2;exact⟨by decide,by decide⟩
theorem Nms.alloc {w:World} {lo nb:Nat} {names:List (List UInt8)} (h:Nms w lo nb names) (o:Obj):Nms (w.alloc o) lo nb names:=h.chg (Chg.alloc No _ o) (fun _ _ _ _ x=>x.elim)
theorem bxv.alloc {w:World} {bx:Nat} (h:bxv w bx pb) (o:Obj):bxv (w.alloc o) bx pb:=h.chg (Chg.alloc No _ o) (fun x=>x)
theorem N1a (hL:LOk L) (m:Nat) (hC:∀m',m'<=m->N2d B pb tv L 197 .obj m') (E:List UInt8) (lo nb bx:Nat) (hbx:bxv w bx pb) (hn:Nms w lo nb []) (hlo:lo<=w.heap.size) (hm:L.length - s.i<=m) (hok:∀g,w.heap.size<=g->ok g) (hB:B<=w.heap.size) (h:Pst w B pb tv L ok d s):
 Calls Tryz.prog 187 #[pV pb,.string ⟨E.toArray⟩,.func (.func 197) #[] #[pV bx,pV nb]] w (Y1b w B pb tv L ok d s lo (fun r=>r.list .obj E d s [] [])):=by
 have hs:=hL.short;have hi:=h.at';have HP:=A0 h;have HX:=A0 hbx;have HN:=A0 hn;clear h hbx hn;go_enter Tryz.func187,Tryz.ntmps187;go_wp2_with fail
 go_loopw [7] (fun v wr=>∃(names:List (List UInt8)) (acc:List Int) (s':M.St) (ad:Option Addr) (c:Nat),v= .slice ad acc.length c/\acc.length<=s'.i/\Hid (names.length=acc.length)/\Hid (Nms wr lo nb names)/\Hid (bxv wr bx pb)/\Hid (KeptS B ok lo w wr)/\Hid (G0 s s')/\Hid (wr.ownsRow w.heap.size 3 1 (.slice ad acc.length c) acc.length (C7 acc))/\
  Hid (Pst wr B pb tv L (fun g=>ok g/\some g≠Value.ownBlock (.slice ad acc.length c)) d s')/\Hid (∀o,M.Ev L (fun r=>r.list .obj E d s' names acc) o->M.Ev L (fun r=>r.list .obj E d s [] []) o)) (fun _ wr=>L.length - nxt wr pb)
 case atStart=>exact⟨[],[],s,none,0,rfl,by simp,rfl,HN.out,HX.out,(Kept.refl _ _ _).toS,⟨Nat.le_refl _,by omega,by omega,by omega⟩,World.ownsRow_nil _ _ _ _,HP.out.mono (fun g hg _=>⟨hg,by simp[Value.ownBlock]⟩),fun _ h=>h⟩
 case round=>
  obtain⟨names,acc,s',ad,c,rfl,hacc,NL,NR,XR,KR,GR,OR,PR,VR⟩:=hrel;have HT:=F5 hL PR.out E;have hi':=PR.out.at';have hnx:=PR.out.nxt;generalize hq:M.isM L s'.i [E]=q at *;have Q1:=A0 hq;clear hq;go_wp2_with fail
  refine HT.mono ?_;clear HT;rintro e w3 ⟨rfl,hk,hp⟩;have K3:=A0 (KR.out.andThen (hk.mono fun _ h=>h.1));have N3:=A0 (NR.out.kept hk);have X3:=A0 (XR.out.keptS (hk.toS (lo:=0)));have P3:=A0 hp;have O3:=A0 (D9 OR.out hk (by decide));clear hk hp OR PR KR NR XR;cases q
  · have PX:Pst w3 B pb tv L (fun g=>ok g/\some g≠Value.ownBlock (.slice ad acc.length c)) d s':=by simpa using P3.out
    clear P3;by_cases hz:acc.length=0
    · have HC:Hid ((if acc.length=0 then some (.ok s' ()) else M.need L s' [44])=some (M.Out.ok s' ())):=by show _=_;rw[if_pos hz]
      have ha:acc=[]:=List.eq_nil_of_length_eq_zero hz;subst ha;simp only[List.length_nil]at O3 PX hacc NL⊢;clear hz;have hj:s.i<=s'.i:=GR.out.1;have HM:=hC (L.length - s'.i) (by first|(simp only[M.St.nx];omega)|omega) w3 _ d s' lo nb bx names X3.out N3.out (by have h0:names.length=0:=NL.out;omega) (Nat.le_trans hlo K3.out.size) (Nat.le_refl _) (fun g hg=>⟨hok g (Nat.le_trans K3.out.size hg),fun hx=>by have:=(O3.out.lt g hx.symm).2;omega⟩) (Nat.le_trans hB K3.out.size) PX;clear PX;go_wp2_with fail
      refine HM.mono ?_;clear HM;rintro e w4 ⟨hk,o,hev,hpost⟩;have K4:=A0 (K3.out.trans (hk.mono fun _ h=>h.1));have X4:=A0 (X3.out.keptS hk);have O4:=A0 (A2a O3.out hk (by decide));have E4:=A0 hev;clear hk hev K3 O3 X3 N3;cases o with
      |fail er p=>
       obtain⟨rfl,he⟩:=hpost;exact⟨rfl,U7 K4.out (VR.out _ (F4 Q1.out HC.out (M.Ev.bad E4.out))) he⟩
      |ok s4 z=>
       obtain⟨rfl,hn4,hp,hg⟩:=hpost;have NX:=A0 (part_len' (.inl rfl) E4.out);obtain⟨y,names4⟩:=z;have N4:=A0 hn4;clear hn4;simp only at N4 NX;have P4:=A0 hp;have G4:=A0 hg;have hi4:=hp.at';clear hp hg;have VN:=A0 (fun o (ho:M.Ev L (fun r=>r.list .obj E d s4 names4 ([]++[y])) o)=>VR.out o (F4 Q1.out HC.out (M.Ev.bind (k:=fun r s x=>r.list .obj E d s x.2 ([]++[x.1])) E4.out ho)));clear VR;obtain⟨i0,hi0,hz0,hz1,hz2⟩:=info_parts Tryz.infoInt;have hw3:=A0 (O4.out.alloc (.cells #[iV y] 3));have hl4:0+1<=s4.i:=by
        have h2:=G4.out.1;first|(simp only[M.St.nx]at h2;omega)|omega
       go_wp2_with (at_builtin;refine wpList_append_own_at _ rfl _ _ 48 rfl w.heap.size 3 i0 (iV 0) 1 8 Tryz.underlying48 hi0 hz0 hz1 hz2 rfl (by decide) _ _ _ rfl hw3.out (aD w4.heap.size 0) 1 1 [iV y] rfl rfl ?c1 ?c2 ?c3 ?c4 ?c5 ?_)
       case c1=>exact cell_one_new _ _ _
       case c2=>intro u hu;simp at hu;rcases hu with rfl;rfl
       case c3=>simp only[maxLen];omega
       case c4=>omega
       case c5=>have:=K4.out.size;simp;omega
       · intro v' w5 hown2 hg2 _ hat;obtain⟨ad2,c2,hv2⟩:=B6 hown2;rw[hv2]at hown2 hat⊢;have PG:=A0 ((P4.out.alloc (.cells #[iV y] 3)).grown (v:= .slice ad 0 c) (v':= .slice ad2 (0+1) c2) (O4.out.alloc _) (.inl rfl) hg2 (by simpa using hat));have KG:=A0 ((K4.out.alloc (.cells #[iV y] 3)).grown (O4.out.alloc _) hg2);have NG:=A0 ((N4.out.alloc (.cells #[iV y] 3)).grown (O4.out.alloc _) hg2);have XG:=A0 ((X4.out.alloc (.cells #[iV y] 3)).grown (O4.out.alloc _) hg2);have OG:=A0 hown2;clear hown2 hg2 hat hw3 P4 O4 K4 hv2 N4 X4;go_wp2_with fail
         go_roundw
         case rel=>
          have h1:=GR.out;have h2:=G4.out;simp only[D6,G0]at h1 h2;refine⟨names4,[y],s4,ad2,c2,by simp,by simp;omega,(by have h3:names4.length=names.length+1:=NX.out;have h4:names.length=0:=NL.out;show names4.length=1;omega),NG.out,XG.out,KG.out,⟨by omega,by omega,by omega,by omega⟩, ?_, ?_,VN.out⟩
          · have:=OG.out;show World.ownsRow _ _ _ _ _ _ _;simpa[C7]using this
          · have:=PG.out;show Pst _ _ _ _ _ _ _ _;simpa using this
         case measure=>
          have h2:=G4.out;have h3:=PG.out.nxt;simp only[D6]at h2;rw[h3,hnx];omega
    · have hz':(0:Int)<(acc.length:Int):=by omega
      have HN:=G5 hL PX [44];go_wp2_with fail
      refine HN.mono ?_;clear HN;rintro e w6 ⟨hk,hr⟩;have K6:=A0 (K3.out.andThen (hk.mono fun _ h=>h.1));have N6:=A0 (N3.out.kept hk);have X6:=A0 (X3.out.keptS (hk.toS (lo:=0)));have O6:=A0 (D9 O3.out hk (by decide));clear hk K3 O3 PX N3 X3;rcases hr with ⟨hb,rfl,PX⟩|⟨hb,rfl⟩
      · have hi6:=PX.at';have HC:Hid ((if acc.length=0 then some (.ok s' ()) else M.need L s' [44])=some (M.Out.ok s'.nx ())):=by show _=_;rw[if_neg hz,M.need,hb];rfl
        clear hb;have hj:s.i<=s'.i:=GR.out.1;have HM:=hC (L.length - s'.nx.i) (by first|(simp only[M.St.nx];omega)|omega) w6 _ d s'.nx lo nb bx names X6.out N6.out (by have h0:names.length=acc.length:=NL.out;omega) (Nat.le_trans hlo K6.out.size) (Nat.le_refl _) (fun g hg=>⟨hok g (Nat.le_trans K6.out.size hg),fun hx=>by have:=(O6.out.lt g hx.symm).2;omega⟩) (Nat.le_trans hB K6.out.size) PX;clear PX;go_wp2_with fail
        refine HM.mono ?_;clear HM;rintro e w4 ⟨hk,o,hev,hpost⟩;have K4:=A0 (K6.out.trans (hk.mono fun _ h=>h.1));have X4:=A0 (X6.out.keptS hk);have O4:=A0 (A2a O6.out hk (by decide));have E4:=A0 hev;clear hk hev K6 O6 X6 N6;cases o with
        |fail er p=>
         obtain⟨rfl,he⟩:=hpost;exact⟨rfl,U7 K4.out (VR.out _ (F4 Q1.out HC.out (M.Ev.bad E4.out))) he⟩
        |ok s4 z=>
         obtain⟨rfl,hn4,hp,hg⟩:=hpost;have NX:=A0 (part_len' (.inl rfl) E4.out);obtain⟨y,names4⟩:=z;have N4:=A0 hn4;clear hn4;simp only at N4 NX;have P4:=A0 hp;have G4:=A0 hg;have hi4:=hp.at';clear hp hg;have VN:=A0 (fun o (ho:M.Ev L (fun r=>r.list .obj E d s4 names4 (acc++[y])) o)=>VR.out o (F4 Q1.out HC.out (M.Ev.bind (k:=fun r s x=>r.list .obj E d s x.2 (acc++[x.1])) E4.out ho)));clear VR;obtain⟨i0,hi0,hz0,hz1,hz2⟩:=info_parts Tryz.infoInt;have hw3:=A0 (O4.out.alloc (.cells #[iV y] 3));have hl4:acc.length+1<=s4.i:=by
          have h2:=G4.out.1;first|(simp only[M.St.nx]at h2;omega)|omega
         go_wp2_with (at_builtin;refine wpList_append_own_at _ rfl _ _ 48 rfl w.heap.size 3 i0 (iV 0) 1 8 Tryz.underlying48 hi0 hz0 hz1 hz2 rfl (by decide) _ _ _ rfl hw3.out (aD w4.heap.size 0) 1 1 [iV y] rfl rfl ?c1 ?c2 ?c3 ?c4 ?c5 ?_)
         case c1=>exact cell_one_new _ _ _
         case c2=>intro u hu;simp at hu;rcases hu with rfl;rfl
         case c3=>simp only[maxLen];omega
         case c4=>omega
         case c5=>have:=K4.out.size;simp;omega
         · intro v' w5 hown2 hg2 _ hat;obtain⟨ad2,c2,hv2⟩:=B6 hown2;rw[hv2]at hown2 hat⊢;have PG:=A0 ((P4.out.alloc (.cells #[iV y] 3)).grown (v:= .slice ad acc.length c) (v':= .slice ad2 (acc.length+1) c2) (O4.out.alloc _) (.inl rfl) hg2 (by simpa using hat));have KG:=A0 ((K4.out.alloc (.cells #[iV y] 3)).grown (O4.out.alloc _) hg2);have NG:=A0 ((N4.out.alloc (.cells #[iV y] 3)).grown (O4.out.alloc _) hg2);have XG:=A0 ((X4.out.alloc (.cells #[iV y] 3)).grown (O4.out.alloc _) hg2);have OG:=A0 hown2;clear hown2 hg2 hat hw3 P4 O4 K4 hv2 N4 X4;go_wp2_with fail
           go_roundw
           case rel=>
            have h1:=GR.out;have h2:=G4.out;simp only[D6,G0,M.St.nx]at h1 h2;refine⟨names4,acc++[y],s4,ad2,c2,by simp,by simp;omega,(by have h3:names4.length=names.length+1:=NX.out;have h4:names.length=acc.length:=NL.out;show names4.length=(acc++[y]).length;rw[List.length_append];show _=acc.length+1;omega),NG.out,XG.out,KG.out,⟨by omega,by omega,by omega,by omega⟩, ?_, ?_,VN.out⟩
            · have:=OG.out;show World.ownsRow _ _ _ _ _ _ _;rw[J9];simpa using this
            · have:=PG.out;show Pst _ _ _ _ _ _ _ _;simpa using this
           case measure=>
            have h2:=G4.out;have h3:=PG.out.nxt;simp only[D6,M.St.nx]at h2;rw[h3,hnx];omega
      · exact⟨rfl,U7 K6.out (VR.out _ (B9a Q1.out (by rw[if_neg hz,M.need,hb];rfl))) (by decide)⟩
  · have PX:Pst w3 B pb tv L (fun g=>ok g/\some g≠Value.ownBlock (.slice ad acc.length c)) d s'.nx:=by simpa using P3.out
    have PY:=A0 (PX.mono (ok':=ok) (fun g hg _=>hg.1));have EV:=A0 (VR.out _ (B8a Q1.out));have GX:=A0 (show A9b s s'.nx by
     have h2:=GR.out;simp only[A9b,G0,M.St.nx]at h2⊢
     omega)
    clear VR P3 PX;go_wp2_with fail
    go_ret;exact I6b K3.out EV.out O3.out (by simp only[M.St.nx];omega) PY.out GX.out
theorem I7a (hL:LOk L) (m:Nat) (hC:∀m',m'<=m->N2d B pb tv L 196 .par m') (E:List UInt8) (lo nb bx:Nat) (hbx:bxv w bx pb) (hn:Nms w lo nb []) (hlo:lo<=w.heap.size) (hm:L.length - s.i<=m) (hok:∀g,w.heap.size<=g->ok g) (hB:B<=w.heap.size) (h:Pst w B pb tv L ok d s):
 Calls Tryz.prog 187 #[pV pb,.string ⟨E.toArray⟩,.func (.func 196) #[] #[pV bx,pV nb]] w (Y1b w B pb tv L ok d s lo (fun r=>r.list .par E d s [] [])):=by
 have hs:=hL.short;have hi:=h.at';have HP:=A0 h;have HX:=A0 hbx;have HN:=A0 hn;clear h hbx hn;go_enter Tryz.func187,Tryz.ntmps187;go_wp2_with fail
 go_loopw [7] (fun v wr=>∃(names:List (List UInt8)) (acc:List Int) (s':M.St) (ad:Option Addr) (c:Nat),v= .slice ad acc.length c/\acc.length<=s'.i/\Hid (names.length=acc.length)/\Hid (Nms wr lo nb names)/\Hid (bxv wr bx pb)/\Hid (KeptS B ok lo w wr)/\Hid (G0 s s')/\Hid (wr.ownsRow w.heap.size 3 1 (.slice ad acc.length c) acc.length (C7 acc))/\
  Hid (Pst wr B pb tv L (fun g=>ok g/\some g≠Value.ownBlock (.slice ad acc.length c)) d s')/\Hid (∀o,M.Ev L (fun r=>r.list .par E d s' names acc) o->M.Ev L (fun r=>r.list .par E d s [] []) o)) (fun _ wr=>L.length - nxt wr pb)
 case atStart=>exact⟨[],[],s,none,0,rfl,by simp,rfl,HN.out,HX.out,(Kept.refl _ _ _).toS,⟨Nat.le_refl _,by omega,by omega,by omega⟩,World.ownsRow_nil _ _ _ _,HP.out.mono (fun g hg _=>⟨hg,by simp[Value.ownBlock]⟩),fun _ h=>h⟩
 case round=>
  obtain⟨names,acc,s',ad,c,rfl,hacc,NL,NR,XR,KR,GR,OR,PR,VR⟩:=hrel;have HT:=F5 hL PR.out E;have hi':=PR.out.at';have hnx:=PR.out.nxt;generalize hq:M.isM L s'.i [E]=q at *;have Q1:=A0 hq;clear hq;go_wp2_with fail
  refine HT.mono ?_;clear HT;rintro e w3 ⟨rfl,hk,hp⟩;have K3:=A0 (KR.out.andThen (hk.mono fun _ h=>h.1));have N3:=A0 (NR.out.kept hk);have X3:=A0 (XR.out.keptS (hk.toS (lo:=0)));have P3:=A0 hp;have O3:=A0 (D9 OR.out hk (by decide));clear hk hp OR PR KR NR XR;cases q
  · have PX:Pst w3 B pb tv L (fun g=>ok g/\some g≠Value.ownBlock (.slice ad acc.length c)) d s':=by simpa using P3.out
    clear P3;by_cases hz:acc.length=0
    · have HC:Hid ((if acc.length=0 then some (.ok s' ()) else M.need L s' [44])=some (M.Out.ok s' ())):=by show _=_;rw[if_pos hz]
      have ha:acc=[]:=List.eq_nil_of_length_eq_zero hz;subst ha;simp only[List.length_nil]at O3 PX hacc NL⊢;clear hz;have hj:s.i<=s'.i:=GR.out.1;have HM:=hC (L.length - s'.i) (by first|(simp only[M.St.nx];omega)|omega) w3 _ d s' lo nb bx names X3.out N3.out (by have h0:names.length=0:=NL.out;omega) (Nat.le_trans hlo K3.out.size) (Nat.le_refl _) (fun g hg=>⟨hok g (Nat.le_trans K3.out.size hg),fun hx=>by have:=(O3.out.lt g hx.symm).2;omega⟩) (Nat.le_trans hB K3.out.size) PX;clear PX;go_wp2_with fail
      refine HM.mono ?_;clear HM;rintro e w4 ⟨hk,o,hev,hpost⟩;have K4:=A0 (K3.out.trans (hk.mono fun _ h=>h.1));have X4:=A0 (X3.out.keptS hk);have O4:=A0 (A2a O3.out hk (by decide));have E4:=A0 hev;clear hk hev K3 O3 X3 N3;cases o with
      |fail er p=>
       obtain⟨rfl,he⟩:=hpost;exact⟨rfl,U7 K4.out (VR.out _ (F4 Q1.out HC.out (M.Ev.bad E4.out))) he⟩
      |ok s4 z=>
       obtain⟨rfl,hn4,hp,hg⟩:=hpost;have NX:=A0 (part_len' (.inr rfl) E4.out);obtain⟨y,names4⟩:=z;have N4:=A0 hn4;clear hn4;simp only at N4 NX;have P4:=A0 hp;have G4:=A0 hg;have hi4:=hp.at';clear hp hg;have VN:=A0 (fun o (ho:M.Ev L (fun r=>r.list .par E d s4 names4 ([]++[y])) o)=>VR.out o (F4 Q1.out HC.out (M.Ev.bind (k:=fun r s x=>r.list .par E d s x.2 ([]++[x.1])) E4.out ho)));clear VR;obtain⟨i0,hi0,hz0,hz1,hz2⟩:=info_parts Tryz.infoInt;have hw3:=A0 (O4.out.alloc (.cells #[iV y] 3));have hl4:0+1<=s4.i:=by
        have h2:=G4.out.1;first|(simp only[M.St.nx]at h2;omega)|omega
       go_wp2_with (at_builtin;refine wpList_append_own_at _ rfl _ _ 48 rfl w.heap.size 3 i0 (iV 0) 1 8 Tryz.underlying48 hi0 hz0 hz1 hz2 rfl (by decide) _ _ _ rfl hw3.out (aD w4.heap.size 0) 1 1 [iV y] rfl rfl ?c1 ?c2 ?c3 ?c4 ?c5 ?_)
       case c1=>exact cell_one_new _ _ _
       case c2=>intro u hu;simp at hu;rcases hu with rfl;rfl
       case c3=>simp only[maxLen];omega
       case c4=>omega
       case c5=>have:=K4.out.size;simp;omega
       · intro v' w5 hown2 hg2 _ hat;obtain⟨ad2,c2,hv2⟩:=B6 hown2;rw[hv2]at hown2 hat⊢;have PG:=A0 ((P4.out.alloc (.cells #[iV y] 3)).grown (v:= .slice ad 0 c) (v':= .slice ad2 (0+1) c2) (O4.out.alloc _) (.inl rfl) hg2 (by simpa using hat));have KG:=A0 ((K4.out.alloc (.cells #[iV y] 3)).grown (O4.out.alloc _) hg2);have NG:=A0 ((N4.out.alloc (.cells #[iV y] 3)).grown (O4.out.alloc _) hg2);have XG:=A0 ((X4.out.alloc (.cells #[iV y] 3)).grown (O4.out.alloc _) hg2);have OG:=A0 hown2;clear hown2 hg2 hat hw3 P4 O4 K4 hv2 N4 X4;go_wp2_with fail
         go_roundw
         case rel=>
          have h1:=GR.out;have h2:=G4.out;simp only[D6,G0]at h1 h2;refine⟨names4,[y],s4,ad2,c2,by simp,by simp;omega,(by have h3:names4.length=names.length+1:=NX.out;have h4:names.length=0:=NL.out;show names4.length=1;omega),NG.out,XG.out,KG.out,⟨by omega,by omega,by omega,by omega⟩, ?_, ?_,VN.out⟩
          · have:=OG.out;show World.ownsRow _ _ _ _ _ _ _;simpa[C7]using this
          · have:=PG.out;show Pst _ _ _ _ _ _ _ _;simpa using this
         case measure=>
          have h2:=G4.out;have h3:=PG.out.nxt;simp only[D6]at h2;rw[h3,hnx];omega
    · have hz':(0:Int)<(acc.length:Int):=by omega
      have HN:=G5 hL PX [44];go_wp2_with fail
      refine HN.mono ?_;clear HN;rintro e w6 ⟨hk,hr⟩;have K6:=A0 (K3.out.andThen (hk.mono fun _ h=>h.1));have N6:=A0 (N3.out.kept hk);have X6:=A0 (X3.out.keptS (hk.toS (lo:=0)));have O6:=A0 (D9 O3.out hk (by decide));clear hk K3 O3 PX N3 X3;rcases hr with ⟨hb,rfl,PX⟩|⟨hb,rfl⟩
      · have hi6:=PX.at';have HC:Hid ((if acc.length=0 then some (.ok s' ()) else M.need L s' [44])=some (M.Out.ok s'.nx ())):=by show _=_;rw[if_neg hz,M.need,hb];rfl
        clear hb;have hj:s.i<=s'.i:=GR.out.1;have HM:=hC (L.length - s'.nx.i) (by first|(simp only[M.St.nx];omega)|omega) w6 _ d s'.nx lo nb bx names X6.out N6.out (by have h0:names.length=acc.length:=NL.out;omega) (Nat.le_trans hlo K6.out.size) (Nat.le_refl _) (fun g hg=>⟨hok g (Nat.le_trans K6.out.size hg),fun hx=>by have:=(O6.out.lt g hx.symm).2;omega⟩) (Nat.le_trans hB K6.out.size) PX;clear PX;go_wp2_with fail
        refine HM.mono ?_;clear HM;rintro e w4 ⟨hk,o,hev,hpost⟩;have K4:=A0 (K6.out.trans (hk.mono fun _ h=>h.1));have X4:=A0 (X6.out.keptS hk);have O4:=A0 (A2a O6.out hk (by decide));have E4:=A0 hev;clear hk hev K6 O6 X6 N6;cases o with
        |fail er p=>
         obtain⟨rfl,he⟩:=hpost;exact⟨rfl,U7 K4.out (VR.out _ (F4 Q1.out HC.out (M.Ev.bad E4.out))) he⟩
        |ok s4 z=>
         obtain⟨rfl,hn4,hp,hg⟩:=hpost;have NX:=A0 (part_len' (.inr rfl) E4.out);obtain⟨y,names4⟩:=z;have N4:=A0 hn4;clear hn4;simp only at N4 NX;have P4:=A0 hp;have G4:=A0 hg;have hi4:=hp.at';clear hp hg;have VN:=A0 (fun o (ho:M.Ev L (fun r=>r.list .par E d s4 names4 (acc++[y])) o)=>VR.out o (F4 Q1.out HC.out (M.Ev.bind (k:=fun r s x=>r.list .par E d s x.2 (acc++[x.1])) E4.out ho)));clear VR;obtain⟨i0,hi0,hz0,hz1,hz2⟩:=info_parts Tryz.infoInt;have hw3:=A0 (O4.out.alloc (.cells #[iV y] 3));have hl4:acc.length+1<=s4.i:=by
          have h2:=G4.out.1;first|(simp only[M.St.nx]at h2;omega)|omega
         go_wp2_with (at_builtin;refine wpList_append_own_at _ rfl _ _ 48 rfl w.heap.size 3 i0 (iV 0) 1 8 Tryz.underlying48 hi0 hz0 hz1 hz2 rfl (by decide) _ _ _ rfl hw3.out (aD w4.heap.size 0) 1 1 [iV y] rfl rfl ?c1 ?c2 ?c3 ?c4 ?c5 ?_)
         case c1=>exact cell_one_new _ _ _
         case c2=>intro u hu;simp at hu;rcases hu with rfl;rfl
         case c3=>simp only[maxLen];omega
         case c4=>omega
         case c5=>have:=K4.out.size;simp;omega
         · intro v' w5 hown2 hg2 _ hat;obtain⟨ad2,c2,hv2⟩:=B6 hown2;rw[hv2]at hown2 hat⊢;have PG:=A0 ((P4.out.alloc (.cells #[iV y] 3)).grown (v:= .slice ad acc.length c) (v':= .slice ad2 (acc.length+1) c2) (O4.out.alloc _) (.inl rfl) hg2 (by simpa using hat));have KG:=A0 ((K4.out.alloc (.cells #[iV y] 3)).grown (O4.out.alloc _) hg2);have NG:=A0 ((N4.out.alloc (.cells #[iV y] 3)).grown (O4.out.alloc _) hg2);have XG:=A0 ((X4.out.alloc (.cells #[iV y] 3)).grown (O4.out.alloc _) hg2);have OG:=A0 hown2;clear hown2 hg2 hat hw3 P4 O4 K4 hv2 N4 X4;go_wp2_with fail
           go_roundw
           case rel=>
            have h1:=GR.out;have h2:=G4.out;simp only[D6,G0,M.St.nx]at h1 h2;refine⟨names4,acc++[y],s4,ad2,c2,by simp,by simp;omega,(by have h3:names4.length=names.length+1:=NX.out;have h4:names.length=acc.length:=NL.out;show names4.length=(acc++[y]).length;rw[List.length_append];show _=acc.length+1;omega),NG.out,XG.out,KG.out,⟨by omega,by omega,by omega,by omega⟩, ?_, ?_,VN.out⟩
            · have:=OG.out;show World.ownsRow _ _ _ _ _ _ _;rw[J9];simpa using this
            · have:=PG.out;show Pst _ _ _ _ _ _ _ _;simpa using this
           case measure=>
            have h2:=G4.out;have h3:=PG.out.nxt;simp only[D6,M.St.nx]at h2;rw[h3,hnx];omega
      · exact⟨rfl,U7 K6.out (VR.out _ (B9a Q1.out (by rw[if_neg hz,M.need,hb];rfl))) (by decide)⟩
  · have PX:Pst w3 B pb tv L (fun g=>ok g/\some g≠Value.ownBlock (.slice ad acc.length c)) d s'.nx:=by simpa using P3.out
    have PY:=A0 (PX.mono (ok':=ok) (fun g hg _=>hg.1));have EV:=A0 (VR.out _ (B8a Q1.out));have GX:=A0 (show A9b s s'.nx by
     have h2:=GR.out;simp only[A9b,G0,M.St.nx]at h2⊢
     omega)
    clear VR P3 PX;go_wp2_with fail
    go_ret;exact I6b K3.out EV.out O3.out (by simp only[M.St.nx];omega) PY.out GX.out
end
open Go.RowKit
section
variable {B pb:Nat} {tv:Value} {L:List M.Tk}
theorem heap_alloc_old (w:World) (o:Obj) {k:Nat} (hk:k<w.heap.size):(w.alloc o).heap[k]? =w.heap[k]? :=Below.heap_alloc _ _ _ hk
theorem J1b (hL:LOk L) (m:Nat) (hE:∀m',m'<=m->I7 B pb tv L 143 (fun d s r=>r.expr d s) m'):Z7c B pb tv L 193 J1c m:=by
 intro at0 w ok d s hm hok hB h;have hi0:=h.at';have hs:=hL.short;have hfw:=h.few;have K:=A0 (((Kept.refl B ok w).alloc (.cells #[pV pb] 94)).alloc (.cells #[sN] 148));have P:=A0 ((h.alloc (.cells #[pV pb] 94)).alloc (.cells #[sN] 148));have BX:Hid (bxv ((w.alloc (.cells #[pV pb] 94)).alloc (.cells #[sN] 148)) w.heap.size pb):=bxv.alloc (heap_alloc_new w _) _;have NM:Hid (Nms ((w.alloc (.cells #[pV pb] 94)).alloc (.cells #[sN] 148)) w.heap.size (w.heap.size+1) []):=by
  refine⟨by omega,none,0, ?_,World.ownsRow_nil _ _ _ _⟩;have:=heap_alloc_new (w.alloc (.cells #[pV pb] 94)) (.cells #[sN] 148);simpa using this
 have V:Hid (∀o,M.Ev L (fun r=>M.A3 (r.list .obj [125] d s [] []) fun s' l=>M.addN s' (M.Nd.mk 10 0 0 0 l [] 0 (-1) at0)) o->M.Ev L (fun r=>J1c at0 d s r) o):=fun o ho=>ho;have H1:=A0 (N1a (ok:=ok) hL (L.length - s.i) (fun m' hm' w ok d s lo nb bx names hbx hn hl hlo hm hok hB h=>J2b hL m' (fun m'' h''=>hE m'' (by omega)) w ok d s lo nb bx names hbx hn hl hlo hm hok hB h) [125] w.heap.size (w.heap.size+1) w.heap.size BX.out NM.out (by simp;omega) (Nat.le_refl _) (fun g hg=>hok g (Nat.le_trans K.out.size hg)) (Nat.le_trans hB K.out.size) P.out);clear h P NM;generalize hFF:(fun (r:M.Sp)=>J1c at0 d s r)=FF at V;have HFF:Hid (J1c at0 d s=FF):=hFF;clear hFF;rw[HFF.out];clear HFF;go_enter Tryz.func193,Tryz.ntmps193;go_wp2_with fail
 refine H1.out.mono ?_;rintro e w3 ⟨hk,o,hev,hpost⟩;have K':=A0 (K.out.transS hk);have X3:=A0 (BX.out.keptS hk);have E1:=A0 hev;have hz:=K.out.size;clear hk hev H1 K BX;have K:=A0 K'.out;clear K';cases o with
 |fail er p=>
  obtain⟨rfl,he⟩:=hpost;exact⟨rfl,B9 K.out (V.out _ (M.Ev.bad E1.out)) he⟩
 |ok s1 l=>
  obtain⟨la,lc,rfl,ho,hl,hp,hg⟩:=hpost;have hg1:_/\_/\_/\_:=hg;have P:=A0 hp;have O1:=A0 ho;have hi1:=hp.at';have cb3:w3.cell? (aD w.heap.size 0)=some (pV pb):=cr X3.out rfl;clear hp ho hg X3;have HX:=A0 (J2 hL P.out (M.Nd.mk 10 0 0 0 l [] 0 (-1) at0) 0 la l.length lc ⟨_,rfl,C9 O1.out (Nat.zero_le _),fun g hg=>hok g (by have:=(A9 O1.out g hg).1;omega)⟩ rfl (by omega) (Nat.le_trans hB K.out.size) (fun g hg=>hok g (Nat.le_trans K.out.size hg)));have EV:=A0 (V.out _ (M.Ev.bind (k:=fun r s' l=>M.addN s' (M.Nd.mk 10 0 0 0 l [] 0 (-1) at0)) E1.out M.Ev.pure));have GX:=A0 (show D6 s ⟨s1.i,s1.N++[M.Nd.mk 10 0 0 0 l [] 0 (-1) at0],s1.T⟩ by
   simp only[D6,List.length_append,List.length_cons,List.length_nil]
   omega)
  have hxx:(0:Int)<=(s1.N.length:Int)/\(s1.N.length:Int)<((s1.N++[M.Nd.mk 10 0 0 0 l [] 0 (-1) at0]).length:Int):=by simp;omega
  clear P V;go_wp2_with fail
  refine HX.out.mono ?_;rintro e w9 ⟨rfl,k9,p9⟩;have K9:=A0 (K.out.trans k9);have P9:=A0 p9;clear k9 p9 HX;go_wp2_with fail
  go_ret;exact D8 K9.out EV.out P9.out GX.out hxx
theorem D9b (hL:LOk L) (m:Nat) (hK:∀m',m'<=m->I7 B pb tv L 145 (fun d s r=>r.block d s) m'):Z7c B pb tv L 192 (fnS L) m:=by
 intro at0 w ok d s hm hok hB h;have hi0:=h.at';have hs:=hL.short;have hfw:=h.few;have K:=A0 ((Kept.refl B ok w).alloc (.cells #[pV pb] 94));have P:=A0 (h.alloc (.cells #[pV pb] 94));have BX:Hid (bxv (w.alloc (.cells #[pV pb] 94)) w.heap.size pb):=heap_alloc_new w _;have V:Hid (∀o,M.Ev L (fun r=>M.A3 (M.need L s [40]) fun s1 (_:Unit)=>M.A3 (r.list .par [41] d s1 [] []) fun s2 l=>M.A3 (M.typeIf L r d s2) fun s3 t=>M.A3 (r.block d s3) fun s4 x=>M.addN s4 (M.Nd.mk 6 x 0 0 l [] 0 t at0)) o->M.Ev L (fun r=>fnS L at0 d s r) o):=fun o ho=>ho;have H1:=A0 (G5 hL P.out [40]);clear h P;generalize hFF:(fun (r:M.Sp)=>fnS L at0 d s r)=FF at V;have HFF:Hid (fnS L at0 d s=FF):=hFF;clear hFF;rw[HFF.out];clear HFF;go_enter Tryz.func192,Tryz.ntmps192;go_wp2_with fail
 refine H1.out.mono ?_;rintro e w1 ⟨hk,hr⟩;have K':=A0 (K.out.trans hk);have X1:=A0 (BX.out.keptS (hk.toS (lo:=0)));have hz1:w.heap.size<w1.heap.size:=by have:=hk.size;simp at this;omega
 clear hk H1 K BX;have K:=A0 K'.out;clear K';rcases hr with ⟨hb,rfl,hp⟩|⟨hb,rfl⟩
 case inr=>exact⟨rfl,B9 K.out (V.out _ (M.Ev.bad (O9 hb))) (by decide)⟩
 have V':=A0 (fun o (ho:M.Ev L (fun r=>M.A3 (r.list .par [41] d s.nx [] []) fun s2 l=>M.A3 (M.typeIf L r d s2) fun s3 t=>M.A3 (r.block d s3) fun s4 x=>M.addN s4 (M.Nd.mk 6 x 0 0 l [] 0 t at0)) o)=>V.out o (M.Ev.bind (k:=fun r s1 (_:Unit)=>M.A3 (r.list .par [41] d s1 [] []) fun s2 l=>M.A3 (M.typeIf L r d s2) fun s3 t=>M.A3 (r.block d s3) fun s4 x=>M.addN s4 (M.Nd.mk 6 x 0 0 l [] 0 t at0)) (K8 hb) ho));clear V hb;have V:=A0 V'.out;clear V';have hi1:=hp.at';simp only[M.St.nx]at hi1;have K':=A0 (K.out.alloc (.cells #[sN] 148));have P:=A0 (hp.alloc (.cells #[sN] 148));have X2:=A0 (X1.out.alloc (.cells #[sN] 148));have cb1:w1.cell? (aD w.heap.size 0)=some (pV pb):=cr X1.out rfl;have NM:Hid (Nms (w1.alloc (.cells #[sN] 148)) w.heap.size w1.heap.size []):=⟨by omega,none,0,heap_alloc_new _ _,World.ownsRow_nil _ _ _ _⟩;clear hp K X1;have K:=A0 K'.out;clear K';have H1:=A0 (I7a (ok:=ok) hL (L.length - s.nx.i) (fun m' hm' w ok d s lo nb bx names hbx hn hl hlo hm hok hB h=>X3a hL w ok d s lo nb bx names hbx hn hl hlo hok hB h) [41] w.heap.size w1.heap.size w.heap.size X2.out NM.out (by simp;omega) (Nat.le_refl _) (fun g hg=>hok g (Nat.le_trans K.out.size hg)) (Nat.le_trans hB K.out.size) P.out);clear P NM;go_wp2_with fail
 refine H1.out.mono ?_;rintro e w3 ⟨hk,o,hev,hpost⟩;have K':=A0 (K.out.transS hk);have X3:=A0 (X2.out.keptS hk);have E1:=A0 hev;have hz:=K.out.size;clear hk hev H1 K X2 cb1;have K:=A0 K'.out;clear K';cases o with
 |fail er p=>
  obtain⟨rfl,he⟩:=hpost;exact⟨rfl,B9 K.out (V.out _ (M.Ev.bad E1.out)) he⟩
 |ok s1 l=>
  obtain⟨la,lc,rfl,ho,hl,hp,hg⟩:=hpost;have hg1:_/\_/\_/\_:=hg;simp only[M.St.nx]at hg1;have O1:=A0 ho;have hi2:=hp.at';have cb3:w3.cell? (aD w.heap.size 0)=some (pV pb):=cr X3.out rfl;have V':=A0 (fun o (ho:M.Ev L (fun r=>M.A3 (M.typeIf L r d s1) fun s3 t=>M.A3 (r.block d s3) fun s4 x=>M.addN s4 (M.Nd.mk 6 x 0 0 l [] 0 t at0)) o)=>V.out o (M.Ev.bind (k:=fun r s2 l=>M.A3 (M.typeIf L r d s2) fun s3 t=>M.A3 (r.block d s3) fun s4 x=>M.addN s4 (M.Nd.mk 6 x 0 0 l [] 0 t at0)) E1.out ho));clear V E1;have V:=A0 V'.out;clear V';have H1:=A0 (C1a hL hp (fun g hg=>hok g (Nat.le_trans K.out.size hg)) (Nat.le_trans hB K.out.size));clear hp ho hg;go_wp2_with fail
  refine H1.out.mono ?_;rintro e w4 ⟨hk,o,hev,hpost⟩;have K':=A0 (K.out.trans hk);have X4:=A0 (X3.out.keptS (hk.toS (lo:=0)));have O4:=A0 (D9 O1.out hk (by decide));have E1:=A0 hev;clear hk hev H1 K X3 O1 cb3;have K:=A0 K'.out;clear K';cases o with
  |fail er p=>
   obtain⟨rfl,he⟩:=hpost;exact⟨rfl,B9 K.out (V.out _ (M.Ev.bad E1.out)) he⟩
  |ok s2 t=>
   obtain⟨rfl,hp,hg⟩:=hpost;have hg2:_/\_/\_/\_:=hg;have hi3:=hp.at';have cb4:w4.cell? (aD w.heap.size 0)=some (pV pb):=cr X4.out rfl;have V':=A0 (fun o (ho:M.Ev L (fun r=>M.A3 (r.block d s2) fun s4 x=>M.addN s4 (M.Nd.mk 6 x 0 0 l [] 0 t at0)) o)=>V.out o (M.Ev.bind (k:=fun r s3 t=>M.A3 (r.block d s3) fun s4 x=>M.addN s4 (M.Nd.mk 6 x 0 0 l [] 0 t at0)) E1.out ho));clear V E1;have V:=A0 V'.out;clear V';have H1:=A0 (hK (L.length - s2.i) (by omega) w4 ok d s2 (Nat.le_refl _) (fun g hg=>hok g (Nat.le_trans K.out.size hg)) (Nat.le_trans hB K.out.size) hp);clear hp hg;go_wp2_with fail
   refine H1.out.mono ?_;rintro e w5 ⟨hk,o,hev,hpost⟩;have K':=A0 (K.out.trans hk);have X5:=A0 (X4.out.keptS (hk.toS (lo:=0)));have O5:=A0 (D9 O4.out hk (by decide));have E1:=A0 hev;clear hk hev H1 K X4 O4 cb4;have K:=A0 K'.out;clear K';cases o with
   |fail er p=>
    obtain⟨rfl,he⟩:=hpost;exact⟨rfl,B9 K.out (V.out _ (M.Ev.bad E1.out)) he⟩
   |ok s3 x=>
    obtain⟨rfl,hp,hg,hx⟩:=hpost;have hg3:_/\_/\_/\_:=hg;have hi4:=hp.at';have cb5:w5.cell? (aD w.heap.size 0)=some (pV pb):=cr X5.out rfl;have HX:=A0 (L9 hL hp (M.Nd.mk 6 x 0 0 l [] 0 t at0) la l.length lc ⟨_,rfl,C9 O5.out (Nat.zero_le _),fun g hg=>hok g (by have:=(A9 O5.out g hg).1;omega)⟩ (by omega) (Nat.le_trans hB K.out.size) (fun g hg=>hok g (Nat.le_trans K.out.size hg)));have EV:=A0 (V.out _ (M.Ev.bind (k:=fun r s4 x=>M.addN s4 (M.Nd.mk 6 x 0 0 l [] 0 t at0)) E1.out M.Ev.pure));have GX:=A0 (show D6 s ⟨s3.i,s3.N++[M.Nd.mk 6 x 0 0 l [] 0 t at0],s3.T⟩ by
     simp only[D6,List.length_append,List.length_cons,List.length_nil]
     omega)
    have hxx:(0:Int)<=(s3.N.length:Int)/\(s3.N.length:Int)<((s3.N++[M.Nd.mk 6 x 0 0 l [] 0 t at0]).length:Int):=by simp;omega
    clear hp hg V;go_wp2_with fail
    refine HX.out.mono ?_;rintro e w9 ⟨rfl,k9,p9⟩;have K9:=A0 (K.out.trans k9);have P9:=A0 p9;clear k9 p9 HX;go_wp2_with fail
    go_ret;exact D8 K9.out EV.out P9.out GX.out hxx
end
open Go.RowKit
section
variable {B pb:Nat} {tv:Value} {L:List M.Tk}
def ConX (B pb:Nat) (tv:Value) (L:List M.Tk) (m:Nat):Prop:=
 I7 B pb tv L 185 (fun d s r=>r.oper d s) m/\I7 B pb tv L 143 (fun d s r=>r.expr d s) m/\
 I7 B pb tv L 145 (fun d s r=>r.block d s) m/\I7 B pb tv L 55 (fun d s r=>r.stmt d s) m
theorem Y3c (hL:LOk L) (hN:M.NuL L):∀m,ConX B pb tv L m:=by
 intro m;induction m using Nat.strongRecOn with
 |ind m ih=>
  have hE:∀m',m'<m->I7 B pb tv L 143 (fun d s r=>r.expr d s) m':=fun m' h=>(ih m' h).2.1;have hS:=O3b hL hN m hE (fun m' h=>D9b hL m' (fun m'' h'=>(ih m'' (by omega)).2.2.1)) (fun m' h=>J1b hL m' (fun m'' h'=>hE m'' (by omega)));have hO:=I8b hL m (fun m' h=>(ih m' h).1) hS (fun m' h=>B3b hL m' (fun m'' h'=>hE m'' (by omega)));have hO':∀m',m'<=m->I7 B pb tv L 185 (fun d s r=>r.oper d s) m':=fun m' h=>if e:m'=m then e ▸ hO else (ih m' (by omega)).1
  have hP:∀m',m'<=m->_:=fun m' h=>I5b hL m' (fun m'' h'=>hO' m'' (by omega));have hSm:∀m',m'<=m->_:=fun m' h=>S6c hL m' (fun m'' h'=>hP m'' (by omega));have hEm:=U7a hL m (V1a hL m (fun m' h=>hSm m' h));have hE':∀m',m'<=m->I7 B pb tv L 143 (fun d s r=>r.expr d s) m':=fun m' h=>if e:m'=m then e ▸ hEm else hE m' (by omega)
  have hB:=D6c hL m (fun m' h=>(ih m' h).2.2.2);have hA:=N9a hL (fun d s s' x h=>M.O2c d s s' x h) m hE' (fun m' h=>(ih m' h).2.2.1);exact⟨hO,hEm,hB,W3a hL m hA⟩
end
end Go.Proofs.YtgdnpemiiageaaaGreatDoor
