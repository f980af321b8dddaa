/-
  A part of the proof.
-/
import Derived.Test.YtgdnpemiiageaaaGreatDoorParseB
set_option maxHeartbeats 16000000
set_option maxRecDepth 100000
namespace Go.Proofs.YtgdnpemiiageaaaGreatDoor
open Go.RowKit
section
variable {w:World} {B pb:Nat} {tv:Value} {L:List M.Tk} {ok:Nat->Prop} {d:Nat} {s:M.St}
theorem B8a {p:M.F7b} {E:List UInt8} {nm:List (List UInt8)} {acc:List Int} (hq:M.isM L s.i [E]=true):M.Ev L (fun r=>r.list p E d s nm acc) (.ok s.nx acc):=
 M.Ev.step (M.Ev.pure.eq fun r=>by show (if M.isM L s.i [E] then _ else _)=_;rw[hq];rfl)
theorem F4 {p:M.F7b} {E:List UInt8} {nm:List (List UInt8)} {acc:List Int} {s1:M.St} {o:M.Out (List Int)} (hq:M.isM L s.i [E]=false) (hc:(if acc.length=0 then some (.ok s ()) else M.need L s [44])=some (.ok s1 ()))
 (h:M.Ev L (fun r=>M.A3 (M.part L r d s1 nm p) fun s x=>r.list p E d s x.2 (acc++[x.1])) o):M.Ev L (fun r=>r.list p E d s nm acc) o:=
 M.Ev.step (h.eq fun r=>by
  show (if M.isM L s.i [E] then _ else M.A3 (if acc.length=0 then some (.ok s ()) else M.need L s [44]) _)=_;rw[hq,hc];rfl)
theorem B9a {p:M.F7b} {E:List UInt8} {nm:List (List UInt8)} {acc:List Int} {e q:Int} (hq:M.isM L s.i [E]=false) (hc:(if acc.length=0 then some (.ok s ()) else M.need L s [44])=some (.fail e q)):M.Ev L (fun r=>r.list p E d s nm acc) (.fail e q):=
 M.Ev.step (M.Ev.pure.eq fun r=>by
  show (if M.isM L s.i [E] then _ else M.A3 (if acc.length=0 then some (.ok s ()) else M.need L s [44]) _)=_;rw[hq,hc];rfl)
def G0 (s s':M.St):Prop:=s.i<=s'.i/\s'.N.length+s.i<=s.N.length+s'.i/\s'.T.length+s.i<=s.T.length+s'.i/\s.N.length<=s'.N.length
def Y2b (w:World) (B pb:Nat) (tv:Value) (L:List M.Tk) (ok:Nat->Prop) (d:Nat) (s:M.St) (φ:M.Sp->Option (M.Out (List Int))) (e:Ending) (w':World):Prop:=
 Kept B ok w w'/\∃o,M.Ev L φ o/\match o with
  | .ok s' l=>∃ad c,e= .returned (.slice ad l.length c)/\w'.ownsRow w.heap.size 3 1 (.slice ad l.length c) l.length (C7 l)/\l.length<=s'.i/\Pst w' B pb tv L ok d s'/\D6 s s'
  | .fail er p=>e=gu er p/\er≠0
theorem U8 {φ:M.Sp->Option (M.Out (List Int))} {w':World} {er p:Int} (hk:Kept B ok w w') (hev:M.Ev L φ (.fail er p)) (he:er≠0):Y2b w B pb tv L ok d s φ (gu er p) w':=⟨hk,_,hev,rfl,he⟩
theorem I7b {φ:M.Sp->Option (M.Out (List Int))} {w':World} {s':M.St} {l:List Int} {ad:Option Addr} {c:Nat} (hk:Kept B ok w w') (hev:M.Ev L φ (.ok s' l)) (ho:w'.ownsRow w.heap.size 3 1 (.slice ad l.length c) l.length (C7 l)) (hl:l.length<=s'.i) (hp:Pst w' B pb tv L ok d s') (hg:D6 s s'):
 Y2b w B pb tv L ok d s φ (.returned (.slice ad l.length c)) w':=⟨hk,_,hev,_,_,rfl,ho,hl,hp,hg⟩
theorem D1b (hL:LOk L) (m:Nat) (hTyp:∀m',m'<=m->Con B pb tv L 166 (fun d s r=>r.typ d s) m') (E:List UInt8) (hm:L.length - s.i<=m) (hok:∀g,w.heap.size<=g->ok g) (hB:B<=w.heap.size) (h:Pst w B pb tv L ok d s):
 Calls Tryz.prog 187 #[pV pb,.string ⟨E.toArray⟩,.func (.func 166) #[pV pb] #[]] w (Y2b w B pb tv L ok d s (fun r=>r.list .typ E d s [] [])):=by
 have hs:=hL.short;have hi:=h.at';have HP:=A0 h;clear h;go_enter Tryz.func187,Tryz.ntmps187;go_wp2_with fail
 go_loopw [7] (fun v wr=>∃(acc:List Int) (s':M.St) (ad:Option Addr) (c:Nat),v= .slice ad acc.length c/\acc.length<=s'.i/\Hid (Kept B ok w wr)/\Hid (G0 s s')/\Hid (wr.ownsRow w.heap.size 3 1 (.slice ad acc.length c) acc.length (C7 acc))/\
  Hid (Pst wr B pb tv L (fun g=>ok g/\some g≠Value.ownBlock (.slice ad acc.length c)) d s')/\Hid (∀o,M.Ev L (fun r=>r.list .typ E d s' [] acc) o->M.Ev L (fun r=>r.list .typ E d s [] []) o)) (fun _ wr=>L.length - nxt wr pb)
 case atStart=>exact⟨[],s,none,0,rfl,by simp,Kept.refl _ _ _,⟨Nat.le_refl _,by omega,by omega,by omega⟩,World.ownsRow_nil _ _ _ _,HP.out.mono (fun g hg _=>⟨hg,by simp[Value.ownBlock]⟩),fun _ h=>h⟩
 case round=>
  obtain⟨acc,s',ad,c,rfl,hacc,KR,GR,OR,PR,VR⟩:=hrel;have HT:=F5 hL PR.out E;have hi':=PR.out.at';have hnx:=PR.out.nxt;generalize hq:M.isM L s'.i [E]=q at *;have Q1:=A0 hq;clear hq;go_wp2_with fail
  refine HT.mono ?_;clear HT;rintro e w3 ⟨rfl,hk,hp⟩;have K3:=A0 (KR.out.trans (hk.mono fun _ h=>h.1));have P3:=A0 hp;have O3:=A0 (D9 OR.out hk (by decide));clear hk hp OR PR KR;cases q
  · have PX:Pst w3 B pb tv L (fun g=>ok g/\some g≠Value.ownBlock (.slice ad acc.length c)) d s':=by simpa using P3.out
    clear P3;by_cases hz:acc.length=0
    · have HC:Hid ((if acc.length=0 then some (.ok s' ()) else M.need L s' [44])=some (M.Out.ok s' ())):=by show _=_;rw[if_pos hz]
      have ha:acc=[]:=List.eq_nil_of_length_eq_zero hz;subst ha;simp only[List.length_nil]at O3 PX hacc⊢;clear hz;have hj:s.i<=s'.i:=GR.out.1;have HM:=hTyp (L.length - s'.i) (by first|(simp only[M.St.nx];omega)|omega) w3 _ d s' (Nat.le_refl _) (fun g hg=>⟨hok g (Nat.le_trans K3.out.size hg),fun hx=>by have:=(O3.out.lt g hx.symm).2;omega⟩) (Nat.le_trans hB K3.out.size) PX;clear PX;go_wp2_with fail
      refine HM.mono ?_;clear HM;rintro e w4 ⟨hk,o,hev,hpost⟩;have K4:=A0 (K3.out.trans (hk.mono fun _ h=>h.1));have O4:=A0 (D9 O3.out hk (by decide));have E4:=A0 hev;clear hk hev K3 O3;cases o with
      |fail er p=>
       obtain⟨rfl,he⟩:=hpost;exact⟨rfl,U8 K4.out (VR.out _ (F4 Q1.out HC.out (M.Ev.bad (M.Ev.bad E4.out)))) he⟩
      |ok s4 y=>
       obtain⟨rfl,hp,hg⟩:=hpost;have P4:=A0 hp;have G4:=A0 hg;have hi4:=hp.at';clear hp hg;have VN:=A0 (fun o (ho:M.Ev L (fun r=>r.list .typ E d s4 [] ([]++[y])) o)=>VR.out o (F4 Q1.out HC.out (M.Ev.bind (M.Ev.bind E4.out (k:=fun _ s x=>some (.ok s (x,[]))) M.Ev.pure) ho)));clear VR;obtain⟨i0,hi0,hz0,hz1,hz2⟩:=info_parts Tryz.infoInt;have hw3:=A0 (O4.out.alloc (.cells #[iV y] 3));have hl4:0+1<=s4.i:=by
        have h2:=G4.out.1;first|(simp only[M.St.nx]at h2;omega)|omega
       go_wp2_with (at_builtin;refine wpList_append_own_at _ rfl _ _ 48 rfl w.heap.size 3 i0 (iV 0) 1 8 Tryz.underlying48 hi0 hz0 hz1 hz2 rfl (by decide) _ _ _ rfl hw3.out (aD w4.heap.size 0) 1 1 [iV y] rfl rfl ?c1 ?c2 ?c3 ?c4 ?c5 ?_)
       case c1=>exact cell_one_new _ _ _
       case c2=>intro u hu;simp at hu;rcases hu with rfl;rfl
       case c3=>simp only[maxLen];omega
       case c4=>omega
       case c5=>have:=K4.out.size;simp;omega
       · intro v' w5 hown2 hg2 _ hat;obtain⟨ad2,c2,hv2⟩:=B6 hown2;rw[hv2]at hown2 hat⊢;have PG:=A0 ((P4.out.alloc (.cells #[iV y] 3)).grown (v:= .slice ad 0 c) (v':= .slice ad2 (0+1) c2) (O4.out.alloc _) (.inl rfl) hg2 (by simpa using hat));have KG:=A0 ((K4.out.alloc (.cells #[iV y] 3)).grown (O4.out.alloc _) hg2);have OG:=A0 hown2;clear hown2 hg2 hat hw3 P4 O4 K4 hv2;go_wp2_with fail
         go_roundw
         case rel=>
          have h1:=GR.out;have h2:=G4.out;simp only[D6,G0]at h1 h2;refine⟨[y],s4,ad2,c2,by simp,by simp;omega,KG.out,⟨by omega,by omega,by omega,by omega⟩, ?_, ?_,VN.out⟩
          · have:=OG.out;show World.ownsRow _ _ _ _ _ _ _;simpa[C7]using this
          · have:=PG.out;show Pst _ _ _ _ _ _ _ _;simpa using this
         case measure=>
          have h2:=G4.out;have h3:=PG.out.nxt;simp only[D6]at h2;rw[h3,hnx];omega
    · have hz':(0:Int)<(acc.length:Int):=by omega
      have HN:=G5 hL PX [44];go_wp2_with fail
      refine HN.mono ?_;clear HN;rintro e w6 ⟨hk,hr⟩;have K6:=A0 (K3.out.trans (hk.mono fun _ h=>h.1));have O6:=A0 (D9 O3.out hk (by decide));clear hk K3 O3 PX;rcases hr with ⟨hb,rfl,PX⟩|⟨hb,rfl⟩
      · have hi6:=PX.at';have HC:Hid ((if acc.length=0 then some (.ok s' ()) else M.need L s' [44])=some (M.Out.ok s'.nx ())):=by show _=_;rw[if_neg hz,M.need,hb];rfl
        clear hb;have hj:s.i<=s'.i:=GR.out.1;have HM:=hTyp (L.length - s'.nx.i) (by first|(simp only[M.St.nx];omega)|omega) w6 _ d s'.nx (Nat.le_refl _) (fun g hg=>⟨hok g (Nat.le_trans K6.out.size hg),fun hx=>by have:=(O6.out.lt g hx.symm).2;omega⟩) (Nat.le_trans hB K6.out.size) PX;clear PX;go_wp2_with fail
        refine HM.mono ?_;clear HM;rintro e w4 ⟨hk,o,hev,hpost⟩;have K4:=A0 (K6.out.trans (hk.mono fun _ h=>h.1));have O4:=A0 (D9 O6.out hk (by decide));have E4:=A0 hev;clear hk hev K6 O6;cases o with
        |fail er p=>
         obtain⟨rfl,he⟩:=hpost;exact⟨rfl,U8 K4.out (VR.out _ (F4 Q1.out HC.out (M.Ev.bad (M.Ev.bad E4.out)))) he⟩
        |ok s4 y=>
         obtain⟨rfl,hp,hg⟩:=hpost;have P4:=A0 hp;have G4:=A0 hg;have hi4:=hp.at';clear hp hg;have VN:=A0 (fun o (ho:M.Ev L (fun r=>r.list .typ E d s4 [] (acc++[y])) o)=>VR.out o (F4 Q1.out HC.out (M.Ev.bind (M.Ev.bind E4.out (k:=fun _ s x=>some (.ok s (x,[]))) M.Ev.pure) ho)));clear VR;obtain⟨i0,hi0,hz0,hz1,hz2⟩:=info_parts Tryz.infoInt;have hw3:=A0 (O4.out.alloc (.cells #[iV y] 3));have hl4:acc.length+1<=s4.i:=by
          have h2:=G4.out.1;first|(simp only[M.St.nx]at h2;omega)|omega
         go_wp2_with (at_builtin;refine wpList_append_own_at _ rfl _ _ 48 rfl w.heap.size 3 i0 (iV 0) 1 8 Tryz.underlying48 hi0 hz0 hz1 hz2 rfl (by decide) _ _ _ rfl hw3.out (aD w4.heap.size 0) 1 1 [iV y] rfl rfl ?c1 ?c2 ?c3 ?c4 ?c5 ?_)
         case c1=>exact cell_one_new _ _ _
         case c2=>intro u hu;simp at hu;rcases hu with rfl;rfl
         case c3=>simp only[maxLen];omega
         case c4=>omega
         case c5=>have:=K4.out.size;simp;omega
         · intro v' w5 hown2 hg2 _ hat;obtain⟨ad2,c2,hv2⟩:=B6 hown2;rw[hv2]at hown2 hat⊢;have PG:=A0 ((P4.out.alloc (.cells #[iV y] 3)).grown (v:= .slice ad acc.length c) (v':= .slice ad2 (acc.length+1) c2) (O4.out.alloc _) (.inl rfl) hg2 (by simpa using hat));have KG:=A0 ((K4.out.alloc (.cells #[iV y] 3)).grown (O4.out.alloc _) hg2);have OG:=A0 hown2;clear hown2 hg2 hat hw3 P4 O4 K4 hv2;go_wp2_with fail
           go_roundw
           case rel=>
            have h1:=GR.out;have h2:=G4.out;simp only[D6,G0,M.St.nx]at h1 h2;refine⟨acc++[y],s4,ad2,c2,by simp,by simp;omega,KG.out,⟨by omega,by omega,by omega,by omega⟩, ?_, ?_,VN.out⟩
            · have:=OG.out;show World.ownsRow _ _ _ _ _ _ _;rw[J9];simpa using this
            · have:=PG.out;show Pst _ _ _ _ _ _ _ _;simpa using this
           case measure=>
            have h2:=G4.out;have h3:=PG.out.nxt;simp only[D6,M.St.nx]at h2;rw[h3,hnx];omega
      · exact⟨rfl,U8 K6.out (VR.out _ (B9a Q1.out (by rw[if_neg hz,M.need,hb];rfl))) (by decide)⟩
  · have PX:Pst w3 B pb tv L (fun g=>ok g/\some g≠Value.ownBlock (.slice ad acc.length c)) d s'.nx:=by simpa using P3.out
    have PY:=A0 (PX.mono (ok':=ok) (fun g hg _=>hg.1));have EV:=A0 (VR.out _ (B8a Q1.out));have GX:=A0 (show D6 s s'.nx by
     have h2:=GR.out;simp only[D6,G0,M.St.nx]at h2⊢
     omega)
    clear VR P3 PX;go_wp2_with fail
    go_ret;exact I7b K3.out EV.out O3.out (by simp only[M.St.nx];omega) PY.out GX.out
theorem W5c (hL:LOk L) (m:Nat) (hTyp:∀m',m'<=m->Con B pb tv L 166 (fun d s r=>r.typ d s) m'):Con B pb tv L 183 (fun d s r=>r.fob d s) m:=by
 intro w ok d s hm hok hB h;have hs:=hL.short;have hi:=h.at';have HF:=A0 h.few;have H1:=D1b hL m hTyp [41] hm hok hB h;have HV:Hid (∀o,M.Ev L (fun r=>M.A3 (r.list .typ [41] d s [] []) fun s l=>if M.isM L s.i [[61,62]] then M.A3 (r.typ d s.nx) fun s x=>M.addT s ⟨9,[],l,x⟩ else match l with|[x]=>some (.ok s x)|_=>M.flt L s.i 1) o->M.Ev L (fun r=>r.fob d s) o):=fun o ho=>M.Ev.step (ho.eq (fun r=>rfl));clear h;go_enter Tryz.func183,Tryz.ntmps183;go_wp2_with fail
 refine H1.mono ?_;clear H1;rintro e w1 ⟨hk,o,hev,hpost⟩;have K1:=A0 hk;have E1:=A0 hev;clear hk hev;cases o with
 |fail er p=>
  obtain⟨rfl,he⟩:=hpost;exact⟨rfl,I1 K1.out (HV.out _ (M.Ev.bad E1.out)) he⟩
 |ok s1 l=>
  obtain⟨ad,c,rfl,ho,hl,hp,hg⟩:=hpost;have P1:=A0 hp;have G1:=A0 hg;have O1:=A0 ho;have hi1:=hp.at';have HT:=F5 hL hp [61,62];clear hp hg ho;have V1:=A0 (fun o ho=>HV.out o (M.Ev.bind E1.out ho));clear HV E1;generalize hq:M.isM L s1.i [[61,62]]=q at *;have Q1:=A0 hq;clear hq;go_wp2_with fail
  refine HT.mono ?_;clear HT;rintro e w2 ⟨rfl,hk,hp⟩;have K2:=A0 (K1.out.trans hk);have O2:=A0 (D9 O1.out hk (by decide));have P2:=A0 hp;clear hk hp K1 O1 P1;cases q
  · have PX:Pst w2 B pb tv L ok d s1:=by simpa using P2.out
    have HX:=S8 hL PX 1;have PY:=A0 PX;clear P2 PX;by_cases h1:l.length=1
    · obtain⟨x,rfl⟩:=List.length_eq_one_iff.1 h1;obtain⟨g,rfl,_,hg,hgc,hgm,hcell⟩:=E7 O2.out (by simp);have c0:w2.cell? (aD g 0)=some (iV x):=hcell 0 _ rfl;clear hcell HX;go_wp2_with fail
      go_ret;exact W6 K2.out (V1.out _ (M.Ev.pure.eq (fun r=>by simp))) PY.out G1.out
    · have h1':((l.length:Int)==1)=false:=by simp;omega
      go_wp2_with fail
      refine HX.mono ?_;clear HX;rintro e w3 ⟨rfl,hc⟩;refine⟨rfl,I1 (K2.out.trans (B8 hc)) (V1.out _ (M.Ev.pure.eq (fun r=> ?_))) (by decide)⟩;simp only[Bool.false_eq_true,if_false];match l,h1 with
      |[],_=>rfl
      |[x],h=>simp at h
      |_::_::_,_=>rfl
  · have PX:Pst w2 B pb tv L ok d s1.nx:=by simpa using P2.out
    have hi2:=PX.at';have HM:=hTyp (L.length - s1.nx.i) (by have:=G1.out.1;simp only[M.St.nx];omega) w2 ok d s1.nx (Nat.le_refl _) (fun g hg=>hok g (Nat.le_trans K2.out.size hg)) (Nat.le_trans hB K2.out.size) PX;clear P2 PX;go_wp2_with fail
    refine HM.mono ?_;clear HM;rintro e w4 ⟨hk,o,hev,hpost⟩;have K4:=A0 (K2.out.trans hk);have O4:=A0 (D9 O2.out hk (by decide));have E4:=A0 hev;clear hk hev K2 O2;cases o with
    |fail er p=>
     obtain⟨rfl,he⟩:=hpost;exact⟨rfl,I1 K4.out (V1.out _ (M.Ev.eq (M.Ev.bad E4.out) (fun r=>by simp;rfl))) he⟩
    |ok s4 y=>
     obtain⟨rfl,hp,hg⟩:=hpost;have P4:=A0 hp;have GX:=A0 (show D6 s ⟨s4.i,s4.N,s4.T++[⟨9,[],l,y⟩]⟩/\s4.T.length+1<=s4.i by
      have h2:=G1.out;have h3:=hg;have h4:=HF.out;simp only[D6,M.St.nx,List.length_append,List.length_cons,List.length_nil]at h2 h3⊢
      omega)
     have HA:=X7 hL hp ⟨9,[],l,y⟩ none ad 0 0 l.length c ⟨_,_,rfl,World.ownsRow_nil _ _ _ _,C9 O4.out (Nat.zero_le _),by simp[Value.ownBlock],fun g hg=>hok g (A9 O4.out g hg).1⟩ GX.out.2 (Nat.le_trans hB K4.out.size) (fun g hg=>hok g (Nat.le_trans K4.out.size hg));have EV:=A0 (V1.out _ (M.Ev.eq (M.Ev.bind E4.out (k:=fun _ s x=>M.addT s ⟨9,[],l,x⟩) M.Ev.pure) (fun r=>by simp)));clear hp hg;go_wp2_with fail
     refine HA.mono ?_;clear HA;rintro e w5 ⟨rfl,hk,hp⟩;have K5:=A0 (K4.out.trans hk);have P5:=A0 hp;clear hk hp;go_wp2_with fail
     go_ret;exact W6 K5.out EV.out P5.out GX.out.1
end
open Go.RowKit
section
variable {w:World} {B pb:Nat} {tv:Value} {L:List M.Tk} {ok:Nat->Prop} {d:Nat} {s:M.St}
theorem Tryz.infoStr:(Tryz.prog.info? 9).map (fun i=>(i.zero,i.size,i.bytes))=some (some (.string ⟨#[]⟩),1,16):=by kernel_rfl
def O3a (ms:List (List UInt8)):List Value:=ms.map fun m=> .string ⟨m.toArray⟩
theorem N7b (ms:List (List UInt8)) (m:List UInt8):O3a (ms++[m])=O3a ms++[.string ⟨m.toArray⟩]:=by simp[O3a]
def Nms (w:World) (lo nb:Nat) (names:List (List UInt8)):Prop:=
 lo<=nb/\∃ad c,w.heap[nb]? =some (.cells #[.slice ad names.length c] 148 (0,0))/\w.ownsRow lo 9 1 (.slice ad names.length c) names.length (O3a names)
def tagS (w:World) (k:Nat):Prop:=∃cs e fz,w.heap[k]? =some (.cells cs e fz)/\(e=148\/e=9)
def KeptS (B:Nat) (ok:Nat->Prop) (lo:Nat) (w w':World):Prop:=Chg (fun k=>(B<=k/\tag w k/\ok k)\/(lo<=k/\tagS w k)) w w'
theorem Nms.kept {ok:Nat->Prop} {w w':World} {lo nb:Nat} {names:List (List UInt8)} (h:Nms w lo nb names) (hk:Kept B ok w w'):Nms w' lo nb names:=by
 obtain⟨h1,ad,c,h2,h3⟩:=h;refine⟨h1,ad,c, ?_,D9 h3 hk (by decide)⟩;rw[hk.block nb (ltG h2) (fun x=> ?_)]
 · exact h2
 · obtain⟨cs,e,fz,hh,r⟩:=x.2.1;rw[h2]at hh;simp only[Option.some.injEq,Obj.cells.injEq]at hh;obtain⟨_,rfl,_⟩:=hh;rcases r with r|r|r<;>exact absurd r (by decide)
theorem A3d {w a b:World} {nb:Nat} {v:Value} (h1:a.cell? (aD nb 0)=some v) (h2:Hid (Chg No w a)) (hc:Chg No a b):b.cell? (aD nb 0)=some v/\Hid (Chg No w b):=by
 refine⟨?_,h2.out.trans hc (fun _ _ x=>x)⟩;rw[World.cell?_of_block (hc.block nb (World.block_lt_of_cell? a _ h1) (fun x=>x))];exact h1
theorem G7c {w:World} {g:Nat} {ms:List (List UInt8)} (hg:g<w.heap.size) (hc:∀j u,(O3a ms)[j]? =some u->w.cell? (aD g j)=some u):Strs w g ms:=
 ⟨hg,fun j hj=>hc j _ (by simp[O3a,hj])⟩
theorem Q9b (w:World) (ad:Option Addr) (c:Nat) (t:List UInt8):
 Calls Tryz.prog 139 #[.slice ad 0 c,.string ⟨t.toArray⟩] w fun e w'=>e= .returned (iV (-1))/\w'=w:=by
 go_enter Tryz.func139,Tryz.ntmps139;go_wp2;go_loop [8] (fun i=>i=iV 0) (fun _=>0)
 case atStart=>rfl
 case round=>
  subst hrel;go_wp2;go_ret;exact⟨rfl,rfl⟩
theorem X7a (w:World) (ad:Option Addr) (c:Nat) (t:List UInt8):
 Calls Tryz.prog 118 #[.slice ad 0 c,.string ⟨t.toArray⟩] w fun e w'=>e= .returned (.bool false)/\w'=w:=by
 have H:=Q9b w ad c t;go_enter Tryz.func118,Tryz.ntmps118;go_wp2_with fail
 refine H.mono ?_;clear H;rintro e w1 ⟨rfl,rfl⟩;go_wp2;go_ret;exact⟨rfl,rfl⟩
theorem E9b (w:World) (lo:Nat) (ad:Option Addr) (c:Nat) (ms:List (List UInt8)) (t:List UInt8) (h:w.ownsRow lo 9 1 (.slice ad ms.length c) ms.length (O3a ms)) (hm:ms.length<=4000):
 Calls Tryz.prog 118 #[.slice ad ms.length c,.string ⟨t.toArray⟩] w fun e w'=>e= .returned (.bool (M.has ms t))/\w'=w:=by
 by_cases hz:0<ms.length
 · obtain⟨g,rfl,_,hg,_,_,hcell⟩:=E7 h hz;exact L2a w g c ms t (G7c hg hcell) hm
 · have:ms=[]:=List.eq_nil_of_length_eq_zero (by omega);subst this;exact X7a w ad c t
theorem Nms.push {w w1 w2:World} {lo nb n c g cap:Nat} {ad:Option Addr} {xs:List Value} {x:Value} (h:Pst w B pb tv L ok d s) (hnb:lo<=nb) (hb:w.heap[nb]? =some (.cells #[.slice ad n c] 148 (0,0))) (ho:w.ownsRow lo 9 1 (.slice ad n c) n xs) (h1:Chg No w w1)
 (hg:w1.grownBy w2 (Value.ownBlock (.slice ad n c))) (ho2:w2.ownsRow lo 9 1 (.slice (some (aD g 0)) (n+1) cap) (n+1) (xs++[x])):
 KeptS B ok lo w (w2.setCell (aD nb 0) (.slice (some (aD g 0)) (n+1) cap))/\Pst (w2.setCell (aD nb 0) (.slice (some (aD g 0)) (n+1) cap)) B pb tv L ok d s/\
  (w2.setCell (aD nb 0) (.slice (some (aD g 0)) (n+1) cap)).heap[nb]? =some (.cells #[.slice (some (aD g 0)) (n+1) cap] 148 (0,0))/\
  (w2.setCell (aD nb 0) (.slice (some (aD g 0)) (n+1) cap)).ownsRow lo 9 1 (.slice (some (aD g 0)) (n+1) cap) (n+1) (xs++[x]):=by
 have hlt:=(ltG hb);have hb1:w1.heap[nb]? =w.heap[nb]? :=h1.block nb hlt (fun x=>x);have ho1:w1.ownsRow lo 9 1 (.slice ad n c) n xs:=A8 ho h1 (fun _ _ x=>x);have hne:some nb≠Value.ownBlock (.slice ad n c):=by
  intro hx;obtain⟨_,cur,hh⟩:=A9 ho1 nb hx.symm;rw[hb1,hb]at hh;simp only[Option.some.injEq,Obj.cells.injEq]at hh;exact absurd hh.2.1 (by decide)
 have hb2:w2.heap[nb]? =some (.cells #[.slice ad n c] 148 (0,0)):=by rw[hg.block nb (Nat.lt_of_lt_of_le hlt h1.size) hne,hb1,hb]
 have hc3:Chg (fun k=>some k=Value.ownBlock (.slice ad n c)\/k=nb) w (w2.setCell (aD nb 0) (.slice (some (aD g 0)) (n+1) cap)):=
  (((h1.mono fun _ _ x=>x.elim).trans (Chg.grown hg) (fun _ _ x=>x)).mono fun _ _ x=> .inl x).trans (Chg.set _ _ _) (fun _ _ x=> .inr x)
 have htag:∀k,(some k=Value.ownBlock (.slice ad n c)\/k=nb)->lo<=k/\∃cs e,w.heap[k]? =some (.cells cs e (0,0))/\(e=148\/e=9):=by
  rintro k (hx|rfl)
  · obtain⟨h2,cur,hh⟩:=A9 ho k hx.symm;exact⟨h2,cur,_,hh,.inr rfl⟩
  · exact⟨hnb,_,_,hb,.inl rfl⟩
 refine⟨hc3.mono fun k _ hx=> ?_,h.chg hc3 (fun k cur e hk hx=> ?_) (fun _ x _=>x),by rw[heap_setCell_same w2 nb 0 _ _ _ hb2];rfl,A8 ho2 (Chg.set w2 (aD nb 0) _) (fun k hk hx=> ?_)⟩
 · obtain⟨h2,cs,e,hh,r⟩:=htag k hx;exact .inr ⟨h2,cs,e,_,hh,r⟩
 · obtain⟨h2,cs,e',hh,r⟩:=htag k hx;rw[hk]at hh;simp only[Option.some.injEq,Obj.cells.injEq]at hh;obtain⟨_,rfl,_⟩:=hh;refine⟨by rcases r with rfl|rfl<;>decide,by rcases r with rfl|rfl<;>decide,by rcases r with rfl|rfl<;>decide,fun ht=> ?_,fun hx2=> ?_⟩
   · obtain⟨_,cur3,hh3⟩:=A9 h.toks k ht;rw[hk]at hh3;simp only[Option.some.injEq,Obj.cells.injEq]at hh3;obtain⟨_,rfl,_⟩:=hh3;rcases r with r|r<;>exact absurd r (by decide)
   · rcases r with rfl|rfl<;>rcases hx2 with hx2|hx2<;>exact absurd hx2 (by decide)
 · have hx':k=nb:=hx;subst hx';obtain⟨_,cur2,hh2⟩:=A9 ho2 k hk;rw[hb2]at hh2;simp only[Option.some.injEq,Obj.cells.injEq]at hh2;exact absurd hh2.2.1 (by decide)
theorem Kept.toS {lo:Nat} {w w':World} (h:Kept B ok w w'):KeptS B ok lo w w':=Chg.mono h fun _ _ x=> .inl x
theorem KeptS.after {lo:Nat} {a b c:World} (h:Kept B ok a b) (k:KeptS B ok lo b c):KeptS B ok lo a c:=by
 refine⟨k.os.trans h.os,k.tape.trans h.tape,k.output.trans h.output,Nat.le_trans h.size k.size,fun i hi hn=> ?_⟩;have h1:=h.block i hi (fun x=>hn (.inl x));refine(k.block i (Nat.lt_of_lt_of_le hi h.size) (fun x=>hn ?_)).trans h1;rcases x with ⟨x1,⟨cs,e,fz,hh,r⟩,x3⟩|⟨x1,cs,e,fz,hh,r⟩
 · exact .inl ⟨x1,⟨cs,e,fz,by rw[<-h1];exact hh,r⟩,x3⟩
 · exact .inr ⟨x1,cs,e,fz,by rw[<-h1];exact hh,r⟩
theorem F4a (hL:LOk L) (h:Pst w B pb tv L ok d s) (lo nb:Nat) (names:List (List UInt8)) (hn:Nms w lo nb names) (hl:names.length<=1001) (hlo:lo<=w.heap.size):
 Calls Tryz.prog 186 #[pV pb,pV nb] w fun e w'=>KeptS B ok lo w w'/\
  match M.newName L s names with
  |some (.ok s' nm)=>e= .returned (.string ⟨nm.toArray⟩)/\Nms w' lo nb (names++[nm])/\Pst w' B pb tv L ok d s'
  |some (.fail er p)=>e=gu er p
  |none=>False:=by
 have H:=fun w1 (h1:Pst w1 B pb tv L ok d s)=>R6 hL h1;have HF:=fun w1 (h1:Pst w1 B pb tv L ok d s)=>S8 hL h1 6;have HN:=fun w1 (h1:Pst w1 B pb tv L ok d s)=>N0a hL h1;have HP:=A0 h;have HM:=A0 hn;obtain⟨hnb,ad,c,hb,ho⟩:=hn;have hlt:=(ltG hb);have k0:w.cell? (aD nb 0)=some (.slice ad names.length c):=cr hb rfl;have k1:Hid (Chg No w w.drew):=Chg.drewN No w 1;have hf0:=T9;have hf1:=S7;unfold M.newName M.flt;clear h;generalize M.tk L s.i=tk at *;obtain⟨kd,tx,pl⟩:=tk;simp only[tkv]at H HF HN⊢;by_cases hk:kd=1
 · subst hk;have HC:Hid (∀w1:World,Chg No w w1->Calls Tryz.prog 118 #[.slice ad names.length c,.string ⟨tx.toArray⟩] w1 fun e w'=>e= .returned (.bool (M.has names tx))/\w'=w1):=
    fun w1 h1=>E9b w1 lo ad c names tx (A8 ho h1 (fun _ _ x=>x)) (by omega)
   generalize M.has names tx=r at *;go_enter Tryz.func186,Tryz.ntmps186;go_wp2_with fail
   go_region_held3 (fun w'=>w'.cell? (aD nb 0)=some (.slice ad names.length c)/\Hid (Chg No w w'))
    (first
     |exact⟨k0,k1⟩
     |exact A3d (by assumption) (by assumption) hc
     |(go_split_ands;exact A3d (by assumption) (by assumption) hc)
     |(go_split_ands;exact⟨by assumption,by assumption⟩))
    (first
     |((go_at_call 86;go_split_ands;refine(H _ (HP.out.still (Hid.out (by assumption)))).mono ?_;rintro e w' ⟨rfl,hc⟩))
     |((go_at_call 118;go_split_ands;refine(HC.out _ (Hid.out (by assumption))).mono ?_;rintro e w' ⟨rfl,rfl⟩)))
   have C1:Hid (Chg No w w'):=by assumption
   have P1:=A0 (HP.out.still C1.out);cases r
   · go_wp2_with fail
     refine(HN _ P1.out).mono ?_;rintro e w2 ⟨hk2,hr⟩;rcases hr with ⟨_,rfl,hp2⟩|⟨hx,_⟩
     · have K2:=A0 ((B8 (B:=B) (ok:=ok) C1.out).trans hk2);have N2:=A0 (HM.out.kept K2.out);have P2:=A0 hp2;obtain⟨_,ad2,c2,hb2,ho2⟩:=N2.out;have hlt2:=(ltG hb2);have q0:w2.cell? (aD nb 0)=some (.slice ad2 names.length c2):=cr hb2 rfl;have fz:w2.frozen? (aD nb 0)=false:=frozen_of_row w2 nb 0 _ _ hb2;have hne:Value.ownBlock (.slice ad2 names.length c2)≠some nb:=by
        intro hx;obtain⟨_,cur,hh⟩:=A9 ho2 nb hx;rw[hb2]at hh;simp only[Option.some.injEq,Obj.cells.injEq]at hh;exact absurd hh.2.1 (by decide)
       have HX:=A0 (fun (w3 w4:World) (g cap:Nat)=>Nms.push (w1:=w3) (w2:=w4) (g:=g) (cap:=cap) (x:= .string ⟨tx.toArray⟩) hp2 hnb hb2 ho2);have O2:=A0 ho2;have hlo2:lo<=w2.heap.size:=Nat.le_trans hlo K2.out.size;obtain⟨i0,hi,hz0,hz1,hz2⟩:=info_parts Tryz.infoStr;clear hk2 hp2 hb2 ho2 HN HF H HC hb ho k0 k1;have hw3:=A0 (O2.out.alloc (.cells #[.string ⟨tx.toArray⟩] 9));go_wp2_with (at_builtin;refine wpList_append_lies _ rfl _ _ _ rfl lo 9 i0 _ 1 16 Tryz.underlying148 hi hz0 hz1 hz2 rfl (by decide) (.slice ad2 names.length c2) names.length (O3a names) rfl hw3.out (aD w2.heap.size 0) 1 1 [.string ⟨tx.toArray⟩] rfl rfl ?c1 ?c2 ?c0 ?c3 ?c4 ?c5 (w2.heap.size+1) (by simp) ?_)
       case c1=>exact cell_one_new _ _ _
       case c2=>intro u hu;simp at hu;rcases hu with rfl;rfl
       case c0=>omega
       case c3=>simp only[maxLen];omega
       case c4=>omega
       case c5=>simp;omega
       · intro gg cap w3 hown hgrow hat hlt3;have z4:w3.cell? (aD nb 0)=some (.slice ad2 names.length c2):=by rw[hgrow.cell_far _ (by simp;omega) (Ne.symm hne)];exact F9 hlt2 q0
         have y4:w3.frozen? (aD nb 0)=false:=by rw[hgrow.frozen_far _ (by simp;omega) (Ne.symm hne)];exact P8 hlt2 fz
         have HQ:=A0 (HX.out _ _ gg cap (Chg.alloc No _ _) hgrow hown);clear hgrow hown HX hw3 O2 hne;go_wp2_with fail
         go_ret;refine⟨KeptS.after K2.out HQ.out.1,rfl,⟨hnb,some (aD gg 0),cap, ?_, ?_⟩,HQ.out.2.1⟩
         · have:=HQ.out.2.2.1;simpa using this
         · have:=HQ.out.2.2.2;rw[N7b];simpa using this
     · exact absurd rfl hx
   · go_wp2_with fail
     refine(HF _ P1.out).mono ?_;rintro e w2 ⟨rfl,hc2⟩;exact⟨rfl,(B8 (B:=B) (ok:=ok) (C1.out.trans hc2 (fun _ _ x=>x))).toS,rfl⟩
 · have hk':(kd==1)=false:=by simp[hk]
   clear hb ho;go_enter Tryz.func186,Tryz.ntmps186;go_wp2_with fail
   refine wp_region_held_drew (S:=fun w'=>Hid (Chg No w w')) (by kernel_rfl) k1 (fun hHeld=> ?_);refine wpAnyH_take (i:=0) (oi:=Oper.mk (some 6) _ _ _ _ _) (v:=pV pb) rfl (by kernel_rfl) (by kernel_rfl) (by kernel_rfl) (fun _ _ _ h=>h) (Or.inl ⟨by rfl,fun w _=>by go_simp⟩) (by assumption) ?_;simp only[Act.put,List.setIfInBounds_toArray,List.set_cons_zero,List.set_cons_succ];refine wpAnyH_ready (rs:=[1]) (by kernel_rfl) (by simp) ?_;refine AllReadyH.cons (o:=Oper.mk (some 7) _ _ _ _ _) rfl (fun K hK=> ?_) AllReadyH.nil;go_simp
   refine(H _ (HP.out.still k1.out)).mono ?_;rintro e w' ⟨rfl,hc⟩;have C1:=A0 (k1.out.trans hc (fun _ _ x=>x));refine hK _ _ C1 (fun _=> ?_);clear hK K hHeld;refine wpAnyH_take (i:=2) (oi:=Oper.mk (some 8) _ _ _ _ _) (v:=iV kd) rfl (by kernel_rfl) (by kernel_rfl) (by kernel_rfl) (fun _ _ _ h=>h) (Or.inl ⟨by rfl,fun w _=>by go_simp⟩) (by assumption) ?_;simp only[Act.put,List.setIfInBounds_toArray,List.set_cons_zero,List.set_cons_succ];refine wpAnyH_take (i:=3) (oi:=Oper.mk (some 9) _ _ _ _ _) (v:= .bool false) rfl (by kernel_rfl) (by kernel_rfl) (by kernel_rfl) (fun _ _ _ h=>h) (Or.inl ⟨by rfl,fun w _=>by go_simp⟩) (by assumption) ?_;simp only[Act.put,List.setIfInBounds_toArray,List.set_cons_zero,List.set_cons_succ];refine wpAnyH_take (i:=4) (oi:=Oper.mk (some 10) _ _ _ _ _) (v:= .bool false) rfl (by kernel_rfl) (by kernel_rfl) (by kernel_rfl) (fun _ _ _ h=>h) (Or.inl ⟨by rfl,fun w _=>by go_simp⟩) (by assumption) ?_;simp only[Act.put,List.setIfInBounds_toArray,List.set_cons_zero,List.set_cons_succ];refine wpAnyH_take (i:=5) (oi:=Oper.mk (some 11) _ _ _ _ _) (v:=undef) rfl (by kernel_rfl) (by kernel_rfl) (by kernel_rfl) (fun _ _ _ h=>h) (Or.inr ⟨by rfl,rfl⟩) (by assumption) ?_;simp only[Act.put,List.setIfInBounds_toArray,List.set_cons_zero,List.set_cons_succ];refine wpAnyH_take (i:=6) (oi:=Oper.mk (some 12) _ _ _ _ _) (v:=undef) rfl (by kernel_rfl) (by kernel_rfl) (by kernel_rfl) (fun _ _ _ h=>h) (Or.inr ⟨by rfl,rfl⟩) (by assumption) ?_;simp only[Act.put,List.setIfInBounds_toArray,List.set_cons_zero,List.set_cons_succ];refine wpAnyH_take (i:=7) (oi:=Oper.mk (some 13) _ _ _ _ _) (v:=undef) rfl (by kernel_rfl) (by kernel_rfl) (by kernel_rfl) (fun _ _ _ h=>h) (Or.inr ⟨by rfl,rfl⟩) (by assumption) ?_;simp only[Act.put,List.setIfInBounds_toArray,List.set_cons_zero,List.set_cons_succ];refine wpAnyH_take (i:=8) (oi:=Oper.mk (some 14) _ _ _ _ _) (v:=undef) rfl (by kernel_rfl) (by kernel_rfl) (by kernel_rfl) (fun _ _ _ h=>h) (Or.inr ⟨by rfl,rfl⟩) (by assumption) ?_;simp only[Act.put,List.setIfInBounds_toArray,List.set_cons_zero,List.set_cons_succ];refine wpAnyH_take (i:=9) (oi:=Oper.mk (some 15) _ _ _ _ _) (v:=undef) rfl (by kernel_rfl) (by kernel_rfl) (by kernel_rfl) (fun _ _ _ h=>h) (Or.inr ⟨by rfl,rfl⟩) (by assumption) ?_;simp only[Act.put,List.setIfInBounds_toArray,List.set_cons_zero,List.set_cons_succ];refine wpAnyH_take (i:=10) (oi:=Oper.mk (some 16) _ _ _ _ _) (v:=undef) rfl (by kernel_rfl) (by kernel_rfl) (by kernel_rfl) (fun _ _ _ h=>h) (Or.inr ⟨by rfl,rfl⟩) (by assumption) ?_;simp only[Act.put,List.setIfInBounds_toArray,List.set_cons_zero,List.set_cons_succ];refine wpAnyH_take (i:=11) (oi:=Oper.mk (some 17) _ _ _ _ _) (v:=undef) rfl (by kernel_rfl) (by kernel_rfl) (by kernel_rfl) (fun _ _ _ h=>h) (Or.inr ⟨by rfl,rfl⟩) (by assumption) ?_;simp only[Act.put,List.setIfInBounds_toArray,List.set_cons_zero,List.set_cons_succ]
   refine wpAnyH_take (i:=12) (oi:=Oper.mk (some 18) _ _ _ _ _) (v:= .bool false) rfl (by kernel_rfl) (by kernel_rfl) (by kernel_rfl) (fun _ _ _ h=>h) (Or.inl ⟨by rfl,fun w _=>by go_simp⟩) (by assumption) ?_;simp only[Act.put,List.setIfInBounds_toArray,List.set_cons_zero,List.set_cons_succ];refine wpAnyH_done (by kernel_rfl) ?_ _;have P1:=A0 (HP.out.still C1.out);go_wp2_with fail
   refine(HN _ P1.out).mono ?_;rintro e w2 ⟨hk2,hr⟩;rcases hr with ⟨hx,_⟩|⟨_,rfl⟩
   · exact absurd hx hk
   · have K2:=(B8 (B:=B) (ok:=ok) C1.out).trans hk2;exact⟨rfl,K2.toS,by simp[hk];rfl⟩
end
open Go.RowKit
section
variable {w:World} {B pb:Nat} {tv:Value} {L:List M.Tk} {ok:Nat->Prop} {d:Nat} {s:M.St}
theorem Tryz.infoField:(Tryz.prog.info? 126).map (fun i=>(i.zero,i.size,i.bytes))=some (some (.agg #[.string ⟨#[]⟩,iV 0]),2,24):=by kernel_rfl
theorem Kept.transS {a b c:World} (h:Kept B ok a b) (k:KeptS B ok a.heap.size b c):Kept B ok a c:=by
 refine⟨k.os.trans h.os,k.tape.trans h.tape,k.output.trans h.output,Nat.le_trans h.size k.size,fun i hi hn=> ?_⟩;have h1:=h.block i hi hn;refine(k.block i (Nat.lt_of_lt_of_le hi h.size) (fun x=> ?_)).trans h1;rcases x with ⟨x1,⟨cs,e,fz,hh,r⟩,x3⟩|⟨x1,_⟩
 · exact hn ⟨x1,⟨cs,e,fz,by rw[<-h1];exact hh,r⟩,x3⟩
 · omega
theorem A2a {w w':World} {lo base:Nat} {e:TypeId} {size:Nat} {v:Value} {n:Nat} {xs:List Value} (h:w.ownsRow base e size v n xs) (hc:KeptS B ok lo w w')
 (he:e≠96/\e≠72/\e≠68/\e≠148/\e≠9):w'.ownsRow base e size v n xs:=by
 refine A8 h hc fun g hg hx=> ?_;obtain⟨_,cur,hh⟩:=A9 h g hg;have key:∀cs e' fz,w.heap[g]? =some (.cells cs e' fz)->e'=e:=by
  intro cs e' fz hh';rw[hh]at hh';simp only[Option.some.injEq,Obj.cells.injEq]at hh';exact hh'.2.1.symm
 rcases hx with ⟨_,⟨cs,e',fz,hh',r⟩,_⟩|⟨_,cs,e',fz,hh',r⟩
 · have:=key _ _ _ hh';subst this;rcases r with r|r|r
   · exact he.1 r
   · exact he.2.1 r
   · exact he.2.2.1 r
 · have:=key _ _ _ hh';subst this;rcases r with r|r
   · exact he.2.2.2.1 r
   · exact he.2.2.2.2 r
theorem Nms.chg {S:Nat->Prop} {w w':World} {lo nb:Nat} {names:List (List UInt8)} (h:Nms w lo nb names) (hc:Chg S w w') (hs:∀k cs e,w.heap[k]? =some (.cells cs e (0,0))->S k->e≠148/\e≠9):Nms w' lo nb names:=by
 obtain⟨h1,ad,c,h2,h3⟩:=h;refine⟨h1,ad,c, ?_,A8 h3 hc (fun g hg hx=> ?_)⟩
 · rw[hc.block nb (ltG h2) (fun x=>(hs nb _ _ h2 x).1 rfl)];exact h2
 · obtain⟨_,cur,hh⟩:=A9 h3 g hg;exact(hs g cur _ hh hx).2 rfl
theorem F0b (w:World) (x y:Value) (t:TypeId):∀j u,[x,y][j]? =some u->(w.alloc (.cells #[x,y] t)).cell? (((aD w.heap.size 0):Addr).add j)=some u:=by
 intro j u hj;have hadd:((aD w.heap.size 0):Addr).add j=(aD w.heap.size j):=by unfold Addr.add;split<;>simp_all
 rw[hadd,World.cell?_alloc_new];rw[<-hj];simp
theorem newName_ok {names:List (List UInt8)} {s1:M.St} {nm:List UInt8} (h:M.newName L s names=some (.ok s1 nm)):s1=s.nx:=by
 unfold M.newName M.flt at h;split at h
 · split at h
   · cases h
   · simp only[Option.some.injEq,M.Out.ok.injEq]at h;exact h.1.symm
 · cases h
theorem C8b {names:List (List UInt8)} {er p:Int} (h:M.newName L s names=some (.fail er p)):er≠0:=by
 unfold M.newName M.flt at h;split at h
 · split at h
   · simp only[Option.some.injEq,M.Out.fail.injEq]at h;omega
   · cases h
 · simp only[Option.some.injEq,M.Out.fail.injEq]at h;omega
theorem S4b {R3:List (List UInt8×Int)} (hq:M.isM L s.i [[125]]=true):M.Ev L (fun r=>r.objL d s R3) (.ok ⟨s.nx.i,s.nx.N,s.nx.T++[⟨7,R3,[],0⟩]⟩ s.nx.T.length):=
 M.Ev.step (M.Ev.pure.eq fun r=>by show (if M.isM L s.i [[125]] then _ else _)=_;rw[hq];rfl)
theorem D3c {R3:List (List UInt8×Int)} {o:M.Out Int} (hq:M.isM L s.i [[125]]=false)
 (h:M.Ev L (fun r=>M.A3 (M.newName L s (R3.map (·.1))) fun s nm=>M.A3 (M.need L s [58]) fun s _=>M.A3 (r.typ d s) fun s x=>M.A3 (M.need L s [59]) fun s _=>r.objL d s (R3++[(nm,x)])) o):M.Ev L (fun r=>r.objL d s R3) o:=
 M.Ev.step (h.eq fun r=>by show (if M.isM L s.i [[125]] then _ else _)=_;rw[hq];rfl)
theorem K8 {mk:List UInt8} (h:M.isM L s.i [mk]=true):M.Ev L (fun _=>M.need L s mk) (.ok s.nx ()):=M.Ev.pure.eq fun r=>by rw[M.need,h];rfl
theorem O9 {mk:List UInt8} (h:M.isM L s.i [mk]=false):M.Ev L (fun _=>M.need L s mk) (.fail 1 ((M.tk L s.i).at':Int)):=M.Ev.pure.eq fun r=>by rw[M.need,h];rfl
theorem T2a (hL:LOk L) (m:Nat) (hTyp:∀m',m'<=m->Con B pb tv L 166 (fun d s r=>r.typ d s) m'):Con B pb tv L 182 (fun d s r=>r.objL d s []) m:=by
 intro w ok d s hm hok hB h;have hs:=hL.short;have hi:=h.at';have HP:=A0 h;clear h;go_enter Tryz.func182,Tryz.ntmps182;go_wp2_with fail
 go_loopw [4] (fun v wr=>∃(R3:List (List UInt8×Int)) (s':M.St) (ad:Option Addr) (c:Nat),v= .slice ad R3.length c/\R3.length<=s'.i/\Hid (Nms wr w.heap.size w.heap.size (R3.map (·.1)))/\Hid (Kept B ok w wr)/\Hid (G0 s s')/\Hid (wr.ownsRow w.heap.size 126 2 (.slice ad R3.length c) R3.length (F6 R3))/\
  Hid (Pst wr B pb tv L (fun g=>ok g/\some g≠Value.ownBlock (.slice ad R3.length c)) d s')/\Hid (∀o,M.Ev L (fun r=>r.objL d s' R3) o->M.Ev L (fun r=>r.objL d s []) o)) (fun _ wr=>L.length - nxt wr pb)
 case atStart=>
  refine⟨[],s,none,0,rfl,by simp,⟨Nat.le_refl _,none,0,heap_alloc_new w _,World.ownsRow_nil _ _ _ _⟩,(Kept.refl B ok w).alloc _,⟨Nat.le_refl _,by omega,by omega,by omega⟩,World.ownsRow_nil _ _ _ _,(HP.out.alloc _).mono (fun g hg _=>⟨hg,by simp[Value.ownBlock]⟩),fun _ h=>h⟩
 case round=>
  obtain⟨R3,s',ad,c,rfl,hacc,NR,KR,GR,OR,PR,VR⟩:=hrel;have HT:=F5 hL PR.out [125];have hi':=PR.out.at';have hnx:=PR.out.nxt;have hj:s.i<=s'.i:=GR.out.1;have hfw:=PR.out.few;generalize hq:M.isM L s'.i [[125]]=q at *;have Q1:=A0 hq;clear hq;go_wp2_with fail
  refine HT.mono ?_;clear HT;rintro e w3 ⟨rfl,hk,hp⟩;have K3:=A0 (KR.out.trans (hk.mono fun _ h=>h.1));have P3:=A0 hp;have O3:=A0 (D9 OR.out hk (by decide));have N3:=A0 (NR.out.kept hk);clear hk hp OR PR KR NR;cases q
  · have PX:Pst w3 B pb tv L (fun g=>ok g/\some g≠Value.ownBlock (.slice ad R3.length c)) d s':=by simpa using P3.out
    have HN:=F4a hL PX w.heap.size w.heap.size (R3.map (·.1)) N3.out (by simp;omega) K3.out.size;clear P3 PX N3;have VG:=A0 (fun o ho=>VR.out o (D3c Q1.out ho));clear VR;generalize hnn:M.newName L s' (R3.map (·.1))=NN at *;have N0:=A0 hnn;clear hnn;go_wp2_with fail
    refine HN.mono ?_;clear HN;rintro e w4 ⟨hk,hr⟩;have K4:=A0 (K3.out.transS (Chg.mono hk fun _ _ x=>x.imp (fun y=>⟨y.1,y.2.1,y.2.2.1⟩) id));have O4:=A0 (A2a O3.out hk (by decide));clear hk K3 O3;rcases NN with _|⟨s1,nm⟩|⟨er,p⟩
    · exact hr.elim
    · obtain⟨rfl,hnm,hp⟩:=hr;have hs1:s1=s'.nx:=newName_ok N0.out;subst hs1;have HN5:=G5 hL hp [58];have N4:=A0 hnm;clear hp hnm;have V4:=A0 (fun o ho=>VG.out o (M.Ev.bind (s:=s'.nx) (x:=nm) M.Ev.pure ho));clear VG;go_wp2_with fail
      refine HN5.mono ?_;clear HN5;rintro e w5 ⟨hk,hr⟩;have K5:=A0 (K4.out.trans (hk.mono fun _ h=>h.1));have O5:=A0 (D9 O4.out hk (by decide));have N5:=A0 (N4.out.kept hk);clear hk K4 O4 N4;rcases hr with ⟨hb,rfl,hp⟩|⟨hb,rfl⟩
      · have hi5:=hp.at';have HM:=hTyp (L.length - s'.nx.nx.i) (by simp only[M.St.nx];omega) w5 _ d s'.nx.nx (Nat.le_refl _) (fun g hg=>⟨hok g (Nat.le_trans K5.out.size hg),fun hx=>by have:=(O5.out.lt g hx.symm).2;omega⟩) (Nat.le_trans hB K5.out.size) hp;have V5:=A0 (fun o ho=>V4.out o (M.Ev.bind (K8 hb) ho));clear hp hb V4;go_wp2_with fail
        refine HM.mono ?_;clear HM;rintro e w6 ⟨hk,o,hev,hpost⟩;have K6:=A0 (K5.out.trans (hk.mono fun _ h=>h.1));have O6:=A0 (D9 O5.out hk (by decide));have N6:=A0 (N5.out.kept hk);have E6:=A0 hev;clear hk hev K5 O5 N5;cases o with
        |fail er p=>
         obtain⟨rfl,he⟩:=hpost;exact⟨rfl,I1 K6.out (V5.out _ (M.Ev.bad E6.out)) he⟩
        |ok s6 y=>
         obtain⟨rfl,hp,hg⟩:=hpost;have HN7:=G5 hL hp [59];have G6:=A0 hg;have V6:=A0 (fun o ho=>V5.out o (M.Ev.bind E6.out ho));clear hp hg V5 E6;go_wp2_with fail
         refine HN7.mono ?_;clear HN7;rintro e w7 ⟨hk,hr⟩;have K7:=A0 (K6.out.trans (hk.mono fun _ h=>h.1));have O7:=A0 (D9 O6.out hk (by decide));have N7:=A0 (N6.out.kept hk);clear hk K6 O6 N6;rcases hr with ⟨hb,rfl,hp⟩|⟨hb,rfl⟩
         · have P7:=A0 hp;have hi7:=hp.at';have V7:=A0 (fun o ho=>V6.out o (M.Ev.bind (K8 hb) ho));clear hp hb V6;have G7:=A0 (show s'.i+4<=s6.nx.i/\s6.nx.N.length+s'.i<=s'.N.length+s6.nx.i/\s6.nx.T.length+s'.i<=s'.T.length+s6.nx.i/\s'.N.length<=s6.nx.N.length by
            have h2:=G6.out;simp only[D6,M.St.nx]at h2⊢
            omega)
           clear G6;generalize s6.nx=s7 at *;obtain⟨i0,hi0,hz0,hz1,hz2⟩:=info_parts Tryz.infoField;have hw3:=A0 (O7.out.alloc (.cells #[.string ⟨nm.toArray⟩,iV y] 126));go_wp2_with (at_builtin;refine wpList_append_own_at _ rfl _ _ 66 rfl w.heap.size 126 i0 _ 2 24 Tryz.underlying66 hi0 hz0 hz1 hz2 rfl (by decide) _ _ _ rfl hw3.out (aD w7.heap.size 0) 1 1 [.string ⟨nm.toArray⟩,iV y] rfl rfl ?c1 ?c2 ?c3 ?c4 ?c5 ?_)
           case c1=>exact F0b _ _ _ _
           case c2=>intro u hu;simp at hu;rcases hu with rfl|rfl<;>rfl
           case c3=>simp only[maxLen];omega
           case c4=>omega
           case c5=>have:=K7.out.size;simp;omega
           · intro v' w8 hown2 hg2 _ hat;obtain⟨ad2,c2,hv2⟩:=B6 hown2;rw[hv2]at hown2 hat⊢;have PG:=A0 ((P7.out.alloc (.cells #[.string ⟨nm.toArray⟩,iV y] 126)).grown (v:= .slice ad R3.length c) (v':= .slice ad2 (R3.length+1) c2) (O7.out.alloc _) (.inr rfl) hg2 (by simpa using hat));have KG:=A0 ((K7.out.alloc (.cells #[.string ⟨nm.toArray⟩,iV y] 126)).grown (O7.out.alloc _) hg2);have NG:Hid (Nms w8 w.heap.size w.heap.size ((R3.map (·.1))++[nm])):=by
              refine(N7.out.chg (Chg.alloc No _ (.cells #[.string ⟨nm.toArray⟩,iV y] 126)) (fun _ _ _ _ x=>x.elim)).chg (Chg.grown hg2) (fun k cs e hh hx=> ?_);obtain⟨_,cur,hh2⟩:=A9 (O7.out.alloc (.cells #[.string ⟨nm.toArray⟩,iV y] 126)) k hx.symm;rw[hh]at hh2;simp only[Option.some.injEq,Obj.cells.injEq]at hh2;obtain⟨_,rfl,_⟩:=hh2;exact⟨by decide,by decide⟩
             have OG:=A0 hown2;clear hown2 hg2 hat hw3 P7 O7 K7 hv2 N7;go_wp2_with fail
             go_roundw
             case rel=>
              have h1:=GR.out;have h2:=G7.out;simp only[G0]at h1;refine⟨R3++[(nm,y)],s7,ad2,c2,by simp,by simp;omega,by have:=NG.out;show Nms _ _ _ _;simpa using this,KG.out,⟨by omega,by omega,by omega,by omega⟩, ?_, ?_,V7.out⟩
              · have:=OG.out;show World.ownsRow _ _ _ _ _ _ _;rw[J2a];simpa[J4]using this
              · have:=PG.out;show Pst _ _ _ _ _ _ _ _;simpa using this
             case measure=>
              have h2:=G7.out;have h3:=PG.out.nxt;rw[h3,hnx];omega
         · exact⟨rfl,I1 K7.out (V6.out _ (M.Ev.bad (O9 hb))) (by decide)⟩
      · exact⟨rfl,I1 K5.out (V4.out _ (M.Ev.bad (O9 hb))) (by decide)⟩
    · have he:er≠0:=C8b N0.out;obtain rfl:=hr;exact⟨rfl,I1 K4.out (VG.out _ (M.Ev.bad M.Ev.pure)) he⟩
  · have PX:Pst w3 B pb tv L (fun g=>ok g/\some g≠Value.ownBlock (.slice ad R3.length c)) d s'.nx:=by simpa using P3.out
    have PY:=PX.mono (ok':=ok) (fun g hg _=>hg.1);have HA:=X7 hL PY ⟨7,R3,[],0⟩ ad none R3.length c 0 0 ⟨_,_,rfl,C9 O3.out (Nat.zero_le _),World.ownsRow_nil _ _ _ _,fun g hg=>hok g (A9 O3.out g hg).1,by simp[Value.ownBlock]⟩ (by simp only[M.St.nx];omega) (Nat.le_trans hB K3.out.size) (fun g hg=>hok g (Nat.le_trans K3.out.size hg));have EV:=A0 (VR.out _ (S4b Q1.out));have GX:=A0 (show D6 s ⟨s'.nx.i,s'.nx.N,s'.nx.T++[⟨7,R3,[],0⟩]⟩ by
     have h2:=GR.out;simp only[D6,G0,M.St.nx,List.length_append,List.length_cons,List.length_nil]at h2⊢
     omega)
    clear VR P3 PX PY O3 N3;go_wp2_with fail
    refine HA.mono ?_;clear HA;rintro e w4 ⟨rfl,hk,hp⟩;have K4:=A0 (K3.out.trans hk);have P4:=A0 hp;clear hk hp;go_wp2_with fail
    go_ret;exact W6 K4.out EV.out P4.out GX.out
theorem U6b (hL:LOk L):∀m,Con B pb tv L 166 (fun d s r=>r.typ d s) m:=by
 intro m;induction m using Nat.strongRecOn with
 |_ m ih=>
  have hO:∀m',m'<m->Con B pb tv L 182 (fun d s r=>r.objL d s []) m':=fun m' h=>T2a hL m' (fun k hk=>ih k (by omega));have hF:∀m',m'<m->Con B pb tv L 183 (fun d s r=>r.fob d s) m':=fun m' h=>W5c hL m' (fun k hk=>ih k (by omega));have hM:∀m',m'<=m->Con B pb tv L 178 (fun d s r=>r.member d s) m':=fun m' h=>Q2b hL m' (fun k hk=>ih k (by omega)) (fun k hk=>hO k (by omega)) (fun k hk=>hF k (by omega));exact S2c hL m (Y7b hL m hM)
end
end Go.Proofs.YtgdnpemiiageaaaGreatDoor
