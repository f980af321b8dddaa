/-
  A part of the proof.
-/
import Derived.Test.YtgdnpemiiageaaaGreatDoorNodeA
set_option maxHeartbeats 16000000
set_option maxRecDepth 100000
namespace Go.Proofs.YtgdnpemiiageaaaGreatDoor
open Go.RowKit
section
variable {w:World} {B pb:Nat} {tv:Value} {L:List M.Tk} {ok:Nat->Prop} {d:Nat} {s:M.St}
def StrsB (w:World) (b:Nat) (ms:List (List UInt8)):Prop:=w.heap[b]? =some (.cells (M4a ms) 9 (0,0))
theorem StrsB.strs {b:Nat} {ms:List (List UInt8)} (h:StrsB w b ms):Strs w b ms:=
 ⟨(ltG h),fun j hj=>by rw[cell_of_row w b j _ _ _ h];simp[M4a,hj]⟩
theorem StrsB.kept {ok:Nat->Prop} {w':World} {b:Nat} {ms:List (List UInt8)} (h:StrsB w b ms) (hk:Kept B ok w w'):StrsB w' b ms:=by
 unfold StrsB at h⊢;rw[hk.block b (ltG h) (fun x=> ?_)]
 · exact h
 · obtain⟨cs,e,fz,hh,r⟩:=x.2.1;rw[h]at hh;simp only[Option.some.injEq,Obj.cells.injEq]at hh;obtain⟨_,rfl,_⟩:=hh;rcases r with r|r|r<;>exact absurd r (by decide)
theorem K9a {i:Nat} {ms:List (List UInt8)} (h:M.isM L i ms=true):(M.tk L i).kind≠6:=by
 intro h6;simp[M.isM,h6]at h
theorem P4a (hL:LOk L) (m:Nat) (φ:Nat->M.St->M.Sp->Option (M.Out Int)) (hU:∀m',m'<m->I7 B pb tv L 185 φ m') (left:Nat) (hl:left<s.N.length) (hk6:(M.tk L s.i).kind≠6) (hm:L.length - s.i<=m) (hok:∀g,w.heap.size<=g->ok g) (hB:B<=w.heap.size) (h:Pst w B pb tv L ok d s):
 Calls Tryz.prog 176 #[pV pb,iV (left:Int),.func (.func 185) #[pV pb] #[]] w (O8 w B pb tv L ok d s (fun r=>M.two L s (left:Int) (fun s=>φ d s r))):=by
 have hi:=h.at';have hs:=hL.short;have hfw:=h.few;have HT:=Z6 hL h hk6;have hf1:=S7;have HV:Hid (∀o,M.Ev L (fun r=>M.A3 (φ d s.nx r) fun s' x=>M.addN s' ⟨12,(left:Int),x,0,[],(M.tk L s.i).text,0,-1,M.atN s' (left:Int)⟩) o->M.Ev L (fun r=>M.two L s (left:Int) (fun s=>φ d s r)) o):=fun o ho=>ho;clear h hk6;generalize M.tk L s.i=tk at *;obtain⟨kd,tx,pl⟩:=tk;simp only[tkv]at HT HV;go_enter Tryz.func176,Tryz.ntmps176;go_wp2_with fail
 refine HT.mono ?_;clear HT;rintro e w1 ⟨rfl,hk,hp⟩;have K1:=A0 hk;have hi1:=hp.at';have HM:=hU (L.length - s.nx.i) (by simp only[M.St.nx];omega) w1 ok d s.nx (Nat.le_refl _) (fun g hg=>hok g (Nat.le_trans hk.size hg)) (Nat.le_trans hB hk.size) hp;clear hk hp;go_wp2_with fail
 refine HM.mono ?_;clear HM;rintro e w2 ⟨hk,o,hev,hpost⟩;have K2:=A0 (K1.out.trans hk);have E2:=A0 hev;clear hk hev K1;cases o with
 |fail er p=>
  obtain⟨rfl,he⟩:=hpost;exact⟨rfl,B9 K2.out (HV.out _ (M.Ev.bad E2.out)) he⟩
 |ok s2 x=>
  obtain⟨rfl,hp,hg,hx⟩:=hpost;have hl2:left<s2.N.length:=by have:=hg.2.2.2;simp only[M.St.nx]at this;omega
  have P2:=A0 hp;have G2:=A0 hg;obtain⟨nv,yv,nx,yx,hb,hn,hy,hrn,hry⟩:=hp.blk;obtain⟨na,nc,rfl⟩:=B6 hn;obtain⟨g,rfl,_,hgl,hgc,hgm,hcell⟩:=E7 hn (by omega);obtain⟨nd,hnd,hat⟩:=Rws.at (fun _ _ h=>NdV.len h) left hl2 hrn;have hfew:=hp.few;have hi2:=hp.at';have hlt:=(ltG hb);have c3:w2.cell? (aD pb 3)=some (.slice (some (aD g 0)) s2.N.length nc):=cr hb rfl;have c8:w2.cell? (aD g (left * 9+8))=some (iV (s2.N[left].at')):=by
   obtain⟨lv,rfl,_⟩:=hnd;exact hcell _ _ ((hat 8 (by omega)).trans rfl)
  have hA:M.atN s2 (left:Int)=s2.N[left].at':=by simp[M.atN,List.getD,hl2]
  generalize s2.N[left].at'=pa at *;unfold maxLen at hgm;clear hp hg hb hn hy hrn hry hcell hnd hat;have HA:=fun w3 (h3:Pst w3 B pb (tv) L ok d s2) (hz:w.heap.size<=w3.heap.size)=>J2 hL h3 ⟨12,(left:Int),x,0,[],tx,0,-1,pa⟩ 0 none 0 0 ⟨_,rfl,World.ownsRow_nil _ _ _ _,by simp[Value.ownBlock]⟩ rfl (by have:=G2.out;simp only[D6,M.St.nx]at this;omega) (Nat.le_trans hB hz) (fun g hg=>hok g (Nat.le_trans hz hg));have EV:=A0 (HV.out _ (M.Ev.bind E2.out (k:=fun _ s' x=>M.addN s' ⟨12,(left:Int),x,0,[],tx,0,-1,M.atN s' (left:Int)⟩) (M.Ev.pure.eq (fun _=>by rw[hA];rfl))));have hz2:=K2.out.size;have GX:=A0 (show D6 s ⟨s2.i,s2.N++[⟨12,(left:Int),x,0,[],tx,0,-1,pa⟩],s2.T⟩ by
   have h2:=G2.out;simp only[D6,M.St.nx,List.length_append,List.length_cons,List.length_nil]at h2⊢
   omega)
  clear hA E2;go_wp2_with fail
  refine(HA w2 P2.out (by omega)).mono ?_;clear HA;rintro e w3 ⟨rfl,hk,hp⟩;have K3:=A0 (K2.out.trans hk);have P3:=A0 hp;clear hk hp;go_wp2_with fail
  go_ret;exact D8 K3.out EV.out P3.out GX.out (by simp;omega)
theorem P3a (hL:LOk L) (m:Nat) (φ:Nat->M.St->M.Sp->Option (M.Out Int)) (hU:∀m',m'<m->I7 B pb tv L 181 φ m') (left:Nat) (hl:left<s.N.length) (hk6:(M.tk L s.i).kind≠6) (hm:L.length - s.i<=m) (hok:∀g,w.heap.size<=g->ok g) (hB:B<=w.heap.size) (h:Pst w B pb tv L ok d s):
 Calls Tryz.prog 176 #[pV pb,iV (left:Int),.func (.func 181) #[pV pb] #[]] w (O8 w B pb tv L ok d s (fun r=>M.two L s (left:Int) (fun s=>φ d s r))):=by
 have hi:=h.at';have hs:=hL.short;have hfw:=h.few;have HT:=Z6 hL h hk6;have hf1:=S7;have HV:Hid (∀o,M.Ev L (fun r=>M.A3 (φ d s.nx r) fun s' x=>M.addN s' ⟨12,(left:Int),x,0,[],(M.tk L s.i).text,0,-1,M.atN s' (left:Int)⟩) o->M.Ev L (fun r=>M.two L s (left:Int) (fun s=>φ d s r)) o):=fun o ho=>ho;clear h hk6;generalize M.tk L s.i=tk at *;obtain⟨kd,tx,pl⟩:=tk;simp only[tkv]at HT HV;go_enter Tryz.func176,Tryz.ntmps176;go_wp2_with fail
 refine HT.mono ?_;clear HT;rintro e w1 ⟨rfl,hk,hp⟩;have K1:=A0 hk;have hi1:=hp.at';have HM:=hU (L.length - s.nx.i) (by simp only[M.St.nx];omega) w1 ok d s.nx (Nat.le_refl _) (fun g hg=>hok g (Nat.le_trans hk.size hg)) (Nat.le_trans hB hk.size) hp;clear hk hp;go_wp2_with fail
 refine HM.mono ?_;clear HM;rintro e w2 ⟨hk,o,hev,hpost⟩;have K2:=A0 (K1.out.trans hk);have E2:=A0 hev;clear hk hev K1;cases o with
 |fail er p=>
  obtain⟨rfl,he⟩:=hpost;exact⟨rfl,B9 K2.out (HV.out _ (M.Ev.bad E2.out)) he⟩
 |ok s2 x=>
  obtain⟨rfl,hp,hg,hx⟩:=hpost;have hl2:left<s2.N.length:=by have:=hg.2.2.2;simp only[M.St.nx]at this;omega
  have P2:=A0 hp;have G2:=A0 hg;obtain⟨nv,yv,nx,yx,hb,hn,hy,hrn,hry⟩:=hp.blk;obtain⟨na,nc,rfl⟩:=B6 hn;obtain⟨g,rfl,_,hgl,hgc,hgm,hcell⟩:=E7 hn (by omega);obtain⟨nd,hnd,hat⟩:=Rws.at (fun _ _ h=>NdV.len h) left hl2 hrn;have hfew:=hp.few;have hi2:=hp.at';have hlt:=(ltG hb);have c3:w2.cell? (aD pb 3)=some (.slice (some (aD g 0)) s2.N.length nc):=cr hb rfl;have c8:w2.cell? (aD g (left * 9+8))=some (iV (s2.N[left].at')):=by
   obtain⟨lv,rfl,_⟩:=hnd;exact hcell _ _ ((hat 8 (by omega)).trans rfl)
  have hA:M.atN s2 (left:Int)=s2.N[left].at':=by simp[M.atN,List.getD,hl2]
  generalize s2.N[left].at'=pa at *;unfold maxLen at hgm;clear hp hg hb hn hy hrn hry hcell hnd hat;have HA:=fun w3 (h3:Pst w3 B pb (tv) L ok d s2) (hz:w.heap.size<=w3.heap.size)=>J2 hL h3 ⟨12,(left:Int),x,0,[],tx,0,-1,pa⟩ 0 none 0 0 ⟨_,rfl,World.ownsRow_nil _ _ _ _,by simp[Value.ownBlock]⟩ rfl (by have:=G2.out;simp only[D6,M.St.nx]at this;omega) (Nat.le_trans hB hz) (fun g hg=>hok g (Nat.le_trans hz hg));have EV:=A0 (HV.out _ (M.Ev.bind E2.out (k:=fun _ s' x=>M.addN s' ⟨12,(left:Int),x,0,[],tx,0,-1,M.atN s' (left:Int)⟩) (M.Ev.pure.eq (fun _=>by rw[hA];rfl))));have hz2:=K2.out.size;have GX:=A0 (show D6 s ⟨s2.i,s2.N++[⟨12,(left:Int),x,0,[],tx,0,-1,pa⟩],s2.T⟩ by
   have h2:=G2.out;simp only[D6,M.St.nx,List.length_append,List.length_cons,List.length_nil]at h2⊢
   omega)
  clear hA E2;go_wp2_with fail
  refine(HA w2 P2.out (by omega)).mono ?_;clear HA;rintro e w3 ⟨rfl,hk,hp⟩;have K3:=A0 (K2.out.trans hk);have P3:=A0 hp;clear hk hp;go_wp2_with fail
  go_ret;exact D8 K3.out EV.out P3.out GX.out (by simp;omega)
theorem G5b (hL:LOk L) (m:Nat) (φ:Nat->M.St->M.Sp->Option (M.Out Int)) (hU:∀m',m'<m->I7 B pb tv L 175 φ m') (left:Nat) (hl:left<s.N.length) (hk6:(M.tk L s.i).kind≠6) (hm:L.length - s.i<=m) (hok:∀g,w.heap.size<=g->ok g) (hB:B<=w.heap.size) (h:Pst w B pb tv L ok d s):
 Calls Tryz.prog 176 #[pV pb,iV (left:Int),.func (.func 175) #[pV pb] #[]] w (O8 w B pb tv L ok d s (fun r=>M.two L s (left:Int) (fun s=>φ d s r))):=by
 have hi:=h.at';have hs:=hL.short;have hfw:=h.few;have HT:=Z6 hL h hk6;have hf1:=S7;have HV:Hid (∀o,M.Ev L (fun r=>M.A3 (φ d s.nx r) fun s' x=>M.addN s' ⟨12,(left:Int),x,0,[],(M.tk L s.i).text,0,-1,M.atN s' (left:Int)⟩) o->M.Ev L (fun r=>M.two L s (left:Int) (fun s=>φ d s r)) o):=fun o ho=>ho;clear h hk6;generalize M.tk L s.i=tk at *;obtain⟨kd,tx,pl⟩:=tk;simp only[tkv]at HT HV;go_enter Tryz.func176,Tryz.ntmps176;go_wp2_with fail
 refine HT.mono ?_;clear HT;rintro e w1 ⟨rfl,hk,hp⟩;have K1:=A0 hk;have hi1:=hp.at';have HM:=hU (L.length - s.nx.i) (by simp only[M.St.nx];omega) w1 ok d s.nx (Nat.le_refl _) (fun g hg=>hok g (Nat.le_trans hk.size hg)) (Nat.le_trans hB hk.size) hp;clear hk hp;go_wp2_with fail
 refine HM.mono ?_;clear HM;rintro e w2 ⟨hk,o,hev,hpost⟩;have K2:=A0 (K1.out.trans hk);have E2:=A0 hev;clear hk hev K1;cases o with
 |fail er p=>
  obtain⟨rfl,he⟩:=hpost;exact⟨rfl,B9 K2.out (HV.out _ (M.Ev.bad E2.out)) he⟩
 |ok s2 x=>
  obtain⟨rfl,hp,hg,hx⟩:=hpost;have hl2:left<s2.N.length:=by have:=hg.2.2.2;simp only[M.St.nx]at this;omega
  have P2:=A0 hp;have G2:=A0 hg;obtain⟨nv,yv,nx,yx,hb,hn,hy,hrn,hry⟩:=hp.blk;obtain⟨na,nc,rfl⟩:=B6 hn;obtain⟨g,rfl,_,hgl,hgc,hgm,hcell⟩:=E7 hn (by omega);obtain⟨nd,hnd,hat⟩:=Rws.at (fun _ _ h=>NdV.len h) left hl2 hrn;have hfew:=hp.few;have hi2:=hp.at';have hlt:=(ltG hb);have c3:w2.cell? (aD pb 3)=some (.slice (some (aD g 0)) s2.N.length nc):=cr hb rfl;have c8:w2.cell? (aD g (left * 9+8))=some (iV (s2.N[left].at')):=by
   obtain⟨lv,rfl,_⟩:=hnd;exact hcell _ _ ((hat 8 (by omega)).trans rfl)
  have hA:M.atN s2 (left:Int)=s2.N[left].at':=by simp[M.atN,List.getD,hl2]
  generalize s2.N[left].at'=pa at *;unfold maxLen at hgm;clear hp hg hb hn hy hrn hry hcell hnd hat;have HA:=fun w3 (h3:Pst w3 B pb (tv) L ok d s2) (hz:w.heap.size<=w3.heap.size)=>J2 hL h3 ⟨12,(left:Int),x,0,[],tx,0,-1,pa⟩ 0 none 0 0 ⟨_,rfl,World.ownsRow_nil _ _ _ _,by simp[Value.ownBlock]⟩ rfl (by have:=G2.out;simp only[D6,M.St.nx]at this;omega) (Nat.le_trans hB hz) (fun g hg=>hok g (Nat.le_trans hz hg));have EV:=A0 (HV.out _ (M.Ev.bind E2.out (k:=fun _ s' x=>M.addN s' ⟨12,(left:Int),x,0,[],tx,0,-1,M.atN s' (left:Int)⟩) (M.Ev.pure.eq (fun _=>by rw[hA];rfl))));have hz2:=K2.out.size;have GX:=A0 (show D6 s ⟨s2.i,s2.N++[⟨12,(left:Int),x,0,[],tx,0,-1,pa⟩],s2.T⟩ by
   have h2:=G2.out;simp only[D6,M.St.nx,List.length_append,List.length_cons,List.length_nil]at h2⊢
   omega)
  clear hA E2;go_wp2_with fail
  refine(HA w2 P2.out (by omega)).mono ?_;clear HA;rintro e w3 ⟨rfl,hk,hp⟩;have K3:=A0 (K2.out.trans hk);have P3:=A0 hp;clear hk hp;go_wp2_with fail
  go_ret;exact D8 K3.out EV.out P3.out GX.out (by simp;omega)
theorem P7a (hL:LOk L) (m:Nat) (bb:Bool) (φ:Nat->M.St->M.Sp->Option (M.Out Int)) (hφ:∀d s r,φ d s r=(if bb then r.prod d else r.oper d) s) (hU:∀m',m'<=m->I7 B pb tv L 185 φ m') (b:Nat) (hsg:StrsB w b (M.F7 bb)) (n:Nat) (hn:n=(M.F7 bb).length) (hm:L.length - s.i<=m) (hok:∀g,w.heap.size<=g->ok g) (hB:B<=w.heap.size) (h:Pst w B pb tv L ok d s):
 Calls Tryz.prog 180 #[pV pb,.func (.func 185) #[pV pb] #[],.slice (some (aD b 0)) n n] w (O8 w B pb tv L ok d s (fun r=>M.A3 (φ d s r) fun s x=>r.row bb d s x)):=by
 have hi:=h.at';have hs:=hL.short;have HM:=hU m (Nat.le_refl _) w ok d s hm hok hB h;clear h;go_enter Tryz.func180,Tryz.ntmps180;go_wp2_with fail
 refine HM.mono ?_;clear HM;rintro e w1 ⟨hk,o,hev,hpost⟩;have K1:=A0 hk;have S1:=A0 (hsg.kept hk);have E1:=A0 hev;clear hk hev;cases o with
 |fail er p=>
  obtain⟨rfl,he⟩:=hpost;exact⟨rfl,B9 K1.out (M.Ev.bad E1.out) he⟩
 |ok s1 x=>
  obtain⟨rfl,hp,hg,hx⟩:=hpost;have P1:=A0 hp;have G1:=A0 hg;clear hp hg;obtain⟨kx,rfl⟩:=Int.eq_ofNat_of_zero_le hx.1;have V1:=A0 (fun o ho=>M.Ev.bind (k:=fun r s x=>r.row bb d s x) E1.out ho (o:=o));clear E1 hsg;subst hn;go_wp2_with fail
  go_loopw [7] (fun v wr=>∃(k:Nat) (s':M.St),v=iV (k:Int)/\k<s'.N.length/\Hid (Kept B ok w wr)/\Hid (StrsB wr b (M.F7 bb))/\Hid (D6 s s')/\Hid (Pst wr B pb tv L ok d s')/\
   Hid (∀o,M.Ev L (fun r=>r.row bb d s' (k:Int)) o->M.Ev L (fun r=>M.A3 (φ d s r) fun s x=>r.row bb d s x) o)) (fun _ wr=>L.length - nxt wr pb)
  case atStart=>exact⟨kx,s1,rfl,by omega,K1.out,S1.out,G1.out,P1.out,V1.out⟩
  case round=>
   clear V1 P1 G1 S1 K1 hx;obtain⟨k,s',rfl,hk,KR,SR,GR,PR,VR⟩:=hrel;have HI:=C3a hL PR.out b (M.F7 bb).length (M.F7 bb) SR.out.strs (by cases bb<;>decide);have hi':=PR.out.at';have hj:s.i<s'.i:=GR.out.1;have hnx:=PR.out.nxt;generalize hq:M.isM L s'.i (M.F7 bb)=q at *;have Q1:=A0 hq;clear hq;go_wp2_with fail
   refine HI.mono ?_;clear HI;rintro e w2 ⟨rfl,hc⟩;have K2:=A0 (KR.out.trans (B8 hc));have P2:=A0 (PR.out.still hc);have S2:=A0 (SR.out.kept (B8 (B:=B) (ok:=ok) hc));clear hc KR PR SR;cases q
   · have EV:=A0 (VR.out _ (M.Ev.step (M.Ev.pure.eq (o:= .ok s' (k:Int)) (fun r=>by show (if M.isM L s'.i (M.F7 bb) then _ else _)=_;rw[Q1.out];rfl))));clear VR;go_wp2_with fail
     go_ret;exact D8 K2.out EV.out P2.out GR.out (by omega)
   · have HT:=P4a hL m φ (fun m' h=>hU m' (by omega)) k hk (K9a Q1.out) (by omega) (fun g hg=>hok g (Nat.le_trans K2.out.size hg)) (Nat.le_trans hB K2.out.size) P2.out;have VT:=A0 (fun o (ho:M.Ev L (fun r=>M.A3 (M.two L s' (k:Int) (fun s=>φ d s r)) fun s y=>r.row bb d s y) o)=>VR.out o (M.Ev.step (ho.eq (fun r=>by
      show (if M.isM L s'.i (M.F7 bb) then M.A3 (M.two L s' (k:Int) (if bb then r.prod d else r.oper d)) _ else _)=_;rw[Q1.out,show (fun s=>φ d s r)=(if bb then r.prod d else r.oper d) from funext fun s=>hφ d s r]
      rfl))))
     clear VR P2;go_wp2_with fail
     refine HT.mono ?_;clear HT;rintro e w3 ⟨hk3,o,hev,hpost⟩;have K3:=A0 (K2.out.trans hk3);have S3:=A0 (S2.out.kept hk3);have E3:=A0 hev;clear hk3 hev K2 S2;cases o with
     |fail er p=>
      obtain⟨rfl,he⟩:=hpost;exact⟨rfl,B9 K3.out (VT.out _ (M.Ev.bad E3.out)) he⟩
     |ok s3 y=>
      obtain⟨rfl,hp,hg,hy⟩:=hpost;obtain⟨ky,rfl⟩:=Int.eq_ofNat_of_zero_le hy.1;have P3:=A0 hp;have G3:=A0 hg;have V3:=A0 (fun o ho=>VT.out o (M.Ev.bind (k:=fun r s x=>r.row bb d s x) E3.out ho));have hi3:=hp.at';clear hp hg VT;go_wp2_with fail
      go_roundw
      case rel=>
       have h1:=GR.out;have h2:=G3.out;simp only[D6]at h1 h2;exact⟨ky,s3,rfl,by omega,K3.out,S3.out,⟨by omega,by omega,by omega,by omega⟩,P3.out,V3.out⟩
      case measure=>
       have h2:=G3.out.1;have h3:=P3.out.nxt;rw[h3,hnx];omega
theorem P6a (hL:LOk L) (m:Nat) (bb:Bool) (φ:Nat->M.St->M.Sp->Option (M.Out Int)) (hφ:∀d s r,φ d s r=(if bb then r.prod d else r.oper d) s) (hU:∀m',m'<=m->I7 B pb tv L 181 φ m') (b:Nat) (hsg:StrsB w b (M.F7 bb)) (n:Nat) (hn:n=(M.F7 bb).length) (hm:L.length - s.i<=m) (hok:∀g,w.heap.size<=g->ok g) (hB:B<=w.heap.size) (h:Pst w B pb tv L ok d s):
 Calls Tryz.prog 180 #[pV pb,.func (.func 181) #[pV pb] #[],.slice (some (aD b 0)) n n] w (O8 w B pb tv L ok d s (fun r=>M.A3 (φ d s r) fun s x=>r.row bb d s x)):=by
 have hi:=h.at';have hs:=hL.short;have HM:=hU m (Nat.le_refl _) w ok d s hm hok hB h;clear h;go_enter Tryz.func180,Tryz.ntmps180;go_wp2_with fail
 refine HM.mono ?_;clear HM;rintro e w1 ⟨hk,o,hev,hpost⟩;have K1:=A0 hk;have S1:=A0 (hsg.kept hk);have E1:=A0 hev;clear hk hev;cases o with
 |fail er p=>
  obtain⟨rfl,he⟩:=hpost;exact⟨rfl,B9 K1.out (M.Ev.bad E1.out) he⟩
 |ok s1 x=>
  obtain⟨rfl,hp,hg,hx⟩:=hpost;have P1:=A0 hp;have G1:=A0 hg;clear hp hg;obtain⟨kx,rfl⟩:=Int.eq_ofNat_of_zero_le hx.1;have V1:=A0 (fun o ho=>M.Ev.bind (k:=fun r s x=>r.row bb d s x) E1.out ho (o:=o));clear E1 hsg;subst hn;go_wp2_with fail
  go_loopw [7] (fun v wr=>∃(k:Nat) (s':M.St),v=iV (k:Int)/\k<s'.N.length/\Hid (Kept B ok w wr)/\Hid (StrsB wr b (M.F7 bb))/\Hid (D6 s s')/\Hid (Pst wr B pb tv L ok d s')/\
   Hid (∀o,M.Ev L (fun r=>r.row bb d s' (k:Int)) o->M.Ev L (fun r=>M.A3 (φ d s r) fun s x=>r.row bb d s x) o)) (fun _ wr=>L.length - nxt wr pb)
  case atStart=>exact⟨kx,s1,rfl,by omega,K1.out,S1.out,G1.out,P1.out,V1.out⟩
  case round=>
   clear V1 P1 G1 S1 K1 hx;obtain⟨k,s',rfl,hk,KR,SR,GR,PR,VR⟩:=hrel;have HI:=C3a hL PR.out b (M.F7 bb).length (M.F7 bb) SR.out.strs (by cases bb<;>decide);have hi':=PR.out.at';have hj:s.i<s'.i:=GR.out.1;have hnx:=PR.out.nxt;generalize hq:M.isM L s'.i (M.F7 bb)=q at *;have Q1:=A0 hq;clear hq;go_wp2_with fail
   refine HI.mono ?_;clear HI;rintro e w2 ⟨rfl,hc⟩;have K2:=A0 (KR.out.trans (B8 hc));have P2:=A0 (PR.out.still hc);have S2:=A0 (SR.out.kept (B8 (B:=B) (ok:=ok) hc));clear hc KR PR SR;cases q
   · have EV:=A0 (VR.out _ (M.Ev.step (M.Ev.pure.eq (o:= .ok s' (k:Int)) (fun r=>by show (if M.isM L s'.i (M.F7 bb) then _ else _)=_;rw[Q1.out];rfl))));clear VR;go_wp2_with fail
     go_ret;exact D8 K2.out EV.out P2.out GR.out (by omega)
   · have HT:=P3a hL m φ (fun m' h=>hU m' (by omega)) k hk (K9a Q1.out) (by omega) (fun g hg=>hok g (Nat.le_trans K2.out.size hg)) (Nat.le_trans hB K2.out.size) P2.out;have VT:=A0 (fun o (ho:M.Ev L (fun r=>M.A3 (M.two L s' (k:Int) (fun s=>φ d s r)) fun s y=>r.row bb d s y) o)=>VR.out o (M.Ev.step (ho.eq (fun r=>by
      show (if M.isM L s'.i (M.F7 bb) then M.A3 (M.two L s' (k:Int) (if bb then r.prod d else r.oper d)) _ else _)=_;rw[Q1.out,show (fun s=>φ d s r)=(if bb then r.prod d else r.oper d) from funext fun s=>hφ d s r]
      rfl))))
     clear VR P2;go_wp2_with fail
     refine HT.mono ?_;clear HT;rintro e w3 ⟨hk3,o,hev,hpost⟩;have K3:=A0 (K2.out.trans hk3);have S3:=A0 (S2.out.kept hk3);have E3:=A0 hev;clear hk3 hev K2 S2;cases o with
     |fail er p=>
      obtain⟨rfl,he⟩:=hpost;exact⟨rfl,B9 K3.out (VT.out _ (M.Ev.bad E3.out)) he⟩
     |ok s3 y=>
      obtain⟨rfl,hp,hg,hy⟩:=hpost;obtain⟨ky,rfl⟩:=Int.eq_ofNat_of_zero_le hy.1;have P3:=A0 hp;have G3:=A0 hg;have V3:=A0 (fun o ho=>VT.out o (M.Ev.bind (k:=fun r s x=>r.row bb d s x) E3.out ho));have hi3:=hp.at';clear hp hg VT;go_wp2_with fail
      go_roundw
      case rel=>
       have h1:=GR.out;have h2:=G3.out;simp only[D6]at h1 h2;exact⟨ky,s3,rfl,by omega,K3.out,S3.out,⟨by omega,by omega,by omega,by omega⟩,P3.out,V3.out⟩
      case measure=>
       have h2:=G3.out.1;have h3:=P3.out.nxt;rw[h3,hnx];omega
theorem I5b (hL:LOk L) (m:Nat) (hU:∀m',m'<=m->I7 B pb tv L 185 (fun d s r=>r.oper d s) m'):I7 B pb tv L 181 (fun d s r=>r.prod d s) m:=by
 intro w ok d s hm hok hB h;have HR:=P7a (w:=w.alloc (.cells (M4a (M.F7 false)) 9)) hL m false (fun d s r=>r.oper d s) (fun _ _ _=>rfl) hU w.heap.size (heap_alloc_new w _) 1 rfl hm (fun g hg=>hok g (by simp at hg;omega)) (by simp;omega) (h.alloc _);have HV:Hid (∀o,M.Ev L (fun r=>M.A3 (r.oper d s) fun s x=>r.row false d s x) o->M.Ev L (fun r=>r.prod d s) o):=fun o ho=>M.Ev.step (ho.eq fun r=>rfl);clear h hU;go_enter Tryz.func181,Tryz.ntmps181;go_wp2_with fail
 refine HR.mono ?_;clear HR;rintro e w1 ⟨hk,o,hev,hpost⟩;have K1:=A0 (((Kept.refl B ok w).alloc _).trans hk);have E1:=A0 (HV.out o hev);clear hk hev HV;cases o with
 |fail er p=>
  obtain⟨rfl,he⟩:=hpost;exact⟨rfl,B9 K1.out E1.out he⟩
 |ok s1 x=>
  obtain⟨rfl,hp,hg,hx⟩:=hpost;have P1:=A0 hp;have G1:=A0 hg;clear hp hg;go_wp2_with fail
  go_ret;exact D8 K1.out E1.out P1.out G1.out hx
theorem S6c (hL:LOk L) (m:Nat) (hU:∀m',m'<=m->I7 B pb tv L 181 (fun d s r=>r.prod d s) m'):I7 B pb tv L 175 (fun d s r=>r.sum d s) m:=by
 intro w ok d s hm hok hB h;have HR:=P6a (w:=w.alloc (.cells (M4a (M.F7 true)) 9)) hL m true (fun d s r=>r.prod d s) (fun _ _ _=>rfl) hU w.heap.size (heap_alloc_new w _) 2 rfl hm (fun g hg=>hok g (by simp at hg;omega)) (by simp;omega) (h.alloc _);have HV:Hid (∀o,M.Ev L (fun r=>M.A3 (r.prod d s) fun s x=>r.row true d s x) o->M.Ev L (fun r=>r.sum d s) o):=fun o ho=>M.Ev.step (ho.eq fun r=>rfl);clear h hU;go_enter Tryz.func175,Tryz.ntmps175;go_wp2_with fail
 refine HR.mono ?_;clear HR;rintro e w1 ⟨hk,o,hev,hpost⟩;have K1:=A0 (((Kept.refl B ok w).alloc _).trans hk);have E1:=A0 (HV.out o hev);clear hk hev HV;cases o with
 |fail er p=>
  obtain⟨rfl,he⟩:=hpost;exact⟨rfl,B9 K1.out E1.out he⟩
 |ok s1 x=>
  obtain⟨rfl,hp,hg,hx⟩:=hpost;have P1:=A0 hp;have G1:=A0 hg;clear hp hg;go_wp2_with fail
  go_ret;exact D8 K1.out E1.out P1.out G1.out hx
theorem V1a (hL:LOk L) (m:Nat) (hU:∀m',m'<=m->I7 B pb tv L 175 (fun d s r=>r.sum d s) m'):I7 B pb tv L 167 (fun d s r=>r.comp d s) m:=by
 intro w ok d s hm hok hB h;have hi:=h.at';have hs:=hL.short;have HM:=hU m (Nat.le_refl _) w ok d s hm hok hB h;have HV:Hid (∀o,M.Ev L (fun r=>M.A3 (r.sum d s) fun s x=>if M.isM L s.i [[61,61],[60]] then M.two L s x (r.sum d) else some (.ok s x)) o->M.Ev L (fun r=>r.comp d s) o):=fun o ho=>M.Ev.step (ho.eq fun r=>rfl);clear h;go_enter Tryz.func167,Tryz.ntmps167;go_wp2_with fail
 refine HM.mono ?_;clear HM;rintro e w1 ⟨hk,o,hev,hpost⟩;have K1:=A0 hk;have E1:=A0 hev;clear hk hev;cases o with
 |fail er p=>
  obtain⟨rfl,he⟩:=hpost;exact⟨rfl,B9 K1.out (HV.out _ (M.Ev.bad E1.out)) he⟩
 |ok s1 x=>
  obtain⟨rfl,hp,hg,hx⟩:=hpost;obtain⟨kx,rfl⟩:=Int.eq_ofNat_of_zero_le hx.1;have HI:=C3a hL (hp.alloc (.cells (M4a [[61,61],[60]]) 9)) w1.heap.size 2 [[61,61],[60]] (U6 _ _ _) (by decide);have P1:=A0 hp;have G1:=A0 hg;have hi1:=hp.at';have hj:=hg.1;have V1:=A0 (fun o ho=>HV.out o (M.Ev.bind E1.out ho));clear hp hg HV E1;generalize hq:M.isM L s1.i [[61,61],[60]]=q at *;have Q1:=A0 hq;clear hq;go_wp2_with fail
  refine HI.mono ?_;clear HI;rintro e w2 ⟨rfl,hc⟩;have K2:=A0 (K1.out.trans (((Kept.refl B ok w1).alloc _).trans (B8 hc)));have P2:=A0 ((P1.out.alloc _).still hc);clear hc P1 K1;cases q
  · have EV:=A0 (V1.out _ (M.Ev.pure.eq (o:= .ok s1 (kx:Int)) (fun r=>by simp)));go_wp2_with fail
    go_ret;exact D8 K2.out EV.out P2.out G1.out hx
  · have HT:=G5b hL m (fun d s r=>r.sum d s) (fun m' h=>hU m' (by omega)) kx (by omega) (K9a Q1.out) (by omega) (fun g hg=>hok g (Nat.le_trans K2.out.size hg)) (Nat.le_trans hB K2.out.size) P2.out;clear P2;go_wp2_with fail
    refine HT.mono ?_;clear HT;rintro e w3 ⟨hk3,o,hev,hpost⟩;have K3:=A0 (K2.out.trans hk3);have E3:=A0 (V1.out _ (hev.eq (fun r=>if_pos trivial)));clear hk3 hev K2 V1;cases o with
    |fail er p=>
     obtain⟨rfl,he⟩:=hpost;exact⟨rfl,B9 K3.out E3.out he⟩
    |ok s3 y=>
     obtain⟨rfl,hp,hg,hy⟩:=hpost;have P3:=A0 hp;have G3:=A0 (show D6 s s3 by
      have h1:=G1.out;have h2:=hg;simp only[D6]at h1 h2⊢
      omega)
     clear hp hg;go_wp2_with fail
     go_ret;exact D8 K3.out E3.out P3.out G3.out hy
end
end Go.Proofs.YtgdnpemiiageaaaGreatDoor
