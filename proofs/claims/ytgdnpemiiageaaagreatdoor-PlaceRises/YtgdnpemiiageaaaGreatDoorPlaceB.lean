/-
  A part of the proof.
-/
import Derived.Test.YtgdnpemiiageaaaGreatDoorDrd
import Derived.Test.YtgdnpemiiageaaaGreatDoorGno
set_option maxHeartbeats 16000000
set_option maxRecDepth 100000
namespace Go.Proofs.YtgdnpemiiageaaaGreatDoor
open Go.RowKit Go.Maps
def GdA (l:List UInt8) (w:World) (e:Ending) (w':World):Prop:=Below w.heap.size w w'/\
 ((∃er p,FtO l er p/\e= .returned (.tuple #[sN,.agg #[iV er,iV p]]))\/
  ∃N T l2 of ad ac,Okd l N T l2 of/\e= .returned (.tuple #[.slice ad (M.plP (M.cxP N T l2) of).length ac,.agg #[iV 0,iV 0]])/\w'.ownsRow w.heap.size 33 2 (.slice ad (M.plP (M.cxP N T l2) of).length ac) (M.plP (M.cxP N T l2) of).length (U1 (M.plP (M.cxP N T l2) of)))
theorem Okd.ok {l:List UInt8} {N:List M.Nd} {T:List M.Ty} {l2:List (Nat×Int)} {of:M.Of} (h:Okd l N T l2 of):M.L7a (M.cxP N T l2)/\M.Fin' (M.cxP N T l2) of:=by
 obtain⟨ps,fs,_,hP,hb,hk⟩:=h;have hc:=M.L6b hP hb hP.tx;exact⟨hc,M.F7d hc hk⟩
theorem T8a (s:ByteArray) (w:World) (hs:s.size<=maxLen):Calls Tryz.prog 6 #[.string s] w (GdA s.data.toList w):=by
 have HR:=A0 (fun w1=>Z2a s w1 hs);have hb0:=heap_alloc_new w (.cells #[iV 0,iV 0] 26);have hmm:=@run_makeMap Tryz.prog;clear hs;go_enter Tryz.func6,Tryz.ntmps6;go_wp2_with fail
 refine(HR.out _).mono ?_;clear HR;rintro e w1 ⟨hbel,⟨er,p,v,hft,rfl⟩|⟨N,T,l2,of,hok,w0,pb,lb,mb,qb,nv,yv,mn,fv,Z,ofs,hb1,hpb,hlb,hmb,hB,rfl,hZ,hR,hC⟩⟩
 · have f0:w1.heap[w.heap.size]? =some (.cells #[iV 0,iV 0] 26 (0,0)):=by
    rw[hbel.block _ (by simp)];exact hb0
   have g0:w1.cell? (aD w.heap.size 0)=some (iV 0):=cr f0 rfl;have g1:w1.cell? (aD w.heap.size 1)=some (iV 0):=cr f0 rfl;have gz:∀o,w1.frozen? (aD w.heap.size o)=false:=fun o=>frozen_of_row w1 _ o _ _ f0;have gl:=(ltG f0);have her:(er !=0)=true:=by simp[hft.1]
   have HBW:Hid (Below w.heap.size w w1):=(Chg.toBelow (Chg.alloc No w _) (fun _ _ x=>x.elim) (Nat.le_refl _)).trans (hbel.mono (by simp));have HFT:=A0 hft;clear hft hbel hb0 f0 hmm;go_wp2_with fail
   go_region
   all_goals go_wp2_with fail
   all_goals
    have hcS:Chg (fun k=>k=w.heap.size) w1 ((w1.setCell (aD w.heap.size 0) (iV er)).setCell (aD w.heap.size 1) (iV p)):=Chg.trans (Chg.set w1 (aD w.heap.size 0) _) (Chg.set _ (aD w.heap.size 1) _) (fun _ _ x=>x);have hR:GdA s.data.toList w (.returned (.tuple #[sN,.agg #[iV er,iV p]])) _:=⟨HBW.out.trans (Chg.toBelow (Chg.trans hcS (C8 (Chg.alloc No _ (.cells #[iV er,iV p] 26)) (Chg.drewN No _ 1)) (fun _ _ x=>x.elim)) (fun k _ e=>by omega) HBW.out.size),.inl ⟨er,p,HFT.out,rfl⟩⟩;exact bodyPost_ret (v:= .tuple #[sN,.agg #[iV er,iV p]]) (by simp[results,Tryz.results6,go_sem,g0,g1,gl]) rfl hR
 · have f0:w1.heap[w.heap.size]? =some (.cells #[iV 0,iV 0] 26 (0,0)):=by
    rw[hbel.block _ (by simp)];exact hb0
   have gl:=(ltG f0);have hw0:w.heap.size+1<=w0.heap.size:=by have:=hb1.size;simpa using this
   have hws:(w.alloc (.cells #[iV 0,iV 0] 26)).heap.size=w.heap.size+1:=by simp
   rw[hws]at hb1 hpb hlb hmb;have HBW:Hid (∀w',Chg (SW w0 pb lb mb) w0 w'->Below w.heap.size w w'):=fun w' h=>(Chg.toBelow (Chg.alloc No w _) (fun _ _ x=>x.elim) (Nat.le_refl _)).trans ((S2a h hb1 hw0 hpb hlb hmb).mono (by omega));obtain⟨hcx,hfin⟩:=hok.ok;have HOK:=A0 hok;have HQ:Hid (∀w' ad ac,Below w.heap.size w w'->w'.ownsRow w.heap.size 33 2 (.slice ad (M.plP (M.cxP N T l2) of).length ac) (M.plP (M.cxP N T l2) of).length (U1 (M.plP (M.cxP N T l2) of))->GdA s.data.toList w (.returned (.tuple #[.slice ad (M.plP (M.cxP N T l2) of).length ac,.agg #[iV 0,iV 0]])) w'):=fun w' ad ac hb ho=>⟨hb,.inr ⟨N,T,l2,of,ad,ac,HOK.out,rfl,ho⟩⟩;have hPL:M.plP (M.cxP N T l2) of=M.Y0 (M.W8a (M.cxP N T l2) of (M.cxP N T l2).N.length) (M.cxP N T l2).N.length:=rfl;rw[hPL]at HQ;generalize M.cxP N T l2=c at *;clear hPL HOK hok hbel hb0 hb1 hZ;have hnN:c.N.length<=1200:=hcx.lenN;have HFI:=A0 hfin;have HBB:=A0 hB;have HRR:=A0 hR;have HCC:=A0 hC;have HF0:=A0 f0;obtain⟨na,nc,hnv⟩:∃na nc,nv= .slice na c.N.length nc:=by
    obtain⟨nx,hn,_⟩:=hB.nrow hC.chg;exact B6 hn
   subst hnv;obtain⟨oa,oc,hpbl,-,q0,-,-,-,-,-,-,-,-⟩:=hC.cell;clear hfin hcx hB hR hC f0 hpb hlb hmb;have W3C:Chg No w1 (((w1.alloc (.cells #[iV 0,iV 0] 26)).alloc (.map #[] 0)).alloc (.cells #[pV pb,.map (some (w1.heap.size+1))] 42)):=C8 (C8 (Chg.alloc _ _ _) (Chg.alloc _ _ _)) (Chg.alloc _ _ _);have q0':=A4 W3C q0;go_wp2_with fail
   have hw01:w0.heap.size<=w1.heap.size:=HCC.out.chg.size;have P0:Hid (Pcr w0 (((w1.alloc (.cells #[iV 0,iV 0] 26)).alloc (.map #[] 0)).alloc (.cells #[pV pb,.map (some (w1.heap.size+1))] 42)) c pb lb mb qb (.slice na c.N.length nc) yv mn fv Z ofs (w1.heap.size+2) (w1.heap.size+1) 0 (M.W8a c of 0)):=by
    refine⟨HCC.out.still W3C, ?_, ?_,by omega,by have:=HBB.out.lt;omega⟩
    · have:=heap_alloc_new ((w1.alloc (.cells #[iV 0,iV 0] 26)).alloc (.map #[] 0)) (.cells #[pV pb,.map (some (w1.heap.size+1))] 42);simpa using this
    · have:=(ImM.new (w1.alloc (.cells #[iV 0,iV 0] 26))).chg (Chg.alloc No _ (.cells #[pV pb,.map (some (w1.heap.size+1))] 42)) (fun x=>x);simp only[World.size_alloc]at this;exact this
   have K0:Hid (KC w1 (((w1.alloc (.cells #[iV 0,iV 0] 26)).alloc (.map #[] 0)).alloc (.cells #[pV pb,.map (some (w1.heap.size+1))] 42))):=KC.still W3C;clear W3C;go_loopw [27] (fun v wr=>∃j:Nat,j<=c.N.length/\v=iV (j:Int)/\Hid (Pcr w0 wr c pb lb mb qb (.slice na c.N.length nc) yv mn fv Z ofs (w1.heap.size+2) (w1.heap.size+1) (1201 * j) (M.W8a c of j))/\Hid (KC w1 wr)) (fun v _=>c.N.length - (intOf v).toNat)
   case atStart=>exact⟨0,Nat.zero_le _,rfl,P0,K0⟩
   case round=>
    clear P0 K0;obtain⟨j,hj,rfl,HP,HK⟩:=hrel;by_cases hjl:j<c.N.length
    · have HN:=A0 (E0d (i:=j) HBB.out (Q5b HBB.out.ok HP.out.st.ts HRR.out HFI.out.inv (Nat.le_of_lt hjl)) (HFI.out.dn j hjl) hjl (fun hk=>by
       obtain⟨t,ht⟩:=HFI.out.inv.ex j hjl (by unfold M.isE;omega) (.inl hjl);obtain⟨r,h1,h2,h3,h4⟩:=Cst.look (c:=c) (Z:=Z) HRR.out ht;exact⟨j,r,h1,rfl,h2,h3,h4⟩) HP.out (by omega))
      go_wp2_with fail
      refine HN.out.mono ?_;rintro e w5 ⟨rfl,hP5,hK5⟩;have HP5:Hid (Pcr w0 w5 c pb lb mb qb (.slice na c.N.length nc) yv mn fv Z ofs (w1.heap.size+2) (w1.heap.size+1) (1201 * (j+1)) (M.W8a c of (j+1))):=hP5;have HK5:=A0 (HK.out.trans hK5);clear hP5 hK5 HN HP HK;go_wp2_with fail
      go_roundw
      case rel=>exact⟨j+1,by omega,by go_num,HP5,HK5⟩
      case measure=>simp[intOf];omega
    · have hje:j=c.N.length:=by omega
      subst hje;have HRS:=A0 (H6c HBB.out HP.out);go_wp2_with fail
      refine HRS.out.mono ?_;rintro e w5 ⟨ad,ac,rfl,hc5,ho5⟩;have f1:w5.heap[w.heap.size]? =some (.cells #[iV 0,iV 0] 26 (0,0)):=J5 hc5 (HK.out.2 _ _ _ _ HF0.out);have g0:w5.cell? (aD w.heap.size 0)=some (iV 0):=cr f1 rfl;have g1:w5.cell? (aD w.heap.size 1)=some (iV 0):=cr f1 rfl;have gz:∀o,w5.frozen? (aD w.heap.size o)=false:=fun o=>frozen_of_row w5 _ o _ _ f1;have gl2:=(ltG f1);have hcS:Chg (fun k=>k=w.heap.size) w5 ((w5.setCell (aD w.heap.size 0) (iV 0)).setCell (aD w.heap.size 1) (iV 0)):=Chg.trans (Chg.set w5 (aD w.heap.size 0) _) (Chg.set _ (aD w.heap.size 1) _) (fun _ _ x=>x);have hwr:w1.heap.size<=wr.heap.size:=HK.out.1;have hR2:=A0 (HQ.out _ ad ac ((HBW.out _ (HP.out.st.still hc5).chg).trans (Chg.toBelow hcS (fun k _ x=>by omega) (by have:=hc5.size;omega))) (A8 (C9 ho5 (by omega)) hcS (fun g hg x=>by have:=(ho5.lt g hg).1;omega)));clear hcS f1 HQ HRS ho5 hc5 HP HK;generalize (M.Y0 (M.W8a c of c.N.length) c.N.length).length=bl at *;go_wp2_with fail
      exact bodyPost_ret (v:= .tuple #[.slice ad bl ac,.agg #[iV 0,iV 0]]) (by simp[results,Tryz.results6,go_sem,g0,g1]) rfl hR2.out
open Go.RowKit Go.Maps
def X9 (of:M.Of):Nat->List (Int×List UInt8)
 |0=>[]
 |j+1=>X9 of j++(match of[j]? with
  |some (some t)=>[((j:Int),M.txt' (wtr false t))]
  |_=>[])
theorem G2b (of:M.Of):∀j,(X9 of j).length<=j
 |0=>Nat.le_refl _
 |j+1=>by
  have:=G2b of j;rw[X9,List.length_append];split<;>simp<;>omega
def Y6a (l:List (Int×List UInt8)):List Value:=l.flatMap fun p=>[iV p.1,.string ⟨p.2.toArray⟩]
theorem N2b (l:List (Int×List UInt8)) (p:Int×List UInt8):Y6a (l++[p])=Y6a l++[iV p.1,.string ⟨p.2.toArray⟩]:=by simp[Y6a]
theorem Tryz.infoTd:(Tryz.prog.info? 36).map (fun i=>(i.zero,i.size,i.bytes))=some (some (.agg #[iV 0,.string ByteArray.empty]),2,24):=by kernel_rfl
def TdA (l:List UInt8) (w:World) (e:Ending) (w':World):Prop:=Below w.heap.size w w'/\
 ((∃er p,FtO l er p/\e= .returned (.tuple #[sN,.agg #[iV er,iV p]]))\/
  ∃N T l2 of ad ac,Okd l N T l2 of/\e= .returned (.tuple #[.slice ad (X9 of of.length).length ac,.agg #[iV 0,iV 0]])/\w'.ownsRow w.heap.size 36 2 (.slice ad (X9 of of.length).length ac) (X9 of of.length).length (Y6a (X9 of of.length)))
theorem L9a (s:ByteArray) (w:World) (hs:s.size<=maxLen):Calls Tryz.prog 7 #[.string s] w (TdA s.data.toList w):=by
 have HR:=A0 (fun w1=>Z2a s w1 hs);have hb0:=heap_alloc_new w (.cells #[iV 0,iV 0] 26);obtain⟨i0,hi,hz0,hz1,hz2⟩:=info_parts Tryz.infoTd;clear hs;go_enter Tryz.func7,Tryz.ntmps7;go_wp2_with fail
 refine(HR.out _).mono ?_;clear HR;rintro e w1 ⟨hbel,⟨er,p,v,hft,rfl⟩|⟨N,T,l2,of,hok,w0,pb,lb,mb,qb,nv,yv,mn,fv,Z,ofs,hb1,hpb,hlb,hmb,hB,rfl,hZ,hR,hC⟩⟩
 · have f0:w1.heap[w.heap.size]? =some (.cells #[iV 0,iV 0] 26 (0,0)):=by
    rw[hbel.block _ (by simp)];exact hb0
   have g0:w1.cell? (aD w.heap.size 0)=some (iV 0):=cr f0 rfl;have g1:w1.cell? (aD w.heap.size 1)=some (iV 0):=cr f0 rfl;have gz:∀o,w1.frozen? (aD w.heap.size o)=false:=fun o=>frozen_of_row w1 _ o _ _ f0;have gl:=(ltG f0);have her:(er !=0)=true:=by simp[hft.1]
   have HBW:Hid (Below w.heap.size w w1):=(Chg.toBelow (Chg.alloc No w _) (fun _ _ x=>x.elim) (Nat.le_refl _)).trans (hbel.mono (by simp));have HFT:=A0 hft;clear hft hbel hb0 f0;go_wp2_with fail
   go_region
   all_goals go_wp2_with fail
   all_goals
    have hcS:Chg (fun k=>k=w.heap.size) w1 ((w1.setCell (aD w.heap.size 0) (iV er)).setCell (aD w.heap.size 1) (iV p)):=Chg.trans (Chg.set w1 (aD w.heap.size 0) _) (Chg.set _ (aD w.heap.size 1) _) (fun _ _ x=>x);have hR:TdA s.data.toList w (.returned (.tuple #[sN,.agg #[iV er,iV p]])) _:=⟨HBW.out.trans (Chg.toBelow (Chg.trans hcS (C8 (Chg.alloc No _ (.cells #[iV er,iV p] 26)) (Chg.drewN No _ 1)) (fun _ _ x=>x.elim)) (fun k _ e=>by omega) HBW.out.size),.inl ⟨er,p,HFT.out,rfl⟩⟩;exact bodyPost_ret (v:= .tuple #[sN,.agg #[iV er,iV p]]) (by simp[results,Tryz.results7,go_sem,g0,g1,gl]) rfl hR
 · have f0:w1.heap[w.heap.size]? =some (.cells #[iV 0,iV 0] 26 (0,0)):=by
    rw[hbel.block _ (by simp)];exact hb0
   have gl:=(ltG f0);have HBW:Hid (Below w.heap.size w w1):=(Chg.toBelow (Chg.alloc No w _) (fun _ _ x=>x.elim) (Nat.le_refl _)).trans (hbel.mono (by simp));have HQN:Hid (∀w' ad ac,Below w.heap.size w w'->w'.ownsRow w.heap.size 36 2 (.slice ad (X9 of ofs.length).length ac) (X9 of ofs.length).length (Y6a (X9 of ofs.length))->TdA s.data.toList w (.returned (.tuple #[.slice ad (X9 of ofs.length).length ac,.agg #[iV 0,iV 0]])) w'):=by
    have HOK:=A0 hok;have e:ofs.length=of.length:=hR.len;rw[e];exact fun w' ad ac hb ho=>⟨hb,.inr ⟨N,T,l2,of,ad,ac,HOK.out,rfl,ho⟩⟩
   obtain⟨ps,fs,hpr,hP,hbn,hk⟩:=hok;have hcx:=M.L6b hP hbn hP.tx;have hI:M.CkI (M.cxP N T l2) of (M.cxP N T l2).N.length:=M.V2a _ _ of (Nat.le_refl _) hk;have hW:M.OfW of:=M.C7b hcx _ of (Nat.le_refl _) hk;have hN:N.length<=1200:=hP.lenN;have hofl:ofs.length<=1200:=by rw[hR.len,hI.len];exact hN
   have HTX:Hid (∀(j:Nat) (hj:j<ofs.length) (u:World),Chg No w1 u->(ofs[j]= -1/\X9 of (j+1)=X9 of j)\/∃(r:Nat) (x:List UInt8),ofs[j]=(r:Int)/\X9 of (j+1)=X9 of j++[((j:Int),x)]/\
    Calls Tryz.prog 11 #[pV lb,iV (r:Int)] u fun e w'=>e= .returned (.string ⟨x.toArray⟩)/\Chg No u w'):=fun j hj u hu=>by
    have hjo:j<of.length:=by rw[<-hR.len];exact hj
    have h1:=hR.at' j of[j] (List.getElem?_eq_getElem hjo);have e1:of[j]? =some of[j]:=List.getElem?_eq_getElem hjo;have e2:ofs[j]? =some ofs[j]:=List.getElem?_eq_getElem hj;cases ho:of[j] with
    |none=>
     rw[ho]at h1 e1;simp only at h1;rw[e2]at h1;refine .inl ⟨Option.some.inj h1, ?_⟩;rw[X9,e1];simp
    |some t=>
     rw[ho]at h1 e1;simp only at h1;obtain⟨r,h2,h3,h4⟩:=h1;rw[e2]at h2;refine .inr ⟨r,M.txt' (wtr false t),Option.some.inj h2,by rw[X9,e1], ?_⟩;obtain⟨D,hsh⟩:=(hC.still hu).sho;have hsz:M.sz t<=300:=hI.sm j t (by rw[hI.len]at hjo;exact hjo) e1;have hwg:=M.A0d (hW j t e1);refine(B0c u hsh hC.few r h3 (by rw[h4];omega)).mono ?_;rintro e w' ⟨rfl,hc⟩;refine⟨?_,hc⟩;unfold wtx;rw[h4]
   obtain⟨oa,oc,hpbl,-,q0,q1,q2,q3,q4,q5,q6,qp,qo⟩:=hC.cell;have HQO:Hid (∀j (hj:j<ofs.length),∃g,oa=some (aD g 0)/\g<w1.heap.size/\ofs.length<=oc/\oc<=maxLen/\w1.cell? (aD g j)=some (iV ofs[j])):=fun j hj=>by
    obtain⟨g,h1,h2,h3,h4,h5,h6,_⟩:=qo j hj;exact⟨g,h1,h3,h4,h5,h6⟩
   have HF0:=A0 f0;have C1:=A0 (Chg.alloc No w1 (.cells #[iV 0,iV 0] 26));clear hb0 hbel f0 hcx hI hW hB hR hC hZ hP hbn hk hpr hb1 hpb hlb hmb hN q0 q1 q2 q4 q5 qp qo;go_wp2_with fail
   go_loopw [23,6] (fun v u wr=>∃(j:Nat) (ad:Option Addr) (ac:Nat),j<=ofs.length/\v=iV (j:Int)/\u= .slice ad (X9 of j).length ac/\Hid (Chg No w1 wr)/\Hid (wr.ownsRow w1.heap.size 36 2 (.slice ad (X9 of j).length ac) (X9 of j).length (Y6a (X9 of j)))) (fun v _ _=>ofs.length - (intOf v).toNat)
   case atStart=>exact⟨0,none,0,Nat.zero_le _,rfl,rfl,C1.out,World.ownsRow_nil _ _ _ _⟩
   case round=>
    obtain⟨j,ad,ac,hj,rfl,rfl,CR,OR⟩:=hrel;have hwr:w1.heap.size<=wr.heap.size:=CR.out.size;by_cases hjl:j<ofs.length
    · obtain⟨g2,hla,hg2,hl1,hl2,v0⟩:=HQO.out j hjl;subst hla;have htd:=G2b of j;unfold maxLen at hl2;replace v0:=A4 CR.out v0;have hgr:=blt v0;simp only at hgr;rcases HTX.out j hjl wr CR.out with ⟨e1,e2⟩|⟨r,x,e1,e2,hcall⟩
      · rw[e1]at v0;have HE:=A0 e2;clear e1 e2;obtain⟨bj,hbj⟩:∃bj,X9 of j=bj:=⟨_,rfl⟩;rw[hbj]at OR HE htd⊢;clear hbj;go_wp2_with fail
        go_roundw
        case rel=>exact⟨j+1,ad,ac,by omega,by go_num,by rw[HE.out],CR,by rw[HE.out];exact OR⟩
        case measure=>simp[intOf];omega
      · rw[e1]at v0;have HE:=A0 e2;have HCL:=A0 hcall;have q3r:=A4 CR.out q3;have hpr:=blt q3r;simp only at hpr;clear e1 e2 hcall;obtain⟨bj,hbj⟩:∃bj,X9 of j=bj:=⟨_,rfl⟩;rw[hbj]at OR HE htd⊢;clear hbj;have gr:((r:Int) != -1)=true:=by first|(simp;done)|(simp;omega)
        go_wp2_with fail
        refine HCL.out.mono ?_;rintro e w3 ⟨rfl,hc3⟩;have HO4:=A0 ((A8 OR.out hc3 (fun _ _ x=>x)).alloc (.cells #[iV (j:Int),.string ⟨x.toArray⟩] 36));have HC3:=A0 (C8 CR.out hc3);have hw3:w1.heap.size<=w3.heap.size:=HC3.out.size;clear hc3 HCL;go_wp2_with (at_builtin;refine wpList_append_own _ rfl _ _ 29 rfl w1.heap.size 36 i0 (.agg #[iV 0,.string ByteArray.empty]) 2 24 Tryz.underlying29 hi hz0 hz1 hz2 rfl (by decide) _ _ _ rfl HO4.out (aD w3.heap.size 0) 1 1 [iV (j:Int),.string ⟨x.toArray⟩] rfl rfl ?c1 ?c2 ?c3 ?c4 ?c5 ?_)
        case c1=>exact World.news_of_block (cs:=#[iV (j:Int),.string ⟨x.toArray⟩]) (t:=36) (fr:=(0,0)) (heap_alloc_new w3 _)
        case c2=>intro u hu;simp at hu;rcases hu with rfl|rfl<;>rfl
        case c3=>simp only[maxLen];omega
        case c4=>omega
        case c5=>simp;omega
        intro v' w4 hown4 hg4 _;obtain⟨ad4,c4,rfl⟩:=B6 hown4;have HOW:=A0 hown4;have hcb:Chg (fun k=>w1.heap.size<=k) w3 w4:=(Chg.alloc (fun k=>w1.heap.size<=k) w3 (.cells #[iV (j:Int),.string ⟨x.toArray⟩] 36)).trans (Chg.grown hg4) (fun k hk x=>(A9 HO4.out k x.symm).1);have HC4:Hid (Chg No w1 w4):=((HC3.out.mono (S':=fun k=>w1.heap.size<=k) (fun _ _ x=>x.elim)).trans hcb (fun _ _ x=>x)).mono (fun k hk x=>by omega);clear hown4 hg4 hcb;go_wp2_with fail
        go_roundw
        case rel=>exact⟨j+1,ad4,c4,by omega,by go_num,by rw[HE.out,List.length_append,List.length_singleton],HC4,(show World.ownsRow _ _ _ _ _ _ _ from by rw[HE.out,N2b,List.length_append,List.length_singleton];exact HOW.out)⟩
        case measure=>simp[intOf];omega
    · have hje:j=ofs.length:=by omega
      subst hje;have f1:wr.heap[w.heap.size]? =some (.cells #[iV 0,iV 0] 26 (0,0)):=by
       rw[CR.out.block _ gl (fun x=>x)];exact HF0.out
      have g0:wr.cell? (aD w.heap.size 0)=some (iV 0):=cr f1 rfl;have g1:wr.cell? (aD w.heap.size 1)=some (iV 0):=cr f1 rfl;have gz:∀o,wr.frozen? (aD w.heap.size o)=false:=fun o=>frozen_of_row wr _ o _ _ f1;have gl2:=(ltG f1);have hcS:Chg (fun k=>k=w.heap.size) wr ((wr.setCell (aD w.heap.size 0) (iV 0)).setCell (aD w.heap.size 1) (iV 0)):=Chg.trans (Chg.set wr (aD w.heap.size 0) _) (Chg.set _ (aD w.heap.size 1) _) (fun _ _ x=>x);have HR:=A0 (HQN.out _ ad ac ((HBW.out.trans (Chg.toBelow CR.out (fun _ _ x=>x.elim) HBW.out.size)).trans (Chg.toBelow hcS (fun k _ x=>by omega) (by omega))) (A8 (C9 OR.out (by omega)) hcS (fun g hg x=>by have:=(OR.out.lt g hg).1;omega)));clear hcS f1 HQN HTX HQO;generalize (X9 of ofs.length).length=bl at *;go_wp2_with fail
      exact bodyPost_ret (v:= .tuple #[.slice ad bl ac,.agg #[iV 0,iV 0]]) (by simp[results,Tryz.results7,go_sem,g0,g1]) rfl HR.out
open Go.RowKit Go.Maps
def FK (l:List UInt8) (er p:Int):Prop:=FtO l er p\/(er=0/\p=0/\∃N T l2 of,Okd l N T l2 of)
theorem FK.one {l:List UInt8} {er p er' p':Int} (h:FK l er p) (k:FK l er' p'):er=er'/\p=p':=by
 rcases h with h|⟨rfl,rfl,N,T,l2,of,h⟩
 · rcases k with k|⟨rfl,rfl,N,T,l2,of,k⟩
   · exact h.one k
   · exact absurd h k.not
 · rcases k with k|⟨rfl,rfl,_⟩
   · exact absurd k h.not
   · exact⟨rfl,rfl⟩
def Rsn (R:List (Int×Int)):Prop:=R.length<=1200/\(∀p∈R,(0<=p.1/\p.1<=1200)/\1<=p.2/\p.2<127)/\R.Pairwise fun p q=>p.1<q.1
theorem Okd.rsn {l:List UInt8} {N:List M.Nd} {T:List M.Ty} {l2:List (Nat×Int)} {of:M.Of} (h:Okd l N T l2 of):Rsn (M.plP (M.cxP N T l2) of):=by
 obtain⟨ps,fs,_,hP,hb,hk⟩:=h;have hc:=M.L6b hP hb hP.tx;have hW:M.OfW of:=M.C7b hc _ of (Nat.le_refl _) hk;obtain⟨h1,h2⟩:=M.V3b (M.V7b hc hW (M.cxP N T l2).N.length) (M.cxP N T l2).N.length;have h3:=S5a (M.W8a (M.cxP N T l2) of (M.cxP N T l2).N.length) (M.cxP N T l2).N.length;have h4:=hc.lenN;exact⟨by unfold M.plP;omega,fun p hp=>by have:=h1 p hp;omega,h2⟩
theorem M6c (s:ByteArray) (w:World) (hs:s.size<=maxLen):Calls Tryz.prog 6 #[.string s] w fun e w'=>Below w.heap.size w w'/\∃R ad ac er p,Rsn R/\FK s.data.toList er p/\e= .returned (.tuple #[.slice ad R.length ac,.agg #[iV er,iV p]])/\w'.ownsRow w.heap.size 33 2 (.slice ad R.length ac) R.length (U1 R):=by
 refine(T8a s w hs).mono ?_;rintro e w' ⟨hb,⟨er,p,hf,rfl⟩|⟨N,T,l2,of,ad,ac,hok,rfl,ho⟩⟩
 · exact⟨hb,[],none,0,er,p,⟨by simp,fun p hp=>by simp at hp,.nil⟩,.inl hf,rfl,World.ownsRow_nil _ _ _ _⟩
 · exact⟨hb,_,ad,ac,0,0,hok.rsn,.inr ⟨rfl,rfl,N,T,l2,of,hok⟩,rfl,ho⟩
theorem S1c (s:ByteArray) (w:World) (hs:s.size<=maxLen):Calls Tryz.prog 7 #[.string s] w fun e w'=>Below w.heap.size w w'/\∃v er p,FK s.data.toList er p/\e= .returned (.tuple #[v,.agg #[iV er,iV p]]):=by
 refine(L9a s w hs).mono ?_;rintro e w' ⟨hb,⟨er,p,hf,rfl⟩|⟨N,T,l2,of,ad,ac,hok,rfl,ho⟩⟩
 · exact⟨hb,_,er,p,.inl hf,rfl⟩
 · exact⟨hb,_,0,0,.inr ⟨rfl,rfl,N,T,l2,of,hok⟩,rfl⟩
def sP3:ByteArray:=⟨([108,101,116,32,102,32,61,32,102,110,40,120,58,32,110,117,109,41,32,123,32,112,114,105,110,116,32,120,59,32,125,59]).toArray⟩
def sC1:ByteArray:=⟨([112,114,105,110,116,32,49,32,43,32,116,114,117,101,59]).toArray⟩
def sC2:ByteArray:=⟨([112,114,105,110,116,32,91,49,44,32,116,114,117,101,93,59]).toArray⟩
theorem J8d:Okd sP3.data.toList M.nB3 M.tB3 [(1,0)] M.oB3:=⟨M.pB3,[],M.V4c,M.U1c,M.D4d,M.E6d⟩
theorem J9d:Okd sC2.data.toList M.nB2 [] [] M.oB2:=⟨M.pB2,[],M.V5c,M.U2c,M.D6d,M.E7d⟩
theorem M1d:FtO sC1.data.toList 9 6:=⟨by decide,.inr ⟨M.nB1,[],M.pB1,M.V6c,M.U3c,.inr ⟨[],[],2,M.D8d,M.E8d,rfl⟩⟩⟩
theorem B8c (w:World):Calls Tryz.prog 6 #[.string sP3] w fun e w'=>Below w.heap.size w w'/\∃g ac,e= .returned (.tuple #[.slice (some (aD g 0)) 1 ac,.agg #[iV 0,iV 0]])/\g<w'.heap.size/\1<=ac/\ac<=maxLen/\w'.cell? (aD g 0)=some (iV 0)/\w'.cell? (aD g 1)=some (iV 1):=by
 refine(T8a sP3 w (by decide)).mono ?_;rintro e w' ⟨hb,⟨er,p,hf,rfl⟩|⟨N,T,l2,of,ad,ac,hok,rfl,ho⟩⟩
 · exact absurd hf J8d.not
 · obtain⟨rfl,rfl,rfl,rfl⟩:=hok.one J8d;rw[M.E5d]at ho⊢;obtain⟨g,rfl,_,hg,hc1,hc2,hcell⟩:=E7 ho (by decide);exact⟨hb,g,ac,rfl,hg,hc1,hc2,hcell 0 _ rfl,hcell 1 _ rfl⟩
theorem F0c (w:World):Calls Tryz.prog 7 #[.string sC2] w fun e w'=>Below w.heap.size w w'/\∃g ac,e= .returned (.tuple #[.slice (some (aD g 0)) 3 ac,.agg #[iV 0,iV 0]])/\g<w'.heap.size/\3<=ac/\ac<=maxLen/\w'.cell? (aD g 4)=some (iV 2)/\w'.cell? (aD g 5)=some (.string ⟨([91,110,117,109,32,124,32,98,111,111,108,93]).toArray⟩):=by
 refine(L9a sC2 w (by decide)).mono ?_;rintro e w' ⟨hb,⟨er,p,hf,rfl⟩|⟨N,T,l2,of,ad,ac,hok,rfl,ho⟩⟩
 · exact absurd hf J9d.not
 · obtain⟨rfl,rfl,rfl,rfl⟩:=hok.one J9d;have e1:X9 M.oB2 M.oB2.length=[(0,[110,117,109]),(1,[98,111,111,108]),(2,[91,110,117,109,32,124,32,98,111,111,108,93])]:=by kernel_rfl
   rw[e1]at ho⊢;obtain⟨g,rfl,_,hg,hc1,hc2,hcell⟩:=E7 ho (by decide);exact⟨hb,g,ac,rfl,hg,hc1,hc2,hcell 4 _ rfl,hcell 5 _ rfl⟩
theorem F1c (w:World):Calls Tryz.prog 7 #[.string sC1] w fun e w'=>Below w.heap.size w w'/\∃v,e= .returned (.tuple #[v,.agg #[iV 9,iV 6]]):=by
 refine(L9a sC1 w (by decide)).mono ?_;rintro e w' ⟨hb,⟨er,p,hf,rfl⟩|⟨N,T,l2,of,ad,ac,hok,rfl,ho⟩⟩
 · obtain⟨rfl,rfl⟩:=hf.one M1d;exact⟨hb,_,rfl⟩
 · exact absurd M1d hok.not
open Go.RowKit Go.Maps
theorem X7b {w w':World} (h:Below w.heap.size w w'):Chg No w w':=(Chg.below h).mono fun _ hi x=>by omega
theorem S8a (w:World):Calls Tryz.prog 4 #[] w fun e w'=>e= .returned (.bool true)/\Below w.heap.size w w':=by
 have HG:=A0 (B8c w);go_enter Tryz.func4,Tryz.ntmps4;go_wp2_with fail
 refine HG.out.mono ?_;rintro e w1 ⟨hb,g,ac,rfl,hg,h1,h2,x0,x1⟩;have HB:=A0 hb;unfold maxLen at h2;have hz:=hb.size;clear hb HG;go_wp2;go_ret;exact⟨rfl,HB.out.alloc (by omega) _⟩
theorem V3a (w:World):Calls Tryz.prog 5 #[] w fun e w'=>e= .returned (.bool true)/\Below w.heap.size w w':=by
 have H2:=A0 F0c;have H1:=A0 F1c;go_enter Tryz.func5,Tryz.ntmps5;go_wp2_with fail
 refine(H2.out _).mono ?_;rintro e w1 ⟨hb,g,ac,rfl,hg,h1,h2,x0,x1⟩;unfold maxLen at h2;have hz:=hb.size;have HB:=A0 hb;have b2:=heap_alloc_new w1 (.cells #[iV 0,iV 0] 26);have PQ:Hid (∀a,Chg No (w1.alloc (.cells #[iV 0,iV 0] 26)) a->a.cell? (aD w1.heap.size 0)=some (iV 0)/\a.cell? (aD g 4)=some (iV 2)/\a.cell? (aD g 5)=some (.string ⟨([91,110,117,109,32,124,32,98,111,111,108,93]).toArray⟩)):=by
  intro a ha;have hc:=C8 (Chg.alloc No w1 (.cells #[iV 0,iV 0] 26)) ha;refine⟨A4 ha ?_,A4 hc x0,A4 hc x1⟩;rw[cell_of_row _ _ 0 _ _ _ b2];rfl
 clear b2 x0 x1 hb H2;go_wp2_with fail
 refine(H1.out _).mono ?_;rintro e w2 ⟨hb2,v,rfl⟩;obtain⟨z0,z1,z2⟩:=PQ.out w2 (X7b hb2);have hz2:=hb2.size;have HB3:=A0 (HB.out.trans (Chg.toBelow (C8 (Chg.alloc No _ _) (X7b hb2)) (fun _ _ x=>x.elim) hz));simp only[World.size_alloc]at hz2;have l1:w1.heap.size<w2.heap.size:=by omega
 have l2:g<w2.heap.size:=by omega
 clear H1 HB PQ hb2;go_wp2;go_ret;exact⟨rfl,HB3.out.alloc (by omega) _⟩
theorem placeRises_any (s:ByteArray) (w:World) (hs:s.size<=maxLen):Calls Tryz.prog 3 #[.string s] w fun e w'=>e= .returned (.bool true)/\Below w.heap.size w w':=by
 have HP:=A0 S8a;have HC:=A0 V3a;have HG:=A0 (fun a=>M6c s a hs);have HT:=A0 (fun a=>S1c s a hs);clear hs;go_enter Tryz.func3,Tryz.ntmps3;go_wp2_with fail
 refine(HP.out _).mono ?_;rintro e w1 ⟨rfl,hb1⟩;go_wp2_with fail
 refine(HC.out _).mono ?_;rintro e w2 ⟨rfl,hb2⟩;have HB2:=A0 (hb1.trans (hb2.mono hb1.size));clear hb1 hb2 HP HC;go_wp2_with fail
 refine(HG.out _).mono ?_;rintro e w3 ⟨hb3,R,ad,ac,er,p,hR,hF,rfl,ho⟩;have HB3:=A0 (HB2.out.trans (hb3.mono HB2.out.size));have hz3:=hb3.size;have b3:=heap_alloc_new w3 (.cells #[iV er,iV p] 26);have PQ:Hid (∀a,Chg No (w3.alloc (.cells #[iV er,iV p] 26)) a->a.cell? (aD w3.heap.size 0)=some (iV er)/\a.cell? (aD w3.heap.size 1)=some (iV p)/\a.ownsRow w2.heap.size 33 2 (.slice ad R.length ac) R.length (U1 R)):=by
  intro a ha;have hc:=C8 (Chg.alloc No w3 (.cells #[iV er,iV p] 26)) ha;refine⟨A4 ha ?_,A4 ha ?_,A8 ho hc (fun _ _ x=>x)⟩
  · rw[cell_of_row _ _ 0 _ _ _ b3];rfl
  · rw[cell_of_row _ _ 1 _ _ _ b3];rfl
 have HRS:=A0 hR;have HFK:=A0 hF;have hRl:=hR.1;clear b3 hb3 ho hR hF HB2 HG;go_wp2_with fail
 refine(HT.out _).mono ?_;rintro e w4 ⟨hb4,v,er',p',hF4,rfl⟩;obtain⟨rfl,rfl⟩:=HFK.out.one hF4;obtain⟨z0,z1,ho4⟩:=PQ.out w4 (X7b hb4);have hz4:=hb4.size;have HB4:=A0 (HB3.out.trans (Chg.toBelow (C8 (Chg.alloc No _ _) (X7b hb4)) (fun _ _ x=>x.elim) HB3.out.size));simp only[World.size_alloc]at hz4;have l3:w3.heap.size<w4.heap.size:=by omega
 have HO:=A0 (A8 ho4 (Chg.alloc No w4 (.cells #[iV er,iV p] 26)) (fun _ _ x=>x));have y0:=A4 (Chg.alloc No w4 (.cells #[iV er,iV p] 26)) z0;have y1:=A4 (Chg.alloc No w4 (.cells #[iV er,iV p] 26)) z1;have b4:=heap_alloc_new w4 (.cells #[iV er,iV p] 26);have y2:(w4.alloc (.cells #[iV er,iV p] 26)).cell? (aD w4.heap.size 0)=some (iV er):=cr b4 rfl;have y3:(w4.alloc (.cells #[iV er,iV p] 26)).cell? (aD w4.heap.size 1)=some (iV p):=cr b4 rfl;have hw4:w.heap.size<=w4.heap.size:=HB4.out.size;have HB5:=A0 (HB4.out.alloc hw4 (.cells #[iV er,iV p] 26));clear HT PQ hb4 HFK hF4 ho4 z0 z1 b4 HB3 HB4;go_wp2_with fail
 have l4:w3.heap.size<(w4.alloc (.cells #[iV er,iV p] 26)).heap.size:=by simp;omega
 have l5:w4.heap.size<(w4.alloc (.cells #[iV er,iV p] 26)).heap.size:=by simp
 generalize w4.alloc (.cells #[iV er,iV p] 26)=W at *;go_loopw [7] (fun v wr=>∃j:Nat,j<=R.length/\v=iV (j:Int)/\Hid (Chg No W wr)) (fun v _=>R.length - (intOf v).toNat)
 case atStart=>exact⟨0,Nat.zero_le _,rfl,Chg.refl _ _⟩
 case round=>
  obtain⟨j,hj,rfl,CR⟩:=hrel;by_cases hjl:j<R.length
  · obtain⟨g,hla,-,hg,hc1,hc2,hcell⟩:=E7 (A8 HO.out CR.out (fun _ _ x=>x)) (by omega);subst hla;have v1:=hcell (j * 2+1) _ (D2a R j hjl).2;have v0:=hcell (j * 2) _ (D2a R j hjl).1;have hgd:=HRS.out.2.1 R[j] (List.getElem_mem hjl);unfold maxLen at hc2;have hpw:∀h:0<j,R[j - 1].1<R[j].1:=fun h=>List.pairwise_iff_getElem.1 HRS.out.2.2 (j - 1) j (by omega) hjl (by omega);have hu0:∀h:0<j,wr.cell? (aD g ((j - 1) * 2))=some (iV R[j - 1].1):=fun h=>hcell ((j - 1) * 2) _ (D2a R (j - 1) (by omega)).1;obtain⟨⟨x,y⟩,hxy⟩:∃p,R[j]=p:=⟨_,rfl⟩;rw[hxy]at v0 v1 hgd hpw;simp only at v0 v1 hgd hpw;have hd1:decide (y<1)=false:=by simp;omega
    have hd2:decide (y≥127)=false:=by simp;omega
    have hd3:decide (127<=y)=false:=by simp;omega
    have hjl':(j:Int)<(R.length:Int):=by omega
    clear hcell hxy HRS HO;by_cases hj0:j=0
    · subst hj0;clear hpw hu0;go_wp2_with fail
      go_quiet (fail)
      go_wp2_with fail
      exact⟨⟨1,by omega,rfl,C8 CR.out (Chg.drewN _ _ _)⟩,by simp[intOf];omega⟩
    · obtain⟨i,rfl⟩:∃i,j=i+1:=⟨j - 1,by omega⟩;have hp:=hpw (by omega);have u0:=hu0 (by omega);simp only[Nat.add_sub_cancel]at hp u0;have hil:i<R.length:=by omega
      generalize R[i].1=x0 at *;have hd4:decide (x<=x0)=false:=by simp;omega
      have hd5:decide (((i+1:Nat):Int)>0)=true:=by first|(simp;done)|(simp;omega)
      have hd6:decide ((0:Int)<((i+1:Nat):Int))=true:=by first|(simp;done)|(simp;omega)
      clear hpw hu0;go_wp2_with fail
      go_quiet (fail)
      go_wp2_with fail
      exact⟨⟨i+2,by omega,by go_num,C8 CR.out (Chg.drewN _ _ _)⟩,by simp[intOf];omega⟩
  · have hje:j=R.length:=by omega
    subst hje;have c0:=A4 CR.out y0;have c1:=A4 CR.out y1;have c2:=A4 CR.out y2;have c3:=A4 CR.out y3;have m3:w3.heap.size<wr.heap.size:=Nat.lt_of_lt_of_le l4 CR.out.size;have m4:w4.heap.size<wr.heap.size:=Nat.lt_of_lt_of_le l5 CR.out.size;have HB6:Hid (Below w.heap.size w wr):=HB5.out.trans (Chg.toBelow CR.out (fun _ _ x=>x.elim) HB5.out.size);clear y0 y1 y2 y3 HO HRS;go_wp2;go_ret;exact⟨rfl,HB6.out⟩
end Go.Proofs.YtgdnpemiiageaaaGreatDoor
