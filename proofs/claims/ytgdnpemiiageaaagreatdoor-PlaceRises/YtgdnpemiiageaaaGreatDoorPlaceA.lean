/-
  A part of the proof.
-/
import Derived.Test.YtgdnpemiiageaaaGreatDoorCheckD
import Derived.Test.YtgdnpemiiageaaaGreatDoorBindE
set_option maxHeartbeats 16000000
set_option maxRecDepth 100000
namespace Go.Proofs.YtgdnpemiiageaaaGreatDoor
open Go.RowKit Go.Maps
section
variable {w0 w:World} {c:M.Cx} {pb lb mb qb:Nat} {nv yv fv:Value} {mn:Int} {Z:List M.Ty} {ofs:List Int} {of:M.Of} {xb gb m:Nat} {g:M.Gm}
theorem Cst.othm {w':World} (h:Cst w0 w c pb lb mb qb nv yv mn fv Z ofs) {q:Nat} (hc:Chg (fun k=>k=q) w w') (hq:∀cs e fz,w.heap[q]? ≠some (.cells cs e fz)) (hne:q≠mb) (hlow:w0.heap.size<=q):Cst w0 w' c pb lb mb qb nv yv mn fv Z ofs:=by
 obtain⟨h1,⟨ov,D,hb,hr,hs⟩,hf⟩:=h;have ne:∀{k:Nat} {cs':Array Value} {e':TypeId} {fz':Nat×Nat},w.heap[k]? =some (.cells cs' e' fz')->k≠q:=fun hk hkq=>by
  subst hkq;exact hq _ _ _ hk
 refine⟨h1.trans hc (fun k hk x=>by have x':k=q:=x;omega),⟨ov,D, ?_,A8 hr hc (fun g hg x=> ?_),hs.chg hc (hs.mst.chg hc (fun x=> ?_)) ?_ (fun _ x _=>x)⟩,hf⟩
 · rw[hc.block pb (ltG hb) (ne hb)];exact hb
 · obtain⟨_,cur,hh⟩:=A9 hr g hg;exact ne hh x
 · exact hne x.symm
 · rintro k cur e' hk he' hx;exact ne hk hx
structure Pcr (w0 w:World) (c:M.Cx) (pb lb mb qb:Nat) (nv yv:Value) (mn:Int) (fv:Value) (Z:List M.Ty) (ofs:List Int) (xb gb m:Nat) (g:M.Gm):Prop where
 st:Cst w0 w c pb lb mb qb nv yv mn fv Z ofs
 blk:w.heap[xb]? =some (.cells #[pV pb,.map (some gb)] 42 (0,0))
 gs:ImM w gb m g
 low:w0.heap.size<=gb
 ne:gb≠mb
theorem Pcr.still {w':World} (h:Pcr w0 w c pb lb mb qb nv yv mn fv Z ofs xb gb m g) (hc:Chg No w w'):Pcr w0 w' c pb lb mb qb nv yv mn fv Z ofs xb gb m g:=
 ⟨h.st.still hc,J5 hc h.blk,h.gs.chg hc (fun x=>x),h.low,h.ne⟩
theorem Pcr.memo {w':World} (h:Pcr w0 w c pb lb mb qb nv yv mn fv Z ofs xb gb m g) (hc:Chg (fun k=>k=mb) w w') (hC:Cst w0 w' c pb lb mb qb nv yv mn fv Z ofs):Pcr w0 w' c pb lb mb qb nv yv mn fv Z ofs xb gb m g:=
 ⟨hC,h.st.blk hc h.blk,h.gs.chg hc h.ne,h.low,h.ne⟩
theorem Pcr.more {m':Nat} (h:Pcr w0 w c pb lb mb qb nv yv mn fv Z ofs xb gb m g) (hm:m<=m'):Pcr w0 w c pb lb mb qb nv yv mn fv Z ofs xb gb m' g:=
 ⟨h.st,h.blk,h.gs.more hm,h.low,h.ne⟩
theorem Pcr.put {w':World} {g':M.Gm} {m':Nat} (h:Pcr w0 w c pb lb mb qb nv yv mn fv Z ofs xb gb m g) (hc:Chg (fun k=>k=gb) w w') (hi:ImM w' gb m' g'):Pcr w0 w' c pb lb mb qb nv yv mn fv Z ofs xb gb m' g'/\KC w w':=by
 have hk:KC w w':=⟨hc.size,fun q cs e fz x=>by
  rw[hc.block q (ltG x) (fun y=>by subst y;exact h.gs.notcells x)];exact x⟩
 exact⟨⟨h.st.othm hc (fun _ _ _=>h.gs.notcells) h.ne h.low,hk.2 _ _ _ _ h.blk,hi,h.low,h.ne⟩,hk⟩
theorem W6b (h:Pcr w0 w c pb lb mb qb nv yv mn fv Z ofs xb gb m g) (hm:m<=100000000) (i:Nat) (hi:i<=1000000) (a:Nat) (ha:a<(tl c Z).length):
 Calls Tryz.prog 20 #[pV xb,iV (i:Int),iV (a:Int)] w fun e w'=>e=rT/\Pcr w0 w' c pb lb mb qb nv yv mn fv Z ofs xb gb (m+1) (M.J1a g (i:Int) (M.tr (tl c Z) a))/\KC w w':=by
 obtain⟨D,hs⟩:=h.st.sho;obtain⟨oa,oc,hpb,fz,q0,q1,q2,q3,-,-,-,-,-⟩:=h.st.cell;have b0:w.cell? (aD xb 0)=some (pV pb):=cr h.blk rfl;have b1:w.cell? (aD xb 1)=some (.map (some gb)):=cr h.blk rfl;have hxl:=(ltG h.blk);have HH:=A0 h;have htl:=M.Q2a (M.tr (tl c Z) a);have HTG:=A0 (G0c a w ha hs);obtain⟨t,ht⟩:∃t,M.tr (tl c Z) a=t:=⟨_,rfl⟩;rw[ht]at htl HTG⊢;obtain⟨v,hv⟩:∃v,M.Z7 t=v:=⟨_,rfl⟩;have HV:=A0 hv;rw[hv]at htl HTG;clear h hs fz q0 q1 q2 ht hv;go_enter Tryz.func20,Tryz.ntmps20;go_wp2_with fail
 refine HTG.out.mono ?_;clear HTG;rintro e w1 ⟨rfl,hc⟩;have b1':=A4 hc b1;have hxl':=blt b1';simp only at hxl';have HP1:=A0 (HH.out.still hc);have HC:=A0 hc;clear hc b0 b1 q3;by_cases hv:v=127
 · subst hv;have HE:Hid (Pcr w0 w1 c pb lb mb qb nv yv mn fv Z ofs xb gb (m+1) (M.J1a g (i:Int) t)):=by
    have e:M.J1a g (i:Int) t=g:=by unfold M.J1a;rw[if_pos HV.out]
    show Pcr _ _ _ _ _ _ _ _ _ _ _ _ _ _ _ _ _;rw[e];exact HP1.out.more (Nat.le_succ _)
   clear HV HP1;go_wp2_with fail
   go_end0;exact⟨rfl,HE.out,KC.still HC.out⟩
 · have gv:((v:Int) !=127)=true:=by simp;omega
   obtain⟨w2,hrun,him,hc2⟩:=HP1.out.gs.put (i:Int) (v:Int) (by omega) hm (by omega);have HE:Hid (Pcr w0 w2 c pb lb mb qb nv yv mn fv Z ofs xb gb (m+1) (M.J1a g (i:Int) t)/\KC w1 w2):=by
    have e:M.J1a g (i:Int) t=fun u=>if u=(i:Int) then some (v:Int) else g u:=by
     unfold M.J1a;rw[if_neg (by rw[HV.out];exact hv),HV.out];rfl
    show Pcr _ _ _ _ _ _ _ _ _ _ _ _ _ _ _ _ _/\_;rw[e];exact HP1.out.put hc2 him
   clear HV HP1 him hc2 hv;go_wp2_with fail
   go_end0;exact⟨rfl,HE.out.1,(KC.still HC.out).trans HE.out.2⟩
theorem U6c (h:Pcr w0 w c pb lb mb qb nv yv mn fv Z ofs xb gb m g) (hm:m<=100000000) {bx:Nat} (hbx:w.heap[bx]? =some (.cells #[pV xb] 70 (0,0))) (p:Nat) (hp:p<=1000000) (hl:Lk c Z ofs of (p:Int)) (a:Nat) (ha:a<(tl c Z).length):
 Calls Tryz.prog 22 #[iV (p:Int),iV (a:Int),pV bx] w fun e w'=>e=rT/\Pcr w0 w' c pb lb mb qb nv yv mn fv Z ofs xb gb (m+1) (M.D8b of g ((p:Int),M.tr (tl c Z) a))/\KC w w':=by
 obtain⟨p',r,hpl,e,hr,hrl,htr⟩:=hl;have:p=p':=by omega
 subst this;have HI:=A0 (W3b h.st p hpl r hr hrl);have hk:(tl c Z)[r].kind=(M.ofA of (p:Int)).k:=by rw[<-htr,Y5 h.st.ts hrl]
 have HGU:=A0 (fun u (hu:Chg No w u)=>W6b (h.still hu) hm p hp a ha);have b0:w.cell? (aD xb 0)=some (pV pb):=cr h.blk rfl;have hxl:=(ltG h.blk);have x0:w.cell? (aD bx 0)=some (pV xb):=cr hbx rfl;have hbl:=(ltG hbx);have HH:=A0 h;rw[hk]at HI;obtain⟨t,ht⟩:∃t,M.tr (tl c Z) a=t:=⟨_,rfl⟩;rw[ht]at HGU⊢;obtain⟨kd,hkd⟩:∃kd,(M.ofA of (p:Int)).k=kd:=⟨_,rfl⟩;have HK:=A0 hkd;rw[hkd]at HI;clear h hbx hr htr hk ht hkd e;go_enter Tryz.func22,Tryz.ntmps22;go_wp2_with fail
 refine HI.out.mono ?_;clear HI;rintro e w1 ⟨rfl,hc⟩;have x0':=A4 hc x0;have hbl':=blt x0';simp only at hbl';have HC:=A0 hc;clear hc b0 x0;by_cases h5:kd=5
 · subst h5;have hg:M.D8b of g ((p:Int),t)=M.J1a g (p:Int) t:=by unfold M.D8b;rw[if_pos HK.out]
   have HGK:=A0 hg;clear hg HK;go_wp2_with fail
   refine(HGU.out _ HC.out).mono ?_;rintro e w2 ⟨rfl,hP,hK⟩;have HP:=A0 hP;have HK2:=A0 hK;clear hP hK;go_wp2_with fail
   go_end0;exact⟨rfl,by rw[HGK.out];exact HP.out,(KC.still HC.out).trans HK2.out⟩
 · have g5:(kd==5)=false:=by simpa using h5
   have hg:M.D8b of g ((p:Int),t)=g:=by unfold M.D8b;rw[if_neg (by rw[HK.out];exact h5)]
   have HGK:=A0 hg;have HP:=A0 ((HH.out.still HC.out).more (Nat.le_succ m));clear hg HK HH HGU h5;go_wp2_with fail
   go_end0;exact⟨rfl,by rw[HGK.out];exact HP.out,KC.still HC.out⟩
def RPa (w0 ws:World) (c:M.Cx) (pb lb mb qb:Nat) (nv yv:Value) (mn:Int) (fv:Value) (Z:List M.Ty) (ofs:List Int) (of:M.Of) (xb gb m:Nat) (g:M.Gm) (bx:Nat) (l:List (Int×M.Tr)) (u:World):Prop:=
 Pcr w0 u c pb lb mb qb nv yv mn fv Z ofs xb gb (m+l.length) (l.foldl (M.D8b of) g)/\l.length<=1200/\u.heap[bx]? =some (.cells #[pV xb] 70 (0,0))/\KC ws u
theorem C2d (hB:Cbs w0 c pb lb mb qb nv fv) {i:Nat} (hL:Lks c Z ofs of i) (hm:m<=90000000) (hask:∃L,M.asks c of i=some L) (ws:World) (bx:Nat):
 TlC w0 c pb lb mb qb nv yv mn fv Z ofs of i 22 #[pV bx] (RPa w0 ws c pb lb mb qb nv yv mn fv Z ofs of xb gb m g bx) (fun _ _=>False) where
 cf _ _:=by go_simp
 st l u h:=h.1.st
 still l u u' h hc:=⟨h.1.still hc,h.2.1,J5 hc h.2.2.1,h.2.2.2.trans (.still hc)⟩
 memo l u u' h hc hC:=⟨h.1.memo hc hC,h.2.1,h.1.st.blk hc h.2.2.1,h.2.2.2.trans (h.1.st.kc hc)⟩
 bad l u u' h hc hn:=by
  obtain⟨L,hL⟩:=hask;rw[hn]at hL;cases hL
 tell l u L x p a h hx hp ha hL2 hmem hlen:=by
  have hlk:=hL.pe x hx;rw[hp]at hlk;have hpn:p<=1000000:=by
   obtain⟨j,e,_,hj,_⟩:=hx;have:=hB.ok.lenN;omega
  have:=h.2.1;refine(U6c (of:=of) h.1 (by omega) h.2.2.1 p hpn hlk a ha).mono ?_;rintro e u' ⟨rfl,hP,hK⟩;refine .inr ⟨rfl,⟨?_,by rw[List.length_append];simp;omega,hK.2 _ _ _ _ h.2.2.1,h.2.2.2.trans hK⟩,hK⟩;rw[List.foldl_append,List.length_append,hp];exact hP
end
open Go.RowKit Go.Maps
theorem Tryz.infoGu:(Tryz.prog.info? 33).map (fun i=>(i.zero,i.size,i.bytes))=some (some (.agg #[iV 0,iV 0]),2,16):=by kernel_rfl
theorem S5a (g:M.Gm):∀j,(M.Y0 g j).length<=j
 |0=>Nat.le_refl _
 |j+1=>by
  have:=S5a g j;rw[M.Y0,List.length_append];split<;>simp<;>omega
section
variable {w0 w:World} {c:M.Cx} {pb lb mb qb:Nat} {nv yv fv:Value} {mn:Int} {Z:List M.Ty} {ofs:List Int} {xb gb m:Nat} {g:M.Gm}
theorem H6c (hB:Cbs w0 c pb lb mb qb nv fv) (h:Pcr w0 w c pb lb mb qb nv yv mn fv Z ofs xb gb m g):
 Calls Tryz.prog 10 #[pV xb] w fun e w'=>∃ad ac,e= .returned (.slice ad (M.Y0 g c.N.length).length ac)/\Chg No w w'/\w'.ownsRow w.heap.size 33 2 (.slice ad (M.Y0 g c.N.length).length ac) (M.Y0 g c.N.length).length (U1 (M.Y0 g c.N.length)):=by
 obtain⟨i0,hi,hz0,hz1,hz2⟩:=info_parts Tryz.infoGu;obtain⟨oa,oc,hpb,-,q0,-,-,-,-,-,-,-,-⟩:=h.st.cell;have hlen:=hB.ok.lenN;obtain⟨na,nc,hnv⟩:∃na nc,nv= .slice na c.N.length nc:=by
  obtain⟨nx,hn,_⟩:=hB.nrow h.st.chg;exact B6 hn
 subst hnv;have b0:w.cell? (aD xb 0)=some (pV pb):=cr h.blk rfl;have b1:w.cell? (aD xb 1)=some (.map (some gb)):=cr h.blk rfl;have hxl:=(ltG h.blk);have HGS:=A0 h.gs;clear h hB;generalize c.N.length=n at *;go_enter Tryz.func10,Tryz.ntmps10;go_wp2_with fail
 go_loopw [16,3] (fun v u wr=>∃(j:Nat) (ad:Option Addr) (ac:Nat),j<=n/\v=iV (j:Int)/\u= .slice ad (M.Y0 g j).length ac/\Hid (Chg No w wr)/\Hid (wr.ownsRow w.heap.size 33 2 (.slice ad (M.Y0 g j).length ac) (M.Y0 g j).length (U1 (M.Y0 g j)))) (fun v _ _=>n - (intOf v).toNat)
 case atStart=>exact⟨0,none,0,Nat.zero_le _,rfl,rfl,Chg.refl _ _,World.ownsRow_nil _ _ _ _⟩
 case round=>
  obtain⟨j,ad,ac,hj,rfl,rfl,CR,OR⟩:=hrel;have hwr:w.heap.size<=wr.heap.size:=CR.out.size;by_cases hjl:j<n
  · have hlk:=(HGS.out.chg CR.out (fun x=>x)).look (j:Int) (by omega);have d1:=A4 CR.out b1;have m1:=blt d1;simp only at m1;have hrl:=S5a g j;have HRS:Hid (M.Y0 g (j+1)=M.Y0 g j++(match g (j:Int) with|some v=>[((j:Int),v)]|none=>[])):=by
     show _=_;cases hg:g (j:Int)<;>simp[M.Y0,hg]
    obtain⟨bj,hbj⟩:∃bj,M.Y0 g j=bj:=⟨_,rfl⟩;rw[hbj]at OR HRS hrl⊢;clear hbj;cases hg:g (j:Int) with
    |none=>
     rw[hg]at hlk HRS;have HRS':Hid (M.Y0 g (j+1)=bj):=by
      show _=_;rw[HRS.out];simp
     simp only[Option.getD_none,Option.isSome_none]at hlk;clear HRS hg;go_wp2_with fail
     go_roundw
     case rel=>exact⟨j+1,ad,ac,by omega,by go_num,by rw[HRS'.out],CR,by rw[HRS'.out];exact OR⟩
     case measure=>simp[intOf];omega
    |some tj=>
     rw[hg]at hlk HRS;have HBN':Hid (M.Y0 g (j+1)=bj++[((j:Int),tj)]):=HRS.out;simp only[Option.getD_some,Option.isSome_some]at hlk;have HO4:=A0 (OR.out.alloc (.cells #[iV (j:Int),iV tj] 33));clear HRS hg;go_wp2_with (at_builtin;refine wpList_append_own _ rfl _ _ 23 rfl w.heap.size 33 i0 (.agg #[iV 0,iV 0]) 2 16 Tryz.underlying23 hi hz0 hz1 hz2 rfl (by decide) _ _ _ rfl HO4.out (aD wr.heap.size 0) 1 1 [iV (j:Int),iV tj] rfl rfl ?c1 ?c2 ?c3 ?c4 ?c5 ?_)
     case c1=>exact World.news_of_block (cs:=#[iV (j:Int),iV tj]) (t:=33) (fr:=(0,0)) (heap_alloc_new wr _)
     case c2=>intro u hu;simp at hu;rcases hu with rfl|rfl<;>rfl
     case c3=>simp only[maxLen];omega
     case c4=>omega
     case c5=>simp;omega
     intro v' w4 hown4 hg4 _;obtain⟨ad4,c4,rfl⟩:=B6 hown4;have HOW:=A0 hown4;have hcb:Chg (fun k=>w.heap.size<=k) wr w4:=(Chg.alloc (fun k=>w.heap.size<=k) wr (.cells #[iV (j:Int),iV tj] 33)).trans (Chg.grown hg4) (fun k hk x=>(A9 HO4.out k x.symm).1);have HC4:Hid (Chg No w w4):=((CR.out.mono (S':=fun k=>w.heap.size<=k) (fun _ _ x=>x.elim)).trans hcb (fun _ _ x=>x)).mono (fun k hk x=>by omega);clear hown4 hg4 hcb;go_wp2_with fail
     go_roundw
     case rel=>exact⟨j+1,ad4,c4,by omega,by go_num,by rw[HBN'.out,List.length_append,List.length_singleton],HC4,(show World.ownsRow _ _ _ _ _ _ _ from by rw[HBN'.out,V7a,List.length_append,List.length_singleton];exact HOW.out)⟩
     case measure=>simp[intOf];omega
  · have hje:j=n:=by omega
    subst hje;go_wp2_with fail
    exact bodyPost_ret (v:= .slice ad (M.Y0 g j).length ac) (by simp[results,Tryz.results10,go_sem]) rfl ⟨ad,ac,rfl,CR.out,OR.out⟩
end
end Go.Proofs.YtgdnpemiiageaaaGreatDoor
