/-
  A part of the proof.
-/
import Derived.Test.YtfhhipefecekkaaGreatDoorSht
import Derived.Sort.OwnSortedInts
import Derived.Test.YtfhhipefecekkaaGreatDoorElB
import Derived.Test.YtfhhipefecekkaaGreatDoorEndA
set_option maxHeartbeats 16000000
set_option maxRecDepth 100000
namespace Go.Proofs.YtfhhipefecekkaaGreatDoor
open Go.Proofs.Tryz
open Go.RowKit Go.Maps
def M.ctR(c:M.Cx):Nat->List Int
 |0=>[]
 |j+1=>M.ctR c j++(if (M.ndx c.N j).kind=18/\c.fn.getD j 0≠c.fn.getD (M.nmx c j).toNat 0 then [M.nmx c j] else [])
theorem M.ctR_len(c:M.Cx):∀j,(M.ctR c j).length<=j
 |0=>vQ _
 |j+1=>by
  have:=M.ctR_len c j;rw[M.ctR,qQ];split<;>simp<;>omega
theorem J2b(l:List Int)(x:Int):x∈Lib.compact l ↔ x∈l:=by
 unfold Lib.compact Lib.compactUpTo;have hget:∀j,j<l.length->l.toArray[j]! ∈l:=λj hj=>by
  rw[getElem!_pos l.toArray j (by simpa using hj)];simp
 have key:∀j,j<l.length->l.toArray[j]! ∈((List.range l.length).filter (Lib.keeps l.toArray)).map (l.toArray[·]!):=λj=>by
  induction j with
  |zero=>exact λhj=>List.mem_map.2 ⟨0,List.mem_filter.2 ⟨List.mem_range.2 hj,Lib.keeps_lt_one _ 0 (by omega)⟩,rfl⟩
  |succ j ih=>
   intro hj;by_cases he:l.toArray[j+1]! =l.toArray[j+1 - 1]!
   · rw[he];exact ih (by omega)
   · exact List.mem_map.2 ⟨j+1,List.mem_filter.2 ⟨List.mem_range.2 hj,Lib.keeps_pos he⟩,rfl⟩
 constructor
 · intro h;obtain⟨j,hj,rfl⟩:=List.mem_map.1 h;exact hget j (List.mem_range.1 (List.mem_filter.1 hj).1)
 · intro h;obtain⟨j,hj,rfl⟩:=List.mem_iff_getElem.1 h;have:=key j hj;rwa [getElem!_pos l.toArray j (by simpa using hj)]at this
theorem W1b{w:World}{B g ac:Nat}{l d:List Int}(ho:w.ownsRow B 3 1 (.slice (some (aD g 0)) l.length ac) l.length (B8 l))(hd:d.length=l.length)(n:Nat)(os:Array Obj):
 Chg (λk=>k=g) w (Sort.grow (Sort.putRow (Value.int .i64) (Sort.ahead w n) g 0 d.toArray) os)/\(Sort.grow (Sort.putRow (Value.int .i64) (Sort.ahead w n) g 0 d.toArray) os).ownsRow B 3 1 (.slice (some (aD g 0)) l.length ac) l.length (B8 d):=by
 rcases ho.2 with ⟨h1,_⟩|⟨g',cap,cur,hv,hb,hg,hn,hm,hcs,htk⟩
 · simp at h1
 · simp only[Value.slice.injEq,zQ,Addr.mk.injEq,and_true,true_and]at hv;obtain⟨rfl,rfl⟩:=hv;exact⟨(Chg.grown (grownBy_sortedI d.toArray)).mono (λk _ x=>by simpa using x),ownsRow_sortedI hd hb hg hn hm hcs⟩
theorem B1c{w:World}{B g ac n:Nat}{a b:List Int}(ho:w.ownsRow B 3 1 (.slice (some (aD g 0)) n ac) n (B8 (a++b))):w.ownsRow B 3 1 (.slice (some (aD g 0)) a.length ac) a.length (B8 a):=by
 have hl:=ho.1;simp only[B8,List.length_map,qQ,Nat.mul_one]at hl;rcases ho.2 with ⟨h1,_⟩|⟨g',cap,cur,hv,hb,hg,hn,hm,hcs,htk⟩
 · simp at h1
 · simp only[Value.slice.injEq,zQ,Addr.mk.injEq,and_true,true_and]at hv;obtain⟨rfl,rfl⟩:=hv;refine⟨by simp[B8],.inr ⟨g,ac,cur,rfl,hb,hg,by omega,hm,hcs, ?_⟩⟩;have:=congrArg (List.take a.length) htk;rw[List.take_take]at this;rw[Nat.mul_one]at this⊢;rw[Nat.min_eq_left (by omega)]at this;rw[this];simp[B8]
theorem D8d{w:World}{B:Nat}{ad:Option Addr}{ac:Nat}{l:List Int}(ho:w.ownsRow B 3 1 (sL ad l.length ac) l.length (B8 l))(hl:l.length<=1000000):
 Calls prog 53 #[sL ad l.length ac] w λe w'=>e=rT/\Chg (λk=>(Value.slice ad l.length ac).ownBlock=some k) w w'/\∃l':List Int,l'.length=l.length/\(∀x,x∈l' ↔ x∈l)/\w'.ownsRow B 3 1 (sL ad l.length ac) l.length (B8 l'):=by
 by_cases h0:l.length=0
 · rw[h0];refine(Tryz.slices_Sort_int_none ad ac w).mono ?_;rintro e w' ⟨rfl,rfl⟩;rw[h0]at ho;exact⟨rfl,Chg.refl _ _,l,h0,λ_=>Iff.rfl,ho⟩
 · obtain⟨g,rfl,hB,hg,h1,h2,hc⟩:=D8 ho (by omega);obtain⟨_,cur,hh⟩:=A9 ho g rfl;refine(Tryz.slices_Sort_int g 0 ac l w (λj hj=> ?_) hg (by omega)).mono ?_
   · have hj':j<l.length:=by simpa using hj
     refine⟨?_,frozen_of_row w g _ _ _ hh⟩;rw[Nat.zero_add,hc j (iV l[j]) (by simp[B8,hj']),getElem!_pos l.toArray j hj];rfl
   · rintro e w' ⟨rfl,n,os,rfl⟩;obtain⟨r1,r2⟩:=W1b ho (d:=l.mergeSort λx y=>decide (x<=y)) (List.length_mergeSort _) n os;exact⟨rfl,r1.mono (λk _ x=>by have x':k=g:=x;rw[x'];rfl),_,List.length_mergeSort _,λx=>List.mem_mergeSort,r2⟩
theorem E0c{w:World}{B:Nat}{ad:Option Addr}{ac:Nat}{l:List Int}(ho:w.ownsRow B 3 1 (sL ad l.length ac) l.length (B8 l))(hl:l.length<=1000000):
 Calls prog 54 #[sL ad l.length ac] w λe w'=>Chg (λk=>(Value.slice ad l.length ac).ownBlock=some k) w w'/\∃l':List Int,l'.length<=l.length/\(∀x,x∈l' ↔ x∈l)/\e= .returned (sL ad l'.length ac)/\w'.ownsRow B 3 1 (sL ad l'.length ac) l'.length (B8 l'):=by
 by_cases h0:l.length=0
 · rw[h0];refine(Tryz.slices_Compact_int_empty ad ac w).mono ?_;rintro e w' ⟨rfl,rfl⟩;rw[h0]at ho;exact⟨Chg.refl _ _,l,by omega,λ_=>Iff.rfl,by rw[h0],by rw[h0];exact ho⟩
 · obtain⟨g,rfl,hB,hg,h1,h2,hc⟩:=D8 ho (by omega);obtain⟨_,cur,hh⟩:=A9 ho g rfl;refine(Tryz.slices_Compact_int g 0 ac l w (λj hj=> ?_) (by omega) h1).mono ?_
   · have hj':j<l.length:=by simpa using hj
     refine⟨?_,frozen_of_row w g _ _ _ hh⟩;rw[Nat.zero_add,hc j (iV l[j]) (by simp[B8,hj']),getElem!_pos l.toArray j hj];rfl
   · rintro e w' ⟨rfl,q,rfl⟩;have hle:(Lib.compact l).length<=l.length:=by
      unfold Lib.compact Lib.compactUpTo;rw[List.length_map];refine kQ (List.length_filter_le _ _) ?_;rw[List.length_range];exact vQ _
     have hlen:(Lib.compact l++List.replicate (l.length - (Lib.compact l).length) 0).length=l.length:=by
      rw[qQ,List.length_replicate];omega
     obtain⟨r1,r2⟩:=W1b ho hlen q #[];have eg:∀W:World,Sort.grow W #[]=W:=λW=>by simp[Sort.grow]
     rw[eg]at r1 r2;refine⟨r1.mono (λk _ x=>by have x':k=g:=x;rw[x'];rfl),_,hle,J2b l,rfl,B1c r2⟩
def CgA(c:M.Cx)(w:World)(e:Ending)(w':World):Prop:=Below w.heap.size w w'/\∃(ad:Option Addr) (ac:Nat) (L:List Int),e= .returned (.tuple #[sL ad L.length ac,.agg #[iV 0,iV 0]])/\L.length<=1200/\(∀x,x∈L ↔ x∈M.ctR c c.N.length)/\w'.ownsRow w.heap.size 3 1 (sL ad L.length ac) L.length (B8 L)
theorem R5c(s:ByteArray)(w:World)(hs:s.size<=maxLen){N:List M.Nd}{T:List M.Ty}{l2:List (Nat×Int)}{of:M.Of}(hok:Okd s.data.toList N T l2 of):Calls prog 24 #[.string s] w (CgA (M.cxP N T l2) w):=by
 obtain⟨ps,fs,hr,hP,hbn,hck⟩:=hok;have hcx:M.D8a (M.cxP N T l2):=M.A4b hP hbn hP.tx;have HR:Hid (∀u,Calls prog 33 #[.string s] u λe w'=>Below u.heap.size u w'/\∃B bb nv tv av ms,u.heap.size<=B/\e= .returned (.tuple #[pV bb,.agg #[iV 0,iV 0]])/\Bsx w' B bb nv av tv ms 2400 fs (M.cxP N T l2).ts/\Nrow w' nv (M.cxP N T l2).N):=λu=>by
  refine(I6c s u hs).mono ?_;rintro e w' ⟨hbel,⟨er,p,hr',_⟩|⟨N',T',ps',B,bb,nv,tv,hr',hP',hB,hm⟩⟩
  · have:=hr'.one hr;simp at this
  · have e1:=hr'.one hr;simp only[Sum.inr.injEq,Prod.mk.injEq]at e1;obtain⟨rfl,rfl⟩:=e1;obtain rfl:=K2a hP' hP;rw[show M.bnP ps'= .ok fs l2 from hbn]at hm;obtain⟨e0,av,ms,hs,hn⟩:=hm;exact⟨hbel,B,bb,nv,tv,av,ms,hB,e0,hs,hn⟩
 have hN0:0<(M.cxP N T l2).N.length:=by
  have:=hP.cnt;show 0<N.length;omega
 have hfnP:(M.cxP N T l2).fn=M.fnP (M.cxP N T l2).N:=rfl;have HF:Hid (∀u nv,Nrow u nv (M.cxP N T l2).N->Calls prog 15 #[nv] u λe w'=>∃fv,e= .returned fv/\Chg No u w'/\w'.ownsRow u.heap.size 3 1 fv (M.cxP N T l2).N.length (B8 (M.cxP N T l2).fn)):=λu nv h=>O8a hcx.flat hcx.ls hN0 hcx.lenN u nv h;generalize M.cxP N T l2=c at *;clear hr hP hbn hck hfnP hs;have hb0:=nW w (fB);obtain⟨i0,hi,hz0,hz1,hz2⟩:=info_parts Tryz.infoInt;have HQ:Hid (∀w' ad ac (L:List Int),Below w.heap.size w w'->L.length<=1200->(∀x,x∈L ↔ x∈M.ctR c c.N.length)->w'.ownsRow w.heap.size 3 1 (sL ad L.length ac) L.length (B8 L)->CgA c w (.returned (.tuple #[sL ad L.length ac,.agg #[iV 0,iV 0]])) w'):=λw' ad ac L h1 h2 h3 h4=>⟨h1,ad,ac,L,rfl,h2,h3,h4⟩;go_enter func24,ntmps24;go_wp2_with fail
 refine(HR.out _).mono ?_;clear HR;rintro e w1 ⟨hbel,B,bb,nv,tv,av,ms,hB,rfl,hsx,hNr⟩;have f0:w1.heap[w.heap.size]? =some (fB):=by
  rw[hbel.block _ (by simp)];exact hb0
 have gl:=(ltG f0);have HBW:Hid (Below w.heap.size w w1):=(Chg.toBelow (Chg.alloc No w _) (λ_ _ x=>x.elim) (vQ _)).trans (hbel.mono (by simp));have HF0:=A0 f0;have HSX:=A0 hsx;have HNR:=A0 hNr;have hNl:=hcx.lenN;have HCX:=A0 hcx;obtain⟨na,nc,hnv⟩:∃na nc,nv=sL na c.N.length nc:=by
  obtain⟨nx,hn,_⟩:=hNr;exact B7 hn
 subst hnv;obtain⟨ta,tc,htv⟩:=B7 hsx.tos;subst htv;have lbb:=(ltG hsx.blk);have p0:w1.cell? (aD bb 0)=some (sL na c.N.length nc):=cr hsx.blk rfl;have C1:=Chg.alloc No w1 (fB);have HFC:=A0 (HF.out _ _ (hNr.keep C1 (λ_ _ _ _ _ _ x=>x)));have HC1:=A0 C1;clear hsx hNr hcx hbel hb0 f0 HF hB C1;go_wp2_with fail
 refine HFC.out.mono ?_;rintro e w2 ⟨fv,rfl,hc2,hfo⟩;have HC2:=A0 (B9 HC1.out hc2);have HFO:=A0 hfo;obtain⟨fa,fc,hfv⟩:=B7 hfo;subst hfv;have pz:w2.cell? (aD bb 0)=some (sL na c.N.length nc):=A8 HC2.out p0;have lbz:bb<w2.heap.size:=yQ lbb HC2.out.size;clear hc2 hfo HFC HC1 p0;go_wp2_with fail
 go_loopw [29,6] (λv u wr=>∃(j:Nat) (ad:Option Addr) (ac:Nat),j<=c.N.length/\v=iV (j:Int)/\u= .slice ad (M.ctR c j).length ac/\Hid (Chg No w2 wr)/\Hid (wr.ownsRow w2.heap.size 3 1 (.slice ad (M.ctR c j).length ac) (M.ctR c j).length (B8 (M.ctR c j)))) (λv _ _=>c.N.length - (intOf v).toNat)
 case atStart=>exact⟨0,none,0,wQ _,rfl,rfl,Chg.refl _ _,kW _ _ _ _⟩
 case round=>
  obtain⟨j,ad,ac,hj,rfl,rfl,CR,OR⟩:=hrel;have hwr:w2.heap.size<=wr.heap.size:=CR.out.size;have hcl:=M.ctR_len c j;by_cases hjl:j<c.N.length
  · have HCR:Hid (Chg No w1 wr):=B9 HC2.out CR.out;obtain⟨ng,nc',la,lc,hnv,hg,hn1,hn2,⟨x0,x1,x2,x3,x4,x5,x6,x7,x8⟩,-,-⟩:=(HNR.out.keep HCR.out (λ_ _ _ _ _ _ x=>x)).at (Below.refl _ _) j hjl;simp only[Value.slice.injEq,true_and]at hnv;obtain⟨rfl,rfl⟩:=hnv;unfold maxLen at hn2;have hbb:wr.heap[bb]? =_:=D6 HCR.out HSX.out.blk;have b2:wr.cell? (aD bb 2)=some (sL ta c.ts.length tc):=cr hbb rfl;have lb2:=(ltG hbb);have HRT:Hid (M.ctR c (j+1)=M.ctR c j++(if c.N[j].kind=18/\c.fn.getD j 0≠c.fn.getD (M.nmx c j).toNat 0 then [M.nmx c j] else [])):=by
     show _=_;rw[M.ctR,M.D3 hjl]
    have hfl:=HCX.out.fnl;obtain⟨fg,hfa,hfg,hf1,hf2,y1⟩:=D5 (ls:=c.fn) (by rw[hfl];exact C7 (A3 HFO.out CR.out (λ_ _ x=>x)) (wQ _)) (j:=j) (by omega);subst hfa;rw[hfl]at hf1;unfold maxLen at hf2;have HTG:=A0 (λhk=>HCX.out.nms.tg j hjl (.inr hk));have HY:Hid (∀n (h:n<c.fn.length),wr.cell? (aD fg n)=some (iV c.fn[n])):=λn h=>by
     obtain⟨q,e,_,_,_,hy⟩:=D5 (ls:=c.fn) (by rw[hfl];exact C7 (A3 HFO.out CR.out (λ_ _ x=>x)) (wQ _)) h;simp only[zQ,Addr.mk.injEq,and_true]at e;subst e;exact hy
    have htl:c.ts.length=c.N.length:=HCX.out.nms.len;obtain⟨tg,hta,htg,ht1,ht2,t1⟩:=D5 (C7 (A3 HSX.out.tos HCR.out (λ_ _ x=>x)) (wQ _)) (j:=j) (by omega);subst hta;unfold maxLen at ht2;have hgf:c.fn.getD j 0=c.fn[j]'(by omega):=by rw[lQ,gQ (by omega)];rfl
    have hgt:c.ts.getD j 0=c.ts[j]'(by omega):=by rw[lQ,gQ (by omega)];rfl
    have hx:M.nmx c j=c.ts[j]'(by omega):=by unfold M.nmx;rw[tQ];exact hgt
    rw[hgf]at HRT;rw[hgt]at HTG;rw[hx]at HRT;clear hgf hgt hx hbb;generalize c.ts[j]'(by omega)=tj at *;generalize c.fn[j]'(by omega)=fj at *;obtain⟨bj,hbj⟩:∃bj,M.ctR c j=bj:=⟨_,rfl⟩;rw[hbj]at OR HRT hcl⊢;clear hbj;generalize c.N[j]=nd at *;obtain⟨kd,va,vb,vc,ls,tx,vn,vt,vp⟩:=nd;simp only at *;have A1:=Chg.alloc No wr (ndC kd va vb vc (sL la ls.length lc) tx vn vt vp);by_cases hk:kd=18
    · subst hk;obtain⟨n,rfl,hn,-⟩:=HTG.out rfl;have yn:=HY.out n (by omega);have hgn:c.fn.getD ((n:Int)).toNat 0=c.fn[n]'(by omega):=by rw[tQ,lQ,gQ (by omega)];rfl
      rw[hgn]at HRT;clear hgn HY HTG;generalize c.fn[n]'(by omega)=fn at *;by_cases hf:fj=fn
      · have gf:(fj !=fn)=false:=by simpa using hf
        have HR':Hid (M.ctR c (j+1)=bj):=by
         show _=_;rw[HRT.out,if_neg (by simp[hf]),List.append_nil]
        have HCA:=A0 (B9 CR.out A1);clear HRT A1 hf;go_wp2_with fail
        go_quiet (fail)
        go_wp2_with fail
        go_roundw
        case rel=>exact⟨j+1,ad,ac,by omega,by go_num,by rw[HR'.out],B9 HCA.out (Chg.drewN _ _ _),by rw[HR'.out];exact A3 OR.out (B9 (Chg.alloc No wr _) (Chg.drewN _ _ _)) (λ_ _ x=>x)⟩
        case measure=>simp[intOf];omega
      · have gf:(fj !=fn)=true:=by simpa using hf
        have HR':Hid (M.ctR c (j+1)=bj++[(n:Int)]):=by
         show _=_;rw[HRT.out,if_pos ⟨rfl,hf⟩]
        clear HRT hf;go_wp2_with fail
        go_quiet (fail)
        have HCW:Hid (Chg No wr _):=B9 A1 (Chg.drewN _ _ nq);generalize (wr.alloc (ndC 18 va vb vc (sL la ls.length lc) tx vn vt vp)).drewN nq=W at *;have z2:=A8 HCW.out b2;have zt:=A8 HCW.out t1;have l2:bb<W.heap.size:=yQ lb2 HCW.out.size;have lt:tg<W.heap.size:=yQ htg HCW.out.size;have hwW:w2.heap.size<=W.heap.size:=kQ hwr HCW.out.size;have HO4:=A0 ((A3 OR.out HCW.out (λ_ _ x=>x)).alloc (.cells #[iV (n:Int)] 3));clear A1 x0 x1 x2 x3 x4 x5 x6 x7 x8 y1 yn b2 t1;go_wp2_with (at_builtin;refine wpList_append_own _ rfl _ _ 43 rfl w2.heap.size 3 i0 (iV 0) 1 8 underlying43 hi hz0 hz1 hz2 rfl (by decide) _ _ _ rfl HO4.out (aD W.heap.size 0) 1 1 [iV (n:Int)] rfl rfl ?c1 ?c2 ?c3 ?c4 ?c5 ?_)
        case c1=>exact World.news_of_block (cs:=#[iV (n:Int)]) (t:=3) (fr:=(0,0)) (nW W _)
        case c2=>intro u hu;simp at hu;subst hu;rfl
        case c3=>simp only[maxLen];omega
        case c4=>omega
        case c5=>simp;omega
        intro v' w4 hown4 hg4 _;obtain⟨ad4,c4,rfl⟩:=B7 hown4;have HOW:=A0 hown4;have hcb:Chg (λk=>w2.heap.size<=k) W w4:=(Chg.alloc (λk=>w2.heap.size<=k) W (.cells #[iV (n:Int)] 3)).trans (Chg.grown hg4) (λk hk x=>(A9 HO4.out k x.symm).1);have HC4:Hid (Chg No w2 w4):=(((B9 CR.out HCW.out).mono (S':=λk=>w2.heap.size<=k) (λ_ _ x=>x.elim)).trans hcb (λ_ _ x=>x)).mono (λk hk x=>by omega);clear hown4 hg4 hcb;go_wp2_with fail
        go_roundw
        case rel=>exact⟨j+1,ad4,c4,by omega,by go_num,by rw[HR'.out,qQ,List.length_singleton],HC4,(show World.ownsRow _ _ _ _ _ _ _ from by rw[HR'.out,M5,qQ,List.length_singleton];exact HOW.out)⟩
        case measure=>simp[intOf];omega
    · have gk:(kd==18)=false:=by simpa using hk
      have HR':Hid (M.ctR c (j+1)=bj):=by
       show _=_;rw[HRT.out,if_neg (by simp[hk]),List.append_nil]
      have HCA:=A0 (B9 CR.out A1);clear HRT A1 HTG HY;go_wp2_with fail
      go_quiet (fail)
      go_wp2_with fail
      go_roundw
      case rel=>exact⟨j+1,ad,ac,by omega,by go_num,by rw[HR'.out],B9 HCA.out (Chg.drewN _ _ _),by rw[HR'.out];exact A3 OR.out (B9 (Chg.alloc No wr _) (Chg.drewN _ _ _)) (λ_ _ x=>x)⟩
      case measure=>simp[intOf];omega
  · have hje:j=c.N.length:=by omega
    subst hje;have HSO:=A0 (D8d OR.out (by omega));generalize M.ctR c c.N.length=L0 at *;go_wp2_with fail
    refine HSO.out.mono ?_;rintro e w4 ⟨rfl,hc4,L1,hl1,hm1,ho4⟩;have c4:Chg No w2 w4:=((CR.out.mono (S':=λk=>w2.heap.size<=k) (λ_ _ x=>x.elim)).trans hc4 (λk _ x=>(A9 OR.out k x).1)).mono (λk hk x=>by omega);rw[<-hl1]at ho4⊢;have HCO:=A0 (E0c ho4 (by omega));have HM1:=A0 hm1;have HO4:=A0 ho4;have HC4:=A0 c4;have HL1:Hid (L1.length<=1200):=by show _<=_;omega
    clear hc4 hm1 ho4 c4 HSO OR hl1;go_wp2_with fail
    refine HCO.out.mono ?_;rintro e w5 ⟨hc5,L2,hl2,hm2,rfl,ho5⟩;have c5:Chg No w2 w5:=((HC4.out.mono (S':=λk=>w2.heap.size<=k) (λ_ _ x=>x.elim)).trans hc5 (λk _ x=>(A9 HO4.out k x).1)).mono (λk hk x=>by omega);have f1:w5.heap[w.heap.size]? =some (fB):=D6 c5 (D6 HC2.out HF0.out);have g0:w5.cell? (aD w.heap.size 0)=some (iV 0):=cr f1 rfl;have g1:w5.cell? (aD w.heap.size 1)=some (iV 0):=cr f1 rfl;have gz:∀o,w5.frozen? (aD w.heap.size o)=false:=λo=>frozen_of_row w5 _ o _ _ f1;have gl2:=(ltG f1);have hcz:=V2a f1;have hw2:w.heap.size<=w2.heap.size:=kQ (Nat.le_of_lt gl) HC2.out.size;have HB5:Hid (Below w.heap.size w _):=HBW.out.trans (Chg.toBelow (B9 (B9 HC2.out c5) hcz) (λ_ _ x=>x.elim) HBW.out.size);have HRR:=A0 (HQ.out _ ad ac L2 HB5.out (kQ hl2 HL1.out) (λx=>(hm2 x).trans (HM1.out x)) (A3 (C7 ho5 hw2) hcz (λ_ _ x=>x)));clear hc5 hm2 ho5 c5 f1 hcz HB5 HQ HM1 HO4 HC4 HCO hl2 HL1;generalize L2.length=bl at *;go_wp2_with fail
    exact bodyPost_ret (v:= .tuple #[sL ad bl ac,.agg #[iV 0,iV 0]]) (by simp[results,results24,go_sem,g0,g1]) rfl HRR.out
end Go.Proofs.YtfhhipefecekkaaGreatDoor
namespace Go.Proofs.YtfhhipefecekkaaGreatDoor.M
theorem U1{b:Nat}(tb:Nat){p:Nt}{r:List Nt}(h:1<=p.k):px b (p::r)=ixN b tb p::px (b+nN p) r:=by
 cases p with
 |ty o=>cases o<;>simp[Nt.k]at h
 |nd k tx n ps=>rw[px,Em.ix]
theorem E4d(n:Nd):prt n.fl=prt n:=rfl
theorem E3d{b tb:Nat}{k:Int}{tx:List UInt8}{n:Int}{ps:List Nt}(hw:Wn (.nd k tx n ps)):prt (mkN k tx n (ixL b tb ps))=px b ps:=by
 have hs:=X0 hw;clear hw;cases hs with
 |n1 n h=>rfl
 |n2 tx h=>rfl
 |n3 n h=>rfl
 |n4=>rfl
 |n5 tx h=>rfl
 |n6 ps a c h1 h2 h3 h4 h5 h6=>
  obtain⟨o,rfl⟩:=F2a h3 h4;have el:ixL b tb (ps++[.ty o,c])=ixL b tb ps++[ixN (b+nNL ps) (tb+nTL ps) (.ty o),ixN (b+nNL ps+nN (.ty o)) (tb+nTL ps+nT (.ty o)) c]:=by rw[K9a];rfl
  have e1:(ixL b tb (ps++[.ty o,c])).dropLast.dropLast=ixL b tb ps:=by rw[el];simp
  have e3:(ixL b tb (ps++[.ty o,c])).getLastD 0=ixN (b+nNL ps+nN (.ty o)) (tb+nTL ps+nT (.ty o)) c:=by rw[el];simp[List.getLastD_eq_getLast?]
  have e:prt (mkN 6 [] 0 (ixL b tb (ps++[.ty o,c])))=(ixL b tb (ps++[.ty o,c])).dropLast.dropLast++[(ixL b tb (ps++[.ty o,c])).getLastD 0]:=rfl;rw[e,e1,e3,P0b,S6 _ _ _ (λp hp=>by rw[(h1 p hp).2];decide),px,U1 (tb+nTL ps+nT (.ty o)) (by omega)];rfl
 |n7 a ps h1 h2 h3=>
  rw[U1 tb h2.1,<-S6 _ (tb+nT a) _ (λp hp=>(h3 p hp).2.1)];rfl
 |n8 tx a h0 h1 h2=>rw[U1 tb h2.1];rfl
 |n9 a c h1 h2 h3 h4=>rw[U1 tb h2.1,U1 (tb+nT a) h4.1];rfl
 |n10 ps h1 h2=>
  rw[<-S6 _ tb _ (λp hp=>by rw[(h1 p hp).2];decide)];rfl
 |n11 ps h1=>
  rw[<-S6 _ tb _ (λp hp=>(h1 p hp).2.1)];rfl
 |n12 tx a c h0 h1 h2 h3 h4=>rw[U1 tb h2.1,U1 (tb+nT a) h4.1];rfl
 |n13 tx a h0 h1 h2=>rw[U1 tb h2.1];rfl
 |n14 a t h1 h2 h3=>rw[U1 tb h2.1];rfl
 |n15 tx a h0 h1 h2=>rw[U1 tb h2.1];rfl
 |n16 tx a h0 h1 h2=>
  obtain⟨o,rfl⟩:=F2a h1 h2;rfl
 |n17 tx a c h0 h1 h2 h3 h4=>
  obtain⟨o,rfl⟩:=F2a h1 h2;rw[px,U1 (tb+nT (.ty o)) h4.1];rfl
 |n18 tx a h0 h1 h2=>rw[U1 tb h2.1];rfl
 |n19 tx a c h0 h1 h2 h3 h4=>rw[U1 tb h2.1,U1 (tb+nT a) h4.1];rfl
 |n20 a c d h1 h2 h3 h4 h5 h6=>rw[U1 tb h2.1,U1 (tb+nT a) h4.1,U1 (tb+nT a+nT c) h6.1];rfl
 |n21 a h1 h2=>rw[U1 tb h2.1];rfl
 |n22 a c d h1 h2 h3 h4 h5 h6=>
  rw[U1 tb h2.1,U1 (tb+nT a) (by omega)];rcases h6 with h6|h6
  · have h7:1<=d.k:=by omega
    rw[U1 (tb+nT a+nT c) h7];have h8:ixN (b+nN a+nN c) (tb+nT a+nT c) d≠-1:=by
     cases d with
     |ty o=>cases o<;>simp[Nt.k]at h7
     |nd k tx n ps=>rw[Em.ix];omega
    exact if_neg h8
  · obtain⟨o,rfl⟩:=F2a h5 (.inl h6);cases o with
    |none=>rfl
    |some t=>simp[Nt.k]at h6
 |n23 a c h1 h2 h3 h4=>rw[U1 tb h2.1,U1 (tb+nT a) (by omega)];rfl
 |n24 a h1 h2=>rw[U1 tb h2.1];rfl
 |n25 a h1 h2=>rw[U1 tb h2.1];rfl
 |n26 ps h1=>
  rw[<-S6 _ tb _ (λp hp=>by have:=h1 p hp;omega)];rfl
section
variable{c:Cx}{g:Gm}{ct:List Int}
theorem Q5c{b tb:Nat}{k:Int}{tx:List UInt8}{n:Int}{ps:List Nt}(hw:Wn (.nd k tx n ps))(he:Em c.N b tb (.nd k tx n ps)):prt (ndx c.N (ixN b tb (.nd k tx n ps)))=px b ps/\(ndx c.N (ixN b tb (.nd k tx n ps))).kind=k/\EmL c.N b tb ps:=by
 obtain⟨h1,hi,h2⟩:=he.parts;rw[Em.ix,D3 hi,<-E4d,h2,E3d hw];exact⟨rfl,(congrArg Nd.kind h2).trans (X8 _ _ _ _),h1⟩
theorem F5c:∀(f:Nat) (t:Nt) (b tb:Nat),Wn t->1<=t.k->Em c.N b tb t->vis c f (ixN b tb t)<=2 * nN t
 |0,_,_,_,_,_,_=>wQ _
 |f+1,.ty o,_,_,_,hk,_=>by cases o<;>simp[Nt.k]at hk
 |f+1,.nd k tx n ps,b,tb,hw,_,he=>by
  obtain⟨h1,_,h2⟩:=Q5c hw he;rw[vis,h1,nN];rw[Wn]at hw;have hl:=hw.2.2;clear h1 he hw;have key:∀(ps:List Nt) (b tb:Nat),WnL ps->EmL c.N b tb ps->((px b ps).map (vis c f)).sum<=2 * nNL ps:=λps=>by
   induction ps with
   |nil=>intro _ _ _ _;simp[px]
   |cons p r ih=>
    intro b tb hw he;rw[WnL]at hw;obtain⟨e1,e2⟩:=he.head;have h3:=ih _ _ hw.2 e2;rw[nNL];by_cases hk:1<=p.k
    · rw[U1 tb hk,List.map_cons,List.sum_cons];have:=F5c f p b tb hw.1 hk e1;omega
    · cases p with
      |ty o=>
       rw[px];rw[nN]at h3⊢;rw[Nat.add_zero]at h3;omega
      |nd k tx n qs=>
       exfalso;have:=X0 hw.1;cases this<;>simp[Nt.k]at hk
  have:=key ps b tb hl h2;omega
def Rn(g:Gm)(lo hi:Nat)(xs:List (Int×Int)):Prop:=(∀p∈xs,(lo:Int)<=p.1/\p.1<hi/\g p.1=some p.2)/\xs.Pairwise λp q=>p.1<q.1
theorem Rn.nil(lo hi:Nat):Rn g lo hi []:=⟨λ_ h=>by simp at h,.nil⟩
theorem Rn.app{a b c:Nat}{xs ys:List (Int×Int)}(h:Rn g a b xs)(k:Rn g b c ys)(h1:a<=b)(h2:b<=c):Rn g a c (xs++ys):=by
 refine⟨λp hp=> ?_,List.pairwise_append.2 ⟨h.2,k.2,λp hp q hq=> ?_⟩⟩
 · rcases qW.1 hp with hp|hp
   · obtain⟨x,y,z⟩:=h.1 p hp;exact⟨x,by omega,z⟩
   · obtain⟨x,y,z⟩:=k.1 p hp;exact⟨by omega,y,z⟩
 · have:=h.1 p hp;have:=k.1 q hq;omega
theorem O2d(i:Nat)(s:Es):∃xs,(eend c g ct i s).lf=s.lf++xs/\Rn g i (i+1) xs:=by
 unfold eend;split
 · exact⟨[],by simp,.nil _ _⟩
 split
 · exact⟨[],by simp,.nil _ _⟩
 unfold grd;cases hg:g i with
 |none=>exact⟨[],by simp,.nil _ _⟩
 |some t=>
  simp only;split
  · refine⟨[((i:Int),t)],rfl,λp hp=> ?_,by simp⟩;simp only[zW]at hp;subst hp;exact⟨by simp,by simp;omega,hg⟩
  · exact⟨[],by simp,.nil _ _⟩
theorem Y1b:∀(f:Nat) (t:Nt) (b tb:Nat) (s:Es),Wn t->1<=t.k->Em c.N b tb t->∃xs,(elN c g ct f (ixN b tb t) s).lf=s.lf++xs/\Rn g b (b+nN t) xs
 |0,_,_,_,_,_,_,_=>⟨[],by simp[elN],.nil _ _⟩
 |f+1,.ty o,_,_,_,_,hk,_=>by cases o<;>simp[Nt.k]at hk
 |f+1,.nd k tx n ps,b,tb,s,hw,_,he=>by
  obtain⟨h1,hkd,h2⟩:=Q5c hw he;have hw':=hw;rw[Wn]at hw';have hl:=hw'.2.2;clear hw';have keyL:∀(ps:List Nt) (b tb:Nat) (s:Es),WnL ps->EmL c.N b tb ps->∃xs,((px b ps).foldl (λs x=>elN c g ct f x s) s).lf=s.lf++xs/\Rn g b (b+nNL ps) xs:=λps=>by
   induction ps with
   |nil=>exact λ_ _ _ _ _=>⟨[],by simp[px],.nil _ _⟩
   |cons p r ih=>
    intro b tb s hw he;rw[WnL]at hw;obtain⟨e1,e2⟩:=he.head;rw[nNL];by_cases hk:1<=p.k
    · obtain⟨xs,hx,hr⟩:=Y1b f p b tb s hw.1 hk e1;obtain⟨ys,hy,hr2⟩:=ih _ _ (elN c g ct f (ixN b tb p) s) hw.2 e2;refine⟨xs++ys, ?_,hr.app (by rw[Nat.add_assoc]at hr2;exact hr2) (by omega) (by omega)⟩;rw[U1 tb hk,List.foldl_cons,hy,hx,List.append_assoc]
    · cases p with
      |ty o=>
       obtain⟨ys,hy,hr2⟩:=ih _ _ s hw.2 e2;rw[nN]at hy hr2⊢;rw[Nat.add_zero]at hy;rw[Nat.add_assoc]at hr2;exact⟨ys,by rw[px];exact hy,by simpa using hr2⟩
      |nd k tx n qs=>
       exfalso;have:=X0 hw.1;cases this<;>simp[Nt.k]at hk
  have keyB:∀(ps:List Nt) (b tb:Nat) (kn:Gm) (l:List (Int×Int)),WnL ps->EmL c.N b tb ps->∃xs,(px b ps).foldl (λl x=>(elN c g ct f x ⟨kn,l⟩).lf) l=l++xs/\Rn g b (b+nNL ps) xs:=λps=>by
   induction ps with
   |nil=>exact λ_ _ _ _ _ _=>⟨[],by simp[px],.nil _ _⟩
   |cons p r ih=>
    intro b tb kn l hw he;rw[WnL]at hw;obtain⟨e1,e2⟩:=he.head;rw[nNL];by_cases hk:1<=p.k
    · obtain⟨xs,hx,hr⟩:=Y1b f p b tb ⟨kn,l⟩ hw.1 hk e1;obtain⟨ys,hy,hr2⟩:=ih _ _ kn (elN c g ct f (ixN b tb p) ⟨kn,l⟩).lf hw.2 e2;refine⟨xs++ys, ?_,hr.app (by rw[Nat.add_assoc]at hr2;exact hr2) (by omega) (by omega)⟩;rw[U1 tb hk,List.foldl_cons,hy,hx,List.append_assoc]
    · cases p with
      |ty o=>
       obtain⟨ys,hy,hr2⟩:=ih _ _ kn l hw.2 e2;rw[nN]at hy hr2⊢;rw[Nat.add_zero]at hy;rw[Nat.add_assoc]at hr2;exact⟨ys,by rw[px];exact hy,by simpa using hr2⟩
      |nd k tx n qs=>
       exfalso;have:=X0 hw.1;cases this<;>simp[Nt.k]at hk
  rw[Em.ix,R1c c g ct f (b+nNL ps) s _ rfl,<-Em.ix (n:=n) (k:=k) (tx:=tx) (tb:=tb)];have h3:∃xs,(el1 c g ct f s (ndx c.N (ixN b tb (.nd k tx n ps)))).lf=s.lf++xs/\Rn g b (b+nNL ps) xs:=by
   generalize ndx c.N (ixN b tb (.nd k tx n ps))=nd at *;unfold el1 elL elB;split
   · rw[h1];exact keyL ps b tb ⟨λ_=>none,s.lf⟩ hl h2
   split
   · rename_i h22;have hs:=X0 hw;rw[h22]at hkd;subst hkd;cases hs with
     |n22 a q d w1 w2 w3 w4 w5 w6=>
      have e1:px b [a,q,d]=ixN b tb a::px (b+nN a) [q,d]:=U1 tb w2.1;have e2:prt nd=nd.a::(prt nd).tail:=by
       unfold prt;simp only[h22];by_cases hc:nd.c= -1<;>simp[hc]
      rw[h1,e1]at e2;simp only[List.tail_cons,List.cons.injEq,and_true]at e2;rw[h1,e1,<-e2,List.tail_cons];rw[WnL]at hl;obtain⟨m1,m2⟩:=h2.head;obtain⟨xs,hx,hr⟩:=Y1b f a b tb s w1 w2.1 m1;obtain⟨ys,hy,hr2⟩:=keyB [q,d] _ _ (elN c g ct f (ixN b tb a) s).kn (elN c g ct f (ixN b tb a) s).lf hl.2 m2;refine⟨xs++ys, ?_,hr.app (by rw[Nat.add_assoc]at hr2;exact hr2) (by omega) (by rw[nNL];omega)⟩;simp only;rw[hy,hx,List.append_assoc]
   split
   · rename_i h23;have e:[nd.a,nd.b]=px b ps:=by
      rw[<-h1];unfold prt;simp[h23]
     rw[e];exact keyL ps b tb ⟨_,s.lf⟩ hl h2
   · rw[h1];exact keyL ps b tb s hl h2
  obtain⟨xs,hx,hr⟩:=h3;obtain⟨ys,hy,hr2⟩:=O2d (c:=c) (g:=g) (ct:=ct) (b+nNL ps) (el1 c g ct f s (ndx c.N (ixN b tb (.nd k tx n ps))));rw[hx]at hy;exact⟨xs++ys,by rw[hy,List.append_assoc],hr.app (by rw[nN,<-Nat.add_assoc];exact hr2) (by omega) (by rw[nN];omega)⟩
end
theorem Rn.sub{g:Gm}:∀(n:Nat) {xs:List (Int×Int)},Rn g 0 n xs->xs.Sublist (P8 g n)
 |0,[],_=> .slnil
 |0,p::r,h=>by
  have:=h.1 p (by simp);omega
 |n+1,xs,h=>by
  rw[P8];rcases List.eq_nil_or_concat xs with rfl|⟨ys,p,e⟩
  · exact List.nil_sublist _
  · rw[List.concat_eq_append]at e;subst e;obtain⟨h1,h2⟩:=h;rw[List.pairwise_append]at h2;have hp:=h1 p (by simp);by_cases hn:p.1=n
    · have hy:Rn g 0 n ys:=⟨λq hq=>by
       obtain⟨a1,a2,a3⟩:=h1 q (by simp[hq]);have:=h2.2.2 q hq p (by simp);exact⟨a1,by omega,a3⟩,h2.1⟩
      refine(Rn.sub n hy).append ?_;have e:p=((n:Int),p.2):=by rw[<-hn]
      rw[<-hn,hp.2.2];exact .refl _
    · have hy:Rn g 0 n (ys++[p]):=⟨λq hq=>by
       obtain⟨a1,a2,a3⟩:=h1 q hq;refine⟨a1, ?_,a3⟩;rcases qW.1 hq with hq|hq
       · have:=h2.2.2 q hq p (by simp);omega
       · simp only[zW]at hq;subst hq
         omega,List.pairwise_append.2 h2⟩
      exact(Rn.sub n hy).trans (List.sublist_append_left _ _)
theorem W8b{N:List Nd}{T:List Ty}{ps:List Nt}(hP:Prgm N T ps)(l:List (Nat×Int))(g:Gm)(ct:List Int)(f:Nat):
 (elN (cxP N T l) g ct f ((N.length:Int) - 1) ⟨λ_=>none,[]⟩).lf.Sublist (P8 g N.length)/\vis (cxP N T l) f ((N.length:Int) - 1)<=2400:=by
 have he:Em (cxP N T l).N 0 0 (.nd 26 [] 0 ps):=⟨[],[],by rw[List.nil_append,List.append_nil];exact hP.nodes,rfl⟩;have hn:N.length=nN (.nd 26 [] 0 ps):=by
  have:=congrArg List.length hP.nodes;rw[List.length_map,U3]at this;exact this
 have hx:ixN 0 0 (.nd 26 [] 0 ps)=(N.length:Int) - 1:=by rw[ixN,hn];simp
 have hw:=w26 hP.wn;obtain⟨xs,h1,h2⟩:=Y1b (c:=cxP N T l) (g:=g) (ct:=ct) f _ 0 0 ⟨λ_=>none,[]⟩ hw (by simp[Nt.k]) he;have h3:=F5c (c:=cxP N T l) f _ 0 0 hw (by simp[Nt.k]) he;rw[hx]at h1 h3;rw[h1,List.nil_append];rw[Nat.zero_add,<-hn]at h2;have:=hP.lenN;exact⟨h2.sub,by omega⟩
end Go.Proofs.YtfhhipefecekkaaGreatDoor.M
namespace Go.Proofs.YtfhhipefecekkaaGreatDoor
open Go.Proofs.Tryz
open Go.RowKit Go.Maps
def NfA(c:M.Cx)(R:List (Int×Int))(w:World)(e:Ending)(w':World):Prop:=∃wB pb qb nv cv L fb gb kb mn,mn=(c.N.length:Int) - 1/\w'.cell? (aD pb 2)=some (iV mn)/\w.heap.size<=wB.heap.size/\e= .returned (pV fb)/\Chg No w w'/\(∀x,x∈L ↔ x∈M.ctR c c.N.length)/\Pgm wB c pb qb nv cv L/\Flw wB w' pb cv fb gb kb (asg R) 0 ⟨λ_=>none,[]⟩
def Rok(R:List (Int×Int)):Prop:=R.length<=1200/\∀p∈R,(0<=p.1/\p.1<=1000000)/\0<=p.2/\p.2<128
theorem Rok.tgd{R:List (Int×Int)}(h:Rok R):∀l:List (Int×Int),(∀p∈l,p∈R)->M.Tgd (asg l):=by
 have key:∀(l:List (Int×Int)) (f:Int->Option Int),(∀p∈l,p∈R)->M.Tgd f->M.Tgd (l.foldl (λf p=>λx=>if x=p.1 then some p.2 else f x) f):=λl=>by
  induction l with
  |nil=>exact λf _ hf=>hf
  |cons p r ih=>
   intro f hl hf;refine ih _ (λq hq=>hl q (by simp[hq])) (λx v e=> ?_);simp only at e;split at e
   · simp only[zQ]at e;have:=h.2 p (hl p (by simp));omega
   · exact hf x v e
 exact λl hl=>key l _ hl M.Tgd.no
theorem Flw.new(wB:World)(pb:Nat)(cv:Value):Flw wB (((wB.alloc (.map #[] 0)).alloc (.map #[] 0)).alloc (.cells #[pV pb,.map (some wB.heap.size),cv,.map (some (wB.heap.size+1)),sN] 52)) pb cv (wB.heap.size+1+1) wB.heap.size (wB.heap.size+1) (λ_=>none) 0 ⟨λ_=>none,[]⟩:=by
 refine⟨B9 (B9 (Chg.alloc _ _ _) (Chg.alloc _ _ _)) (Chg.alloc _ _ _),⟨sN, ?_,kW _ _ _ _⟩, ?_, ?_,⟨by omega,by omega,by omega⟩,by omega,vQ _,M.Tgd.no,M.Tgd.no⟩
 · have:=nW ((wB.alloc (.map #[] 0)).alloc (.map #[] 0)) (.cells #[pV pb,.map (some wB.heap.size),cv,.map (some (wB.heap.size+1)),sN] 52);simpa using this
 · exact((ImM.new wB).chg (B9 (Chg.alloc No _ _) (Chg.alloc No _ _)) (λx=>x)).more (by omega)
 · have:=(ImM.new (wB.alloc (.map #[] 0))).chg (Chg.alloc No _ (.cells #[pV pb,.map (some wB.heap.size),cv,.map (some (wB.heap.size+1)),sN] 52)) (λx=>x);simp only[World.size_alloc]at this;exact this
theorem Flw.gput{wB w w':World}{pb fb gb kb m:Nat}{cv:Value}{g g':M.Gm}{s:M.Es}(h:Flw wB w pb cv fb gb kb g m s)(hc:Chg (λk=>k=gb) w w')(hi:ImM w' gb 5000 g')(hg:M.Tgd g'):Flw wB w' pb cv fb gb kb g' m s:=by
 obtain⟨lv,hb,ho⟩:=h.blk;have nc:∀{q cs e fz},w.heap[q]? =some (.cells cs e fz)->q≠gb:=λhq x=>by
  subst x;exact h.gs.notcells hq
 refine⟨h.chg.trans hc (λk hk x=>by have:=h.lo.2.1;have x':k=gb:=x;omega),⟨lv, ?_,A3 ho hc (λq hq x=> ?_)⟩,hi,h.ks.chg hc (λx=>h.ne x.symm),h.lo,h.ne,h.few,h.tg,hg⟩
 · rw[hc.block fb (ltG hb) (nc hb)];exact hb
 · obtain⟨_,cur,hh⟩:=A9 ho q hq;exact nc hh x
theorem R9b(s:ByteArray)(w:World)(hs:s.size<=maxLen){N:List M.Nd}{T:List M.Ty}{l2:List (Nat×Int)}{of:M.Of}(hok:Okd s.data.toList N T l2 of){R:List (Int×Int)}(hR:Rok R){ga:Option Addr}{gc:Nat}(ho:w.ownsRow 0 30 2 (sL ga R.length gc) R.length (J5 R)):
 Calls prog 10 #[.string s,sL ga R.length gc] w (NfA (M.cxP N T l2) R w):=by
 have HR:Hid (∀u,Calls prog 7 #[.string s] u λe w'=>Below u.heap.size u w'/\∃pb qb nv,e= .returned (.tuple #[pV pb,.agg #[iV 0,iV 0]])/\Nrow w' nv (M.cxP N T l2).N/\ImM w' qb 5000 (nmM (M.cxP N T l2))/\∃yv lb fv ov,w'.heap[pb]? =some (.cells (pcs (M.cxP N T l2) nv yv (((M.cxP N T l2).N.length:Int) - 1) lb qb fv ov) 46 (0,0))):=λu=>by
  refine(Z1a s u hs).mono ?_;rintro e w' ⟨hbel,⟨er,p,v,hft,rfl⟩|⟨N',T',l2',of',hok',w0,pb,lb,mb,qb,nv,yv,mn,fv,Z,ofs,hb1,hpb,hlb,hmb,hB,rfl,hZ,hR,hC,hmn⟩⟩
  · exact absurd hft hok.not
  · obtain⟨rfl,rfl,rfl,rfl⟩:=hok'.one hok;subst hmn;obtain⟨ov,D,hbl,_⟩:=hC.st;exact⟨hbel,pb,qb,nv,rfl,hB.nrow hC.chg,hB.nm hC.chg,yv,lb,fv,ov,hbl⟩
 have HCT:=A0 (λu=>R5c s u hs hok);have hcx:M.D8a (M.cxP N T l2):=by
  obtain⟨ps,fs,_,hP,hbn,_⟩:=hok;exact M.A4b hP hbn hP.tx
 have hmm:=@run_makeMap prog;generalize M.cxP N T l2=c at *;have HO:=A0 ho;have HRK:=A0 hR;have hRl:=hR.1;clear hs hok ho hR;go_enter func10,ntmps10;go_wp2_with fail
 refine(HR.out _).mono ?_;rintro e w1 ⟨hb1,pb,qb,nv,rfl,hN1,hQ1,yv,lb,fv,ov,hP1⟩;have c1:Chg No w (w1.alloc (fB)):=B9 ((Chg.below hb1).mono λ_ hi x=>by omega) (Chg.alloc _ _ _);have a1:=Chg.alloc No w1 (fB);have HC1:=A0 c1;have HP1:Hid (∀u,Chg No (w1.alloc (fB)) u->Nrow u nv c.N/\ImM u qb 5000 (nmM c)/\u.heap[pb]? =some (.cells (pcs c nv yv ((c.N.length:Int) - 1) lb qb fv ov) 46 (0,0))):=λu hu=>⟨hN1.keep (B9 a1 hu) (λ_ _ _ _ _ _ x=>x),hQ1.chg (B9 a1 hu) (λx=>x),D6 (B9 a1 hu) hP1⟩;clear HR hb1 hN1 hQ1 hP1 c1 a1;go_wp2_with fail
 refine(HCT.out _).mono ?_;rintro e w2 ⟨hb2,ca,cc,L,rfl,hLl,hLm,hLo⟩;have c2:Chg No (w1.alloc (fB)) (w2.alloc (fB)):=B9 ((Chg.below hb2).mono λ_ hi x=>by omega) (Chg.alloc _ _ _);have HC2:=A0 (B9 HC1.out c2);obtain⟨n2,q2,p2⟩:=HP1.out _ c2;have HPG:Hid (Pgm (w2.alloc (fB)) c pb qb nv (sL ca L.length cc) L):=⟨hcx,n2,q2,⟨_,_,_,_,_,p2⟩,A3 (C7 hLo (wQ _)) (Chg.alloc No _ _) (λ_ _ x=>x),by omega⟩;have HLM:=A0 hLm;have HP2:=A0 p2;clear HP1 HCT hb2 hLl hLm hLo n2 q2 p2 c2 hcx HC1;go_wp2_with fail
 have HFN:=A0 (Flw.new (w2.alloc (fB)) pb (sL ca L.length cc));have hwB:(w2.alloc (fB)).heap.size=w2.heap.size+1:=by simp
 rw[hwB]at HFN;have HQ:Hid (∀w' g',M.Tgd g'->g'=asg R->Chg (λk=>k=w2.heap.size+1) ((((w2.alloc (fB)).alloc (.map #[] 0)).alloc (.map #[] 0)).alloc (.cells #[pV pb,.map (some (w2.heap.size+1)),sL ca L.length cc,.map (some (w2.heap.size+1+1)),sN] 52)) w'->ImM w' (w2.heap.size+1) 5000 g'->NfA c R w (.returned (pV (w2.heap.size+1+1+1))) w'):=λw' g' hg he hc hi=>by
  have hF:=HFN.out.gput hc hi hg;subst he;have hP2:=D6 hF.chg HP2.out;have hz:=HC2.out.size;exact⟨_,pb,qb,nv,_,L,_,_,_,_,rfl,cr hP2 rfl,hz,rfl,B9 HC2.out hF.chg,HLM.out,HPG.out,hF⟩
 have HO3:Hid (∀w',Chg (λk=>k=w2.heap.size+1) ((((w2.alloc (fB)).alloc (.map #[] 0)).alloc (.map #[] 0)).alloc (.cells #[pV pb,.map (some (w2.heap.size+1)),sL ca L.length cc,.map (some (w2.heap.size+1+1)),sN] 52)) w'->w'.ownsRow 0 30 2 (sL ga R.length gc) R.length (J5 R)/\w'.cell? (aD (w2.heap.size+1+1+1) 1)=some (.map (some (w2.heap.size+1)))/\w2.heap.size+1+1+1<w'.heap.size):=λw' hc=>by
  have h1:Chg No w w':=B9 HC2.out (HFN.out.chg.trans hc (λk hk x=>by have x':k=w2.heap.size+1:=x;omega));obtain⟨lv,hb,_⟩:=HFN.out.blk;have hb':=(hc.block _ (ltG hb) (by omega)).trans hb;exact⟨A3 HO.out h1 (λ_ _ x=>x),cr hb' rfl,(ltG hb')⟩
 have HM0:Hid (ImM ((((w2.alloc (fB)).alloc (.map #[] 0)).alloc (.map #[] 0)).alloc (.cells #[pV pb,.map (some (w2.heap.size+1)),sL ca L.length cc,.map (some (w2.heap.size+1+1)),sN] 52)) (w2.heap.size+1) 0 (asg (R.take 0))):=by
  have:=(ImM.new (w2.alloc (fB))).chg (B9 (Chg.alloc No _ (.map #[] 0)) (Chg.alloc No _ (.cells #[pV pb,.map (some (w2.heap.size+1)),sL ca L.length cc,.map (some (w2.heap.size+1+1)),sN] 52))) (λx=>x);rw[hwB]at this;exact this
 clear HFN HPG HLM HP2 HC2 hwB HO;generalize ((((w2.alloc (fB)).alloc (.map #[] 0)).alloc (.map #[] 0)).alloc (.cells #[pV pb,.map (some (w2.heap.size+1)),sL ca L.length cc,.map (some (w2.heap.size+1+1)),sN] 52))=W3 at *;go_loopw [30] (λv wr=>∃j:Nat,j<=R.length/\v=iV (j:Int)/\Hid (Chg (λk=>k=w2.heap.size+1) W3 wr)/\Hid (ImM wr (w2.heap.size+1) j (asg (R.take j)))) (λv _=>R.length - (intOf v).toNat)
 case atStart=>exact⟨0,wQ _,rfl,Chg.refl _ _,HM0⟩
 case round=>
  obtain⟨j,hj,rfl,CR,IM⟩:=hrel;obtain⟨oR,b1,lfb⟩:=HO3.out wr CR.out;by_cases hjl:j<R.length
  · obtain⟨g,hla,-,hg,hc1,hc2,hcell⟩:=D8 oR (by omega);subst hla;have v1:=hcell (j * 2+1) _ (U4 R j hjl).2;have v0:=hcell (j * 2) _ (U4 R j hjl).1;have rg:=HRK.out.2 R[j] (mQ hjl);have HAS:Hid (asg (R.take (j+1))=λx=>if x=R[j].1 then some R[j].2 else asg (R.take j) x):=by
     show _=_;rw[nQ hjl,L4a]
    obtain⟨⟨x,y⟩,hxy⟩:∃p,R[j]=p:=⟨_,rfl⟩;rw[hxy]at v0 v1 rg HAS;simp only at v0 v1 rg HAS;unfold maxLen at hc2;have A1:=B9 (Chg.alloc No wr (.cells #[iV x,iV y] 30)) (Chg.drewN No _ 1);obtain⟨w5,hrun,him,hc5⟩:=(IM.out.chg A1 (λx=>x)).put x y rg.1 (by omega) (by omega);have hrun':(Instr.mapUpdate 35 (.map (some (w2.heap.size+1))) (iV x) (iV y)).run prog (wr.alloc (.cells #[iV x,iV y] 30)).drew= .ok () w5:=hrun;have HIM:=A0 him;have HC5:Hid (Chg (λk=>k=w2.heap.size+1) W3 w5):=CR.out.trans ((A1.mono (S':=λk=>k=w2.heap.size+1) (λ_ _ x=>x.elim)).trans hc5 (λ_ _ x=>x)) (λ_ _ x=>x);clear hcell hxy him hc5 hrun A1 oR;go_wp2_with fail
    go_region
    all_goals go_wp2_with fail
    all_goals go_roundw
    all_goals first
     |exact⟨j+1,by omega,by go_num,HC5,(show ImM _ _ _ _ from by rw[HAS.out];exact HIM.out)⟩
     |(simp[intOf];omega)
  · have hje:j=R.length:=by omega
    subst hje;have HRR:=A0 (HQ.out wr _ (HRK.out.tgd (R.take R.length) (λp hp=>List.mem_of_mem_take hp)) (by rw[List.take_length]) CR.out (IM.out.more (by omega)));clear HQ HO3 oR;go_wp2_with fail
    go_ret;exact HRR.out
def M.lft(c:M.Cx)(of:M.Of)(L:List Int):List (Int×Int):=(M.elN c (asg (M.plP c of)) L c.N.length ((c.N.length:Int) - 1) ⟨λ_=>none,[]⟩).lf
def GeA(l:List UInt8)(w:World)(e:Ending)(w':World):Prop:=Below w.heap.size w w'/\
 ((∃er p,FtO l er p/\e= .returned (.tuple #[sN,.agg #[iV er,iV p]]))\/
  ∃N T l2 of L ad ac,Okd l N T l2 of/\(∀x,x∈L ↔ x∈M.ctR (M.cxP N T l2) N.length)/\e= .returned (.tuple #[.slice ad (M.lft (M.cxP N T l2) of L).length ac,.agg #[iV 0,iV 0]])/\w'.ownsRow w.heap.size 30 2 (.slice ad (M.lft (M.cxP N T l2) of L).length ac) (M.lft (M.cxP N T l2) of L).length (J5 (M.lft (M.cxP N T l2) of L)))
theorem N9c(s:ByteArray)(w:World)(hs:s.size<=maxLen):Calls prog 6 #[.string s] w (GeA s.data.toList w):=by
 have HR:=A0 (λw1=>T6a s w1 hs);have hb0:=nW w (fB);have hss:=hs;clear hs;go_enter func6,ntmps6;go_wp2_with fail
 refine(HR.out _).mono ?_;clear HR;rintro e w1 ⟨hbel,⟨er,p,hft,rfl⟩|⟨N,T,l2,of,ga,gc,hok,rfl,hgo⟩⟩
 · have f0:w1.heap[w.heap.size]? =some (fB):=by
    rw[hbel.block _ (by simp)];exact hb0
   have g0:w1.cell? (aD w.heap.size 0)=some (iV 0):=cr f0 rfl;have g1:w1.cell? (aD w.heap.size 1)=some (iV 0):=cr f0 rfl;have gz:∀o,w1.frozen? (aD w.heap.size o)=false:=λo=>frozen_of_row w1 _ o _ _ f0;have gl:=(ltG f0);have her:(er !=0)=true:=by simp[hft.1]
   have HBW:Hid (Below w.heap.size w w1):=(Chg.toBelow (Chg.alloc No w _) (λ_ _ x=>x.elim) (vQ _)).trans (hbel.mono (by simp));have HFT:=A0 hft;clear hft hbel hb0 f0;go_wp2_with fail
   go_region
   all_goals go_wp2_with fail
   all_goals
    have hcS:Chg (λk=>k=w.heap.size) w1 ((w1.setCell (aD w.heap.size 0) (iV er)).setCell (aD w.heap.size 1) (iV p)):=Chg.trans (Chg.set w1 (aD w.heap.size 0) _) (Chg.set _ (aD w.heap.size 1) _) (λ_ _ x=>x);have hR:GeA s.data.toList w (.returned (.tuple #[sN,.agg #[iV er,iV p]])) _:=⟨HBW.out.trans (Chg.toBelow (Chg.trans hcS (B9 (Chg.alloc No _ (.cells #[iV er,iV p] 26)) (Chg.drewN No _ 1)) (λ_ _ x=>x.elim)) (λk _ e=>by omega) HBW.out.size),.inl ⟨er,p,HFT.out,rfl⟩⟩;exact bodyPost_ret (v:= .tuple #[sN,.agg #[iV er,iV p]]) (by simp[results,results6,go_sem,g0,g1,gl]) rfl hR
 · have f0:w1.heap[w.heap.size]? =some (fB):=by
    rw[hbel.block _ (by simp)];exact hb0
   have gl:=(ltG f0);have hrs:=hok.rsn;have hRk:Rok (M.plP (M.cxP N T l2) of):=⟨hrs.1,λp hp=>by have:=hrs.2.1 p hp;omega⟩;have HBW:Hid (Below w.heap.size w w1):=(Chg.toBelow (Chg.alloc No w _) (λ_ _ x=>x.elim) (vQ _)).trans (hbel.mono (by simp));have A1:=Chg.alloc No w1 (fB);have HNF:=A0 (R9b s _ hss hok hRk (A3 (C7 hgo (wQ _)) A1 (λ_ _ x=>x)));have hvis:∀L,M.vis (M.cxP N T l2) (M.cxP N T l2).N.length (((M.cxP N T l2).N.length:Int) - 1)<=2400:=λL=>by
    obtain⟨ps,fs,_,hP,_,_⟩:=hok;exact(M.W8b hP l2 (asg (M.plP (M.cxP N T l2) of)) L _).2
   have hN0:0<(M.cxP N T l2).N.length:=by
    obtain⟨ps,fs,_,hP,_,_⟩:=hok;have:=hP.cnt;show 0<N.length;omega
   have HQ:Hid (∀w' ad ac L,(∀x,x∈L ↔ x∈M.ctR (M.cxP N T l2) (M.cxP N T l2).N.length)->Below w.heap.size w w'->w'.ownsRow w.heap.size 30 2 (.slice ad (M.lft (M.cxP N T l2) of L).length ac) (M.lft (M.cxP N T l2) of L).length (J5 (M.lft (M.cxP N T l2) of L))->GeA s.data.toList w (.returned (.tuple #[.slice ad (M.lft (M.cxP N T l2) of L).length ac,.agg #[iV 0,iV 0]])) w'):=λw' ad ac L h1 h2 h3=>⟨h2,.inr ⟨N,T,l2,of,L,ad,ac,hok,h1,rfl,h3⟩⟩;have HF0:=A0 (D6 A1 f0);have HA:=A0 A1;unfold M.lft at HQ;generalize M.cxP N T l2=c at *;generalize M.plP c of=R at *;clear hok hgo hrs hRk hbel hb0 f0 A1 hss;go_wp2_with fail
   refine HNF.out.mono ?_;rintro e w2 ⟨wB,pb,qb,nv,cv,L,fb,gb,kb,mn,hmn,c2,hwB,rfl,hc2,hL,hP,hF⟩;have hpb:pb<w2.heap.size:=by
    have:=blt c2;simpa using this
   obtain⟨lfb,-,b0,-,-,-,-⟩:=hF.cell;obtain⟨i,hi⟩:∃i:Nat,mn=i/\i<c.N.length:=⟨c.N.length - 1,by omega,by omega⟩;have hvi:=hvis L;rw[<-hmn,hi.1]at hvi;have HND:=A0 (Q3b hP c.N.length i w2 kb 0 _ hi.2 hi.2 hF (by omega));have HE:Hid (M.elN c (asg R) L c.N.length i ⟨λ_=>none,[]⟩=M.elN c (asg R) L c.N.length ((c.N.length:Int) - 1) ⟨λ_=>none,[]⟩):=by
    show _=_;rw[<-hmn,hi.1]
   have HLL:=A0 hL;have HF2:=A0 (D6 hc2 HF0.out);have hwW:w.heap.size<=wB.heap.size:=by
    have h1:=HBW.out.size;have h2:=HA.out.size;omega
   have HB2:Hid (Below w.heap.size w w2):=HBW.out.trans (Chg.toBelow (B9 HA.out hc2) (λ_ _ x=>x.elim) HBW.out.size);have hnc:=hF.nc;have HNC:=A0 hnc;rw[hi.1]at c2;clear hc2 hL hP hF hvi hvis hmn hi hnc HNF HF0 HA;go_wp2_with fail
   refine HND.out.mono ?_;rintro e w3 ⟨rfl,r1,r2⟩;rw[HE.out]at r1;obtain⟨l3,-,-,-,-,-,xa,xc,b4,-,ho⟩:=r1.cell;have f1:=r2.cells HNC.out HF2.out (by decide) (by decide);have g0:w3.cell? (aD w.heap.size 0)=some (iV 0):=cr f1 rfl;have g1:w3.cell? (aD w.heap.size 1)=some (iV 0):=cr f1 rfl;have gz:∀o,w3.frozen? (aD w.heap.size o)=false:=λo=>frozen_of_row w3 _ o _ _ f1;have gl2:=(ltG f1);have hcz:=V2a f1;have HB3:Hid (Below w.heap.size w _):=(HB2.out.trans (Chg.toBelow r2 (λk _ x=>kQ hwW x.1) HB2.out.size)).trans (Chg.toBelow hcz (λ_ _ x=>x.elim) (Nat.le_of_lt gl2));have HRR:=A0 (HQ.out _ xa xc L HLL.out HB3.out (A3 (C7 ho hwW) hcz (λ_ _ x=>x)));clear HQ HB3 hcz f1 ho r1 r2 HND HE HLL HF2 HB2 HNC;generalize (M.elN _ _ _ _ _ _).lf.length=bl at *;go_wp2_with fail
   exact bodyPost_ret (v:= .tuple #[sL xa bl xc,.agg #[iV 0,iV 0]]) (by simp[results,results6,go_sem,g0,g1]) rfl HRR.out
end Go.Proofs.YtfhhipefecekkaaGreatDoor
namespace Go.Proofs.YtfhhipefecekkaaGreatDoor.M
def gNe:List UInt8:=[103]
def aNe:List UInt8:=[97]
theorem O4c:L9 gNe:=⟨by decide,by decide,by decide,by decide,λc hc=>by simp[gNe]at hc;subst hc;decide⟩
theorem S5c:L9 aNe:=⟨by decide,by decide,by decide,by decide,λc hc=>by simp[aNe]at hc;subst hc;decide⟩
def nE:List Nd:=[⟨16,0,0,0,[],[120],0,0,11⟩,⟨26,0,0,0,[],[],0,-1,19⟩,⟨6,1,0,0,[0],[],0,-1,8⟩,⟨17,2,0,0,[],[103],0,-1,0⟩,⟨16,0,0,0,[],[97],0,-1,34⟩,⟨5,0,0,0,[],[103],0,-1,39⟩,⟨5,0,0,0,[],[97],0,-1,41⟩,⟨7,5,0,0,[6],[],0,-1,39⟩,⟨25,7,0,0,[],[],0,-1,39⟩,⟨5,0,0,0,[],[103],0,-1,45⟩,⟨5,0,0,0,[],[97],0,-1,47⟩,⟨7,9,0,0,[10],[],0,-1,45⟩,⟨25,11,0,0,[],[],0,-1,45⟩,⟨26,0,0,0,[8,12],[],0,-1,37⟩,⟨6,13,0,0,[4],[],0,-1,31⟩,⟨17,14,0,0,[],[102],0,-1,23⟩,⟨26,0,0,0,[3,15],[],0,-1,0⟩]
def pE1:Nt:= .nd 25 [] 0 [.nd 7 [] 0 [.nd 5 gNe 0 [],.nd 5 aNe 0 []]]
def pE:List Nt:=[.nd 17 gNe 0 [.ty none,.nd 6 [] 0 [.nd 16 xN 0 [.ty (some (.nd 1 [] []))],.ty none,.nd 26 [] 0 []]],.nd 17 fN 0 [.ty none,.nd 6 [] 0 [.nd 16 aNe 0 [.ty none],.ty none,.nd 26 [] 0 [pE1,pE1]]]]
theorem F9d:PRes [108,101,116,32,103,32,61,32,102,110,40,120,58,32,110,117,109,41,32,123,125,59,32,108,101,116,32,102,32,61,32,102,110,40,97,41,32,123,32,103,40,97,41,59,32,103,40,97,41,59,32,125,59] (.inr (nE,tB3)):=V9c (i:=32) (x:=16) (by decide+kernel) (λk=>by kernel_rfl) (by decide) (by decide)
theorem F1d:Wn pE1:=w25 (w7 (w5 O4c) (by simp[isE,Nt.k]) λp hp=>by
 simp only[jW,List.not_mem_nil,or_false]at hp;subst hp;exact⟨w5 S5c,by simp[isE,Nt.k]⟩) (by simp[isE,Nt.k])
theorem L1d:∀p∈pE,Wn p/\17<=p.k/\p.k<=25:=by
 intro p hp;simp only[pE,jW,List.not_mem_nil,or_false]at hp;rcases hp with rfl|rfl
 · refine⟨w17 O4c trivial (.inl rfl) (w6 (ps:=[.nd 16 xN 0 [.ty (some (.nd 1 [] []))]]) (a:= .ty none) (b:= .nd 26 [] 0 []) ?_ (by decide) trivial (.inl rfl) (w26 λp hp=>by simp at hp) rfl) (by simp[isE,Nt.k]),by simp[Nt.k]⟩;intro p hp;simp only[jW,List.not_mem_nil,or_false]at hp;subst hp;exact⟨w16 J5d (Wf.plain 1 (by decide) (by decide)) (.inr rfl),rfl⟩
 · refine⟨w17 O0d trivial (.inl rfl) (w6 (ps:=[.nd 16 aNe 0 [.ty none]]) (a:= .ty none) (b:= .nd 26 [] 0 [pE1,pE1]) ?_ (by decide) trivial (.inl rfl) (w26 ?_) rfl) (by simp[isE,Nt.k]),by simp[Nt.k]⟩
   · intro p hp;simp only[jW,List.not_mem_nil,or_false]at hp;subst hp;exact⟨w16 S5c trivial (.inl rfl),rfl⟩
   · intro p hp;simp only[jW,List.not_mem_nil,or_false,or_self]at hp;subst hp;exact⟨F1d,by simp[pE1,Nt.k]⟩
theorem F0d:Prgm nE tB3 pE:=⟨L1d,by kernel_rfl,by kernel_rfl,by decide+kernel,by decide+kernel,by decide,by decide⟩
def lE:List (Nat×Int):=[(5,3),(6,4),(9,3),(10,4)]
theorem L2d:bnT [] 0 (.nd 26 [] 0 pE)= .ok [] lE:=by kernel_rfl
def oE:Of:=[none,none,some (.nd 9 [] [.nd 5 [] [],.nd 1 [] []]),none,none,some (.nd 9 [] [.nd 5 [] [],.nd 1 [] []]),some (.nd 5 [] []),some (.nd 5 [] []),none,some (.nd 9 [] [.nd 5 [] [],.nd 1 [] []]),some (.nd 5 [] []),some (.nd 5 [] []),none,none,some (.nd 9 [] [.nd 5 [] [],.nd 5 [] []]),none,none]
theorem L8d:ckP (cxP nE tB3 lE)= .inr oE:=by kernel_rfl
theorem L5d:(plP (cxP nE tB3 lE) oE).length=3:=by kernel_rfl
theorem L7d:ctR (cxP nE tB3 lE) nE.length=[]:=by kernel_rfl
theorem L6d:(lft (cxP nE tB3 lE) oE []).length=2:=by kernel_rfl
end Go.Proofs.YtfhhipefecekkaaGreatDoor.M
namespace Go.Proofs.YtfhhipefecekkaaGreatDoor
open Go.Proofs.Tryz
open Go.RowKit Go.Maps
theorem Y7b{w w':World}(h:Below w.heap.size w w'):Chg No w w':=(Chg.below h).mono λ_ hi x=>by omega
theorem M.rise_cong{g g':M.Gm}:∀n:Nat,(∀j:Nat,j<n->g j=g' j)->M.P8 g n=M.P8 g' n
 |0,_=>rfl
 |n+1,h=>by rw[M.P8,M.P8,M.rise_cong n λj hj=>h j (by omega),h n (by omega)]
theorem M8b(g:M.Gm):∀(n:Nat) (x:Int),asg (M.P8 g n) x=if 0<=x/\x<n then g x else none
 |0,x=>by
  rw[if_neg (by omega)];rfl
 |n+1,x=>by
  have ih:=M8b g n x;rw[M.P8];cases hg:g (n:Int) with
  |none=>
   simp only[List.append_nil];rw[ih];by_cases hx:x=n
   · subst hx;rw[if_neg (by omega),if_pos (by omega),hg]
   · by_cases h:0<=x/\x<n
     · rw[if_pos h,if_pos (by omega)]
     · rw[if_neg h,if_neg (by omega)]
  |some v=>
   simp only;rw[L4a];simp only;by_cases hx:x=n
   · subst hx;rw[if_pos rfl,if_pos (by omega),hg]
   · rw[if_neg hx,ih];by_cases h:0<=x/\x<n
     · rw[if_pos h,if_pos (by omega)]
     · rw[if_neg h,if_neg (by omega)]
theorem Okd.sub{l:List UInt8}{N:List M.Nd}{T:List M.Ty}{l2:List (Nat×Int)}{of:M.Of}(h:Okd l N T l2 of)(L:List Int):(M.lft (M.cxP N T l2) of L).Sublist (M.plP (M.cxP N T l2) of):=by
 obtain⟨ps,fs,_,hP,_,_⟩:=h;have h1:=(M.W8b hP l2 (asg (M.plP (M.cxP N T l2) of)) L (M.cxP N T l2).N.length).1;have h2:M.P8 (asg (M.plP (M.cxP N T l2) of)) N.length=M.plP (M.cxP N T l2) of:=by
  have e:M.plP (M.cxP N T l2) of=M.P8 (M.S6a (M.cxP N T l2) of N.length) N.length:=rfl;rw[e];exact M.rise_cong _ λj hj=>by rw[M8b,if_pos (by omega)]
 rw[h2]at h1;exact h1
def PR(l:List UInt8)(R:List (Int×Int))(er p:Int):Prop:=(FtO l er p/\R=[])\/(er=0/\p=0/\∃N T l2 of,Okd l N T l2 of/\R=M.plP (M.cxP N T l2) of)
def PX(l:List UInt8)(R:List (Int×Int))(er p:Int):Prop:=(FtO l er p/\R=[])\/(er=0/\p=0/\∃N T l2 of L,Okd l N T l2 of/\(∀x,x∈L ↔ x∈M.ctR (M.cxP N T l2) N.length)/\R=M.lft (M.cxP N T l2) of L)
theorem PR.both{l:List UInt8}{R X:List (Int×Int)}{er p er' p':Int}(h:PR l R er p)(k:PX l X er' p'):er=er'/\p=p'/\X.Sublist R:=by
 rcases h with ⟨h,rfl⟩|⟨rfl,rfl,N,T,l2,of,h,rfl⟩
 · rcases k with ⟨k,rfl⟩|⟨rfl,rfl,N,T,l2,of,L,k,_,rfl⟩
   · obtain⟨rfl,rfl⟩:=h.one k;exact⟨rfl,rfl,.slnil⟩
   · exact absurd h k.not
 · rcases k with ⟨k,rfl⟩|⟨rfl,rfl,N,T,l2,of,L,k,_,rfl⟩
   · exact absurd k h.not
   · obtain⟨rfl,rfl,rfl,rfl⟩:=h.one k;exact⟨rfl,rfl,h.sub L⟩
theorem PR.len{l:List UInt8}{R:List (Int×Int)}{er p:Int}(h:PR l R er p):R.length<=1200:=by
 rcases h with ⟨_,rfl⟩|⟨_,_,N,T,l2,of,h,rfl⟩
 · simp
 · exact h.rsn.1
theorem K2b(s:ByteArray)(w:World)(hs:s.size<=maxLen):Calls prog 5 #[.string s] w λe w'=>Below w.heap.size w w'/\∃R ad ac er p,PR s.data.toList R er p/\e= .returned (.tuple #[sL ad R.length ac,.agg #[iV er,iV p]])/\w'.ownsRow w.heap.size 30 2 (sL ad R.length ac) R.length (J5 R):=by
 refine(T6a s w hs).mono ?_;rintro e w' ⟨hb,⟨er,p,hf,rfl⟩|⟨N,T,l2,of,ad,ac,hok,rfl,ho⟩⟩
 · exact⟨hb,[],none,0,er,p,.inl ⟨hf,rfl⟩,rfl,kW _ _ _ _⟩
 · exact⟨hb,_,ad,ac,0,0,.inr ⟨rfl,rfl,N,T,l2,of,hok,rfl⟩,rfl,ho⟩
theorem K1b(s:ByteArray)(w:World)(hs:s.size<=maxLen):Calls prog 6 #[.string s] w λe w'=>Below w.heap.size w w'/\∃R ad ac er p,PX s.data.toList R er p/\e= .returned (.tuple #[sL ad R.length ac,.agg #[iV er,iV p]])/\w'.ownsRow w.heap.size 30 2 (sL ad R.length ac) R.length (J5 R):=by
 refine(N9c s w hs).mono ?_;rintro e w' ⟨hb,⟨er,p,hf,rfl⟩|⟨N,T,l2,of,L,ad,ac,hok,hL,rfl,ho⟩⟩
 · exact⟨hb,[],none,0,er,p,.inl ⟨hf,rfl⟩,rfl,kW _ _ _ _⟩
 · exact⟨hb,_,ad,ac,0,0,.inr ⟨rfl,rfl,N,T,l2,of,L,hok,hL,rfl⟩,rfl,ho⟩
def sE:ByteArray:=⟨([108,101,116,32,103,32,61,32,102,110,40,120,58,32,110,117,109,41,32,123,125,59,32,108,101,116,32,102,32,61,32,102,110,40,97,41,32,123,32,103,40,97,41,59,32,103,40,97,41,59,32,125,59]).toArray⟩
theorem okE:Okd sE.data.toList M.nE M.tB3 M.lE M.oE:=⟨M.pE,[],M.F9d,M.F0d,M.L2d,M.L8d⟩
theorem rE{R:List (Int×Int)}{er p:Int}(h:PR sE.data.toList R er p):er=0/\p=0/\R.length=3:=by
 rcases h with ⟨h,rfl⟩|⟨rfl,rfl,N,T,l2,of,h,rfl⟩
 · exact absurd h okE.not
 · obtain⟨rfl,rfl,rfl,rfl⟩:=h.one okE;exact⟨rfl,rfl,M.L5d⟩
theorem xE{R:List (Int×Int)}{er p:Int}(h:PX sE.data.toList R er p):er=0/\p=0/\R.length=2:=by
 rcases h with ⟨h,rfl⟩|⟨rfl,rfl,N,T,l2,of,L,h,hL,rfl⟩
 · exact absurd h okE.not
 · obtain⟨rfl,rfl,rfl,rfl⟩:=h.one okE;rw[M.L7d]at hL;have:L=[]:=List.eq_nil_iff_forall_not_mem.2 λx hx=>by simpa using (hL x).1 hx
   subst this;exact⟨rfl,rfl,M.L6d⟩
theorem U9a(w:World):Calls prog 4 #[] w λe w'=>e= .returned (.bool true)/\Below w.heap.size w w':=by
 have HG:Hid (∀u,Calls prog 5 #[.string sE] u λe w'=>Below u.heap.size u w'/\∃ad ac,e= .returned (.tuple #[sL ad 3 ac,.agg #[iV 0,iV 0]])):=λu=>by
  refine(K2b sE u (by decide)).mono ?_;rintro e w' ⟨hb,R,ad,ac,er,p,hR,rfl,_⟩;obtain⟨rfl,rfl,h3⟩:=rE hR;exact⟨hb,ad,ac,by rw[h3]⟩
 have HX:Hid (∀u,Calls prog 6 #[.string sE] u λe w'=>Below u.heap.size u w'/\∃ad ac,e= .returned (.tuple #[sL ad 2 ac,.agg #[iV 0,iV 0]])):=λu=>by
  refine(K1b sE u (by decide)).mono ?_;rintro e w' ⟨hb,R,ad,ac,er,p,hR,rfl,_⟩;obtain⟨rfl,rfl,h3⟩:=xE hR;exact⟨hb,ad,ac,by rw[h3]⟩
 go_enter func4,ntmps4;go_wp2_with fail
 refine(HG.out _).mono ?_;rintro e w1 ⟨hb1,ad,ac,rfl⟩;have b1:=nW w1 (fB);have HB1:=A0 hb1;have hz1:=hb1.size;have PQ:Hid (∀a,Chg No (w1.alloc (fB)) a->a.cell? (aD w1.heap.size 0)=some (iV 0)):=λa ha=>A8 ha (cr b1 rfl);clear hb1 b1 HG;go_wp2_with fail
 refine(HX.out _).mono ?_;rintro e w2 ⟨hb2,xd,xc,rfl⟩;have z0:=PQ.out w2 (Y7b hb2);have hz2:=hb2.size;simp only[World.size_alloc]at hz2;have l1:w1.heap.size<w2.heap.size:=by omega
 have HB3:=A0 (HB1.out.trans (Chg.toBelow (B9 (Chg.alloc No _ _) (Y7b hb2)) (λ_ _ x=>x.elim) hz1));clear HX PQ HB1 hb2;go_wp2;go_ret;exact⟨rfl,HB3.out.alloc (by omega) _⟩
theorem elideFewer_any(s:ByteArray)(w:World)(hs:s.size<=maxLen):Calls prog 3 #[.string s] w λe w'=>e= .returned (.bool true)/\Below w.heap.size w w':=by
 have HP:=A0 U9a;have HG:=A0 (λa=>K2b s a hs);have HX:=A0 (λa=>K1b s a hs);clear hs;go_enter func3,ntmps3;go_wp2_with fail
 refine(HP.out _).mono ?_;rintro e w2 ⟨rfl,hb2⟩;have HB2:=A0 hb2;clear hb2 HP;go_wp2_with fail
 refine(HG.out _).mono ?_;rintro e w3 ⟨hb3,R,ad,ac,er,p,hR,rfl,ho⟩;have HB3:=A0 (HB2.out.trans (hb3.mono HB2.out.size));have hz3:=hb3.size;have b3:=nW w3 (.cells #[iV er,iV p] 26);have PQ:Hid (∀a,Chg No (w3.alloc (.cells #[iV er,iV p] 26)) a->a.cell? (aD w3.heap.size 0)=some (iV er)/\a.cell? (aD w3.heap.size 1)=some (iV p)/\a.ownsRow w2.heap.size 30 2 (sL ad R.length ac) R.length (J5 R)):=by
  intro a ha;have hc:=B9 (Chg.alloc No w3 (.cells #[iV er,iV p] 26)) ha;refine⟨A8 ha ?_,A8 ha ?_,A3 ho hc (λ_ _ x=>x)⟩
  · rw[cell_of_row _ _ 0 _ _ _ b3];rfl
  · rw[cell_of_row _ _ 1 _ _ _ b3];rfl
 have hRl:=hR.len;have HR:=A0 hR;clear b3 hb3 ho hR HB2 HG;go_wp2_with fail
 refine(HX.out _).mono ?_;rintro e w4 ⟨hb4,X,xd,xc,er',p',hX,rfl,hxo⟩;obtain⟨rfl,rfl,hsub⟩:=HR.out.both hX;obtain⟨z0,z1,ho4⟩:=PQ.out w4 (Y7b hb4);have hz4:=hb4.size;have hXl:X.length<=1200:=kQ hsub.length_le hRl;have HB4:=A0 (HB3.out.trans (Chg.toBelow (B9 (Chg.alloc No _ _) (Y7b hb4)) (λ_ _ x=>x.elim) HB3.out.size));simp only[World.size_alloc]at hz4;have l3:w3.heap.size<w4.heap.size:=by omega
 have HO:=A0 (A3 ho4 (Chg.alloc No w4 (.cells #[iV er,iV p] 26)) (λ_ _ x=>x));have HXO:=A0 (A3 hxo (Chg.alloc No w4 (.cells #[iV er,iV p] 26)) (λ_ _ x=>x));have hw4:w.heap.size<=w4.heap.size:=HB4.out.size;have HB5:=A0 (HB4.out.alloc hw4 (.cells #[iV er,iV p] 26));have HSB:=A0 hsub;clear HX PQ hb4 HR hX ho4 hxo HB3 HB4 hsub;go_wp2_with fail
 generalize w4.alloc (.cells #[iV er,iV p] 26)=W at *;go_loopw [8,7] (λv u wr=>∃i k:Nat,i<=X.length/\k<=R.length/\v=iV (i:Int)/\u=iV (k:Int)/\Hid ((X.drop i).Sublist (R.drop k))/\Hid (Chg No W wr)) (λv _ _=>X.length - (intOf v).toNat)
 case atStart=>exact⟨0,0,wQ _,wQ _,rfl,rfl,HSB,Chg.refl _ _⟩
 case round=>
  obtain⟨i,k,hi,hk,rfl,rfl,HD,CR⟩:=hrel;by_cases hil:i<X.length
  · go_wp2_with fail
    go_loopw [7] (λu wi=>∃j:Nat,j<=R.length/\u=iV (j:Int)/\Hid ((X.drop i).Sublist (R.drop j))/\Hid (Chg No W wi)) (λu _=>R.length - (intOf u).toNat)
    case atStart=>exact⟨k,hk,rfl,HD,CR⟩
    case round=>
     clear HD CR hk;obtain⟨j,hj,rfl,HD,CR⟩:=hrel;have hjl:j<R.length:=by
      by_cases h:j<R.length
      · exact h
      · have h1:=HD.out.length_le;rw[List.length_drop,List.length_drop]at h1;omega
     obtain⟨rg,hra,-,hrg,hr1,hr2,hrc⟩:=D8 (A3 HO.out CR.out (λ_ _ x=>x)) (by omega);subst hra;obtain⟨xg,hxa,-,hxg,hx1,hx2,hxc⟩:=D8 (A3 HXO.out CR.out (λ_ _ x=>x)) (by omega);subst hxa;have u1:=hrc (j * 2+1) _ (U4 R j hjl).2;have u0:=hrc (j * 2) _ (U4 R j hjl).1;have v1:=hxc (i * 2+1) _ (U4 X i hil).2;have v0:=hxc (i * 2) _ (U4 X i hil).1;unfold maxLen at hr2 hx2;have hjl':(j:Int)<(R.length:Int):=by omega
     have hdr:R.drop j=R[j]::R.drop (j+1):=List.drop_eq_getElem_cons hjl;have hdx:X.drop i=X[i]::X.drop (i+1):=List.drop_eq_getElem_cons hil;by_cases he:R[j]=X[i]
     · have HD2:Hid ((X.drop (i+1)).Sublist (R.drop j)):=by
        have h1:=HD.out;rw[hdx]at h1;exact(List.sublist_cons_self _ _).trans h1
       rw[he]at u0 u1;have hje:((j:Int)==(R.length:Int))=false:=by simp;omega
       clear hrc hxc hdr hdx he HD;generalize X[i].1=x at *;generalize X[i].2=y at *;go_wp2_with fail
       go_quiet (fail)
       go_wp2_with fail
       exact⟨⟨i+1,j,by omega,hj,by go_num,rfl,HD2,B9 CR.out (Chg.drewN _ _ _)⟩,by simp[intOf];omega⟩
     · have HD2:Hid ((X.drop i).Sublist (R.drop (j+1))):=by
        have h1:=HD.out;show List.Sublist _ _;rw[hdx,hdr]at h1;rw[hdx];generalize R[j]=a at *;generalize X[i]=b at *;cases h1 with
        |cons _ h=>exact h
        |cons_cons _ h=>exact absurd rfl he
       have hne:¬(R[j].1=X[i].1/\R[j].2=X[i].2):=λh=>he (Prod.ext h.1 h.2);clear hrc hxc hdr hdx he HD;generalize X[i].1=x at *;generalize X[i].2=y at *;generalize R[j].1=a at *;generalize R[j].2=b at *;by_cases hax:a=x
       · subst hax;have hby:b≠y:=λh=>hne ⟨rfl,h⟩;have gby:(b==y)=false:=by simpa using hby
         clear hne;go_wp2_with fail
         go_quiet (fail)
         go_wp2_with fail
         exact⟨⟨j+1,by omega,by go_num,HD2,B9 CR.out (Chg.drewN _ _ _)⟩,by simp[intOf];omega⟩
       · have gax:(a==x)=false:=by simpa using hax
         clear hne;go_wp2_with fail
         go_quiet (fail)
         go_wp2_with fail
         exact⟨⟨j+1,by omega,by go_num,HD2,B9 CR.out (Chg.drewN _ _ _)⟩,by simp[intOf];omega⟩
  · have hie:i=X.length:=by omega
    subst hie;have HB6:Hid (Below w.heap.size w wr):=HB5.out.trans (Chg.toBelow CR.out (λ_ _ x=>x.elim) HB5.out.size);clear HD HO HXO HSB;go_wp2_with fail
    go_ret;exact⟨rfl,HB6.out⟩
end Go.Proofs.YtfhhipefecekkaaGreatDoor
