/-
  A part of the proof.
-/
import Derived.Test.YtfhhipefecekkaaGreatDoorBindA
set_option maxHeartbeats 16000000
set_option maxRecDepth 100000
namespace Go.Proofs.YtfhhipefecekkaaGreatDoor
open Go.RowKit Go.Maps
theorem V0c{w:World}{q:Nat}{x y z:Value}{t:TypeId}(h:w.heap[q]? =some (.cells #[x,y,z] t (0,0)))(v:Value):(w.setCell (aD q 2) v).heap[q]? =some (.cells #[x,y,v] t (0,0)):=by
 rw[heap_setCell_same w q 2 _ _ v h];rfl
structure Bmk(wz w:World)(B bb:Nat)(nv tv:Value)(j:Nat):Prop where
 low:B<=bb
 blk:w.heap[bb]? =some (.cells #[nv,sN,tv] 86 (0,0))
 tos:w.ownsRow wz.heap.size 3 1 tv j (B8 (List.replicate j (-1)))
 chg:Chg (λk=>k=bb) wz w
theorem Bmk.grow{wz w w1 w2:World}{B bb:Nat}{nv tv tv':Value}{j:Nat}(h:Bmk wz w B bb nv tv j)(hc1:Chg No w w1)(hc2:Chg (λk=>some k=tv.ownBlock) w1 w2)(ho:w2.ownsRow wz.heap.size 3 1 tv' (j+1) (B8 (List.replicate j (-1))++[iV (-1)])):Bmk wz (w2.setCell (aD bb 2) tv') B bb nv tv' (j+1):=by
 have lb:=(ltG h.blk);have t1:=A3 h.tos hc1 (λ_ _ x=>x);have b1:w1.heap[bb]? =some (.cells #[nv,sN,tv] 86 (0,0)):=by rw[hc1.block bb lb id];exact h.blk
 have nb:tv.ownBlock≠some bb:=G8 t1 b1 (by decide);have b2:w2.heap[bb]? =some (.cells #[nv,sN,tv] 86 (0,0)):=by
  rw[hc2.block bb (yQ lb hc1.size) (λe=>nb e.symm)];exact b1
 have c3:Chg (λk=>k=bb) w2 (w2.setCell (aD bb 2) tv'):=Chg.set w2 (aD bb 2) tv';refine⟨h.low,V0c b2 tv', ?_, ?_⟩
 · have e:B8 (List.replicate (j+1) (-1))=B8 (List.replicate j (-1))++[iV (-1)]:=by
    simp[B8,List.replicate_succ']
   rw[e];exact A3 ho c3 (λg hg e=>G8 ho b2 (by decide) (e ▸ hg))
 · refine Chg.trans (Chg.trans (Chg.trans h.chg hc1 λ_ _ x=>x.elim) hc2 λk hk e=> ?_) c3 λ_ _ x=>x;have:=(h.tos.lt k e.symm).1;omega
theorem Bmk.done{w0 wz w:World}{B bb:Nat}{nv tv:Value}{j:Nat}(h:Bmk wz w B bb nv tv j)(hz:w0.heap.size<=B)(hB:B<=wz.heap.size)(hbel:Below w0.heap.size w0 wz):Bnt w0 w B bb nv tv 0 [] (List.replicate j (-1)):=by
 have hlow:=h.low;refine⟨hz,kQ hB h.chg.size,hbel.trans (Chg.toBelow h.chg (λk _ e=>by omega) hbel.size),sN,[],h.low,h.blk,kW _ _ _ _, ?_,rfl,by simp,by simp,λi a _=>by simp at a⟩;have:=C7 h.tos hB;simpa using this
open Go.Proofs.Tryz
section
variable{w0:World}{B bb:Nat}{nv tv:Value}{N:List M.Nd}
theorem L0c(hN:Nrow w0 nv N)(i:Nat)(hi:i<N.length)(w:World)(m:Nat)(fs:List M.Fr)(ts:List Int)(h:Bnt w0 w B bb nv tv m fs ts)(hfs:fs≠[])(b tb:Nat)(ps qs:List M.Nt)(hpt:E7c N b tb ps N[i] qs)(hC:∀p∈ps,1<=p.k->U6 w0 B bb nv tv N p)(m':Nat)(hm':m+2 * M.nNL ps<=m')(hm:m'<=100000)(hf:fs.length+M.nNL ps<=100000)(hts:ts.length=N.length)(hll:(N[i]).list.length<=100000)(hk:(N[i]).kind≠5/\(N[i]).kind≠18/\(N[i]).kind≠17/\(N[i]).kind≠16/\(N[i]).kind≠6/\(N[i]).kind≠26):
 Calls prog 92 #[pV bb,iV (i:Int)] w (BnPost w0 w B bb nv tv N m' ts (M.bnL false fs b ps)):=by
 have hbel:=h.bel;obtain⟨g,nc,la,lc,rfl,hg,hn1,hn2,⟨x0,x1,x2,x3,x4,x5,x6,x7,x8⟩,ho,hlow⟩:=hN.at h.bel i hi;generalize hnd:N[i]=nd at *;obtain⟨kd,va,vb,vc,ls,txt,vn,vt,vp⟩:=nd;simp only at x0 x1 x2 x3 x4 x5 x6 x7 x8 ho hlow hll hk;have hca:Chg No w ((w.alloc (.cells #[pV bb] 81)).alloc (ndC kd va vb vc (.slice la ls.length lc) txt vn vt vp)):=B9 (Chg.alloc No _ _) (Chg.alloc No _ _);have h1:=h.kept hca;have hb0:((w.alloc (.cells #[pV bb] 81)).alloc (ndC kd va vb vc (.slice la ls.length lc) txt vn vt vp)).heap[w.heap.size]? =some (.cells #[pV bb] 81 (0,0)):=by
  rw[Below.heap_alloc _ _ _ (by simp)];have:=heap_alloc_new w (.cells #[pV bb] 81);simpa using this
 have hb1:((w.alloc (.cells #[pV bb] 81)).alloc (ndC kd va vb vc (.slice la ls.length lc) txt vn vt vp)).heap[w.heap.size+1]? =some (.cells #[iV kd,iV va,iV vb,iV vc,.slice la ls.length lc,.string ⟨txt.toArray⟩,iV vn,iV vt,iV vp] 70 (0,0)):=by
  have:=heap_alloc_new (w.alloc (.cells #[pV bb] 81)) (ndC kd va vb vc (.slice la ls.length lc) txt vn vt vp);simpa using this
 have cb0:((w.alloc (.cells #[pV bb] 81)).alloc (ndC kd va vb vc (.slice la ls.length lc) txt vn vt vp)).cell? (aD w.heap.size 0)=some (pV bb):=cr hb0 rfl;have KA:=A0 (Bkp.still (B:=B) (bb:=bb) (tv:=tv) hca);obtain⟨bk1,bk2⟩:=h.blk;have hho:=A3 ho hca (λ_ _ x=>x);unfold maxLen at hn2;obtain⟨k5,k18,k17,k16,k6,k26⟩:=hk;have k5':(kd==5)=false:=by simp[k5]
 have k18':(kd==18)=false:=by simp[k18]
 have k17':(kd==17)=false:=by simp[k17]
 have k16':(kd==16)=false:=by simp[k16]
 have k6':(kd==6)=false:=by simp[k6]
 have k26':(kd==26)=false:=by simp[k26]
 have PA:=A0 (λa ha=>N0a KA.out (l0:=[]) h1 hfs hpt hC (by omega) hf hts la lc hho hll w.heap.size cb0 m' hm' a ha);rw[M.Br.and_zero]at PA;simp only[nvl]at PA;generalize M.bnL false fs b ps=RR at *;generalize (M.px b qs).length=pl at *;clear hts hpt hC h1 h hnd hb0 hb1 hho ho hlow hbel hN;go_enter func92,ntmps92;go_wp2_with fail
 go_region_with (first|(go_at_call 29;refine(PA.out _ (Chg.drewN _ _ 1)).mono ?_;rintro e w3 ⟨ga,gc,rfl,cb3,H3⟩)|(go_at_call 66;refine(Hid.out H3).mono ?_;rintro e w4 (⟨er,p,rfl,H4⟩|⟨rfl,H4⟩);exact⟨rfl,H4.out⟩))
 all_goals go_wp2_with fail
 all_goals go_end0
 all_goals exact H4.out
theorem C8a{w:World}{base:Nat}{ts:List Int}{g c:Nat}(h:w.ownsRow base 3 1 (.slice (some (aD g 0)) ts.length c) ts.length (B8 ts))(i:Nat)(j:Int):(w.setCell (aD g i) (iV j)).ownsRow base 3 1 (.slice (some (aD g 0)) ts.length c) ts.length (B8 (ts.set i j)):=by
 rcases h.2 with ⟨h1,_⟩|⟨g',cap,cur,hv,hb,hg,hn,hm,hcs,htk⟩
 · simp at h1
 · simp only[Value.slice.injEq,zQ,Addr.mk.injEq,and_true,true_and]at hv;obtain⟨rfl,rfl⟩:=hv;refine⟨by simp[B8],.inr ⟨g,c,cur.setIfInBounds i (iV j),rfl,hb, ?_,hn,hm,by simpa using hcs, ?_⟩⟩
   · rw[heap_setCell_same w g i _ _ _ hg]
   · rw[Nat.mul_one]at htk⊢;rw[Array.toList_setIfInBounds,List.take_set,htk];simp[B8,List.map_set]
theorem Bnt.write{w:World}{m:Nat}{fs:List M.Fr}{ts:List Int}(h:Bnt w0 w B bb nv tv m fs ts)(i:Nat)(hi:i<ts.length)(j:Int):∃g c,tv= .slice (some (aD g 0)) ts.length c/\g<w.heap.size/\ts.length<=c/\c<=maxLen/\w.cell? (aD g i)=some (iV ts[i])/\w.frozen? (aD g i)=false/\w.cell? (aD bb 2)=some tv/\bb<w.heap.size/\
 Bkp B bb tv w (w.setCell (aD g i) (iV j))/\Bnt w0 (w.setCell (aD g i) (iV j)) B bb nv tv m fs (ts.set i j):=by
 obtain⟨av,ms,hs⟩:=h.st;obtain⟨ad,c,htv⟩:=B7 hs.tos;subst htv;obtain⟨g,rfl,hgB,hg,h1,h2,hc⟩:=D8 hs.tos (by omega);have hcell:=hc i (iV ts[i]) (by simp[B8,hi]);obtain⟨_,cur,hblk⟩:=A9 hs.tos g rfl;have c3:Chg (λk=>k=g) w (w.setCell (aD g i) (iV j)):=Chg.set w (aD g i) _;have hk:Bkp B bb (.slice (some (aD g 0)) ts.length c) w (w.setCell (aD g i) (iV j)):=c3.mono λk _ e=>⟨e ▸ hgB,.inr (.inl (by rw[e];rfl))⟩;have nb:bb≠g:=λe=>G8 hs.tos hs.blk (by decide) (by rw[e];rfl);refine⟨g,c,rfl,hg,h1,h2,hcell,frozen_of_row w g i _ _ hblk,cr hs.blk rfl,(ltG hs.blk),hk, ?_⟩;refine⟨h.hz,kQ h.le hk.size,h.bel.trans ((hk.below h.le).mono h.hz),av,ms,hs.low, ?_, ?_, ?_,hs.len,hs.nd,hs.ge,λi' a b=> ?_⟩
 · rw[c3.block bb (ltG hs.blk) nb];exact hs.blk
 · exact A3 hs.ar c3 (λg' hg' e=>S9a hs.ar hs.tos (by decide) hg' (by rw[e];rfl))
 · have:=C8a hs.tos i j;simpa using this
 · have hf:=hs.fr i' a b;refine hf.chg c3 λe=>hf.notcells (e ▸ hblk)
theorem Q2b(hN:Nrow w0 nv N)(i:Nat)(hi:i<N.length)(w:World)(m:Nat)(fs:List M.Fr)(ts:List Int)(h:Bnt w0 w B bb nv tv m fs ts)(hfs:fs≠[])(b tb:Nat)(ps qs:List M.Nt)(hpt:E7c N b tb ps N[i] qs)(hC:∀p∈ps,1<=p.k->U6 w0 B bb nv tv N p)(m':Nat)(hm':m+1+2 * M.nNL ps<=m')(hm:m'<=100000)(hf:fs.length+M.nNL ps<=100000)(hts:ts.length=N.length)(hll:(N[i]).list.length<=100000)(htl:(N[i]).text.length<=1000000)(hi5:i<=100000)(hk:(N[i]).kind=16)(R:M.Br)(hR:R=M.bnL false (M.G5 fs (N[i]).text (i:Int)) b ps):
 Calls prog 92 #[pV bb,iV (i:Int)] w (BnPost w0 w B bb nv tv N m' ts R):=by
 have hbel:=h.bel;obtain⟨g,nc,la,lc,rfl,hg,hn1,hn2,⟨x0,x1,x2,x3,x4,x5,x6,x7,x8⟩,ho,hlow⟩:=hN.at h.bel i hi;generalize hnd:N[i]=nd at *;obtain⟨kd,va,vb,vc,ls,txt,vn,vt,vp⟩:=nd;simp only at x0 x1 x2 x3 x4 x5 x6 x7 x8 ho hlow hll htl hk hR;have hca:Chg No w ((w.alloc (.cells #[pV bb] 81)).alloc (ndC kd va vb vc (.slice la ls.length lc) txt vn vt vp)):=B9 (Chg.alloc No _ _) (Chg.alloc No _ _);have h1:=h.kept hca;have hb0:((w.alloc (.cells #[pV bb] 81)).alloc (ndC kd va vb vc (.slice la ls.length lc) txt vn vt vp)).heap[w.heap.size]? =some (.cells #[pV bb] 81 (0,0)):=by
  rw[Below.heap_alloc _ _ _ (by simp)];have:=heap_alloc_new w (.cells #[pV bb] 81);simpa using this
 have hb1:((w.alloc (.cells #[pV bb] 81)).alloc (ndC kd va vb vc (.slice la ls.length lc) txt vn vt vp)).heap[w.heap.size+1]? =some (.cells #[iV kd,iV va,iV vb,iV vc,.slice la ls.length lc,.string ⟨txt.toArray⟩,iV vn,iV vt,iV vp] 70 (0,0)):=by
  have:=heap_alloc_new (w.alloc (.cells #[pV bb] 81)) (ndC kd va vb vc (.slice la ls.length lc) txt vn vt vp);simpa using this
 have cb0:((w.alloc (.cells #[pV bb] 81)).alloc (ndC kd va vb vc (.slice la ls.length lc) txt vn vt vp)).cell? (aD w.heap.size 0)=some (pV bb):=cr hb0 rfl;have KA:=A0 (Bkp.still (B:=B) (bb:=bb) (tv:=tv) hca);obtain⟨bk1,bk2⟩:=h.blk;have hho:=A3 ho hca (λ_ _ x=>x);unfold maxLen at hn2;subst hk;have htl2:(M.G5 fs txt (i:Int)).length=fs.length:=M.Q8 fs txt (i:Int) hfs;have OW:Hid (∀a,Chg No ((w.alloc (.cells #[pV bb] 81)).alloc (ndC 16 va vb vc (.slice la ls.length lc) txt vn vt vp)) a->Calls prog 127 #[pV bb] a λe w'=>∃q,e= .returned (.map (some q))/\w'.cell? (aD (w.heap.size+1) 5)=some (.string ⟨txt.toArray⟩)/\w.heap.size+1<w'.heap.size/\∃w3,(Instr.mapUpdate 153 (.map (some q)) (.string ⟨txt.toArray⟩) (iV (i:Int))).run prog w'= .ok () w3/\
  w3.heap[w.heap.size]? =some (.cells #[pV bb] 81 (0,0))/\w3.heap[w.heap.size+1]? =some (.cells #[iV 16,iV va,iV vb,iV vc,.slice la ls.length lc,.string ⟨txt.toArray⟩,iV vn,iV vt,iV vp] 70 (0,0))/\Hid (∀a2,Chg No w3 a2->Calls prog 29 #[.agg #[iV 16,iV va,iV vb,iV vc,.slice la ls.length lc,.string ⟨txt.toArray⟩,iV vn,iV vt,iV vp]] a2 λe w4=>∃ga gc,e= .returned (.slice ga (M.px b qs).length gc)/\w4.cell? (aD w.heap.size 0)=some (pV bb)/\
  Hid (Calls prog 66 #[pV bb,.slice ga (M.px b qs).length gc] w4 (N0b w0 w B bb (.slice (some (aD g 0)) N.length nc) tv N m' ts R)))):=by
  intro a ha;refine(W4b h1 hfs (by omega) (by omega) txt htl (i:Int) ⟨by omega,by omega⟩ a ha).mono ?_;rintro e w' ⟨q,rfl,hc,-,w3,hu,hk3,hb3⟩;obtain⟨y1,y2⟩:=h1.tv hb0 (by decide);obtain⟨z1,z2⟩:=h1.tv hb1 (by decide);have hc5:w'.cell? (aD (w.heap.size+1) 5)=some (.string ⟨txt.toArray⟩):=A8 hc (cr hb1 rfl);have q0:=hk3.other hb0 (by decide) y1 y2;refine⟨q,rfl,hc5,blt hc5,w3,hu,q0,hk3.other hb1 (by decide) z1 z2,λa2 ha2=> ?_⟩;have hP:=N0a (l0:=[]) (ts:=ts) (KA.out.trans hk3) hb3 (M.M4 hfs htl2) hpt hC (by omega) (by omega) hts la lc (hk3.row hho (λe=> ?_) (λg' hg' e=> ?_)) hll w.heap.size (cr q0 rfl) m' hm' a2 ha2
  · rw[M.Br.and_zero,<-hR]at hP;exact hP
  · have:=hlow _ e;have:=h.low.1;have:=h.hz;omega
  · have:=hlow _ hg';have:=h.low.2 g' e;have:=h.hz;omega
 have cn5:((w.alloc (.cells #[pV bb] 81)).alloc (ndC 16 va vb vc (.slice la ls.length lc) txt vn vt vp)).cell? (aD (w.heap.size+1) 5)=some (.string ⟨txt.toArray⟩):=cr hb1 rfl;generalize (M.px b qs).length=pl at *;clear hts hpt hC h1 h hnd hb0 hb1 hho ho hlow hbel hN hR;go_enter func92,ntmps92;go_wp2_with fail
 go_region_with (go_at_call 127;refine(OW.out _ (Chg.drewN _ _ 1)).mono ?_;rintro e w2 ⟨q,rfl,d5,dl,w5,hup,p0,p1,PA⟩)
 all_goals
  have c0:w5.cell? (aD w.heap.size 0)=some (pV bb):=cr p0 rfl;have n0:w5.cell? (aD (w.heap.size+1) 0)=some (iV 16):=cr p1 rfl;have n1:w5.cell? (aD (w.heap.size+1) 1)=some (iV va):=cr p1 rfl;have n2:w5.cell? (aD (w.heap.size+1) 2)=some (iV vb):=cr p1 rfl;have n3:w5.cell? (aD (w.heap.size+1) 3)=some (iV vc):=cr p1 rfl;have n4:w5.cell? (aD (w.heap.size+1) 4)=some (.slice la ls.length lc):=cr p1 rfl;have n5:w5.cell? (aD (w.heap.size+1) 5)=some (.string ⟨txt.toArray⟩):=cr p1 rfl;have n6:w5.cell? (aD (w.heap.size+1) 6)=some (iV vn):=cr p1 rfl;have n7:w5.cell? (aD (w.heap.size+1) 7)=some (iV vt):=cr p1 rfl;have n8:w5.cell? (aD (w.heap.size+1) 8)=some (iV vp):=cr p1 rfl;have ln:=(ltG p1);clear OW hup d5 dl p0 p1 cn5;go_wp2_with fail
  go_region_with (first|(go_at_call 29;refine(PA.out _ (Chg.drewN _ _ 1)).mono ?_;rintro e w3 ⟨ga,gc,rfl,cb3,H3⟩)|(go_at_call 66;refine(Hid.out H3).mono ?_;rintro e w4 (⟨er,p,rfl,H4⟩|⟨rfl,H4⟩);exact⟨rfl,H4.out⟩))
  all_goals go_wp2_with fail
  all_goals go_end0
  all_goals exact H4.out
theorem BnPost.set{w w1 w2:World}{m m':Nat}{ts:List Int}{f:List M.Fr}{l:List (Nat×Int)}{x:List UInt8}{j:Int}(hk:Bkp B bb tv w w2)(h:Bnt w0 w2 B bb nv tv m (M.G5 f x j) (M.upd ts l))(hm:m<=m')(hc:Chg No w2 w1):BnPost w0 w B bb nv tv N m' ts ((M.Br.ok f l).setF x j) (rT) w1:=by
 have h:=h.kept hc;obtain⟨av,ms,hs⟩:=h.st;exact⟨hk.trans (Bkp.still hc),rfl,h.hz,h.le,h.bel,av,ms,hs.more hm⟩
theorem N5d(hN:Nrow w0 nv N)(k2:Int)(jj I nE:Nat)(hjj:jj<N.length)(hI:I<=100000)(hk2:(N[jj]).kind=k2)(w:World)(m:Nat)(fs:List M.Fr)(ts:List Int)(tx:List UInt8)(h:Bnt w0 w B bb nv tv m fs ts)(hfs:fs≠[])(hm:m+2+2 * nE<=100000)(hf:fs.length<=100000)(hx:tx.length<=1000000)
 (la:Option Addr) (ll lc:Nat) (kd vb vc:Int) (vn vt vp:Int) (hvp:vp=atI N I) (R:List M.Fr->M.Br) (SL:∀f f' l,f≠[]->R f= .ok f' l->f'.length=f.length)
 (HA:∀(a:World) (m1:Nat) (f:List M.Fr) (g:Nat),Bnt w0 a B bb nv tv m1 f ts->f.length=fs.length->m1<=m+1->B<=g->g≠bb->tv.ownBlock≠some g->a.ownsRow 0 3 1 (.slice (some (aD g 0)) 1 1) 1 (B8 [(jj:Int)])->Calls prog 66 #[pV bb,.slice (some (aD g 0)) 1 1] a (BnPost w0 a B bb nv tv N (m1+2 * nE) ts (R f))):
 Calls prog 126 #[pV bb,iV (I:Int),.agg #[iV kd,iV (jj:Int),iV vb,iV vc,.slice la ll lc,.string ⟨tx.toArray⟩,iV vn,iV vt,iV vp]] w (BnPost w0 w B bb nv tv N (m+2+2 * nE) ts (if (M.C5a fs tx).isSome then .bad 6 I else (R (if k2=6 then M.G5 fs tx (I:Int) else fs)).setF tx (I:Int))):=by
 have hc0:=Chg.alloc No w (ndC kd (jj:Int) vb vc (.slice la ll lc) tx vn vt vp);have hb0:=heap_alloc_new w (ndC kd (jj:Int) vb vc (.slice la ll lc) tx vn vt vp);have h1:=h.kept hc0;have hsz:w.heap.size<(w.alloc (ndC kd (jj:Int) vb vc (.slice la ll lc) tx vn vt vp)).heap.size:=by simp
 obtain⟨x1,x2⟩:=h1.tv hb0 (by decide);have FC:Hid (∀a,Bkp B bb tv (w.alloc (ndC kd (jj:Int) vb vc (.slice la ll lc) tx vn vt vp)) a->a.cell? (aD w.heap.size 1)=some (iV (jj:Int))/\a.cell? (aD w.heap.size 5)=some (.string ⟨tx.toArray⟩)/\a.cell? (aD w.heap.size 8)=some (iV vp)/\w.heap.size<a.heap.size):=λa ha=>by
  have hb:=ha.other hb0 (by decide) x1 x2;exact⟨cr hb rfl,cr hb rfl,cr hb rfl,(ltG hb)⟩
 have FN:Hid (∀a m f ts',Bnt w0 a B bb nv tv m f ts'->∃g nc,nv= .slice (some (aD g 0)) N.length nc/\g<a.heap.size/\N.length<=nc/\nc<=maxLen/\a.cell? (aD g (jj * 9))=some (iV k2)/\a.cell? (aD bb 0)=some nv/\bb<a.heap.size):=λa m f ts' ha=>by
  obtain⟨g,nc,la2,lc2,e1,e2,e3,e4,e5,_,_⟩:=hN.at ha.bel jj hjj;obtain⟨b1,b2⟩:=ha.blk;exact⟨g,nc,e1,e2,e3,e4,by rw[e5.1,hk2],b1,b2⟩
 have OW:Hid (∀a m1 f ts',Bnt w0 a B bb nv tv m1 f ts'->f.length=fs.length->m1<=100000->Bkp B bb tv (w.alloc (ndC kd (jj:Int) vb vc (.slice la ll lc) tx vn vt vp)) a->∀a2,Chg No a a2->
  Calls prog 127 #[pV bb] a2 λe w'=>∃q,e= .returned (.map (some q))/\Chg No a w'/\(w'.cell? (aD w.heap.size 5)=some (.string ⟨tx.toArray⟩)/\w.heap.size<w'.heap.size)/\(Instr.lookup 153 (.map (some q)) (.string ⟨tx.toArray⟩) true).run prog w'= .ok (.tuple #[iV ((M.C5a f tx).getD 0),.bool (M.C5a f tx).isSome]) w'/\
  ∃w3,(Instr.mapUpdate 153 (.map (some q)) (.string ⟨tx.toArray⟩) (iV (I:Int))).run prog w'= .ok () w3/\Hid (Bkp B bb tv a w3/\Bnt w0 w3 B bb nv tv (m1+1) (M.G5 f tx (I:Int)) ts')):=λa m1 f ts' ha hl hm1 hka a2 h2=>by
  refine(W4b ha (M.M4 hfs hl) (by omega) hm1 tx hx (I:Int) ⟨by omega,by omega⟩ a2 h2).mono ?_;rintro e w' ⟨q,rfl,hc,hr,w3,hu,H⟩;have:=FC.out w' (hka.trans (Bkp.still hc));exact⟨q,rfl,hc,⟨this.2.1,this.2.2.2⟩,hr,w3,hu,H⟩
 have HG:=A0 V9;have HVP:=A0 hvp;clear hvp;have HC0:=A0 (Bkp.still (B:=B) (bb:=bb) (tv:=tv) hc0);have H1:=A0 h1;have HAA:=A0 HA;have HSL:=A0 SL;have HLEN:Hid (∀a m f ts',Bnt w0 a B bb nv tv m f ts'->B<=a.heap.size):=λa m f ts' ha=>ha.le;have HROW:Hid (∀(a:World),(a.alloc (.cells #[iV (jj:Int)] 3)).ownsRow 0 3 1 (.slice (some (aD a.heap.size 0)) 1 1) 1 (B8 [(jj:Int)])):=λa=>W8 (w:=a) (base:=0) (wQ _) [(jj:Int)] (by simp);have HNEW:Hid (∀a m f ts',Bnt w0 a B bb nv tv m f ts'->a.heap.size≠bb/\tv.ownBlock≠some a.heap.size):=λa m f ts' ha=>by
  obtain⟨av,ms,hs⟩:=ha.st;have:=(ltG hs.blk);refine⟨by omega,λe=> ?_⟩;have:=(hs.tos.lt _ e).2;omega
 generalize hRR:(if (M.C5a fs tx).isSome then M.Br.bad 6 I else (R (if k2=6 then M.G5 fs tx (I:Int) else fs)).setF tx (I:Int))=RR;have HRR:=A0 hRR;obtain⟨c1,c5,c8,-⟩:=FC.out _ (Bkp.refl _ _ _ _);have hfl:fs.length=fs.length:=rfl;have OW1:=A0 (OW.out _ m fs ts h1 rfl (by omega) (Bkp.refl _ _ _ _));obtain⟨b1,b2⟩:=h1.blk;clear hc0 hb0 h1 h hRR HA SL x1 x2 hfl hN hk2;generalize hbl:(M.C5a fs tx).isSome=bl at *;generalize (M.C5a fs tx).getD 0=zz at *;clear hbl;go_enter func126,ntmps126;go_wp2_with fail
 go_region_with (go_at_call 127;refine(OW1.out _ (Chg.drewN _ _ 1)).mono ?_;rintro e w1 ⟨q,rfl,hc1,⟨d5,dl⟩,hlk,-⟩)
 all_goals
  have K1:=A0 (Bkp.still (B:=B) (bb:=bb) (tv:=tv) hc1);have B1:=A0 (H1.out.kept hc1);obtain⟨e1,e5,e8,el⟩:=FC.out w1 K1.out;clear OW1 hlk c1 c5 c8 b1 b2 hsz hc1;cases bl with
  |true=>
   have hr:=HRR.out;rw[if_pos rfl]at hr;subst hr;go_wp2_with fail
   refine(HG.out _ 6 vp).mono ?_;rintro e w2 ⟨rfl,hc2⟩;exact⟨rfl,(HC0.out.trans K1.out).trans (Bkp.still hc2),show gu 6 vp=gu 6 (atI N I) by rw[HVP.out]⟩
  |false=>
   have hr:=HRR.out;rw[if_neg (by decide)]at hr;obtain⟨g,nc,rfl,g1,g2,g3,g4,g5,g6⟩:=FN.out w1 _ _ _ B1.out;unfold maxLen at g3;by_cases hk6:k2=6
   · rw[if_pos hk6]at hr;subst hk6;subst hr;have OW2:=A0 (OW.out w1 m fs ts B1.out rfl (by omega) K1.out);go_wp2_with fail
     go_region
     all_goals go_wp2_with fail
     all_goals go_region_with (go_at_call 127;refine(OW2.out _ (B9 (Chg.drewN _ _ 1) (Chg.drewN _ _ 1))).mono ?_;rintro e w2 ⟨q2,rfl,hc2,⟨f5,fl⟩,-,w3,hup,H3⟩)
     all_goals
      have hk3:=K1.out.trans H3.out.1;have hb3:=H3.out.2;obtain⟨h31,-,-,h3l⟩:=FC.out w3 hk3;have K3:=A0 hk3;have B3:=A0 hb3;clear hk3 hb3 hup f5 fl e1 e5 e8 el OW2;have A2:=A0 (HAA.out (w3.alloc (.cells #[iV (jj:Int)] 3)) (m+1) (M.G5 fs tx (I:Int)) w3.heap.size (B3.out.kept (Chg.alloc No _ _)) (M.Q8 fs tx (I:Int) hfs) (by omega) (HLEN.out _ _ _ _ B3.out) (HNEW.out _ _ _ _ B3.out).1 (HNEW.out _ _ _ _ B3.out).2 (HROW.out _));have KX:=A0 ((K3.out).trans (Bkp.still (B:=B) (bb:=bb) (tv:=tv) (Chg.alloc No w3 (.cells #[iV (jj:Int)] 3))));have SX:=A0 (λf' l e=>(HSL.out (M.G5 fs tx (I:Int)) f' l (M.M4 hfs (M.Q8 fs tx (I:Int) hfs)) e).trans (M.Q8 fs tx (I:Int) hfs));generalize hRf:R (M.G5 fs tx (I:Int))=Rf at *;clear hRf;go_wp2_with fail
      refine A2.out.mono ?_;rintro e w4 ⟨hk4,hr4⟩;have K4:=A0 (KX.out.trans hk4);clear hk4 A2 KX;cases Rf with
      |bad er i=>
       obtain rfl:e=gu er (atI N i):=hr4;exact⟨rfl,HC0.out.trans K4.out,rfl⟩
      |ok f l=>
       obtain⟨rfl,hb4⟩:=hr4;have hl4:=SX.out f l rfl;obtain⟨p1,p5,-,pl⟩:=FC.out w4 K4.out;have OW4:=A0 (OW.out _ _ f (M.upd ts l) hb4 hl4 (by omega) K4.out);obtain⟨q1,q2⟩:=hb4.blk;clear hb4 SX;go_wp2_with fail
       go_region_with (go_at_call 127;refine(OW4.out _ (Chg.drewN _ _ 1)).mono ?_;rintro e w5 ⟨q,rfl,hc5,⟨r5,rl⟩,-,w6,hup,H6⟩)
       all_goals go_wp2_with fail
       all_goals go_end0
       all_goals exact BnPost.set (HC0.out.trans (K4.out.trans H6.out.1)) H6.out.2 (by omega) (Chg.refl _ _)
   · rw[if_neg hk6]at hr;have hk6':(k2==6)=false:=by simp[hk6]
     subst hr;have FD:Hid (Bnt w0 w1.drew B bb (.slice (some (aD g 0)) N.length nc) tv m fs ts):=B1.out.kept (Chg.drewN _ _ 1);have KD:=A0 (K1.out.trans (Bkp.still (B:=B) (bb:=bb) (tv:=tv) (Chg.drewN No w1 1)));go_wp2_with fail
     go_region
     all_goals
      have A2:=A0 (HAA.out (w1.drew.alloc (.cells #[iV (jj:Int)] 3)) (m) (fs) w1.drew.heap.size (FD.out.kept (Chg.alloc No _ _)) (rfl) (by omega) (HLEN.out _ _ _ _ FD.out) (HNEW.out _ _ _ _ FD.out).1 (HNEW.out _ _ _ _ FD.out).2 (HROW.out _));have KX:=A0 ((KD.out).trans (Bkp.still (B:=B) (bb:=bb) (tv:=tv) (Chg.alloc No w1.drew (.cells #[iV (jj:Int)] 3))));have SX:=A0 (λf' l e=>(HSL.out (fs) f' l (M.M4 hfs (rfl)) e).trans (rfl));generalize hRf:R (fs)=Rf at *;clear hRf;go_wp2_with fail
      refine A2.out.mono ?_;rintro e w4 ⟨hk4,hr4⟩;have K4:=A0 (KX.out.trans hk4);clear hk4 A2 KX;cases Rf with
      |bad er i=>
       obtain rfl:e=gu er (atI N i):=hr4;exact⟨rfl,HC0.out.trans K4.out,rfl⟩
      |ok f l=>
       obtain⟨rfl,hb4⟩:=hr4;have hl4:=SX.out f l rfl;obtain⟨p1,p5,-,pl⟩:=FC.out w4 K4.out;have OW4:=A0 (OW.out _ _ f (M.upd ts l) hb4 hl4 (by omega) K4.out);obtain⟨q1,q2⟩:=hb4.blk;clear hb4 SX;go_wp2_with fail
       go_region_with (go_at_call 127;refine(OW4.out _ (Chg.drewN _ _ 1)).mono ?_;rintro e w5 ⟨q,rfl,hc5,⟨r5,rl⟩,-,w6,hup,H6⟩)
       all_goals go_wp2_with fail
       all_goals go_end0
       all_goals exact BnPost.set (HC0.out.trans (K4.out.trans H6.out.1)) H6.out.2 (by omega) (Chg.refl _ _)
theorem K9c(hN:Nrow w0 nv N)(i:Nat)(hi:i<N.length)(w:World)(m:Nat)(fs:List M.Fr)(ts:List Int)(h:Bnt w0 w B bb nv tv m fs ts)(hfs:fs≠[])(k2:Int)(jj nE:Nat)(hjj:jj<N.length)(hk2:(N[jj]).kind=k2)(hm:m+2+2 * nE<=100000)(hf:fs.length<=100000)(htl:(N[i]).text.length<=1000000)(hi5:i<=100000)(hk:(N[i]).kind=17)(hva:(N[i]).a=(jj:Int))(F:List M.Fr->M.Br)(SL:∀f f' l,f≠[]->F f= .ok f' l->f'.length=f.length)
 (HA:∀(a:World) (m1:Nat) (f:List M.Fr) (g:Nat),Bnt w0 a B bb nv tv m1 f ts->f.length=fs.length->m1<=m+1->B<=g->g≠bb->tv.ownBlock≠some g->a.ownsRow 0 3 1 (.slice (some (aD g 0)) 1 1) 1 (B8 [(jj:Int)])->Calls prog 66 #[pV bb,.slice (some (aD g 0)) 1 1] a (BnPost w0 a B bb nv tv N (m1+2 * nE) ts (F f))) (R:M.Br) (hR:R=if (M.C5a fs (N[i]).text).isSome then .bad 6 i else (F (if k2=6 then M.G5 fs (N[i]).text (i:Int) else fs)).setF (N[i]).text (i:Int)):
 Calls prog 92 #[pV bb,iV (i:Int)] w (BnPost w0 w B bb nv tv N (m+2+2 * nE) ts R):=by
 have hbel:=h.bel;have hN0:=hN;have hat:atI N i=(N[i]).at':=by
  unfold atI;rw[lQ,gQ hi];rfl
 obtain⟨g,nc,la,lc,rfl,hg,hn1,hn2,⟨x0,x1,x2,x3,x4,x5,x6,x7,x8⟩,ho,hlow⟩:=hN.at h.bel i hi;generalize hnd:N[i]=nd at hat htl hk hva hR x0 x1 x2 x3 x4 x5 x6 x7 x8 ho hlow;obtain⟨kd,va,vb,vc,ls,txt,vn,vt,vp⟩:=nd;simp only at x0 x1 x2 x3 x4 x5 x6 x7 x8 ho hlow htl hk hva hR;have hca:Chg No w ((w.alloc (.cells #[pV bb] 81)).alloc (ndC kd va vb vc (.slice la ls.length lc) txt vn vt vp)):=B9 (Chg.alloc No _ _) (Chg.alloc No _ _);have h1:=h.kept hca;have hb0:((w.alloc (.cells #[pV bb] 81)).alloc (ndC kd va vb vc (.slice la ls.length lc) txt vn vt vp)).heap[w.heap.size]? =some (.cells #[pV bb] 81 (0,0)):=by
  rw[Below.heap_alloc _ _ _ (by simp)];have:=heap_alloc_new w (.cells #[pV bb] 81);simpa using this
 have hb1:((w.alloc (.cells #[pV bb] 81)).alloc (ndC kd va vb vc (.slice la ls.length lc) txt vn vt vp)).heap[w.heap.size+1]? =some (.cells #[iV kd,iV va,iV vb,iV vc,.slice la ls.length lc,.string ⟨txt.toArray⟩,iV vn,iV vt,iV vp] 70 (0,0)):=by
  have:=heap_alloc_new (w.alloc (.cells #[pV bb] 81)) (ndC kd va vb vc (.slice la ls.length lc) txt vn vt vp);simpa using this
 have cb0:((w.alloc (.cells #[pV bb] 81)).alloc (ndC kd va vb vc (.slice la ls.length lc) txt vn vt vp)).cell? (aD w.heap.size 0)=some (pV bb):=cr hb0 rfl;have KA:=A0 (Bkp.still (B:=B) (bb:=bb) (tv:=tv) hca);obtain⟨bk1,bk2⟩:=h.blk;have hho:=A3 ho hca (λ_ _ x=>x);unfold maxLen at hn2;subst hk;subst hva;simp only at hat;have HI:=A0 (N5d hN0 k2 jj i nE hjj hi5 hk2 _ m fs ts txt h1 hfs hm hf htl la ls.length lc 17 vb vc vn vt vp hat.symm F SL HA);rw[<-hR]at HI;generalize hRR:R=RR at *;clear hRR HA SL hR h1 h hnd hb0 hb1 hho ho hlow hbel hN hN0 hat hk2;go_enter func92,ntmps92;go_wp2_with fail
 refine HI.out.mono ?_;rintro e w2 hp;have hp:=BnPost.after KA.out hp;have hp2:=hp.2;cases RR with
 |bad er i=>
  obtain rfl:e=gu er (atI N i):=hp2;exact⟨rfl,hp⟩
 |ok f l=>
  obtain⟨rfl,-⟩:=hp2;have HP:=A0 hp;clear hp HI KA;go_wp2;go_end0;exact HP.out
theorem W3c(hN:Nrow w0 nv N)(i:Nat)(hi:i<N.length)(w:World)(m:Nat)(fs:List M.Fr)(ts:List Int)(h:Bnt w0 w B bb nv tv m fs ts)(ps:List M.Nt)(o:Option M.Tr)(tx:List UInt8)(n:Int)(qs:List M.Nt)(hps:∀p∈ps,p.k=16/\U6 w0 B bb nv tv N p)(hqs:∀p∈qs,1<=p.k/\U6 w0 B bb nv tv N p)(b tb:Nat)(he:M.EmL N b tb (ps++[.ty o,.nd 26 tx n qs]))(hm:m+2 * (M.nNL ps+M.nNL qs)<=100000)(hf:fs.length+1+(M.nNL ps+M.nNL qs)<=100000)(hts:ts.length=N.length)(hNl:N.length<=100000)(hk:(N[i]).kind=6)(hva:(N[i]).a=((b+M.nNL ps+M.nNL qs:Nat):Int))(hls:(N[i]).list=M.px b ps)(R:M.Br)(hR:R=(M.bnL true (fs++[M.Fr.no]) b (ps++[.ty o,.nd 26 tx n qs])).pop):
 Calls prog 92 #[pV bb,iV (i:Int)] w (BnPost w0 w B bb nv tv N (m+2 * (M.nNL ps+M.nNL qs)) ts R):=by
 have hbel:=h.bel;have hN0:=hN;obtain⟨g,nc,la,lc,rfl,hg,hn1,hn2,⟨x0,x1,x2,x3,x4,x5,x6,x7,x8⟩,ho,hlow⟩:=hN.at h.bel i hi;generalize hnd:N[i]=nd at hk hva hls x0 x1 x2 x3 x4 x5 x6 x7 x8 ho hlow;obtain⟨kd,va,vb,vc,ls,txt,vn,vt,vp⟩:=nd;simp only at x0 x1 x2 x3 x4 x5 x6 x7 x8 ho hlow hk hva hls;have hca:Chg No w ((w.alloc (.cells #[pV bb] 81)).alloc (ndC kd va vb vc (.slice la ls.length lc) txt vn vt vp)):=B9 (Chg.alloc No _ _) (Chg.alloc No _ _);have h1:=h.kept hca;have hb0:((w.alloc (.cells #[pV bb] 81)).alloc (ndC kd va vb vc (.slice la ls.length lc) txt vn vt vp)).heap[w.heap.size]? =some (.cells #[pV bb] 81 (0,0)):=by
  rw[Below.heap_alloc _ _ _ (by simp)];have:=heap_alloc_new w (.cells #[pV bb] 81);simpa using this
 have hb1:((w.alloc (.cells #[pV bb] 81)).alloc (ndC kd va vb vc (.slice la ls.length lc) txt vn vt vp)).heap[w.heap.size+1]? =some (.cells #[iV kd,iV va,iV vb,iV vc,.slice la ls.length lc,.string ⟨txt.toArray⟩,iV vn,iV vt,iV vp] 70 (0,0)):=by
  have:=heap_alloc_new (w.alloc (.cells #[pV bb] 81)) (ndC kd va vb vc (.slice la ls.length lc) txt vn vt vp);simpa using this
 have cb0:((w.alloc (.cells #[pV bb] 81)).alloc (ndC kd va vb vc (.slice la ls.length lc) txt vn vt vp)).cell? (aD w.heap.size 0)=some (pV bb):=cr hb0 rfl;have KA:=A0 (Bkp.still (B:=B) (bb:=bb) (tv:=tv) hca);obtain⟨bk1,bk2⟩:=h.blk;have hho:=A3 ho hca (λ_ _ x=>x);unfold maxLen at hn2;subst hk;have HI:=A0 (R8b hN0 ps o tx n qs hps hqs b tb _ m fs ts he h1 hm hf hts hNl la lc ls hls hho hlow 6 vb vc ⟨txt.toArray⟩ vn vt vp);rw[<-hR,<-hva]at HI;generalize hRR:R=RR at *;generalize m+2 * (M.nNL ps+M.nNL qs)=mm at *;clear hRR hR h1 h hnd hb0 hb1 hho ho hlow hbel hN hN0 hps hqs he hva hls hts;go_enter func92,ntmps92;go_wp2_with fail
 refine HI.out.mono ?_;rintro e w2 hp;have hp:=BnPost.after KA.out hp;have hp2:=hp.2;cases RR with
 |bad er i=>
  obtain rfl:e=gu er (atI N i):=hp2;exact⟨rfl,hp⟩
 |ok f l=>
  obtain⟨rfl,-⟩:=hp2;have HP:=A0 hp;clear hp HI KA;go_wp2;go_end0;exact HP.out
theorem J1b(hN:Nrow w0 nv N)(i:Nat)(hi:i<N.length)(w:World)(m:Nat)(fs:List M.Fr)(ts:List Int)(h:Bnt w0 w B bb nv tv m fs ts)(ps:List M.Nt)(hps:∀p∈ps,1<=p.k/\U6 w0 B bb nv tv N p)(b tb:Nat)(he:M.EmL N b tb ps)(hm:m+2 * M.nNL ps<=100000)(hf:fs.length+1+M.nNL ps<=100000)(hts:ts.length=N.length)(hk:(N[i]).kind=26)(hls:(N[i]).list=M.px b ps)(R:M.Br)(hR:R=(M.bnL false (fs++[M.Fr.no]) b ps).pop):
 Calls prog 92 #[pV bb,iV (i:Int)] w (BnPost w0 w B bb nv tv N (m+2 * M.nNL ps) ts R):=by
 have hbel:=h.bel;have hN0:=hN;obtain⟨g,nc,la,lc,rfl,hg,hn1,hn2,⟨x0,x1,x2,x3,x4,x5,x6,x7,x8⟩,ho,hlow⟩:=hN.at h.bel i hi;generalize hnd:N[i]=nd at hk hls x0 x1 x2 x3 x4 x5 x6 x7 x8 ho hlow;obtain⟨kd,va,vb,vc,ls,txt,vn,vt,vp⟩:=nd;simp only at x0 x1 x2 x3 x4 x5 x6 x7 x8 ho hlow hk hls;have hca:Chg No w ((w.alloc (.cells #[pV bb] 81)).alloc (ndC kd va vb vc (.slice la ls.length lc) txt vn vt vp)):=B9 (Chg.alloc No _ _) (Chg.alloc No _ _);have h1:=h.kept hca;have hb0:((w.alloc (.cells #[pV bb] 81)).alloc (ndC kd va vb vc (.slice la ls.length lc) txt vn vt vp)).heap[w.heap.size]? =some (.cells #[pV bb] 81 (0,0)):=by
  rw[Below.heap_alloc _ _ _ (by simp)];have:=heap_alloc_new w (.cells #[pV bb] 81);simpa using this
 have hb1:((w.alloc (.cells #[pV bb] 81)).alloc (ndC kd va vb vc (.slice la ls.length lc) txt vn vt vp)).heap[w.heap.size+1]? =some (.cells #[iV kd,iV va,iV vb,iV vc,.slice la ls.length lc,.string ⟨txt.toArray⟩,iV vn,iV vt,iV vp] 70 (0,0)):=by
  have:=heap_alloc_new (w.alloc (.cells #[pV bb] 81)) (ndC kd va vb vc (.slice la ls.length lc) txt vn vt vp);simpa using this
 have cb0:((w.alloc (.cells #[pV bb] 81)).alloc (ndC kd va vb vc (.slice la ls.length lc) txt vn vt vp)).cell? (aD w.heap.size 0)=some (pV bb):=cr hb0 rfl;have KA:=A0 (Bkp.still (B:=B) (bb:=bb) (tv:=tv) hca);obtain⟨bk1,bk2⟩:=h.blk;have hho:=A3 ho hca (λ_ _ x=>x);unfold maxLen at hn2;subst hk;have hne:fs++[M.Fr.no]≠[]:=by simp
 have HI:=A0 (X2b 130 (λ_ _=>by go_simp) h1 (N:=N) (by omega) (m+2 * M.nNL ps) (M.bnL false (fs++[M.Fr.no]) b ps) (M.Sl.small (M.R6 _ _ _ _ hne) (by omega)) (pV w.heap.size) (pV (w.heap.size+1)) (λa ha hb=>by
  obtain⟨y1,y2⟩:=h1.tv hb0 (by decide);obtain⟨z1,z2⟩:=h1.tv hb1 (by decide);have hlw:=h.low;have hz:=h.hz;refine B2c ps hps b tb a m (fs++[M.Fr.no]) ts he hb hne hm (by simp;omega) hts la lc ls hls ?_ hlow _ _ (ha.other hb0 (by decide) y1 y2) 26 va vb vc ⟨txt.toArray⟩ vn vt vp (ha.other hb1 (by decide) z1 z2);refine ha.row hho (λe=> ?_) (λg hg e=> ?_)
  · have:=hlow _ e;omega
  · have:=hlow _ hg;have:=hlw.2 g e
    omega))
 rw[<-hR]at HI;have hmf:=mkf;generalize hRR:R=RR at *;generalize m+2 * M.nNL ps=mm at *;clear hRR hR h1 h hnd hb0 hb1 hho ho hlow hbel hN hN0 hps he hls hts;go_enter func92,ntmps92;go_wp2_with fail
 refine HI.out.mono ?_;rintro e w2 hp;have hp:=BnPost.after KA.out hp;have hp2:=hp.2;cases RR with
 |bad er i=>
  obtain rfl:e=gu er (atI N i):=hp2;exact⟨rfl,hp⟩
 |ok f l=>
  obtain⟨rfl,-⟩:=hp2;have HP:=A0 hp;clear hp HI KA;go_wp2;go_end0;exact HP.out
end
end Go.Proofs.YtfhhipefecekkaaGreatDoor
