/-
  A part of the proof.
-/
import Derived.Test.YtfhhipefecekkaaGreatDoorBindC
set_option maxHeartbeats 16000000
set_option maxRecDepth 100000
namespace Go.Proofs.YtfhhipefecekkaaGreatDoor
open Go.Proofs.Tryz
open Go.RowKit Go.Maps
section
variable{w0:World}{B bb:Nat}{nv tv:Value}{N:List M.Nd}
theorem K8c(hN:Nrow w0 nv N)(i:Nat)(hi:i<N.length)(w:World)(m:Nat)(fs:List M.Fr)(ts:List Int)(h:Bnt w0 w B bb nv tv m fs ts)(hfs:fs≠[])(b tb:Nat)(ps qs:List M.Nt)(hpt:E7c N b tb ps N[i] qs)(hC:∀p∈ps,1<=p.k->U6 w0 B bb nv tv N p)(m':Nat)(hm':m+2 * M.nNL ps<=m')(hm:m'<=100000)(hf:fs.length+M.nNL ps<=100000)(hts:ts.length=N.length)(hll:(N[i]).list.length<=100000)(htl:(N[i]).text.length<=1000000)(hk:(N[i]).kind=5\/(N[i]).kind=18)(R:M.Br)(hR0:M.look (N[i]).text fs=none->R= .bad 5 i)(hR1:∀j,M.look (N[i]).text fs=some j->R=(M.Br.ok fs [(i,j)]).and λf=>M.bnL false f b ps):
 Calls prog 92 #[pV bb,iV (i:Int)] w (BnPost w0 w B bb nv tv N m' ts R):=by
 have hbel:=h.bel;obtain⟨g,nc,la,lc,rfl,hg,hn1,hn2,⟨x0,x1,x2,x3,x4,x5,x6,x7,x8⟩,ho,hlow⟩:=hN.at h.bel i hi;generalize hnd:N[i]=nd at *;obtain⟨kd,va,vb,vc,ls,txt,vn,vt,vp⟩:=nd;simp only at x0 x1 x2 x3 x4 x5 x6 x7 x8 ho hlow hll htl hk hR0 hR1;have hca:Chg No w ((w.alloc (.cells #[pV bb] 81)).alloc (ndC kd va vb vc (.slice la ls.length lc) txt vn vt vp)):=B9 (Chg.alloc No _ _) (Chg.alloc No _ _);have h1:=h.kept hca;have hb0:((w.alloc (.cells #[pV bb] 81)).alloc (ndC kd va vb vc (.slice la ls.length lc) txt vn vt vp)).heap[w.heap.size]? =some (.cells #[pV bb] 81 (0,0)):=by
  rw[Below.heap_alloc _ _ _ (by simp)];have:=heap_alloc_new w (.cells #[pV bb] 81);simpa using this
 have hb1:((w.alloc (.cells #[pV bb] 81)).alloc (ndC kd va vb vc (.slice la ls.length lc) txt vn vt vp)).heap[w.heap.size+1]? =some (.cells #[iV kd,iV va,iV vb,iV vc,.slice la ls.length lc,.string ⟨txt.toArray⟩,iV vn,iV vt,iV vp] 70 (0,0)):=by
  have:=heap_alloc_new (w.alloc (.cells #[pV bb] 81)) (ndC kd va vb vc (.slice la ls.length lc) txt vn vt vp);simpa using this
 have cb0:((w.alloc (.cells #[pV bb] 81)).alloc (ndC kd va vb vc (.slice la ls.length lc) txt vn vt vp)).cell? (aD w.heap.size 0)=some (pV bb):=cr hb0 rfl;have KA:=A0 (Bkp.still (B:=B) (bb:=bb) (tv:=tv) hca);obtain⟨bk1,bk2⟩:=h.blk;have hho:=A3 ho hca (λ_ _ x=>x);unfold maxLen at hn2;have hat:atI N i=vp:=by
  unfold atI;rw[lQ,gQ hi,hnd];rfl
 have hit:i<ts.length:=by omega
 obtain⟨gt,tc,htv,t1,t2,t3,-,-,t4,-,-,-⟩:=h.write i hit 0;subst htv;have FI:Hid (∀a,Chg No ((w.alloc (.cells #[pV bb] 81)).alloc (ndC kd va vb vc (.slice la ls.length lc) txt vn vt vp)) a->Calls prog 125 #[pV bb,.agg #[iV kd,iV va,iV vb,iV vc,.slice la ls.length lc,.string ⟨txt.toArray⟩,iV vn,iV vt,iV vp]] a λe w3=>
  (e=gu 5 vp/\Hid (BnPost w0 w B bb (.slice (some (aD g 0)) N.length nc) (.slice (some (aD gt 0)) ts.length tc) N m' ts R (gu 5 vp) w3))\/
  (∃j,e= .returned (iV j)/\(∃z,w3.cell? (aD gt i)=some (iV z))/\w3.frozen? (aD gt i)=false/\w3.cell? (aD bb 2)=some (.slice (some (aD gt 0)) ts.length tc)/\w3.cell? (aD w.heap.size 0)=some (pV bb)/\(bb<w3.heap.size/\gt<w3.heap.size)/\
   Hid (M.look txt fs=some j/\Bkp B bb (.slice (some (aD gt 0)) ts.length tc) w (w3.setCell (aD gt i) (iV j))/\Bnt w0 (w3.setCell (aD gt i) (iV j)) B bb (.slice (some (aD g 0)) N.length nc) (.slice (some (aD gt 0)) ts.length tc) m fs (M.upd ts [(i,j)])/\Chg (λk=>k=gt) ((w.alloc (.cells #[pV bb] 81)).alloc (ndC kd va vb vc (.slice la ls.length lc) txt vn vt vp)) (w3.setCell (aD gt i) (iV j))))):=by
  intro a ha;have h2:=h1.kept ha;obtain⟨av,ms,hs⟩:=h2.st;have hlen:=hs.len;refine(E5c hs (by omega) kd va vb vc la ls.length lc txt vn vt vp htl).mono ?_;rintro e w3 ⟨hc3,he⟩;have hca3:=B9 ha hc3;have h3:=h2.kept hc3;cases hl:M.look txt fs with
  |none=>
   rw[hl]at he;exact .inl ⟨he,KA.out.trans (Bkp.still hca3),by rw[hR0 hl];show gu 5 vp=gu 5 (atI N i);rw[hat]⟩
  |some j=>
   rw[hl]at he;obtain⟨gt',tc',htv,u1,u2,u3,u4,u5,u6,u7,u8,u9⟩:=h3.write i hit j;simp only[Value.slice.injEq,zQ,Addr.mk.injEq,and_true,true_and]at htv;obtain⟨rfl,rfl⟩:=htv;exact .inr ⟨j,he,⟨_,u4⟩,u5,u6,A8 hca3 cb0,⟨u7,u1⟩,rfl,(KA.out.trans (Bkp.still hca3)).trans u8,u9,Chg.trans (hca3.mono λ_ _ x=>x.elim) (Chg.set w3 (aD gt i) _) (λ_ _ x=>x)⟩
 have PB:Hid (∀(j:Int) (w3:World),Hid (M.look txt fs=some j/\Bkp B bb (.slice (some (aD gt 0)) ts.length tc) w (w3.setCell (aD gt i) (iV j))/\Bnt w0 (w3.setCell (aD gt i) (iV j)) B bb (.slice (some (aD g 0)) N.length nc) (.slice (some (aD gt 0)) ts.length tc) m fs (M.upd ts [(i,j)])/\Chg (λk=>k=gt) ((w.alloc (.cells #[pV bb] 81)).alloc (ndC kd va vb vc (.slice la ls.length lc) txt vn vt vp)) (w3.setCell (aD gt i) (iV j)))->
  (∀o v,((w.alloc (.cells #[pV bb] 81)).alloc (ndC kd va vb vc (.slice la ls.length lc) txt vn vt vp)).cell? (aD w.heap.size o)=some v->(w3.setCell (aD gt i) (iV j)).cell? (aD w.heap.size o)=some v)/\(∀o v,((w.alloc (.cells #[pV bb] 81)).alloc (ndC kd va vb vc (.slice la ls.length lc) txt vn vt vp)).cell? (aD (w.heap.size+1) o)=some v->(w3.setCell (aD gt i) (iV j)).cell? (aD (w.heap.size+1) o)=some v)/\
  ∀a,Chg No (w3.setCell (aD gt i) (iV j)) a->Calls prog 29 #[.agg #[iV kd,iV va,iV vb,iV vc,.slice la ls.length lc,.string ⟨txt.toArray⟩,iV vn,iV vt,iV vp]] a λe w4=>∃ga gc,e= .returned (.slice ga (M.px b qs).length gc)/\w4.cell? (aD w.heap.size 0)=some (pV bb)/\
  Hid (Calls prog 66 #[pV bb,.slice ga (M.px b qs).length gc] w4 (N0b w0 w B bb (.slice (some (aD g 0)) N.length nc) (.slice (some (aD gt 0)) ts.length tc) N m' ts R))):=by
  rintro j w3 ⟨hl,hk3,hb3,hc3⟩;have hgt:∀q,w.heap.size<=q->q≠gt:=λq hq=>by omega
  have hcell:∀q,w.heap.size<=q->∀o v,((w.alloc (.cells #[pV bb] 81)).alloc (ndC kd va vb vc (.slice la ls.length lc) txt vn vt vp)).cell? (aD q o)=some v->(w3.setCell (aD gt i) (iV j)).cell? (aD q o)=some v:=λq hq o v e=>by
   have hlt:=blt e;have:=hc3.block q hlt (hgt q hq);unfold World.cell? at *;simp only at *;rw[this];exact e
  refine⟨hcell _ (vQ _),hcell _ (by omega),λa ha=> ?_⟩;rw[hR1 j hl];refine N0a hk3 hb3 hfs hpt hC (by omega) hf hts la lc ?_ hll w.heap.size (hcell _ (vQ _) _ _ cb0) m' hm' a ha;refine A3 hho hc3 λq hq e=> ?_;have:=hlow q hq;have h5:=(h.fresh (q:=gt));have:=h.low.2 gt rfl;have:=h.hz;omega
 have cn:∀o v,(#[iV kd,iV va,iV vb,iV vc,.slice la ls.length lc,.string ⟨txt.toArray⟩,iV vn,iV vt,iV vp]:Array Value)[o]? =some v->((w.alloc (.cells #[pV bb] 81)).alloc (ndC kd va vb vc (.slice la ls.length lc) txt vn vt vp)).cell? (aD (w.heap.size+1) o)=some v:=λo v e=>by rw[cell_of_row _ _ o _ _ _ hb1];exact e
 have CN:=A0 cn;have bkx:=t4;clear cn;generalize (M.px b qs).length=pl at *;clear hts hpt hC h1 h hnd hb0 hb1 hho ho hlow hbel hN hR0 hR1 hat;have n0:((w.alloc (.cells #[pV bb] 81)).alloc (ndC kd va vb vc (.slice la ls.length lc) txt vn vt vp)).cell? (aD (w.heap.size+1) 0)=some (iV kd):=CN.out 0 _ rfl;have n1:((w.alloc (.cells #[pV bb] 81)).alloc (ndC kd va vb vc (.slice la ls.length lc) txt vn vt vp)).cell? (aD (w.heap.size+1) 1)=some (iV va):=CN.out 1 _ rfl;have n2:((w.alloc (.cells #[pV bb] 81)).alloc (ndC kd va vb vc (.slice la ls.length lc) txt vn vt vp)).cell? (aD (w.heap.size+1) 2)=some (iV vb):=CN.out 2 _ rfl;have n3:((w.alloc (.cells #[pV bb] 81)).alloc (ndC kd va vb vc (.slice la ls.length lc) txt vn vt vp)).cell? (aD (w.heap.size+1) 3)=some (iV vc):=CN.out 3 _ rfl;have n4:((w.alloc (.cells #[pV bb] 81)).alloc (ndC kd va vb vc (.slice la ls.length lc) txt vn vt vp)).cell? (aD (w.heap.size+1) 4)=some (.slice la ls.length lc):=CN.out 4 _ rfl;have n5:((w.alloc (.cells #[pV bb] 81)).alloc (ndC kd va vb vc (.slice la ls.length lc) txt vn vt vp)).cell? (aD (w.heap.size+1) 5)=some (.string ⟨txt.toArray⟩):=CN.out 5 _ rfl;have n6:((w.alloc (.cells #[pV bb] 81)).alloc (ndC kd va vb vc (.slice la ls.length lc) txt vn vt vp)).cell? (aD (w.heap.size+1) 6)=some (iV vn):=CN.out 6 _ rfl;have n7:((w.alloc (.cells #[pV bb] 81)).alloc (ndC kd va vb vc (.slice la ls.length lc) txt vn vt vp)).cell? (aD (w.heap.size+1) 7)=some (iV vt):=CN.out 7 _ rfl;have n8:((w.alloc (.cells #[pV bb] 81)).alloc (ndC kd va vb vc (.slice la ls.length lc) txt vn vt vp)).cell? (aD (w.heap.size+1) 8)=some (iV vp):=CN.out 8 _ rfl;have l1:w.heap.size+1<((w.alloc (.cells #[pV bb] 81)).alloc (ndC kd va vb vc (.slice la ls.length lc) txt vn vt vp)).heap.size:=by simp
 have l2:bb<((w.alloc (.cells #[pV bb] 81)).alloc (ndC kd va vb vc (.slice la ls.length lc) txt vn vt vp)).heap.size:=by simp;omega
 have l3:gt<((w.alloc (.cells #[pV bb] 81)).alloc (ndC kd va vb vc (.slice la ls.length lc) txt vn vt vp)).heap.size:=by simp;omega
 have bk3:((w.alloc (.cells #[pV bb] 81)).alloc (ndC kd va vb vc (.slice la ls.length lc) txt vn vt vp)).cell? (aD bb 2)=some (.slice (some (aD gt 0)) ts.length tc):=A8 hca t4;have hg:(kd==5)=true\/(kd==5)=false/\(kd==18)=true:=by
  rcases hk with rfl|rfl
  · exact .inl rfl
  · exact .inr ⟨rfl,rfl⟩
 clear hk;rcases hg with g5|⟨g5,g18⟩;all_goals
  go_enter func92,ntmps92;go_wp2_with fail
  generalize ((w.alloc (.cells #[pV bb] 81)).alloc (ndC kd va vb vc (.slice la ls.length lc) txt vn vt vp))=wz at *;try clear x0 x1 x2 x3 x4 x5 x6 x7 x8
  try clear CN KA hca
  unfold maxLen at t3;rename_i K aK;have REST:Hid (∀(b1 b2:Value) (j:Int) (w3:World),Hid (M.look txt fs=some j/\Bkp B bb (.slice (some (aD gt 0)) ts.length tc) w (w3.setCell (aD gt i) (iV j))/\Bnt w0 (w3.setCell (aD gt i) (iV j)) B bb (.slice (some (aD g 0)) N.length nc) (.slice (some (aD gt 0)) ts.length tc) m fs (M.upd ts [(i,j)])/\Chg (λk=>k=gt) wz (w3.setCell (aD gt i) (iV j)))->
   Exit.inBlock 0 (Exit.then K (bodyPost prog Tryz.f92 (BnPost w0 w B bb (.slice (some (aD g 0)) N.length nc) (.slice (some (aD gt 0)) ts.length tc) N m' ts R))) Exit.normal { tmps:=#[pV bb,iV (i:Int),pV w.heap.size,undef,pV (w.heap.size+1),pV bb,pV bb,pV bb,.slice (some (aD g 0)) N.length nc,iV (i:Int),.pointer (some (aD g (i * 9))),.agg #[iV kd,iV va,iV vb,iV vc,.slice la ls.length lc,.string ⟨txt.toArray⟩,iV vn,iV vt,iV vp],pV (w.heap.size+1),iV kd,.bool true,b1,b2,pV bb,pV bb,.pointer (some (aD bb 2)),.slice (some (aD gt 0)) ts.length tc,iV (i:Int),pV bb,.agg #[iV kd,iV va,iV vb,iV vc,.slice la ls.length lc,.string ⟨txt.toArray⟩,iV vn,iV vt,iV vp],iV j,.pointer (some (aD gt i)),undef,undef,undef,undef,undef,undef,undef,undef,undef,undef,undef,undef,undef,undef,undef,undef,undef,undef,undef,undef,undef,undef,undef,undef,undef,undef,undef],defers:=[] } (w3.setCell (aD gt i) (iV j))):=by
   intro b1 b2 j w3 H3;obtain⟨p0,p1,hPA⟩:=PB.out j w3 H3;have y0:=p0 0 _ cb0;have z0:=p1 0 _ n0;have z1:=p1 1 _ n1;have z2:=p1 2 _ n2;have z3:=p1 3 _ n3;have z4:=p1 4 _ n4;have z5:=p1 5 _ n5;have z6:=p1 6 _ n6;have z7:=p1 7 _ n7;have z8:=p1 8 _ n8;have PA:=A0 hPA;have lz:=blt z0;clear p0 p1 hPA FI PB H3 n0 n1 n2 n3 n4 n5 n6 n7 n8 cb0;generalize w3.setCell (aD gt i) (iV j)=wy at *;try clear bk1 bk2 bk3 t4 bkx
   go_wp2_with fail
   go_region_with (first|(go_at_call 29;refine(PA.out _ (Chg.drewN _ _ 1)).mono ?_;rintro e w3 ⟨ga,gc,rfl,cb3,H3⟩)|(go_at_call 66;refine(Hid.out H3).mono ?_;rintro e w4 (⟨er,p,rfl,H4⟩|⟨rfl,H4⟩);exact⟨rfl,H4.out⟩))
   all_goals go_wp2_with fail
   all_goals go_end0
   all_goals exact H4.out
  clear PB aK;go_region_with (go_at_call 125;refine(FI.out _ (Chg.drewN _ _ 1)).mono ?_;rintro e w3 (⟨rfl,H3⟩|⟨j,rfl,⟨z,u1⟩,u2,u3,u4,⟨u5,u6⟩,H3⟩);exact⟨rfl,H3.out⟩)
  all_goals exact REST.out _ _ _ _ H3
end
end Go.Proofs.YtfhhipefecekkaaGreatDoor
