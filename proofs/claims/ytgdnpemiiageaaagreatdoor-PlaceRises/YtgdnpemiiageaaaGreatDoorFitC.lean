/-
  A part of the proof.
-/
import Derived.Test.YtgdnpemiiageaaaGreatDoorFitB
set_option maxHeartbeats 16000000
set_option maxRecDepth 100000
namespace Go.Proofs.YtgdnpemiiageaaaGreatDoor
open Go.RowKit Go.Maps
theorem T0a {B:Nat} {w w':World} {base:Nat} {e:TypeId} {size:Nat} {v:Value} {n:Nat} {xs:List Value} (h:w.ownsRow base e size v n xs) (hb:Below B w w') (hs:∀g,v.ownBlock=some g->g<B):w'.ownsRow base e size v n xs:=
 A8 h (Chg.below hb) fun g hg x=>by have:=hs g hg;omega
def mvF (b:Int) (l:List (List UInt8×Int)):List (List UInt8×Int):=l.map fun p=>(p.1,p.2+b)
theorem L1c (b:Int) {l:List (List UInt8×Int)} {j:Nat} (hj:j<l.length):mvF b (l.take (j+1))=mvF b (l.take j)++[(l[j].1,l[j].2+b)]:=by
 unfold mvF;rw[List.take_succ_eq_append_getElem hj,List.map_append];simp
def mvI (b:Int) (l:List Int):List Int:=l.map fun x=>x+b
theorem L0c (b:Int) {l:List Int} {j:Nat} (hj:j<l.length):mvI b (l.take (j+1))=mvI b (l.take j)++[l[j]+b]:=by
 unfold mvI;rw[List.take_succ_eq_append_getElem hj,List.map_append];simp
theorem M0b (w:World) (a b:Value) (t:TypeId) (q:Nat) (hq:q=w.heap.size):∀j u,[a,b][j]? =some u->(w.alloc (.cells #[a,b] t)).cell? (((aD q 0):Addr).add j)=some u:=by
 subst hq;intro j u hj;match j,hj with
 |0,hj=>simp at hj;subst hj;simp[Addr.add]
 |1,hj=>simp at hj;subst hj;simp[Addr.add]
theorem Q1a {w wr w4 w5:World} {n0 q o sz j j':Nat} {e:TypeId} {v v':Value} {xs ys:List Value} {cs:Array Value} (hq:wr.heap[q]? =some (.cells cs 68 (0,0))) (hn:n0<=q) (ho:wr.ownsRow n0 e sz v j xs) (he:e≠68) (hB:Below n0 w wr) (hn0:n0<=w.heap.size)
 (h1:Chg No wr w4) (hg:w4.grownBy w5 v.ownBlock) (ho5:w5.ownsRow n0 e sz v' j' ys):
 (w5.cell? (aD q o)=cs[o]?)/\w5.frozen? (aD q o)=false/\q<w5.heap.size/\Below n0 w (w5.setCell (aD q o) v')/\(w5.setCell (aD q o) v').ownsRow n0 e sz v' j' ys/\(w5.setCell (aD q o) v').heap[q]? =some (.cells (cs.setIfInBounds o v') 68 (0,0))/\
  (∀(k:Nat) (cs':Array Value),k≠q->wr.heap[k]? =some (Obj.cells cs' 68 (0,0))->(w5.setCell (aD q o) v').heap[k]? =some (Obj.cells cs' 68 (0,0)))/\
  (∀{e':TypeId} {sz' n':Nat} {u:Value} {zs:List Value},e'≠e->e'≠68->wr.ownsRow n0 e' sz' u n' zs->(w5.setCell (aD q o) v').ownsRow n0 e' sz' u n' zs):=by
 have ho4:w4.ownsRow n0 e sz v j xs:=A8 ho h1 (fun _ _ x=>x);have keep:∀(k:Nat) (cs':Array Value),wr.heap[k]? =some (Obj.cells cs' 68 (0,0))->w5.heap[k]? =some (Obj.cells cs' 68 (0,0)):=by
  intro k cs' hk;have hk4:w4.heap[k]? =some (.cells cs' 68 (0,0)):=by rw[h1.block k (ltG hk) (fun x=>x)];exact hk
  rw[hg.block k (ltG hk4) (fun hx=> ?_)]
  · exact hk4
  · obtain⟨_,cur,hh⟩:=A9 ho4 k hx.symm;rw[hk4]at hh;simp only[Option.some.injEq,Obj.cells.injEq]at hh;exact he hh.2.1.symm
 have hq5:=keep q cs hq;have hC:Chg (fun k=>n0<=k) wr w5:=(h1.mono fun _ _ x=>x.elim).trans (Chg.grown hg) (fun k _ x=>(A9 ho4 k x.symm).1);have hC2:Chg (fun k=>n0<=k) wr (w5.setCell (aD q o) v'):=hC.trans (Chg.set _ _ _) (fun k _ x=>by have x':k=q:=x;omega);refine⟨cell_of_row w5 q o _ _ _ hq5,frozen_of_row w5 q o _ _ hq5,(ltG hq5),hB.trans (hC2.toBelow (fun _ _ x=>x) (Nat.le_trans hn0 hB.size)),A8 ho5 (Chg.set _ _ _) (fun g hgg hx=> ?_),heap_setCell_same w5 q o _ _ _ hq5,fun k cs' hne hk=> ?_,fun {e' sz' n' u zs} he1 he2 hu=> ?_⟩
 · have hx':g=q:=hx;subst hx';obtain⟨_,cur,hh⟩:=A9 ho5 g hgg;rw[hq5]at hh;simp only[Option.some.injEq,Obj.cells.injEq]at hh;exact he hh.2.1.symm
 · rw[heap_setCell_other _ _ _ _ (by exact hne)];exact keep k cs' hk
 · have hu4:w4.ownsRow n0 e' sz' u n' zs:=A8 hu h1 (fun _ _ x=>x);refine A8 (A8 hu4 (Chg.grown hg) (fun g hgg hx=> ?_)) (Chg.set _ _ _) (fun g hgg hx=> ?_)
   · obtain⟨_,cur,hh⟩:=A9 hu4 g hgg;obtain⟨_,cur2,hh2⟩:=A9 ho4 g hx.symm;rw[hh]at hh2;simp only[Option.some.injEq,Obj.cells.injEq]at hh2;exact he1 hh2.2.1
   · have hx':g=q:=hx;subst hx';have hu5:=A8 hu4 (Chg.grown hg) (fun g hgg hx=>by
      obtain⟨_,cur,hh⟩:=A9 hu4 g hgg;obtain⟨_,cur2,hh2⟩:=A9 ho4 g hx.symm;rw[hh]at hh2;simp only[Option.some.injEq,Obj.cells.injEq]at hh2;exact he1 hh2.2.1)
     obtain⟨_,cur,hh⟩:=A9 hu5 g hgg;rw[hq5]at hh;simp only[Option.some.injEq,Obj.cells.injEq]at hh;exact he2 hh.2.1.symm
theorem A9c (w:World) (k o:Int) (fs:List (List UInt8×Int)) (ls:List Int) (fa la:Option Addr) (fc lc:Nat) (b:Nat) (hf:w.ownsRow 0 126 2 (.slice fa fs.length fc) fs.length (F6 fs)) (hl:w.ownsRow 0 3 1 (.slice la ls.length lc) ls.length (C7 ls))
 (hb:b<=4000) (h1:∀p∈fs,0<=p.2/\p.2<=4000) (h2:∀x∈ls,0<=x/\x<=4000) (ho:0<=o/\o<=4000) (hn:fs.length<=2000/\ls.length<=2000):
 Calls Tryz.prog 31 #[.agg #[iV k,.slice fa fs.length fc,.slice la ls.length lc,iV o],iV (b:Int)] w fun e w'=>Below w.heap.size w w'/\
  ∃fa' fc' la' lc',e= .returned (.agg #[iV k,.slice fa' fs.length fc',.slice la' ls.length lc',iV (o+b)])/\w'.ownsRow w.heap.size 126 2 (.slice fa' fs.length fc') fs.length (F6 (mvF b fs))/\w'.ownsRow w.heap.size 3 1 (.slice la' ls.length lc') ls.length (C7 (mvI b ls)):=by
 have HF:=A0 hf;have HL:=A0 hl;have H1:=A0 h1;have H2:=A0 h2;obtain⟨hn1,hn2⟩:=hn;have hLF:Hid (∀g,Value.ownBlock (.slice fa fs.length fc)=some g->g<w.heap.size):=fun g hg=>(hf.lt g hg).2;have hLL:Hid (∀g,Value.ownBlock (.slice la ls.length lc)=some g->g<w.heap.size):=fun g hg=>(hl.lt g hg).2;clear hf hl h1 h2;go_enter Tryz.func31,Tryz.ntmps31;go_wp2_with fail
 obtain⟨z0,z1,z2⟩:=I9a w (.cells #[iV k,.slice fa fs.length fc,.slice la ls.length lc,iV o] 68) (.cells #[iV 0,sN,sN,iV 0] 68) (.cells #[iV k,sN,sN,iV (o+b)] 68);have Z0:=A0 z0;have Z1:=A0 z1;have Z2:=A0 z2;have B3:=A0 ((((Below.refl w.heap.size w).alloc (Nat.le_refl _) (.cells #[iV k,.slice fa fs.length fc,.slice la ls.length lc,iV o] 68)).alloc (by simp) (.cells #[iV 0,sN,sN,iV 0] 68)).alloc (by simp;omega) (.cells #[iV k,sN,sN,iV (o+b)] 68));clear z0 z1 z2;go_loopw [20] (fun v wr=>∃(j:Nat) (xa:Option Addr) (xc:Nat),j<=fs.length/\v=iV (j:Int)/\Hid (wr.heap[w.heap.size]? =some (.cells #[iV k,.slice fa fs.length fc,.slice la ls.length lc,iV o] 68 (0,0)))/\Hid (wr.heap[w.heap.size+1]? =some (.cells #[iV 0,sN,sN,iV 0] 68 (0,0)))/\
  Hid (wr.heap[w.heap.size+2]? =some (.cells #[iV k,.slice xa j xc,sN,iV (o+b)] 68 (0,0)))/\Hid (Below w.heap.size w wr)/\Hid (wr.ownsRow w.heap.size 126 2 (.slice xa j xc) j (F6 (mvF b (fs.take j))))) (fun v _=>fs.length - (intOf v).toNat)
 case atStart=>exact⟨0,none,0,Nat.zero_le _,rfl,Z0.out,Z1.out,Z2.out,B3.out,by show World.ownsRow _ _ _ _ _ _ _;exact World.ownsRow_nil _ _ _ _⟩
 case round=>
  clear Z0 Z1 Z2 B3;obtain⟨j,xa,xc,hj,rfl,Z0,Z1,Z2,BR,OR⟩:=hrel;have d0:wr.cell? (aD (w.heap.size+2) 1)=some (.slice xa j xc):=cr Z2.out rfl;have hz2:=(ltG Z2.out);by_cases hjl:j<fs.length
  · obtain⟨g,rfl,hg,hl1,hl2,y0,y1⟩:=R9 (T0a HF.out BR.out hLF.out) hjl;have hx:=H1.out fs[j] (List.getElem_mem hjl);have HT:=A0 (L1c b hjl);generalize fs[j]=fj at *;obtain⟨nm,y⟩:=fj;simp only at y0 y1 hx HT;unfold maxLen at hl2;obtain⟨i0,hi0,hzz0,hzz1,hzz2⟩:=info_parts Tryz.infoField;have hw3:=A0 ((OR.out.alloc (.cells #[.string ⟨nm.toArray⟩,iV y] 126)).alloc (.cells #[.string ⟨nm.toArray⟩,iV (y+b)] 126));have hsz:=BR.out.size;go_wp2_with (at_builtin;refine wpList_append_own_at _ rfl _ _ 66 rfl w.heap.size 126 i0 _ 2 24 Tryz.underlying66 hi0 hzz0 hzz1 hzz2 rfl (by decide) _ _ _ rfl hw3.out (aD (wr.heap.size+1) 0) 1 1 [.string ⟨nm.toArray⟩,iV (y+b)] rfl rfl ?c1 ?c2 ?c3 ?c4 ?c5 ?_)
    case c1=>exact M0b _ _ _ _ _ (by simp)
    case c2=>intro u hu;simp at hu;rcases hu with rfl|rfl<;>rfl
    case c3=>simp only[maxLen];omega
    case c4=>omega
    case c5=>simp;omega
    · intro v' w5 hown2 hg2 _ hat;obtain⟨xa2,xc2,rfl⟩:=B6 hown2;obtain⟨k0,k1,k2,k3,k4,k5,k6,k7⟩:=Q1a (o:=1) Z2.out (by omega) OR.out (by decide) BR.out (Nat.le_refl _) ((Chg.alloc No wr _).trans (Chg.alloc No _ _) (fun _ _ x=>x)) hg2 hown2;have K0:w5.cell? (aD (w.heap.size+2) 1)=some (.slice xa j xc):=k0;have K3:=A0 k3;have K4:=A0 k4;have K5:=A0 k5;have K6:=A0 (k6 w.heap.size _ (by omega) Z0.out);have K7:=A0 (k6 (w.heap.size+1) _ (by omega) Z1.out);clear k0 k3 k4 k5 k6 k7 hown2 hg2 hat hw3 OR Z0 Z1 Z2 BR;go_wp2_with fail
      go_roundw
      case rel=>exact⟨j+1,xa2,xc2,by omega,by go_num,K6.out,K7.out,K5.out,K3.out,by
       show World.ownsRow _ _ _ _ _ _ _;rw[HT.out,J2a];exact K4.out⟩
      case measure=>simp[intOf];omega
  · have hje:j=fs.length:=by omega
    subst hje;have OF:=A0 OR.out;rw[List.take_length]at OF;have BB:=A0 BR.out;have e2:wr.cell? (aD w.heap.size 2)=some (.slice la ls.length lc):=cr Z0.out rfl;have hz0:=(ltG Z0.out);have hz1:=(ltG Z1.out);clear OR;go_wp2_with fail
    go_loopw [40] (fun v wq=>∃(i:Nat) (ya:Option Addr) (yc:Nat),i<=ls.length/\v=iV (i:Int)/\Hid (wq.heap[w.heap.size+1]? =some (.cells #[iV 0,sN,sN,iV 0] 68 (0,0)))/\
     Hid (wq.heap[w.heap.size+2]? =some (.cells #[iV k,.slice xa fs.length xc,.slice ya i yc,iV (o+b)] 68 (0,0)))/\Hid (Below w.heap.size w wq)/\Hid (wq.ownsRow w.heap.size 126 2 (.slice xa fs.length xc) fs.length (F6 (mvF b fs)))/\Hid (wq.ownsRow w.heap.size 3 1 (.slice ya i yc) i (C7 (mvI b (ls.take i))))) (fun v _=>ls.length - (intOf v).toNat)
    case atStart=>exact⟨0,none,0,Nat.zero_le _,rfl,Z1.out,Z2.out,BB.out,OF.out,by show World.ownsRow _ _ _ _ _ _ _;exact World.ownsRow_nil _ _ _ _⟩
    case round=>
     clear Z0 Z1 Z2 BR d0 e2 hz0 hz1 hz2 OF BB;obtain⟨i,ya,yc,hi,rfl,Z1,Z2,BR,OF,OR⟩:=hrel;have d0:wr.cell? (aD (w.heap.size+2) 2)=some (.slice ya i yc):=cr Z2.out rfl;have hz2:=(ltG Z2.out);have hz1:=(ltG Z1.out);by_cases hil:i<ls.length
     · obtain⟨g,rfl,hg,hl1,hl2,y0⟩:=D7 (T0a HL.out BR.out hLL.out) hil;have hx:=H2.out ls[i] (List.getElem_mem hil);have HT:=A0 (L0c b hil);generalize ls[i]=y at *;unfold maxLen at hl2;obtain⟨i0,hi0,hzz0,hzz1,hzz2⟩:=info_parts Tryz.infoInt;have hw3:=A0 (OR.out.alloc (.cells #[iV (y+b)] 3));have hsz:=BR.out.size;go_wp2_with (at_builtin;refine wpList_append_own_at _ rfl _ _ 48 rfl w.heap.size 3 i0 (iV 0) 1 8 Tryz.underlying48 hi0 hzz0 hzz1 hzz2 rfl (by decide) _ _ _ rfl hw3.out (aD wr.heap.size 0) 1 1 [iV (y+b)] rfl rfl ?c1 ?c2 ?c3 ?c4 ?c5 ?_)
       case c1=>exact cell_one_new _ _ _
       case c2=>intro u hu;simp at hu;rcases hu with rfl;rfl
       case c3=>simp only[maxLen];omega
       case c4=>omega
       case c5=>simp;omega
       · intro v' w5 hown2 hg2 _ hat;obtain⟨ya2,yc2,rfl⟩:=B6 hown2;obtain⟨k0,k1,k2,k3,k4,k5,k6,k7⟩:=Q1a (o:=2) Z2.out (by omega) OR.out (by decide) BR.out (Nat.le_refl _) (Chg.alloc No wr _) hg2 hown2;have K0:w5.cell? (aD (w.heap.size+2) 2)=some (.slice ya i yc):=k0;have K3:=A0 k3;have K4:=A0 k4;have K5:=A0 k5;have K6:=A0 (k6 (w.heap.size+1) _ (by omega) Z1.out);have K7:=A0 (k7 (by decide) (by decide) OF.out);clear k0 k3 k4 k5 k6 k7 hown2 hg2 hat hw3 OR Z1 Z2 BR OF;go_wp2_with fail
         go_roundw
         case rel=>exact⟨i+1,ya2,yc2,by omega,by go_num,K6.out,K5.out,K3.out,K7.out,by
          show World.ownsRow _ _ _ _ _ _ _;rw[HT.out,J9];exact K4.out⟩
         case measure=>simp[intOf];omega
     · have hie:i=ls.length:=by omega
       subst hie;have OL:=A0 OR.out;rw[List.take_length]at OL;have m0:wr.cell? (aD (w.heap.size+2) 0)=some (iV k):=cr Z2.out rfl;have m1:wr.cell? (aD (w.heap.size+2) 1)=some (.slice xa fs.length xc):=cr Z2.out rfl;have m3:wr.cell? (aD (w.heap.size+2) 3)=some (iV (o+b)):=cr Z2.out rfl;have n0:wr.cell? (aD (w.heap.size+1) 0)=some (iV 0):=cr Z1.out rfl;have n1:wr.cell? (aD (w.heap.size+1) 1)=some (sN):=cr Z1.out rfl;have n2:wr.cell? (aD (w.heap.size+1) 2)=some (sN):=cr Z1.out rfl;have n3:wr.cell? (aD (w.heap.size+1) 3)=some (iV 0):=cr Z1.out rfl;have nf:∀o,wr.frozen? (aD (w.heap.size+1) o)=false:=fun o=>frozen_of_row wr _ o _ _ Z1.out;have CC:∀a0 a1 a2 a3,Chg (fun k=>k=w.heap.size+1) wr ((((wr.setCell (aD (w.heap.size+1) 0) a0).setCell (aD (w.heap.size+1) 1) a1).setCell (aD (w.heap.size+1) 2) a2).setCell (aD (w.heap.size+1) 3) a3):=fun a0 a1 a2 a3=>
        (((Chg.set wr (aD (w.heap.size+1) 0) a0).trans (Chg.set _ (aD (w.heap.size+1) 1) a1) (fun _ _ x=>x)).trans (Chg.set _ (aD (w.heap.size+1) 2) a2) (fun _ _ x=>x)).trans (Chg.set _ (aD (w.heap.size+1) 3) a3) (fun _ _ x=>x)
       have HX:∀a0 a1 a2 a3,Hid (Below w.heap.size w ((((wr.setCell (aD (w.heap.size+1) 0) a0).setCell (aD (w.heap.size+1) 1) a1).setCell (aD (w.heap.size+1) 2) a2).setCell (aD (w.heap.size+1) 3) a3)/\
        ((((wr.setCell (aD (w.heap.size+1) 0) a0).setCell (aD (w.heap.size+1) 1) a1).setCell (aD (w.heap.size+1) 2) a2).setCell (aD (w.heap.size+1) 3) a3).ownsRow w.heap.size 126 2 (.slice xa fs.length xc) fs.length (F6 (mvF b fs))/\
        ((((wr.setCell (aD (w.heap.size+1) 0) a0).setCell (aD (w.heap.size+1) 1) a1).setCell (aD (w.heap.size+1) 2) a2).setCell (aD (w.heap.size+1) 3) a3).ownsRow w.heap.size 3 1 (.slice ya ls.length yc) ls.length (C7 (mvI b ls))):=by
        intro a0 a1 a2 a3;refine⟨BR.out.trans ((CC a0 a1 a2 a3).toBelow (fun k _ x=>by omega) BR.out.size),A8 OF.out (CC a0 a1 a2 a3) (fun g hg hx=> ?_),A8 OL.out (CC a0 a1 a2 a3) (fun g hg hx=> ?_)⟩
        · subst hx;obtain⟨_,cur,hh⟩:=A9 OF.out _ hg;have hz:=Z1.out;rw[hh]at hz;simp only[Option.some.injEq,Obj.cells.injEq]at hz;exact absurd hz.2.1 (by decide)
        · subst hx;obtain⟨_,cur,hh⟩:=A9 OL.out _ hg;have hz:=Z1.out;rw[hh]at hz;simp only[Option.some.injEq,Obj.cells.injEq]at hz;exact absurd hz.2.1 (by decide)
       clear CC;go_wp2_with fail
       exact bodyPost_ret (v:= .agg #[iV k,.slice xa fs.length xc,.slice ya ls.length yc,iV (o+b)]) (by simp[results,Tryz.results31,go_sem,n0,n1,n2,n3]) rfl ⟨(HX _ _ _ _).out.1,xa,xc,ya,yc,rfl,(HX _ _ _ _).out.2.1,(HX _ _ _ _).out.2.2⟩
open Go.RowKit Go.Maps
section
variable {lb mb N:Nat}
theorem M5b (T X:List M.Ty) {j:Nat} (hj:j<X.length):M.U2 T (X.take (j+1))=M.U2 T (X.take j)++[M.mvT T.length X[j]]:=by
 unfold M.U2;rw[List.take_succ_eq_append_getElem hj,List.map_append];simp
def G3a (lb:Nat) (v:Value) (k:Nat):Prop:=k=lb\/some k=v.ownBlock
structure Sho (w:World) (lb mb N:Nat) (T:List M.Ty) (D:Dt) (ok:Nat->Prop):Prop where
 tsok:M.TsOk T
 mst:Mst w mb N T D
 blk:∃yv yx,w.heap[lb]? =some (.cells #[yv,.map (some mb)] 101 (0,0))/\w.ownsRow lb 68 4 yv T.length yx/\Rws (TyV w ok) T yx
theorem TyV.mono {w:World} {ok ok':Nat->Prop} (ho:∀g,ok g->g<w.heap.size->ok' g) (t:M.Ty) (xs:List Value) (h:TyV w ok t xs):TyV w ok' t xs:=TyV.chg (Chg.refl No w) (fun _ _ _ x=>x.elim) ho t xs h
theorem Sho.shp {w:World} {T:List M.Ty} {D:Dt} {ok:Nat->Prop} (h:Sho w lb mb N T D ok):Shp w lb mb N T D:=by
 obtain⟨h1,h2,yv,yx,h3,h4,h5⟩:=h;exact⟨h1,h2,yv,yx,h3,h4,h5.imp (TyV.mono fun _ _ _=>trivial)⟩
theorem Shp.sho {w:World} {T:List M.Ty} {D:Dt} (h:Shp w lb mb N T D):Sho w lb mb N T D (fun _=>True):=⟨h.ok,h.mst,h.blk⟩
theorem Sho.chg {S:Nat->Prop} {w w':World} {T:List M.Ty} {D D':Dt} {ok ok':Nat->Prop} (h:Sho w lb mb N T D ok) (hc:Chg S w w') (hm:Mst w' mb N T D')
 (hs:∀k cur e,w.heap[k]? =some (.cells cur e (0,0))->(e=101\/e=68\/((e=126\/e=3)/\ok k))->¬S k) (ho:∀g,ok g->g<w.heap.size->ok' g):Sho w' lb mb N T D' ok':=by
 obtain⟨h1,_,yv,yx,hb,hy,hr⟩:=h;refine⟨h1,hm,yv,yx, ?_,A8 hy hc fun g hg x=> ?_,hr.imp (TyV.chg hc (fun g hok _ hx hh=> ?_) ho)⟩
 · rw[hc.block lb (ltG hb) (hs lb _ _ hb (.inl rfl))];exact hb
 · obtain⟨_,cur,hh⟩:=A9 hy g hg;exact hs g cur _ hh (.inr (.inl rfl)) x
 · obtain⟨cur,e,hh,he⟩:=hh;exact hs g cur _ hh (.inr (.inr ⟨he,hok⟩)) hx
theorem Sho.still {w w':World} {T:List M.Ty} {D:Dt} {ok:Nat->Prop} (h:Sho w lb mb N T D ok) (hc:Chg No w w'):Sho w' lb mb N T D ok:=h.chg hc (h.mst.chg hc (fun x=>x)) (fun _ _ _ _ _ x=>x) (fun _ x _=>x)
theorem Sho.push {ok:Nat->Prop} {wr w4 w5:World} {T:List M.Ty} {D:Dt} {ad:Option Addr} {c gg cap:Nat} {yx:List Value} {t:M.Ty} {fv lv:Value} (hb:wr.heap[lb]? =some (.cells #[.slice ad T.length c,.map (some mb)] 101 (0,0))) (hT:M.TsOk T) (ht:M.TyOk t T.length) (hm:Mst wr mb N T D) (hN:T.length+1<=N)
 (ho:wr.ownsRow lb 68 4 (.slice ad T.length c) T.length yx) (hr:Rws (TyV wr ok) T yx) (h1:Chg No wr w4) (hty:TyV w4 ok t [iV t.kind,fv,lv,iV t.of'])
 (hg:w4.grownBy w5 (Value.ownBlock (.slice ad T.length c))) (ho5:w5.ownsRow lb 68 4 (.slice (some (aD gg 0)) (T.length+1) cap) (T.length+1) (yx++[iV t.kind,fv,lv,iV t.of'])):
 w5.cell? (aD lb 0)=some (.slice ad T.length c)/\w5.frozen? (aD lb 0)=false/\lb<w5.heap.size/\Chg (G3a lb (.slice ad T.length c)) wr (w5.setCell (aD lb 0) (.slice (some (aD gg 0)) (T.length+1) cap))/\Sho (w5.setCell (aD lb 0) (.slice (some (aD gg 0)) (T.length+1) cap)) lb mb N (T++[t]) D ok/\
  (w5.setCell (aD lb 0) (.slice (some (aD gg 0)) (T.length+1) cap)).cell? (aD lb 0)=some (.slice (some (aD gg 0)) (T.length+1) cap):=by
 have ho4:w4.ownsRow lb 68 4 (.slice ad T.length c) T.length yx:=A8 ho h1 (fun _ _ x=>x);have hb4:w4.heap[lb]? =some (.cells #[.slice ad T.length c,.map (some mb)] 101 (0,0)):=by rw[h1.block lb (ltG hb) (fun x=>x)];exact hb
 have hne:some lb≠Value.ownBlock (.slice ad T.length c):=by
  intro hx;obtain⟨_,cur,hh⟩:=A9 ho4 lb hx.symm;rw[hb4]at hh;simp only[Option.some.injEq,Obj.cells.injEq]at hh;exact absurd hh.2.1 (by decide)
 have hb5:w5.heap[lb]? =some (.cells #[.slice ad T.length c,.map (some mb)] 101 (0,0)):=by rw[hg.block lb (ltG hb4) hne];exact hb4
 have hC45:Chg (G3a lb (.slice ad T.length c)) w4 (w5.setCell (aD lb 0) (.slice (some (aD gg 0)) (T.length+1) cap)):=((Chg.grown hg).mono fun _ _ x=> .inr x).trans (Chg.set _ _ _) (fun _ _ x=> .inl x);have hC:Chg (G3a lb (.slice ad T.length c)) wr (w5.setCell (aD lb 0) (.slice (some (aD gg 0)) (T.length+1) cap)):=(h1.mono fun _ _ x=>x.elim).trans hC45 (fun _ _ x=>x);have hb6:(w5.setCell (aD lb 0) (.slice (some (aD gg 0)) (T.length+1) cap)).heap[lb]? =some (.cells #[.slice (some (aD gg 0)) (T.length+1) cap,.map (some mb)] 101 (0,0)):=by rw[heap_setCell_same w5 lb 0 _ _ _ hb5];rfl
 have hmb:¬G3a lb (.slice ad T.length c) mb:=by
  rintro(hx|hx)
  · subst hx;exact hm.tag _ _ _ hb
  · obtain⟨_,cur,hh⟩:=A9 ho mb hx.symm;exact hm.tag _ _ _ hh
 have key:∀g,ok g->g<w4.heap.size->G3a lb (.slice ad T.length c) g->(∃cur e,w4.heap[g]? =some (.cells cur e (0,0))/\(e=126\/e=3))->False:=by
  rintro g _ _ (hx|hx) ⟨cur,e,hh,he⟩
  · subst hx;rw[hb4]at hh;simp only[Option.some.injEq,Obj.cells.injEq]at hh;rcases he with rfl|rfl<;>exact absurd hh.2.1 (by decide)
  · obtain⟨_,cur2,hh2⟩:=A9 ho4 g hx.symm;rw[hh]at hh2;simp only[Option.some.injEq,Obj.cells.injEq]at hh2;rcases he with rfl|rfl<;>exact absurd hh2.2.1 (by decide)
 have hr4:Rws (TyV w4 ok) T yx:=hr.imp (TyV.chg h1 (fun _ _ _ x=>x.elim) (fun _ x _=>x));refine⟨cr hb5 rfl,frozen_of_row w5 lb 0 _ _ hb5,(ltG hb5),hC,⟨hT.snoc ht,(hm.chg hC hmb).more hT [t] (by simp;omega),_,_,hb6, ?_,(hr4.imp (TyV.chg hC45 key (fun _ x _=>x))).snoc (TyV.chg hC45 key (fun _ x _=>x) _ _ hty)⟩,cr hb6 rfl⟩;have:=A8 ho5 (Chg.set w5 (aD lb 0) (.slice (some (aD gg 0)) (T.length+1) cap)) (fun k hk hx=>by
  have hx':k=lb:=hx;subst hx';obtain⟨_,cur2,hh2⟩:=A9 ho5 k hk;rw[hb5]at hh2;simp only[Option.some.injEq,Obj.cells.injEq]at hh2;exact absurd hh2.2.1 (by decide))
 simpa using this
theorem Q5a {ok : Nat -> Prop} {T : List M.Ty} {D : Dt} (w : World) (h : Sho w lb mb N T D ok) (t : M.Ty) (fa la : Option Addr) (fn fc ln lc : Nat) (ht : TyV w ok t [iV t.kind, .slice fa fn fc, .slice la ln lc, iV t.of']) (hk : M.TyOk t T.length) (hN : T.length + 1 <= N) :
    Calls Tryz.prog 17 #[pV lb,.agg #[iV t.kind,.slice fa fn fc,.slice la ln lc,iV t.of']] w fun e w'=>e= .returned (iV (T.length:Int))/\(∃v,w.cell? (aD lb 0)=some v/\Chg (G3a lb v) w w')/\Sho w' lb mb N (T++[t]) D ok:=by
  have hfew:=h.shp.few
  obtain⟨hT,hm,yv,yx,hb,ho,hr⟩:=h
  obtain⟨ad,c,rfl⟩:=B6 ho
  have hlt:=(ltG hb)
  have c0:w.cell? (aD lb 0)=some (.slice ad T.length c):=cr hb rfl
  have fz:w.frozen? (aD lb 0)=false:=frozen_of_row w lb 0 _ _ hb
  have HP:=A0 (fun (w4 w5:World) (gg cap:Nat) (h1:Chg No w w4)=>Sho.push (ok:=ok) (w4:=w4) (w5:=w5) (gg:=gg) (cap:=cap) hb hT hk hm hN ho hr h1 (TyV.chg h1 (fun _ _ _ x=>x.elim) (fun _ x _=>x) _ _ ht))
  have hne:Value.ownBlock (.slice ad T.length c)≠some lb:=by
    intro hx
    obtain⟨_,cur,hh⟩:=A9 ho lb hx
    rw[hb]at hh
    simp only[Option.some.injEq,Obj.cells.injEq]at hh
    exact absurd hh.2.1 (by decide)
  have HV:Hid (w.cell? (aD lb 0)=some (.slice ad T.length c)):=c0
  have HY:=A0 ho
  obtain⟨i0,hi,hz0,hz1,hz2⟩:=info_parts Tryz.infoTy
  clear ht hb ho hr hm
  go_enter Tryz.func17,Tryz.ntmps17
  go_wp2_with fail
  go_region_law ((refine step_append_lies _ (by rfl) _ _ _ (by rfl) lb 68 i0 _ 4 64 Tryz.underlying44 hi hz0 hz1 hz2 rfl (by omega) (.slice ad T.length c) T.length yx (by rfl) (((HY.out.alloc _).alloc _).drew) (aD (w.heap.size + 1) 0) 1 1 [iV t.kind, .slice fa fn fc, .slice la ln lc, iV t.of'] (by rfl) (by rfl) (World.news_of_block (cs := #[iV t.kind, .slice fa fn fc, .slice la ln lc, iV t.of']) (t := 68) (fr := (0, 0)) (B6a w _ _)) (by simp [Value.oneCell']) (by omega) (by simp only [maxLen]; omega) (by omega) (by simp; omega) (w.heap.size + 2) (by simp) ?_
                  intro gg cap w1 hown1 hgrow hat1 hlt1
                  have z4:w1.cell? (aD lb 0)=some (.slice ad T.length c):=by rw[hgrow.cell_far _ (by simp;omega) (Ne.symm hne)];exact F9 (by simp;omega) (F9 hlt c0)
                  have y4:w1.frozen? (aD lb 0)=false:=by rw[hgrow.frozen_far _ (by simp;omega) (Ne.symm hne)];exact P8 (by simp;omega) (P8 hlt fz)))
  all_goals
    have HQ:=A0 (HP.out _ _ gg cap (((Chg.alloc No w _).trans (Chg.alloc No _ _) (fun _ _ x=>x)).trans (Chg.drewN No _ 1) (fun _ _ x=>x)) hgrow hown1)
    clear hgrow hown1 HP HY
    go_wp2
    go_ret
    exact⟨J0 (by omega),⟨_,HV.out,HQ.out.2.2.2.1⟩,HQ.out.2.2.2.2.1⟩
end
open Go.RowKit Go.Maps
section
variable {lb mb N:Nat}
theorem Y5a {w:World} {xa:Option Addr} {xc:Nat} {X:List M.Ty} {xx:List Value} (hx:w.ownsRow 0 68 4 (.slice xa X.length xc) X.length xx) (hr:Rws (TyV w (fun _=>True)) X xx) {i:Nat} (hi:i<X.length):
 ∃g fa fc la lc,xa=some (aD g 0)/\g<w.heap.size/\X.length<=xc/\xc<=maxLen/\w.cell? (aD g (i * 4))=some (iV X[i].kind)/\w.cell? (aD g (i * 4+1))=some (.slice fa X[i].fields.length fc)/\w.cell? (aD g (i * 4+2))=some (.slice la X[i].list.length lc)/\
  w.cell? (aD g (i * 4+3))=some (iV X[i].of')/\w.ownsRow 0 126 2 (.slice fa X[i].fields.length fc) X[i].fields.length (F6 X[i].fields)/\w.ownsRow 0 3 1 (.slice la X[i].list.length lc) X[i].list.length (C7 X[i].list):=by
 obtain⟨g,rfl,_,hg,hc1,hc2,hcell⟩:=E7 hx (by omega);obtain⟨xs,ht,hx⟩:=Rws.at (z:=4) (fun _ _ h=>h.len) i hi hr;obtain⟨fv,lv,rfl,ho1,ho2,_⟩:=ht;obtain⟨fa,fc,rfl⟩:=B6 ho1;obtain⟨la,lc,rfl⟩:=B6 ho2;refine⟨g,fa,fc,la,lc,rfl,hg,hc1,hc2,hcell _ _ ?_,hcell _ _ ?_,hcell _ _ ?_,hcell _ _ ?_,ho1,ho2⟩
 · have:=hx 0 (by omega);simpa using this
 · have:=hx 1 (by omega);simpa using this
 · have:=hx 2 (by omega);simpa using this
 · have:=hx 3 (by omega);simpa using this
theorem T5b {w:World} {v:Value} {n:Nat} {yx:List Value} {cs:Array Value} (hb:w.heap[lb]? =some (.cells cs 101 (0,0))) (ho:w.ownsRow lb 68 4 v n yx):∀g,True->g<w.heap.size->G3a lb v g->(∃cur e,w.heap[g]? =some (.cells cur e (0,0))/\(e=126\/e=3))->False:=by
 rintro g _ _ (hx|hx) ⟨cur,e,hh,he⟩
 · subst hx;rw[hb]at hh;simp only[Option.some.injEq,Obj.cells.injEq]at hh;rcases he with rfl|rfl<;>exact absurd hh.2.1 (by decide)
 · obtain⟨_,cur2,hh2⟩:=A9 ho g hx.symm;rw[hh]at hh2;simp only[Option.some.injEq,Obj.cells.injEq]at hh2;rcases he with rfl|rfl<;>exact absurd hh2.2.1 (by decide)
def N0d (w:World) (lb:Nat) (v:Value) (wr:World) (n:Nat):Prop:=∃ad c,wr.cell? (aD lb 0)=some (.slice ad n c)/\(Value.ownBlock (.slice ad n c)=v.ownBlock\/∀g,Value.ownBlock (.slice ad n c)=some g->w.heap.size<=g)
theorem L8c {T : List M.Ty} {D : Dt} {ok : Nat -> Prop} (w : World) (h : Sho w lb mb N T D ok) (hokn : ∀ g, w.heap.size <= g -> ok g) (X : List M.Ty) (xa : Option Addr) (xc : Nat) (xx : List Value) (hx : w.ownsRow 0 68 4 (.slice xa X.length xc) X.length xx) (hxr : Rws (TyV w (fun _ => True)) X xx) (hX : M.TsOk X)
    (hq:∀t∈X,t.fields.length<=1001/\t.list.length<=1001/\(t.kind=8\/t.kind=9\/t.of'=0)) (hN:T.length+X.length<=N) (v0:Value) (hv0:w.cell? (aD lb 0)=some v0) (hsep:∀g,v0.ownBlock=some g->Value.ownBlock (.slice xa X.length xc)≠some g):
    Calls Tryz.prog 16 #[pV lb,.slice xa X.length xc] w fun e w'=>e= .returned (iV ((T.length:Int)+X.length - 1))/\Chg (G3a lb v0) w w'/\Sho w' lb mb N (M.U2 T X) D ok/\N0d w lb v0 w' (T.length+X.length):=by
  have hfew:=h.shp.few
  have hN2:=h.mst.few
  have hT:=h.tsok
  obtain⟨yv,yx0,hb0,ho0,-⟩:=h.blk
  have hvy:v0=yv:=by
    have:w.cell? (aD lb 0)=some yv:=cr hb0 rfl
    rw[hv0]at this
    exact Option.some.inj this
  subst hvy
  obtain⟨ad0,cc0,rfl⟩:=B6 ho0
  have hlt:=(ltG hb0)
  have HXW:Hid (∀wr,Chg (G3a lb (.slice ad0 T.length cc0)) w wr->wr.ownsRow 0 68 4 (.slice xa X.length xc) X.length xx/\Rws (TyV wr (fun _=>True)) X xx):=by
    intro wr hc
    refine⟨A8 hx hc (fun g hg hs=> ?_),hxr.imp (TyV.chg hc (T5b hb0 ho0) (fun _ _ _=>trivial))⟩
    rcases hs with hs|hs
    · subst hs
      obtain⟨_,cur,hh⟩:=A9 hx g hg
      rw[hb0]at hh
      simp only[Option.some.injEq,Obj.cells.injEq]at hh
      exact absurd hh.2.1 (by decide)
    · exact hsep g hs.symm hg
  have HQ:=A0 hq
  have H0:=A0 h
  have HXok:=A0 hX
  clear h hx hxr hq hsep hb0 ho0 hX
  have hTX:∀j,j<=X.length->(M.U2 T (X.take j)).length=T.length+j:=fun j hj=>by simp[M.U2];omega
  have HTX:=A0 hTX
  clear hTX
  go_enter Tryz.func16,Tryz.ntmps16
  go_wp2_with fail
  go_loopw [15] (fun v wr=>∃(j:Nat),j<=X.length/\v=iV (j:Int)/\Hid (Sho wr lb mb N (M.U2 T (X.take j)) D ok)/\Hid (Chg (G3a lb (.slice ad0 T.length cc0)) w wr)/\Hid (N0d w lb (.slice ad0 T.length cc0) wr (T.length+j))) (fun v _=>X.length - (intOf v).toNat)
  case atStart=>exact⟨0,Nat.zero_le _,rfl,by simpa[M.U2]using H0,Chg.refl _ _,⟨ad0,cc0,by simpa using hv0,.inl rfl⟩⟩
  case round=>
    obtain⟨j,hj,rfl,SR,CR,RR⟩:=hrel
    have hlen:=HTX.out j hj
    by_cases hjl:j<X.length
    · obtain⟨hxw,hxrw⟩:=HXW.out wr CR.out
      obtain⟨g,fa,fc,la,lc,rfl,hg,hc1,hc2,x0,x1,x2,x3,of1,ol1⟩:=Y5a hxw hxrw hjl
      unfold maxLen at hc2
      have hty:=HXok.out j hjl
      have hqj:=HQ.out X[j] (List.getElem_mem hjl)
      have HB:=A0 (M5b T X hjl)
      have HTY:Hid (M.TyOk (M.mvT T.length X[j]) (M.U2 T (X.take j)).length):=by
        show M.TyOk _ _
        rw[hlen]
        exact hty.mv T.length
      have hfl:=hty.fld
      have hls:=hty.lst
      have hof:0<=X[j].of'/\X[j].of'<=4000:=by
        rcases hqj.2.2 with h8|h8|h8
        · have:=hty.of (.inl h8);omega
        · have:=hty.of (.inr h8);omega
        · omega
      have hq1:=hqj.1
      have hq2:=hqj.2.1
      clear hty hqj hxw hxrw
      generalize X[j]=xj at *
      obtain⟨k,fs,ls,o⟩:=xj
      simp only at x0 x1 x2 x3 of1 ol1 hfl hls hof hq1 hq2
      have HMV:=A9c (wr.alloc (.cells #[iV k,.slice fa fs.length fc,.slice la ls.length lc,iV o] 68)).drew k o fs ls fa la fc lc T.length (of1.alloc _) (ol1.alloc _) (by omega) (fun p hp=>by have:=hfl p hp;omega) (fun p hp=>by have:=hls p hp;omega) hof ⟨by omega,by omega⟩
      obtain⟨ad,c,c0,hrow⟩:=RR.out
      obtain⟨yv,yx,hb,ho,hr⟩:=SR.out.blk
      have hyv:yv= .slice ad (T.length+j) c:=by
        have:wr.cell? (aD lb 0)=some yv:=cr hb rfl
        rw[c0]at this
        exact(Option.some.inj this).symm
      subst hyv
      have hltr:=(ltG hb)
      have fzr:wr.frozen? (aD lb 0)=false:=frozen_of_row wr lb 0 _ _ hb
      have hNj:(M.U2 T (X.take j)).length+1<=N:=by omega
      rw[<-hlen]at c0 hrow hb ho
      have hTl:=A0 hlen
      have hok:=SR.out.tsok
      have hms:=SR.out.mst
      generalize M.U2 T (X.take j)=TT at *
      have hTTl:TT.length<=4000:=by omega
      have HP:=A0 (fun (w4 w5:World) (gg cap:Nat) (fv lv:Value) (h1:Chg No wr w4) (hty:TyV w4 ok (M.mvT T.length ⟨k,fs,ls,o⟩) [iV k,fv,lv,iV (o+T.length)])=>Sho.push (ok:=ok) (w4:=w4) (w5:=w5) (gg:=gg) (cap:=cap) (fv:=fv) (lv:=lv) hb hok HTY.out hms hNj ho hr h1 hty)
      have hne:Value.ownBlock (.slice ad TT.length c)≠some lb:=by
        intro hx
        obtain⟨_,cur,hh⟩:=A9 ho lb hx
        rw[hb]at hh
        simp only[Option.some.injEq,Obj.cells.injEq]at hh
        exact absurd hh.2.1 (by decide)
      have HCM:Hid (∀wm,Below (wr.alloc (.cells #[iV k,.slice fa fs.length fc,.slice la ls.length lc,iV o] 68)).drew.heap.size (wr.alloc (.cells #[iV k,.slice fa fs.length fc,.slice la ls.length lc,iV o] 68)).drew wm->Chg No wr wm):=by
        intro wm hbm
        exact((Chg.alloc No wr _).trans (Chg.drewN No _ 1) (fun _ _ x=>x)).trans (Chg.below hbm) (fun kk hk x=>by
          have hs:(wr.alloc (.cells #[iV k,.slice fa fs.length fc,.slice la ls.length lc,iV o] 68)).drew.heap.size=wr.heap.size+1:=by simp[World.drew]
          have x':(wr.alloc (.cells #[iV k,.slice fa fs.length fc,.slice la ls.length lc,iV o] 68)).drew.heap.size<=kk:=x
          omega)
      have HY:=A0 (fun wm (hc:Chg No wr wm)=>A8 ho hc (fun _ _ x=>x))
      have HC0:=A0 (fun wm (hc:Chg No wr wm)=>show wm.cell? (aD lb 0)=some (.slice ad TT.length c)/\wm.frozen? (aD lb 0)=false/\lb<wm.heap.size from ⟨by rw[World.cell?_of_block (hc.block lb hltr (fun x=>x))];exact c0,by rw[World.frozen?_of_block (hc.block lb hltr (fun x=>x))];exact fzr,Nat.lt_of_lt_of_le hltr hc.size⟩)
      have HR:=A0 hrow
      have CR2:=A0 CR.out
      obtain⟨i0,hi,hz0,hz1,hz2⟩:=info_parts Tryz.infoTy
      clear of1 ol1 hfl hls hof hq1 hq2 hb ho hr hok hms hrow SR CR HTY hlen
      go_wp2_with fail
      go_region_law (first
        | (refine step_append_lies _ (by rfl) _ _ _ (by rfl) lb 68 i0 _ 4 64 Tryz.underlying44 hi hz0 hz1 hz2 rfl (by omega) (.slice ad TT.length c) TT.length yx (by rfl) ((HY.out wm hcm.out).alloc _) (aD wm.heap.size 0) 1 1 [iV k, .slice fa' fs.length fc', .slice la' ls.length lc', iV (o + T.length)] (by rfl) (by rfl) (World.news_of_block (cs := #[iV k, .slice fa' fs.length fc', .slice la' ls.length lc', iV (o + T.length)]) (t := 68) (fr := (0, 0)) (heap_alloc_new wm _)) (by simp [Value.oneCell']) (by omega) (by simp only [maxLen]; omega) (by omega) (by simp; omega) (wm.heap.size + 1) (by simp) ?_
           intro gg cap w1 hown1 hgrow hat1 hlt1
           have z4:w1.cell? (aD lb 0)=some (.slice ad TT.length c):=by rw[hgrow.cell_far _ (by have:=(HC0.out wm hcm.out).2.2;simp;omega) (Ne.symm hne)];exact F9 (HC0.out wm hcm.out).2.2 (HC0.out wm hcm.out).1
           have y4:w1.frozen? (aD lb 0)=false:=by rw[hgrow.frozen_far _ (by have:=(HC0.out wm hcm.out).2.2;simp;omega) (Ne.symm hne)];exact P8 (HC0.out wm hcm.out).2.2 (HC0.out wm hcm.out).2.1)
        | (go_simp; refine HMV.mono ?_; rintro e wm ⟨hbm, fa', fc', la', lc', rfl, hof2, hol2⟩; have hcm := A0 (HCM.out wm hbm); have zc := (HC0.out wm hcm.out).1; have hltm := (HC0.out wm hcm.out).2.2; have HOF := A0 hof2; have HOL := A0 hol2; clear hbm hof2 hol2))
      all_goals
        have HTV:Hid (TyV (wm.alloc (.cells #[iV k,.slice fa' fs.length fc',.slice la' ls.length lc',iV (o+T.length)] 68)) ok (M.mvT T.length ⟨k,fs,ls,o⟩) [iV k,.slice fa' fs.length fc',.slice la' ls.length lc',iV (o+T.length)]):=by
          refine⟨_,_,rfl, ?_, ?_,fun g hg=>hokn g (Nat.le_trans CR2.out.size (Nat.le_trans (by simp) (HOF.out.lt g hg).1)),fun g hg=>hokn g (Nat.le_trans CR2.out.size (Nat.le_trans (by simp) (HOL.out.lt g hg).1))⟩
          · have:=(C9 HOF.out (Nat.zero_le _)).alloc (.cells #[iV k,.slice fa' fs.length fc',.slice la' ls.length lc',iV (o+T.length)] 68)
            simpa[M.mvT,mvF]using this
          · have:=(C9 HOL.out (Nat.zero_le _)).alloc (.cells #[iV k,.slice fa' fs.length fc',.slice la' ls.length lc',iV (o+T.length)] 68)
            simpa[M.mvT,mvI]using this
        have HQ5:=A0 (HP.out _ w1 gg cap _ _ (hcm.out.trans (Chg.alloc No wm _) (fun _ _ x=>x)) HTV.out hgrow hown1)
        have HAT:=A0 hat1
        have HCS:=A0 (hcm.out.size)
        clear hgrow hown1 hat1 HP HY HTV
        go_wp2
        go_roundw
        case rel=>
          have hws:=CR2.out.size
          refine⟨j+1,by omega,by go_num,by rw[HB.out];exact HQ5.out.2.2.2.2.1,CR2.out.trans HQ5.out.2.2.2.1 (fun i hi hs=> ?_),⟨some (aD gg 0),cap, ?_, ?_⟩⟩
          · rcases hs with hs|hs
            · exact .inl hs
            · rcases HR.out with hr|hr
              · exact .inr (hs.trans hr)
              · have:=hr i hs.symm;omega
          · have e:T.length+(j+1)=TT.length+1:=by have:=hTl.out;omega
            rw[e]
            exact HQ5.out.2.2.2.2.2
          · rcases HAT.out with ha|ha
            · rcases HR.out with hr|hr
              · left
                show some gg=_
                rw[<-ha]
                exact hr
              · right
                intro g' hg'
                have e:some gg=some g':=hg'
                cases e
                exact hr gg ha
            · right
              intro g' hg'
              have e:some gg=some g':=hg'
              cases e
              have:=HCS.out
              omega
        case measure=>simp[intOf];omega
    · have hje:j=X.length:=by omega
      subst hje
      rw[List.take_length]at *
      obtain⟨ad,c,c0,-⟩:=id RR.out
      have hltr:lb<wr.heap.size:=World.block_lt_of_cell? wr _ c0
      go_wp2_with fail
      go_ret
      exact⟨J0 (by omega),CR.out,SR.out,RR.out⟩
end
open Go.RowKit Go.Maps
theorem V3c (w:World):Calls Tryz.prog 14 #[] w fun e w'=>e= .returned (pV (w.heap.size+1))/\Chg No w w'/\Shp w' (w.heap.size+1) w.heap.size 4000 [] (.map [])/\w'.cell? (aD (w.heap.size+1) 0)=some (sN):=by
 have hmm:=@run_makeMap Tryz.prog;have HB:Hid (((w.alloc (.map #[] 0)).alloc (.cells #[sN,.map (some w.heap.size)] 101)).heap[w.heap.size+1]? =some (.cells #[sN,.map (some w.heap.size)] 101 (0,0))):=by
  have:=heap_alloc_new (w.alloc (.map #[] 0)) (.cells #[sN,.map (some w.heap.size)] 101);rw[show (w.alloc (.map #[] 0)).heap.size=w.heap.size+1 from by simp]at this;exact this
 have HS:Hid (Shp ((w.alloc (.map #[] 0)).alloc (.cells #[sN,.map (some w.heap.size)] 101)) (w.heap.size+1) w.heap.size 4000 [] (.map [])):=
  ⟨by intro i hi;simp at hi,(V7c w 4000 (Nat.le_refl _)).chg (Chg.alloc No _ _) (fun x=>x),_,[],HB.out,World.ownsRow_nil _ _ _ _,rfl⟩
 go_enter Tryz.func14,Tryz.ntmps14;go_wp2;go_ret;exact⟨rfl,(Chg.alloc No _ _).trans (Chg.alloc No _ _) (fun _ _ x=>x),HS.out,cr HB.out rfl⟩
end Go.Proofs.YtgdnpemiiageaaaGreatDoor
