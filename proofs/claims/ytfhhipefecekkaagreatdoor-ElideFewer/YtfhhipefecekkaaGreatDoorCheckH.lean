/-
  A part of the proof.
-/
import Derived.Test.YtfhhipefecekkaaGreatDoorBindD
import Derived.RangeFuncNested
import Derived.RangeFuncBound
import Derived.RangeFuncCalls
import Derived.RangeFuncLeaves
import Derived.RangeFuncBox
import Derived.Shelf.Abstract
import Derived.Shelf.RegionOpen
import Derived.OwnWalkIn
import Derived.TacticsInMore
import Derived.LoopNIn
import Derived.LoopIn
import Derived.OwnWalk
set_option maxHeartbeats 16000000
set_option maxRecDepth 100000
namespace Go.Proofs.YtfhhipefecekkaaGreatDoor
open Go.RowKit Go.Maps
def Tyr(w:World)(yv:Value)(T:List M.Ty):Prop:=∃yx,w.ownsRow 0 66 4 yv T.length yx/\Rws (TyV w (λ_=>True)) T yx
theorem Tyr.keep{S:Nat->Prop}{w w':World}{yv:Value}{T:List M.Ty}(h:Tyr w yv T)(hc:Chg S w w')(hs:∀k cs e fz,w.heap[k]? =some (.cells cs e fz)->(e=66\/e=121\/e=3)->¬S k):Tyr w' yv T:=by
 obtain⟨nx,h1,h2⟩:=h;refine⟨nx,A3 h1 hc λg hg x=> ?_,h2.imp (TyV.chg hc (λg _ _ hx hh=> ?_) (λ_ _ _=>trivial))⟩
 · obtain⟨_,cur,hh⟩:=A9 h1 g hg;exact hs _ _ _ _ hh (.inl rfl) x
 · obtain⟨cur,e,hh,he⟩:=hh;exact hs _ _ _ _ hh (.inr he) hx
theorem NdOwn.row{w:World}{lo:Nat}{v:Value}{N:List M.Nd}(h:NdOwn w lo v N):Nrow w v N:=by
 obtain⟨nx,h1,h2⟩:=h;exact⟨nx,C7 h1 (wQ _),h2.imp (NdV.chg (Chg.refl No w) (λ_ _ _ x=>x.elim) (λ_ _ _=>trivial))⟩
theorem TyOwn.row{w:World}{lo:Nat}{v:Value}{T:List M.Ty}(h:TyOwn w lo v T):Tyr w v T:=by
 obtain⟨nx,h1,h2⟩:=h;exact⟨nx,C7 h1 (wQ _),h2.imp (TyV.chg (Chg.refl No w) (λ_ _ _ x=>x.elim) (λ_ _ _=>trivial))⟩
structure Rdb(w:World)(N:List M.Nd)(pb lb mb qb:Nat)(nv:Value)(cs:Array Value)(S:List M.Ty)(k:Nat)(f:Int->Option Int):Prop where
 nodes:Nrow w nv N
 blk:w.heap[pb]? =some (.cells cs 46 (0,0))
 sho:Sho w lb mb 4000 S (.map []) (λ_=>True)
 names:ImM w qb k f
 ne:qb≠mb
section
variable{w w':World}{N:List M.Nd}{pb lb mb qb:Nat}{nv:Value}{cs:Array Value}{S:List M.Ty}{k:Nat}{f:Int->Option Int}
theorem Rdb.still(h:Rdb w N pb lb mb qb nv cs S k f)(hc:Chg No w w'):Rdb w' N pb lb mb qb nv cs S k f:=
 ⟨h.nodes.keep hc (λ_ _ _ _ _ _ x=>x),by rw[hc.block pb (ltG h.blk) (λx=>x)];exact h.blk,h.sho.still hc,h.names.chg hc (λx=>x),h.ne⟩
theorem Rdb.put{k':Nat}{f':Int->Option Int}(h:Rdb w N pb lb mb qb nv cs S k f)(hc:Chg (λx=>x=qb) w w')(hi:ImM w' qb k' f'):Rdb w' N pb lb mb qb nv cs S k' f':=by
 have key:∀q cs e fz,w.heap[q]? =some (.cells cs e fz)->q≠qb:=λq cs e fz hq x=>by
  subst x;exact h.names.notcells hq
 refine⟨h.nodes.keep hc (λq cs e fz hq _=>key q cs e fz hq), ?_,h.sho.chg hc (h.sho.mst.chg hc (λx=>h.ne x.symm)) (λq cur e hq _=>key q cur e _ hq) (λ_ x _=>x),hi,h.ne⟩;rw[hc.block pb (ltG h.blk) (key _ _ _ _ h.blk)];exact h.blk
theorem Rdb.not(h:Rdb w N pb lb mb qb nv cs S k f):∀q cs e fz,w.heap[q]? =some (.cells cs e fz)->e≠46->q≠pb:=λq cs e fz hq he x=>by
 subst x;rw[h.blk]at hq;simp only[zQ,xW]at hq;exact he hq.2.1.symm
theorem Rdb.store{cs':Array Value}(h:Rdb w N pb lb mb qb nv cs S k f)(hc:Chg (λx=>x=pb) w w')(hb:w'.heap[pb]? =some (.cells cs' 46 (0,0))):Rdb w' N pb lb mb qb nv cs' S k f:=by
 have hm:mb≠pb:=λx=>by
  subst x;exact h.sho.mst.tag _ _ _ h.blk
 have hq:qb≠pb:=λx=>by
  subst x;exact h.names.notcells h.blk
 refine⟨h.nodes.keep hc (λq cs e fz hq he=>h.not q cs e fz hq (by rcases he with rfl|rfl|rfl<;>decide)),hb,h.sho.chg hc (h.sho.mst.chg hc hm) (λq cur e hq he=>h.not q cur e _ hq (by rcases he with rfl|rfl|⟨rfl|rfl,_⟩<;>decide)) (λ_ x _=>x),h.names.chg hc hq,h.ne⟩
theorem Rdb.grow{v:Value}{S':List M.Ty}(h:Rdb w N pb lb mb qb nv cs S k f)(hv:w.cell? (aD lb 0)=some v)(hc:Chg (F9a lb v) w w')(hs:Sho w' lb mb 4000 S' (.map []) (λ_=>True)):Rdb w' N pb lb mb qb nv cs S' k f/\(∀(q:Nat) (cs:Array Value) (e:TypeId) (fz:Nat×Nat),w.heap[q]? =some (.cells cs e fz)->e≠97->e≠66->w'.heap[q]? =some (.cells cs e fz))/\Chg (λx=>lb<=x) w w':=by
 obtain⟨y0,yx,hlb,hy,_⟩:=h.sho.blk;have ey:v=y0:=by
  rw[cell_of_row w lb 0 _ _ _ hlb]at hv;exact(Option.some.inj hv).symm
 subst ey;have key:∀(q:Nat) (cs:Array Value) (e:TypeId) (fz:Nat×Nat),w.heap[q]? =some (.cells cs e fz)->e≠97->e≠66->¬F9a lb v q:=by
  rintro q cs e fz hq h1 h2 (rfl|hx)
  · rw[hq]at hlb;simp only[zQ,xW]at hlb;exact h1 hlb.2.1
  · obtain⟨_,cur,hh⟩:=A9 hy q hx.symm;rw[hq]at hh;simp only[zQ,xW]at hh;exact h2 hh.2.1
 have keep:∀(q:Nat) (cs:Array Value) (e:TypeId) (fz:Nat×Nat),w.heap[q]? =some (.cells cs e fz)->e≠97->e≠66->w'.heap[q]? =some (.cells cs e fz):=λq cs e fz hq h1 h2=>by
  rw[hc.block q (ltG hq) (key q cs e fz hq h1 h2)];exact hq
 refine⟨⟨h.nodes.keep hc (λq cs e fz hq he=>key q cs e fz hq (by rcases he with rfl|rfl|rfl<;>decide) (by rcases he with rfl|rfl|rfl<;>decide)),keep _ _ _ _ h.blk (by decide) (by decide),hs,h.names.chg hc ?_,h.ne⟩,keep,hc.mono ?_⟩
 · rintro(rfl|hx)
   · exact h.names.notcells hlb
   · obtain⟨_,cur,hh⟩:=A9 hy qb hx.symm;exact h.names.notcells hh
 · rintro q _ (rfl|hx)
   · exact vQ _
   · exact(A9 hy q hx.symm).1
end
theorem V2a{w:World}{q:Nat}{t:TypeId}(f:w.heap[q]? =some (.cells #[iV 0,iV 0] t (0,0))):Chg No w ((w.setCell (aD q 0) (iV 0)).setCell (aD q 1) (iV 0)):=by
 have hcS:Chg (λk=>k=q) w ((w.setCell (aD q 0) (iV 0)).setCell (aD q 1) (iV 0)):=Chg.trans (Chg.set w (aD q 0) _) (Chg.set _ (aD q 1) _) (λ_ _ x=>x);refine⟨hcS.os,hcS.tape,hcS.output,hcS.size,λk hk _=> ?_⟩;by_cases hkq:k=q
 · subst hkq;rw[heap_setCell_same _ k 1 _ _ _ (heap_setCell_same w k 0 _ _ _ f)];exact f.symm
 · exact hcS.block k hk hkq
theorem S1a{w0 w w':World}{pb lb mb B:Nat}(h:Chg (SW w0 pb lb mb) w0 w')(hb:Below B w w0)(hw:B<=w0.heap.size)(h1:B<=pb)(h2:B<=lb)(h3:B<=mb):Below B w w':=
 hb.trans (Chg.toBelow h (λk _ x=>by
  rcases x with rfl|rfl|rfl|⟨x,_⟩
  · exact h1
  · exact h2
  · exact h3
  · omega) hw)
def W7a(n:Nat)(nv yv:Value)(mn:Int)(lb qb:Nat)(fv:Value)(j:Nat):Array Value:=
 #[nv,yv,iV mn,pV lb,.map (some qb),fv,sN,iV 0,iV (if 1<=j then (n:Int) else 0),iV (if 2<=j then ((n+1:Nat):Int) else 0),iV (if 3<=j then ((n+2:Nat):Int) else 0),iV (if 4<=j then ((n+3:Nat):Int) else 0),iV (if 5<=j then ((n+4:Nat):Int) else 0)]
theorem J3c(c:M.Cx)(nv yv:Value)(mn:Int)(lb qb:Nat)(fv:Value):W7a c.T.length nv yv mn lb qb fv 5=pcs c nv yv mn lb qb fv (sN):=rfl
theorem J2c(n:Nat)(nv yv:Value)(mn:Int)(lb qb:Nat)(fv:Value){j:Nat}(hj:j<5):(W7a n nv yv mn lb qb fv j).setIfInBounds (7+(j+1)) (iV ((n+j:Nat):Int))=W7a n nv yv mn lb qb fv (j+1):=by
 have:j=0\/j=1\/j=2\/j=3\/j=4:=by omega
 rcases this with rfl|rfl|rfl|rfl|rfl<;>rfl
theorem B0c{j:Nat}(hj:j<5):I3.take (j+1)=I3.take j++[⟨((j+1:Nat):Int),[],[],0⟩]:=by
 have:j=0\/j=1\/j=2\/j=3\/j=4:=by omega
 rcases this with rfl|rfl|rfl|rfl|rfl<;>rfl
theorem P1b:I3.take 5=I3:=rfl
theorem M5b(X:List M.Ty):M.U5 [] X=X:=by
 unfold M.U5;have:(M.mvT ([]:List M.Ty).length)=id:=by
  funext t
  obtain⟨k,fs,ls,o⟩:=t;simp[M.mvT]
 rw[this];simp
theorem U4:∀(l:List (Int×Int)) (j:Nat) (h:j<l.length),(J5 l)[j * 2]? =some (iV l[j].1)/\(J5 l)[j * 2+1]? =some (iV l[j].2)
 |p::r,0,_=>⟨rfl,rfl⟩
 |p::r,j+1,h=>by
  have ih:=U4 r j (by simpa using h);have e:J5 (p::r)=iV p.1::iV p.2::J5 r:=rfl;rw[e,show (j+1) * 2=j * 2+1+1 from by omega];simpa using ih
section
variable{N:List M.Nd}{T:List M.Ty}{ps:List M.Nt}{fs:List M.Fr}{l2:List (Nat×Int)}
theorem A3d(hP:M.Prgm N T ps)(hb:M.bnP ps= .ok fs l2):∀p∈Q6 (M.upd (List.replicate N.length (-1)) l2) N.length,(0<=p.1/\p.1<=1000000)/\(0<=p.2/\p.2<=1000000):=λp hp=>by
 obtain⟨j,h1,rfl,h2⟩:=M1b _ _ p hp;have h3:=(M.L2c hP hb).rg j h1;have h4:=hP.lenN;simp only;omega
theorem E1d{wF:World}{pb lb mb qb bl:Nat}{nv yv fv:Value}{mn:Int}(hP:M.Prgm N T ps)(hb:M.bnP ps= .ok fs l2)(h:Rdb wF N pb lb mb qb nv (W7a T.length nv yv mn lb qb fv 5) (T++I3.take 5) bl (asg (Q6 (M.upd (List.replicate N.length (-1)) l2) N.length)))(hbl:bl<=5000)(hf:wF.ownsRow 0 3 1 fv N.length (B8 (M.fnP N))):
 Cbs wF (M.cxP N T l2) pb lb mb qb nv fv/\Cst wF wF (M.cxP N T l2) pb lb mb qb nv yv mn fv [] []:=by
 have e1:asg (Q6 (M.upd (List.replicate N.length (-1)) l2) N.length)=nmM (M.cxP N T l2):=I7d (M.cxP N T l2);have e2:T++I3.take 5=tl (M.cxP N T l2) []:=by
  rw[P1b];unfold tl;rw[List.append_nil];rfl
 rw[e1,e2]at h;obtain⟨yv0,yx,hlb,_⟩:=h.sho.blk;obtain⟨n,⟨es,cl,hm,_⟩,_⟩:=h.sho.mst.own;refine⟨⟨M.A4b hP hb hP.tx,h.nodes,h.names.more hbl,hf,⟨_,h.blk⟩,⟨_,hlb⟩,⟨_,_,hm⟩,h.ne⟩,⟨Chg.refl _ _,⟨sN,.map [], ?_,kW _ _ _ _,h.sho.chg (Chg.refl No _) h.sho.mst (λ_ _ _ _ _ x=>x) (λg _ _=>by simp[Value.ownBlock])⟩, ?_⟩⟩
 · rw[<-J3c];exact h.blk
 · intro i hi;have h5:(tl (M.cxP N T l2) [])=T++I3:=by rw[<-e2];rfl
   have hi':i<(T++I3).length:=by rw[<-h5];exact hi
   have e:(tl (M.cxP N T l2) [])[i]=(T++I3)[i]:=by simp only[h5]
   rw[e];by_cases hT:i<T.length
   · rw[List.getElem_append_left hT];have:=hP.ls i hT;omega
   · rw[List.getElem_append_right (by omega)];have hm:=mQ (l:=I3) (show i - T.length<I3.length from by
      have h6:(T++I3).length=T.length+I3.length:=by simp
      omega)
     generalize I3[i - T.length]'_=t at *;have ht:t.list=[]/\t.fields=[]:=by
      simp only[I3,jW,List.not_mem_nil,or_false]at hm;rcases hm with rfl|rfl|rfl|rfl|rfl<;>exact⟨rfl,rfl⟩
     rw[ht.1,ht.2];exact⟨by decide,by decide⟩
end
open Go.Proofs.Tryz
section
variable(w:World)(va vb vc:Int)(ls:List Int)(la:Option Addr)(lc:Nat)(xs:ByteArray)(vn vt vp:Int)
theorem E7d(ho:w.ownsRow 0 3 1 (.slice la ls.length lc) ls.length (B8 ls))(hn:ls.length<=100000):Calls prog 29 #[.agg #[iV 6,iV va,iV vb,iV vc,.slice la ls.length lc,.string xs,iV vn,iV vt,iV vp]] w (PaP w (ls++[va])):=by
  obtain⟨i0,hi,hz0,hz1,hz2⟩:=info_parts Tryz.infoInt
  have A1:=Chg.alloc No w (.cells #[iV 6,iV va,iV vb,iV vc,.slice la ls.length lc,.string xs,iV vn,iV vt,iV vp] 70)
  have nb:=heap_alloc_new w (.cells #[iV 6,iV va,iV vb,iV vc,.slice la ls.length lc,.string xs,iV vn,iV vt,iV vp] 70)
  have n1:(w.alloc (.cells #[iV 6,iV va,iV vb,iV vc,.slice la ls.length lc,.string xs,iV vn,iV vt,iV vp] 70)).cell? (aD w.heap.size 1)=some (iV va):=cr nb rfl
  have n4:(w.alloc (.cells #[iV 6,iV va,iV vb,iV vc,.slice la ls.length lc,.string xs,iV vn,iV vt,iV vp] 70)).cell? (aD w.heap.size 4)=some (.slice la ls.length lc):=cr nb rfl
  have hsz:(w.alloc (.cells #[iV 6,iV va,iV vb,iV vc,.slice la ls.length lc,.string xs,iV vn,iV vt,iV vp] 70)).heap.size=w.heap.size+1:=Array.size_push _
  have A1h:=A0 A1
  have HO:=A0 ho
  clear A1 nb ho
  go_enter func29,ntmps29
  go_wp2_with fail
  generalize (w.alloc (.cells #[iV 6,iV va,iV vb,iV vc,.slice la ls.length lc,.string xs,iV vn,iV vt,iV vp] 70))=W at *
  have HCL:Hid (∀u,Chg No W u->Calls prog 60 #[.slice la ls.length lc] u λe w'=>∃ga gc,e= .returned (.slice ga ls.length gc)/\Hid (Chg No u w')/\Hid (w'.ownsRow w.heap.size 3 1 (.slice ga ls.length gc) ls.length (B8 ls))/\w'.cell? (aD w.heap.size 1)=some (iV va)/\u.heap.size<=w'.heap.size):=λu hu=>by
    refine(T4a u ls la lc (A3 (A3 HO.out A1h.out (λ_ _ x=>x)) hu (λ_ _ x=>x)) hn).mono ?_
    rintro e w' ⟨ga,gc,rfl,hc,ho⟩
    have:=hu.size
    exact⟨ga,gc,rfl,hc,C7 ho (by omega),A8 (B9 hu hc) n1,hc.size⟩
  have n4a:(W.alloc (.cells #[iV va] 3)).cell? (aD w.heap.size 4)=some (.slice la ls.length lc):=F9 (by omega) n4
  have nbi:(W.drew.alloc (.cells #[iV va] 3)).heap[w.heap.size+1]? =some (.cells #[iV va] 3 (0,0)):=by
    have:=heap_alloc_new W.drew (.cells #[iV va] 3)
    rw[show W.drew.heap.size=w.heap.size+1 from hsz]at this
    exact this
  have NBI:=A0 nbi
  have hszi:(W.drew.alloc (.cells #[iV va] 3)).heap.size=w.heap.size+2:=by
    show (W.heap.push _).size=_
    rw[Array.size_push,hsz]
  have CWI:=A0 (B9 (Chg.drewN No W 1) (Chg.alloc No W.drew (.cells #[iV va] 3)))
  clear nbi
  go_region_law (first
    | (refine step_append_lies _ (by rfl) _ _ _ (by rfl) w.heap.size 3 i0 (iV 0) 1 8 underlying43 hi hz0 hz1 hz2 rfl (by omega) (.slice ga ls.length gc) ls.length (B8 ls) (by rfl) (OM.out.alloc _) (aD wm.heap.size 0) 1 1 [iV va] (by rfl) (by rfl) (World.news_of_block (cs := #[iV va]) (t := 3) (fr := (0, 0)) (heap_alloc_new wm _)) (by simp [Value.oneCell']) (by omega) (by simp only [maxLen]; omega) (by omega) (by simp; omega) (wm.heap.size + 1) (by simp) ?_
       intro gg cap w1 hown1 hgrow hat1 hlt1
       have HG:Hid (Chg (λk=>w.heap.size<=k) wm w1):=(Chg.alloc (λk=>w.heap.size<=k) wm (.cells #[iV va] 3)).trans (Chg.grown hgrow) (λk hk x=>(A9 OM.out k x.symm).1)
       have HOW:=A0 hown1
       clear hown1 hgrow hat1)
    | (refine step_append_lies _ (by rfl) _ _ _ (by rfl) w.heap.size 3 i0 (iV 0) 1 8 underlying43 hi hz0 hz1 hz2 rfl (by omega) (.slice ga ls.length gc) ls.length (B8 ls) (by rfl) OM.out (aD (w.heap.size + 1) 0) 1 1 [iV va] (by rfl) (by rfl) (World.news_of_block (cs := #[iV va]) (t := 3) (fr := (0, 0)) (by rw [CM.out.block _ (by rw [hszi]; omega) (λx => x)]; exact NBI.out)) (by simp [Value.oneCell']) (by omega) (by simp only [maxLen]; omega) (by omega) (by omega) wm.heap.size rfl ?_
       intro gg cap w1 hown1 hgrow hat1 hlt1
       have HG:Hid (Chg (λk=>w.heap.size<=k) wm w1):=(Chg.grown hgrow).mono (λk hk x=>(A9 OM.out k x.symm).1)
       have HOW:=A0 hown1
       clear hown1 hgrow hat1)
    | (go_simp; refine (HCL.out _ (Chg.drewN _ _ 1)).mono ?_; rintro e wm ⟨ga, gc, rfl, CM, OM, nm1, hsm⟩; have CMW := A0 (B9 (Chg.drewN No W 1) CM.out); have hsm2 : w.heap.size + 1 <= wm.heap.size := (by rw [<- hsz]; exact hsm); clear hsm)
    | (go_simp; refine (HCL.out _ CWI.out).mono ?_; rintro e wm ⟨ga, gc, rfl, CM, OM, nm1, hsm⟩; have CMW := A0 (B9 CWI.out CM.out); have hsm2 : w.heap.size + 1 <= wm.heap.size := (by rw [hszi] at hsm; omega); clear hsm))
  all_goals
    have HR:Hid (PaP w (ls++[va]) (.returned (.slice (some (aD gg 0)) (ls.length+1) cap)) w1):=by
      refine⟨some (aD gg 0),cap,by rw[qQ,List.length_singleton],((B9 A1h.out CMW.out).mono (S':=λk=>w.heap.size<=k) (λ_ _ x=>x.elim)).trans HG.out (λ_ _ x=>x)|>.mono (λk hk x=>by omega), ?_⟩
      rw[qQ,List.length_singleton,M5]
      exact HOW.out
    go_wp2_with fail
    go_ret
    exact HR.out
end
theorem C1b{N:List M.Nd}{T:List M.Ty}{i:Nat}{nd:M.Nd}(hf:M.FlN N T i nd)(w:World)(la:Option Addr)(lc:Nat)(ho:w.ownsRow 0 3 1 (.slice la nd.list.length lc) nd.list.length (B8 nd.list))(hn:nd.list.length<=100000):
 Calls prog 29 #[nvl nd la lc] w (PaP w (M.prt nd)):=by
 have hk:=hf.k;clear hf;unfold nvl M.prt;obtain⟨kd,va,vb,vc,ls,tx,vn,vt,vp⟩:=nd;simp only at *;split
 · rename_i h;exact P2b w va vb vc ls la lc _ vn vt vp kd h ho hn
 split
 · rename_i h;subst h;exact J5c w va vb vc ls la lc _ vn vt vp ho hn
 split
 · rename_i h;subst h;exact E7d w va vb vc ls la lc _ vn vt vp ho hn
 split
 · rename_i h;exact P3b w va vb vc ls la lc _ vn vt vp kd h
 split
 · rename_i h;exact S7a w va vb vc ls la lc _ vn vt vp kd (by omega)
 split
 · rename_i h;exact C2b w va vb vc ls la lc _ vn vt vp kd (by omega)
 split
 · rename_i h;split
   · rename_i h2;exact S7a w va vb vc ls la lc _ vn vt vp kd (by omega)
   · rename_i h2;exact C2b w va vb vc ls la lc _ vn vt vp kd (by omega)
 · exact P4b w va vb vc ls la lc _ vn vt vp kd (by omega)
open Go.Shelf
attribute [local go_sem] Oper.semAt_some
def dn(m k:Nat):List (Fin (m+1)):=(List.range k).map λj=>⟨m - j,by omega⟩
theorem Y2b(m k:Nat):dn m (k+1)=dn m k++[⟨m - k,by omega⟩]:=by simp[dn,List.range_succ]
theorem H5d(m k:Nat):(dn m k).length=k:=by simp[dn]
def KpB(ab b0:Nat)(A B:World):Prop:=Chg (λk=>k=ab\/b0<=k) A B
theorem KpB.trans{ab b0:Nat}{A B C:World}(h:KpB ab b0 A B)(k:KpB ab b0 B C):KpB ab b0 A C:=Chg.trans h k (λ_ _ x=>x)
def NdAt(W:World)(g:Nat)(nd:M.Nd)(j:Nat)(la:Option Addr)(lc:Nat):Prop:=W.cell? (aD g (j * 9))=some (iV nd.kind)/\W.cell? (aD g (j * 9+1))=some (iV nd.a)/\W.cell? (aD g (j * 9+2))=some (iV nd.b)/\W.cell? (aD g (j * 9+3))=some (iV nd.c)/\W.cell? (aD g (j * 9+4))=some (.slice la nd.list.length lc)/\W.cell? (aD g (j * 9+5))=some (.string ⟨nd.text.toArray⟩)/\W.cell? (aD g (j * 9+6))=some (iV nd.n)/\W.cell? (aD g (j * 9+7))=some (iV nd.ty)/\W.cell? (aD g (j * 9+8))=some (iV nd.at')
theorem KpB.cell{ab b0:Nat}{A B:World}(h:KpB ab b0 A B){q o:Nat}{v:Value}(hq:q≠ab)(hb:q<b0)(hc:A.cell? (aD q o)=some v):B.cell? (aD q o)=some v:=by
 have hl:=blt hc;rw[World.cell?_of_block (Chg.block h q hl (by omega))];exact hc
theorem NdAt.kp{ab b0:Nat}{A B:World}(h:KpB ab b0 A B){g j:Nat}{nd:M.Nd}{la:Option Addr}{lc:Nat}(hq:g≠ab)(hb:g<b0)(hc:NdAt A g nd j la lc):NdAt B g nd j la lc:=by
 obtain⟨h0,h1,h2,h3,h4,h5,h6,h7,h8⟩:=hc;exact⟨h.cell hq hb h0,h.cell hq hb h1,h.cell hq hb h2,h.cell hq hb h3,h.cell hq hb h4,h.cell hq hb h5,h.cell hq hb h6,h.cell hq hb h7,h.cell hq hb h8⟩
theorem S0c(F:Fence)(n:Nat)(hF:F.fn 74)(hro:F.round=none)(hn:1<=n)(l Bs g cap m ab b0:Nat)(hm:m<=1200)(nd:Nat->M.Nd)(la:Nat->Option Addr)(lc:Nat->Nat)(hB1:Bs≠ab)(hB2:Bs<b0)(hg1:g≠ab)(hg2:g<b0)(J Jx:List (Fin (m+1))->World->Prop)
 (hY:∀pre x W,J pre W->pre.length<m+1->YieldAt F (n - 1) prog l #[iV (x.1:Int),nvl (nd x.1) (la x.1) (lc x.1)] W λe W'=>
  (e= .returned (.bool true)/\J (pre++[x]) W'/\KpB ab b0 W W')\/(e= .returned (.bool false)/\Jx (pre++[x]) W'))
 (W:World) (hBs:W.cell? (aD Bs 0)=some (.slice (some (aD g 0)) (m+1) cap)) (hc:∀j,j<m+1->NdAt W g (nd j) j (la j) (lc j)) (h0:J [] W):
 CallsIn F n prog 74 #[.func (.yield l) #[] #[],pV Bs] W λe W'=>(∃v,e= .returned v)/\
  ((∃ys,ys=dn m (m+1)/\J ys W')\/(∃pre,True/\Jx pre W')):=by
 unfold nvl at hY;refine callsIn_of_wp func74 rfl hF ?_ hro;simp only[ntmps74,List.size_toArray,jQ,xQ,Nat.reduceAdd,Nat.reduceSub,Array.replicate_succ,Array.replicate_zero,List.push_toArray,List.append_toArray,List.nil_append,List.cons_append];gi_wp2
 gi_loopw [3] (λv wr=>∃k:Nat,k<=m+1/\v=iV ((m:Int) - (k:Int))/\J (dn m k) wr/\KpB ab b0 W wr) (λv _=>(intOf v+1).toNat)
 case atStart=>exact⟨0,wQ _,by go_num,h0,Chg.refl _ _⟩
 case round=>
  obtain⟨k,hk,rfl,hJs,hkp⟩:=hrel;have hBs':=hkp.cell hB1 hB2 hBs;by_cases hlt:k<m+1
  · obtain⟨p,hp⟩:∃p,p+k=m:=⟨m - k,by omega⟩;have hpm:p<m+1:=by omega
    have hdn:dn m (k+1)=dn m k++[⟨p,hpm⟩]:=by
     rw[Y2b];have:m - k=p:=by omega
     simp only[this]
    obtain⟨c0,c1,c2,c3,c4,c5,c6,c7,c8⟩:=(hc p hpm).kp hkp hg1 hg2;obtain⟨fn,tmps,assign,body,hy,hR⟩:=hY (dn m k) ⟨p,hpm⟩ wr hJs (by rw[H5d];exact hlt);dsimp only at hy
    have hz:((m:Int) - (k:Int))=(p:Int):=by omega
    have HDN:=A0 hdn;have HKP:=A0 hkp;have HC:=A0 hc;have HYY:=A0 hY;rw[hz];clear hdn hkp hc hY hz;generalize nd p=ndp at *;obtain⟨kd,va,vb,vc,ls,tx,vn,vt,vp⟩:=ndp;simp only at *;gi_wp2
    refine hR.mono ?_;rintro e W3 (⟨rfl,hJ3,hk3⟩|⟨rfl,hJx3⟩)
    · gi_wp2
      go_roundw
      case rel=>exact⟨k+1,by omega,by go_num,by rw[HDN.out];exact hJ3,HKP.out.trans hk3⟩
      case measure=>simp[intOf]
    · gi_wp2
      refine bodyPost_ret (results_none rfl _ _ _) rfl ?_;exact⟨⟨_,rfl⟩,.inr ⟨_,trivial,hJx3⟩⟩
  · obtain rfl:k=m+1:=by omega
    have hz:((m:Int) - ((m+1:Nat):Int))= -1:=by omega
    rw[hz];clear hz;gi_wp2
    go_end0;exact⟨⟨_,rfl⟩,.inl ⟨_,rfl,hJs⟩⟩
theorem NdAt.below{n0:Nat}{A B:World}(h:Below n0 A B){g j:Nat}{nd:M.Nd}{la:Option Addr}{lc:Nat}(hg:g<n0)(hc:NdAt A g nd j la lc):NdAt B g nd j la lc:=by
 have key:∀{o:Nat} {v:Value},A.cell? (aD g o)=some v->B.cell? (aD g o)=some v:=λ{o v} hx=>(h.cell (p:=(aD g o)) hg).trans hx;obtain⟨h0,h1,h2,h3,h4,h5,h6,h7,h8⟩:=hc;exact⟨key h0,key h1,key h2,key h3,key h4,key h5,key h6,key h7,key h8⟩
theorem T6b(F:Fence)(n:Nat)(hF:F.fn 74)(hro:F.round=none)(hn:1<=n)(Bs g cap m ab b0:Nat)(hm:m<=1200)(nd:Nat->M.Nd)(la:Nat->Option Addr)(lc:Nat->Nat)(hB1:Bs≠ab)(hB2:Bs<b0)(hg1:g≠ab)(hg2:g<b0)(w:World)(hBw:Bs<w.heap.size)(hgw:g<w.heap.size)
 (hBs:w.cell? (aD Bs 0)=some (.slice (some (aD g 0)) (m+1) cap)) (hc:∀j,j<m+1->NdAt w g (nd j) j (la j) (lc j)):
 SeqStopsK F n prog 74 #[pV Bs] (λx:Fin (m+1)=>#[Value.int .i64 (x.1:Int),nvl (nd x.1) (la x.1) (lc x.1)]) (KpB ab b0) (λys=>ys=dn m (m+1)) (λ_=>True) (m+1) w:=λl J Jx W hW _ _ hY h0=>
 S0c F n hF hro hn l Bs g cap m ab b0 hm nd la lc hB1 hB2 hg1 hg2 J Jx hY W ((hW.cell (p:=(aD Bs 0)) hBw).trans hBs) (λj hj=>(hc j hj).below hW hgw) h0
theorem A8d(F:Fence)(n:Nat)(hF:F.fn 37)(hro:F.round=none)(a:Option Addr)(len cap:Nat)(w:World):
 CallsIn F n prog 37 #[.slice a len cap] w λe w'=>e= .returned (.func (.func 74) #[] #[pV w.heap.size])/\w'=w.alloc (.cells #[.slice a len cap] 38):=by
 refine callsIn_of_wp func37 rfl hF ?_ hro;simp only[ntmps37,List.size_toArray,jQ,xQ,Nat.reduceAdd,Nat.reduceSub,Array.replicate_succ,Array.replicate_zero,List.push_toArray,List.append_toArray,List.nil_append,List.cons_append];gi_wp2
 go_ret;exact⟨rfl,rfl⟩
theorem X6b(N:List M.Nd)(m:Nat)(hN:N.length=m+1):∀k,k<=m+1->(dn m k).foldl (λar x=>M.fnS N ar x.1) (List.replicate N.length 0)=M.fnI N k
 |0,_=>rfl
 |k+1,h=>by
  rw[Y2b,List.foldl_append,X6b N m hN k (by omega),M.fnI];simp[hN]
attribute [local go_sem] Oper.semAt_some
theorem T8a{N:List M.Nd}{T:List M.Ty}(hf:∀i (h:i<N.length),M.FlN N T i N[i])(hls:∀i (h:i<N.length),N[i].list.length<=1200)(m:Nat)(hN:N.length=m+1)(hm:m<=1200)(w:World)(g cap:Nat)(hg:g<w.heap.size)(la:Nat->Option Addr)(lc:Nat->Nat)(hc:∀j,j<m+1->NdAt w g (M.ndx N j) j (la j) (lc j))(hlo:∀j,j<m+1->w.ownsRow 0 3 1 (.slice (la j) (M.ndx N j).list.length (lc j)) (M.ndx N j).list.length (B8 (M.ndx N j).list)):
 Calls prog 15 #[.slice (some (aD g 0)) (m+1) cap] w λe w'=>∃fa fc,e= .returned (.slice fa (m+1) fc)/\Chg No w w'/\w'.ownsRow w.heap.size 3 1 (.slice fa (m+1) fc) (m+1) (B8 (M.fnP N)):=by
 refine(callsIn_wide (n:=6)).1 ?_;obtain⟨i0,hi0,hz0,hz1,hz2⟩:=info_parts Tryz.infoInt;obtain⟨w1,hmk,hown,hgrow⟩:=run_make_full (P:=prog) (w.alloc (.cells #[.slice (some (aD g 0)) (m+1) cap] 38)) w.heap.size 43 3 i0 (iV 0) 1 underlying43 hi0 hz0 hz1 .i64 .i64 (m+1) (by rw[hz2];omega) (by simp only[maxLen];omega) (by simp);have hs1:(w.alloc (.cells #[.slice (some (aD g 0)) (m+1) cap] 38)).heap.size=w.heap.size+1:=Array.size_push _;rw[hs1]at hmk hown;have hcast:((m+1:Nat):Int)=(m:Int)+1:=by omega
 rw[hcast]at hmk;have bl:=heap_alloc_new w (.cells #[.slice (some (aD g 0)) (m+1) cap] 38);have bl1:w1.heap[w.heap.size]? =some (.cells #[.slice (some (aD g 0)) (m+1) cap] 38 (0,0)):=by
  rw[hgrow.block _ (by rw[hs1];omega) (by simp)];exact bl
 have cl1:w1.cell? (aD w.heap.size 0)=some (.slice (some (aD g 0)) (m+1) cap):=cr bl1 rfl;have hlw:w.heap.size+2<=w1.heap.size:=by
  have:=(A9 hown (w.heap.size+1) rfl);obtain⟨_,cur,hh⟩:=this;have:=(ltG hh);omega
 have bA:Boxed (w1.alloc (.cells #[.slice (some (aD (w.heap.size+1) 0)) (m+1) (m+1)] 43)) w1.heap.size 43 (.slice (some (aD (w.heap.size+1) 0)) (m+1) (m+1)):=Boxed.new w1 _ _;have bL:Boxed (w1.alloc (.cells #[.slice (some (aD (w.heap.size+1) 0)) (m+1) (m+1)] 43)) w.heap.size 38 (.slice (some (aD g 0)) (m+1) cap):=Boxed.alloc (show Boxed w1 _ _ _ from bl1) _;have cl2:=bL.cell;refine callsIn_of_wp_marks func15 rfl trivial ?_ rfl;simp only[ntmps15,List.size_toArray,jQ,xQ,Nat.reduceAdd,Nat.reduceSub,Array.replicate_succ,Array.replicate_zero,List.push_toArray,List.append_toArray,List.nil_append,List.cons_append];gi_wp2_with (refine⟨trivial, ?_⟩;gi_at_call 37;refine(A8d _ _ trivial rfl _ _ _ _).mono ?_;rintro e w' ⟨rfl,rfl⟩)
 have bS:=Boxed.new (w1.alloc (.cells #[.slice (some (aD (w.heap.size+1) 0)) (m+1) (m+1)] 43)) 38 (.slice (some (aD g 0)) (m+1) cap);rw[World.size_alloc]at bS;have bA':=bA.alloc (.cells #[.slice (some (aD g 0)) (m+1) cap] 38);have bL':=bL.alloc (.cells #[.slice (some (aD g 0)) (m+1) cap] 38);have hC0:Chg No w ((w1.alloc (.cells #[.slice (some (aD (w.heap.size+1) 0)) (m+1) (m+1)] 43)).alloc (.cells #[.slice (some (aD g 0)) (m+1) cap] 38)):=B9 (B9 (B9 (Chg.alloc No w _) ((Chg.grown hgrow).mono (λ_ _ x=>by simp at x))) (Chg.alloc No w1 _)) (Chg.alloc No _ _);have hR0:((w1.alloc (.cells #[.slice (some (aD (w.heap.size+1) 0)) (m+1) (m+1)] 43)).alloc (.cells #[.slice (some (aD g 0)) (m+1) cap] 38)).ownsRow w.heap.size 3 1 (.slice (some (aD (w.heap.size+1) 0)) (m+1) (m+1)) (m+1) (B8 (List.replicate N.length 0)):=by
  have e:(madeCells (Value.int IntKind.i64 0).cells ((m+1) * 1)).toList=B8 (List.replicate N.length 0):=by
   rw[hN];apply List.ext_getElem
   · simp[madeCells,B8]
   · intro a h1 h2;simp[madeCells,B8,Value.cells,Nat.mod_one]
  rw[e]at hown;exact(hown.alloc _).alloc _
 have hsz:((w1.alloc (.cells #[.slice (some (aD (w.heap.size+1) 0)) (m+1) (m+1)] 43)).alloc (.cells #[.slice (some (aD g 0)) (m+1) cap] 38)).heap.size=w1.heap.size+2:=by simp
 obtain⟨W0,hW0⟩:∃W0,(w1.alloc (.cells #[.slice (some (aD (w.heap.size+1) 0)) (m+1) (m+1)] 43)).alloc (.cells #[.slice (some (aD g 0)) (m+1) cap] 38)=W0:=⟨_,rfl⟩;rw[hW0]at bS bA' bL' hC0 hR0 hsz⊢;clear hW0 bA bL cl1 cl2 bl bl1 hmk hown hgrow;refine wpIn_rangeFunc_ownH rfl (by omega) (gf:=74) (lb:=#[pV (w1.heap.size+1)]) rfl trivial (enters_of func74 (by kernel_rfl) rfl)
  (T6b _ _ trivial rfl (by omega) (w1.heap.size+1) g cap m (w.heap.size+1) (w1.heap.size+2) hm (λj=>M.ndx N j) la lc (by omega) (by omega) (by omega) (by omega) W0 (by omega) (by omega) bS.cell (λj hj=>(hc j hj).below (Chg.toBelow hC0 (λ_ _ x=>x.elim) (vQ _)) hg)) KpB.trans
  (λW l o o' hl h _ _=>⟨rfl,rfl,rfl,by simp,λk _ hk=>World.putObj_heap_other (λe=>hk (by rw[hsz]at hl;exact .inr (by omega)))⟩) (Below.refl _ _) (λ_=>rfl)
  (λpre W=>(Boxed W w.heap.size 38 (.slice (some (aD g 0)) (m+1) cap)/\Boxed W w1.heap.size 43 (.slice (some (aD (w.heap.size+1) 0)) (m+1) (m+1)))/\(W.ownsRow w.heap.size 3 1 (.slice (some (aD (w.heap.size+1) 0)) (m+1) (m+1)) (m+1) (B8 (pre.foldl (λar x=>M.fnS N ar x.1) (List.replicate N.length 0)))/\Chg No w W))
  (λ_ _ _=>False)
  (λpre W W' row hs hg' hr=>by
   obtain⟨⟨h1,h2⟩,h3,h4⟩:=hs;refine⟨⟨boxed_own _ _ (λ(_:Unit)=>_) () W W' row h1 hg' (λr e=>(hr r e).2),boxed_own _ _ (λ(_:Unit)=>_) () W W' row h2 hg' (λr e=>(hr r e).2)⟩,A3 h3 (Chg.grown hg') (λq hq x=> ?_),h4.trans (Chg.grown hg') (λk hk x=>by have:=(hr k x.symm).1;rw[hsz]at this;omega)⟩;obtain⟨_,cur,hh⟩:=A9 h3 q hq;obtain⟨_,o,ho,hn⟩:=hr q x.symm;rw[hh]at ho;cases ho;simp[Obj.isCells]at hn)
  (λ_ _ _ _ _ hs _ _=>hs)
  ⟨⟨bL',bA'⟩,hR0,hC0⟩
  (λx a' W=>∃Bx,w1.heap.size<Bx/\W.heap[Bx]? =some (.cells #[iV (M.ndx N x.1).kind,iV (M.ndx N x.1).a,iV (M.ndx N x.1).b,iV (M.ndx N x.1).c,.slice (la x.1) (M.ndx N x.1).list.length (lc x.1),.string ⟨(M.ndx N x.1).text.toArray⟩,iV (M.ndx N x.1).n,iV (M.ndx N x.1).ty,iV (M.ndx N x.1).at'] 70 (0,0))/\a'={ tmps:=#[.slice (some (aD g 0)) (m+1) cap,pV w.heap.size,sN,pV w1.heap.size,iV (x.1:Int),pV Bx,undef,undef,undef,.slice (some (aD g 0)) (m+1) cap,iV ((m:Int)+1),.slice (some (aD (w.heap.size+1) 0)) (m+1) (m+1),.slice (some (aD g 0)) (m+1) cap,.func (.func 74) #[] #[pV (w1.heap.size+1)],iV (x.1:Int),nvl (M.ndx N x.1) (la x.1) (lc x.1),undef,undef,undef,undef,undef,undef,undef,undef,undef,undef,undef,undef,undef,undef,undef,undef,undef,undef,undef,undef,undef,undef,undef,undef,undef,undef,undef,undef,undef],defers:=[] })
  (λx a' _ X Y row hs hg' hr=>by
   obtain⟨Bx,h1,h2,h3⟩:=hs;refine⟨Bx,h1, ?_,h3⟩;rw[hg'.block Bx (ltG h2) (λe=> ?_)]
   · exact h2
   · obtain⟨_,o,ho,hn⟩:=hr Bx e.symm;rw[h2]at ho;cases ho;simp[Obj.isCells]at hn)
  ?assign ?body ?done ?stop
 case assign=>
  rintro l pre x W K ⟨⟨h1,h2⟩,h3,h4⟩ hK;unfold nvl at hK⊢;generalize M.ndx N x.1=nd at *;obtain⟨kd,va,vb,vc,ls,tx,vn,vt,vp⟩:=nd;simp only at *;gi_wp2
  exact hK _ _ ((KeepsOthers.alloc _ _).from _) (Chg.alloc _ _ _) ⟨⟨h1.alloc _,h2.alloc _⟩,h3.alloc _,B9 h4 (Chg.alloc No _ _)⟩ ⟨W.heap.size,h2.lt,heap_alloc_new W _,rfl⟩
 case body=>
  rintro l pre ⟨i,hi⟩ a' W hl - ⟨⟨b1,b2⟩,hrow,hcw⟩ ⟨Bx,hBx,bX,rfl⟩ hlt;simp only at *;have hiN:i<N.length:=by omega
  have hnx:M.ndx N (i:Int)=N[i]:=M.D3 hiN;have hfl:=hf i hiN;have hl12:=hls i hiN;have hloi:=hlo i hi;rw[hnx]at hloi bX⊢;have hwW:w.heap.size<=W.heap.size:=hcw.size;have HPT:Hid (∀u,Chg (λk=>k=w.heap.size+1) W u->Calls prog 29 #[nvl N[i] (la i) (lc i)] u (PaP u (M.prt N[i]))):=λu hu=>C1b hfl u (la i) (lc i) (A3 (A3 hloi hcw (λ_ _ x=>x)) hu (λq hq x=>by
   have x':q=w.heap.size+1:=x;have:=(hloi.lt q hq).2
   omega)) (by omega)
  have HPL:=A0 (M.I8c hfl);obtain⟨ar,har⟩:∃ar,pre.foldl (λar x=>M.fnS N ar x.1) (List.replicate N.length 0)=ar:=⟨_,rfl⟩;have HFS:Hid ((pre++[(⟨i,hi⟩:Fin (m+1))]).foldl (λar x=>M.fnS N ar x.1) (List.replicate N.length 0)=M.setA (M.fnH N ar i) (M.fnW N ar i) (M.prt N[i])):=by
   show _=_;rw[List.foldl_append,har];simp only[List.foldl_cons,List.foldl_nil,M.fnS,hnx]
  rw[har]at hrow;clear har;have harl:ar.length=m+1:=by
   have:=hrow.1;simpa[B8]using this
  have hrow':W.ownsRow w.heap.size 3 1 (.slice (some (aD (w.heap.size+1) 0)) ar.length (m+1)) ar.length (B8 ar):=by rw[harl];exact hrow
  obtain⟨gx,hgx,hgl,hx1,hx2,v1⟩:=D5 (j:=i) (C7 hrow' (wQ _)) (show i<ar.length by omega);have hgx':gx=w.heap.size+1:=by
   have:=Option.some.inj hgx;exact(congrArg Addr.block this).symm
  subst hgx';have f1:W.frozen? (aD (w.heap.size+1) i)=false:=by
   obtain⟨_,cur,hh⟩:=A9 hrow' (w.heap.size+1) rfl;exact frozen_of_row W _ i _ _ hh
  have HRS:=A0 (C8a hrow' i (-1));rw[harl]at HRS;have hgd:ar.getD i 0=ar[i]'(by omega):=by rw[lQ,gQ (show i<ar.length by omega)];rfl
  have hgs:(ar.set i (-1)).getD i 0= -1:=by rw[lQ,List.getElem?_set_self (show i<ar.length by omega)];rfl
  have HW:Hid ((i=m->N[i].kind=6->M.fnH N ar i=ar.set i (-1)/\M.fnW N ar i=(i:Int))/\(i=m->N[i].kind≠6->M.fnH N ar i=ar.set i (-1)/\M.fnW N ar i= -1)/\(i≠m->N[i].kind=6->M.fnH N ar i=ar/\M.fnW N ar i=(i:Int))/\(i≠m->N[i].kind≠6->M.fnH N ar i=ar/\M.fnW N ar i=ar[i]'(by omega))):=by
   unfold M.fnW M.fnH;rw[hnx,hN];refine⟨λe k=> ?_,λe k=> ?_,λe k=> ?_,λe k=> ?_⟩
   · rw[if_pos (by omega),if_pos k];exact⟨rfl,rfl⟩
   · rw[if_pos (by omega),if_neg k];exact⟨rfl,hgs⟩
   · rw[if_neg (by omega),if_pos k];exact⟨rfl,rfl⟩
   · rw[if_neg (by omega),if_neg k];exact⟨rfl,hgd⟩
  have cL:=b1.cell;have cA:=b2.cell;have HB1:=A0 b1;have HB2:=A0 b2;have HCW:=A0 hcw;have HWS:=A0 hwW;have HRW:=A0 hrow;have HLN:=A0 harl;have HAS:Hid ((ar.set i (-1)).length=m+1):=by
   show _=_;rw[List.length_set];exact harl
  clear hgd hgs hfl hf hls hlo hc hloi hrow hrow' b1 b2 hcw hgx hx1 hx2 hnx hlt;generalize M.prt N[i]=ps at *;generalize M.fnH N ar i=arH at *;generalize M.fnW N ar i=ww at *;generalize ar[i]'_=ai at *;generalize ar.set i (-1)=arS at *;unfold nvl at *;generalize N[i]=nd at *;obtain⟨kd,va,vb,vc,ls,tx,vn,vt,vp⟩:=nd;simp only at *;have n0:=cell_of_row _ _ 0 _ _ _ bX;have n1:=cell_of_row _ _ 1 _ _ _ bX;have n2:=cell_of_row _ _ 2 _ _ _ bX;have n3:=cell_of_row _ _ 3 _ _ _ bX;have n4:=cell_of_row _ _ 4 _ _ _ bX;have n5:=cell_of_row _ _ 5 _ _ _ bX;have n6:=cell_of_row _ _ 6 _ _ _ bX;have n7:=cell_of_row _ _ 7 _ _ _ bX;have n8:=cell_of_row _ _ 8 _ _ _ bX;have hBl:=(ltG bX);clear bX;by_cases hlast:i=m
  · by_cases h6:kd=6
    · skip
      obtain⟨e1,e2⟩:=HW.out.1 hlast h6;subst e1 e2;have HAL:=A0 HAS.out;have HRU:Hid ((W.setCell (aD (w.heap.size+1) i) (iV (-1))).ownsRow w.heap.size 3 1 (.slice (some (aD (w.heap.size+1) 0)) (m+1) (m+1)) (m+1) (B8 arH)):=HRS.out;have HCU:Hid (Chg (λk=>k=w.heap.size+1) W (W.setCell (aD (w.heap.size+1) i) (iV (-1)))):=(show Chg (λk=>k=w.heap.size+1) W _ from Chg.set W (aD (w.heap.size+1) i) (iV (-1)));have HFSU:=A0 HFS.out;have hlast':=hlast.symm;subst hlast';subst h6;gi_wp2
      refine⟨trivial,(CallsIn.inRound l (callsIn_wide.2 (HPT.out _ HCU.out))).mono ?_⟩;rintro e w2 ⟨ga,gc,rfl,hc2,ho2⟩;have HC2:=A0 (HCU.out.trans hc2 (λ_ _ x=>x.elim));have HO2:=A0 (C7 ho2 HCU.out.size);have HR2:=A0 (A3 HRU.out hc2 (λ_ _ x=>x));clear hc2 ho2 HRU HCU HPT v1 f1 cL cA n0 n1 n2 n3 n4 n5 n6 n7 n8;gi_wp2
      gi_loopw [35] (λv wr=>∃j:Nat,j<=ps.length/\v=iV (j:Int)/\Hid (Chg (λk=>k=w.heap.size+1) W wr)/\Hid (wr.ownsRow w.heap.size 3 1 (.slice (some (aD (w.heap.size+1) 0)) (m+1) (m+1)) (m+1) (B8 (M.setA arH (m:Int) (ps.take j))))/\Hid (wr.ownsRow W.heap.size 3 1 (.slice ga ps.length gc) ps.length (B8 ps))) (λv _=>ps.length - (intOf v).toNat)
      case atStart=>exact⟨0,wQ _,rfl,HC2,HR2,HO2⟩
      case round=>
       obtain⟨j,hj,rfl,CR,OA,OP⟩:=hrel;clear HC2 HR2 HO2;have hbA:Boxed wr w1.heap.size 43 (.slice (some (aD (w.heap.size+1) 0)) (m+1) (m+1)):=(CR.out.block _ HB2.out.lt (by omega)).trans HB2.out;have cA:=hbA.cell;by_cases hjl:j<ps.length
       · obtain⟨gp,hga,hgp,hl1,hl2,v0⟩:=D5 (C7 OP.out (wQ _)) hjl;subst hga;obtain⟨y,hy,hyi⟩:=HPL.out ps[j] (mQ hjl);rw[hy]at v0;have HSN:Hid (M.setA arH (m:Int) (ps.take (j+1))=(M.setA arH (m:Int) (ps.take j)).set y (m:Int)):=by
          show _=_;rw[nQ hjl,M.G2a,hy,tQ]
         have hsl:(M.setA arH (m:Int) (ps.take j)).length=m+1:=by rw[M.E5a];exact HAL.out
         have HSL:=A0 hsl;obtain⟨acc,hacc⟩:∃acc,M.setA arH (m:Int) (ps.take j)=acc:=⟨_,rfl⟩;rw[hacc]at OA HSN HSL hsl;clear hacc;have OA2:Hid (wr.ownsRow w.heap.size 3 1 (.slice (some (aD (w.heap.size+1) 0)) acc.length (m+1)) acc.length (B8 acc)):=by
          show World.ownsRow _ _ _ _ _ _ _;rw[hsl];exact OA.out
         obtain⟨gx,hgx,hgl,hx1,hx2,v1⟩:=D5 (j:=y) (C7 OA2.out (wQ _)) (show y<acc.length by omega);have hgx':gx=w.heap.size+1:=by
          have:=Option.some.inj hgx;exact(congrArg Addr.block this).symm
         subst hgx';have f1:wr.frozen? (aD (w.heap.size+1) y)=false:=by
          obtain⟨_,cur,hh⟩:=A9 OA2.out (w.heap.size+1) rfl;exact frozen_of_row wr _ y _ _ hh
         have HRS:=A0 (C8a OA2.out y (m:Int));have HNE:Hid (gp≠w.heap.size+1):=by
          show gp≠w.heap.size+1;have h1:=(OP.out.lt gp rfl).1;have h2:=HWS.out;omega
         unfold maxLen at hl2;have hy':(y:Int)<(m:Int)+1:=by omega
         generalize acc[y]'_=av at *;clear hsl hy hgx hx1 hx2;gi_wp2
         go_roundw
         case rel=>exact⟨j+1,by omega,by go_num,(show Chg (λk=>k=w.heap.size+1) W _ from CR.out.trans (Chg.set wr (aD (w.heap.size+1) y) _) (λ_ _ x=>x)),(show World.ownsRow _ _ _ _ _ _ _ from by
          rw[HSN.out];have:=HRS.out;rw[HSL.out]at this;exact this),A3 OP.out (Chg.set wr (aD (w.heap.size+1) y) _) (λq hq x=>by
           have x':q=w.heap.size+1:=x;have h3:gp=q:=Option.some.inj hq;exact HNE.out (h3.trans x'))⟩
         case measure=>simp[intOf];omega
       · have hje:j=ps.length:=by omega
         subst hje;rw[List.take_length]at OA;gi_wp2
         refine⟨⟨CR.out.size,λk o hk ho hn=>by rw[CR.out.block k (ltG ho) (by rw[hsz]at hk;omega)];exact ho⟩,CR.out.mono (λk _ x=> .inl x),⟨(CR.out.block _ HB1.out.lt (by omega)).trans HB1.out,hbA⟩, ?_,HCW.out.trans CR.out (λk hk x=>by have x':k=w.heap.size+1:=x;omega)⟩;rw[HFSU.out];exact OA.out
    · skip
      obtain⟨e1,e2⟩:=HW.out.2.1 hlast h6;subst e1;rw[e2]at HFS;have HAL:=A0 HAS.out;have HRU:Hid ((W.setCell (aD (w.heap.size+1) i) (iV (-1))).ownsRow w.heap.size 3 1 (.slice (some (aD (w.heap.size+1) 0)) (m+1) (m+1)) (m+1) (B8 arH)):=HRS.out;have HCU:Hid (Chg (λk=>k=w.heap.size+1) W (W.setCell (aD (w.heap.size+1) i) (iV (-1)))):=(show Chg (λk=>k=w.heap.size+1) W _ from Chg.set W (aD (w.heap.size+1) i) (iV (-1)));have HFSU:=A0 HFS.out;have hlast':=hlast.symm;subst hlast';have hk6:(kd==6)=false:=by simpa using h6
      clear h6;gi_wp2
      refine⟨trivial,(CallsIn.inRound l (callsIn_wide.2 (HPT.out _ HCU.out))).mono ?_⟩;rintro e w2 ⟨ga,gc,rfl,hc2,ho2⟩;have HC2:=A0 (HCU.out.trans hc2 (λ_ _ x=>x.elim));have HO2:=A0 (C7 ho2 HCU.out.size);have HR2:=A0 (A3 HRU.out hc2 (λ_ _ x=>x));clear hc2 ho2 HRU HCU HPT v1 f1 cL cA n0 n1 n2 n3 n4 n5 n6 n7 n8;gi_wp2
      gi_loopw [35] (λv wr=>∃j:Nat,j<=ps.length/\v=iV (j:Int)/\Hid (Chg (λk=>k=w.heap.size+1) W wr)/\Hid (wr.ownsRow w.heap.size 3 1 (.slice (some (aD (w.heap.size+1) 0)) (m+1) (m+1)) (m+1) (B8 (M.setA arH (-1) (ps.take j))))/\Hid (wr.ownsRow W.heap.size 3 1 (.slice ga ps.length gc) ps.length (B8 ps))) (λv _=>ps.length - (intOf v).toNat)
      case atStart=>exact⟨0,wQ _,rfl,HC2,HR2,HO2⟩
      case round=>
       obtain⟨j,hj,rfl,CR,OA,OP⟩:=hrel;clear HC2 HR2 HO2;have hbA:Boxed wr w1.heap.size 43 (.slice (some (aD (w.heap.size+1) 0)) (m+1) (m+1)):=(CR.out.block _ HB2.out.lt (by omega)).trans HB2.out;have cA:=hbA.cell;by_cases hjl:j<ps.length
       · obtain⟨gp,hga,hgp,hl1,hl2,v0⟩:=D5 (C7 OP.out (wQ _)) hjl;subst hga;obtain⟨y,hy,hyi⟩:=HPL.out ps[j] (mQ hjl);rw[hy]at v0;have HSN:Hid (M.setA arH (-1) (ps.take (j+1))=(M.setA arH (-1) (ps.take j)).set y (-1)):=by
          show _=_;rw[nQ hjl,M.G2a,hy,tQ]
         have hsl:(M.setA arH (-1) (ps.take j)).length=m+1:=by rw[M.E5a];exact HAL.out
         have HSL:=A0 hsl;obtain⟨acc,hacc⟩:∃acc,M.setA arH (-1) (ps.take j)=acc:=⟨_,rfl⟩;rw[hacc]at OA HSN HSL hsl;clear hacc;have OA2:Hid (wr.ownsRow w.heap.size 3 1 (.slice (some (aD (w.heap.size+1) 0)) acc.length (m+1)) acc.length (B8 acc)):=by
          show World.ownsRow _ _ _ _ _ _ _;rw[hsl];exact OA.out
         obtain⟨gx,hgx,hgl,hx1,hx2,v1⟩:=D5 (j:=y) (C7 OA2.out (wQ _)) (show y<acc.length by omega);have hgx':gx=w.heap.size+1:=by
          have:=Option.some.inj hgx;exact(congrArg Addr.block this).symm
         subst hgx';have f1:wr.frozen? (aD (w.heap.size+1) y)=false:=by
          obtain⟨_,cur,hh⟩:=A9 OA2.out (w.heap.size+1) rfl;exact frozen_of_row wr _ y _ _ hh
         have HRS:=A0 (C8a OA2.out y (-1));have HNE:Hid (gp≠w.heap.size+1):=by
          show gp≠w.heap.size+1;have h1:=(OP.out.lt gp rfl).1;have h2:=HWS.out;omega
         unfold maxLen at hl2;have hy':(y:Int)<(m:Int)+1:=by omega
         generalize acc[y]'_=av at *;clear hsl hy hgx hx1 hx2;gi_wp2
         go_roundw
         case rel=>exact⟨j+1,by omega,by go_num,(show Chg (λk=>k=w.heap.size+1) W _ from CR.out.trans (Chg.set wr (aD (w.heap.size+1) y) _) (λ_ _ x=>x)),(show World.ownsRow _ _ _ _ _ _ _ from by
          rw[HSN.out];have:=HRS.out;rw[HSL.out]at this;exact this),A3 OP.out (Chg.set wr (aD (w.heap.size+1) y) _) (λq hq x=>by
           have x':q=w.heap.size+1:=x;have h3:gp=q:=Option.some.inj hq;exact HNE.out (h3.trans x'))⟩
         case measure=>simp[intOf];omega
       · have hje:j=ps.length:=by omega
         subst hje;rw[List.take_length]at OA;gi_wp2
         refine⟨⟨CR.out.size,λk o hk ho hn=>by rw[CR.out.block k (ltG ho) (by rw[hsz]at hk;omega)];exact ho⟩,CR.out.mono (λk _ x=> .inl x),⟨(CR.out.block _ HB1.out.lt (by omega)).trans HB1.out,hbA⟩, ?_,HCW.out.trans CR.out (λk hk x=>by have x':k=w.heap.size+1:=x;omega)⟩;rw[HFSU.out];exact OA.out
  · by_cases h6:kd=6
    · skip
      obtain⟨e1,e2⟩:=HW.out.2.2.1 hlast h6;subst e1 e2;have HAL:=A0 HLN.out;have HRU:Hid (W.ownsRow w.heap.size 3 1 (.slice (some (aD (w.heap.size+1) 0)) (m+1) (m+1)) (m+1) (B8 arH)):=HRW.out;have HCU:Hid (Chg (λk=>k=w.heap.size+1) W W):=Chg.refl _ _;have HFSU:=A0 HFS.out;have hl1:((i:Int)==(m:Int))=false:=by simp;omega
      subst h6;gi_wp2
      refine⟨trivial,(CallsIn.inRound l (callsIn_wide.2 (HPT.out _ HCU.out))).mono ?_⟩;rintro e w2 ⟨ga,gc,rfl,hc2,ho2⟩;have HC2:=A0 (HCU.out.trans hc2 (λ_ _ x=>x.elim));have HO2:=A0 (C7 ho2 HCU.out.size);have HR2:=A0 (A3 HRU.out hc2 (λ_ _ x=>x));clear hc2 ho2 HRU HCU HPT v1 f1 cL cA n0 n1 n2 n3 n4 n5 n6 n7 n8;gi_wp2
      gi_loopw [35] (λv wr=>∃j:Nat,j<=ps.length/\v=iV (j:Int)/\Hid (Chg (λk=>k=w.heap.size+1) W wr)/\Hid (wr.ownsRow w.heap.size 3 1 (.slice (some (aD (w.heap.size+1) 0)) (m+1) (m+1)) (m+1) (B8 (M.setA arH (i:Int) (ps.take j))))/\Hid (wr.ownsRow W.heap.size 3 1 (.slice ga ps.length gc) ps.length (B8 ps))) (λv _=>ps.length - (intOf v).toNat)
      case atStart=>exact⟨0,wQ _,rfl,HC2,HR2,HO2⟩
      case round=>
       obtain⟨j,hj,rfl,CR,OA,OP⟩:=hrel;clear HC2 HR2 HO2;have hbA:Boxed wr w1.heap.size 43 (.slice (some (aD (w.heap.size+1) 0)) (m+1) (m+1)):=(CR.out.block _ HB2.out.lt (by omega)).trans HB2.out;have cA:=hbA.cell;by_cases hjl:j<ps.length
       · obtain⟨gp,hga,hgp,hl1,hl2,v0⟩:=D5 (C7 OP.out (wQ _)) hjl;subst hga;obtain⟨y,hy,hyi⟩:=HPL.out ps[j] (mQ hjl);rw[hy]at v0;have HSN:Hid (M.setA arH (i:Int) (ps.take (j+1))=(M.setA arH (i:Int) (ps.take j)).set y (i:Int)):=by
          show _=_;rw[nQ hjl,M.G2a,hy,tQ]
         have hsl:(M.setA arH (i:Int) (ps.take j)).length=m+1:=by rw[M.E5a];exact HAL.out
         have HSL:=A0 hsl;obtain⟨acc,hacc⟩:∃acc,M.setA arH (i:Int) (ps.take j)=acc:=⟨_,rfl⟩;rw[hacc]at OA HSN HSL hsl;clear hacc;have OA2:Hid (wr.ownsRow w.heap.size 3 1 (.slice (some (aD (w.heap.size+1) 0)) acc.length (m+1)) acc.length (B8 acc)):=by
          show World.ownsRow _ _ _ _ _ _ _;rw[hsl];exact OA.out
         obtain⟨gx,hgx,hgl,hx1,hx2,v1⟩:=D5 (j:=y) (C7 OA2.out (wQ _)) (show y<acc.length by omega);have hgx':gx=w.heap.size+1:=by
          have:=Option.some.inj hgx;exact(congrArg Addr.block this).symm
         subst hgx';have f1:wr.frozen? (aD (w.heap.size+1) y)=false:=by
          obtain⟨_,cur,hh⟩:=A9 OA2.out (w.heap.size+1) rfl;exact frozen_of_row wr _ y _ _ hh
         have HRS:=A0 (C8a OA2.out y (i:Int));have HNE:Hid (gp≠w.heap.size+1):=by
          show gp≠w.heap.size+1;have h1:=(OP.out.lt gp rfl).1;have h2:=HWS.out;omega
         unfold maxLen at hl2;have hy':(y:Int)<(m:Int)+1:=by omega
         generalize acc[y]'_=av at *;clear hsl hy hgx hx1 hx2;gi_wp2
         go_roundw
         case rel=>exact⟨j+1,by omega,by go_num,(show Chg (λk=>k=w.heap.size+1) W _ from CR.out.trans (Chg.set wr (aD (w.heap.size+1) y) _) (λ_ _ x=>x)),(show World.ownsRow _ _ _ _ _ _ _ from by
          rw[HSN.out];have:=HRS.out;rw[HSL.out]at this;exact this),A3 OP.out (Chg.set wr (aD (w.heap.size+1) y) _) (λq hq x=>by
           have x':q=w.heap.size+1:=x;have h3:gp=q:=Option.some.inj hq;exact HNE.out (h3.trans x'))⟩
         case measure=>simp[intOf];omega
       · have hje:j=ps.length:=by omega
         subst hje;rw[List.take_length]at OA;gi_wp2
         refine⟨⟨CR.out.size,λk o hk ho hn=>by rw[CR.out.block k (ltG ho) (by rw[hsz]at hk;omega)];exact ho⟩,CR.out.mono (λk _ x=> .inl x),⟨(CR.out.block _ HB1.out.lt (by omega)).trans HB1.out,hbA⟩, ?_,HCW.out.trans CR.out (λk hk x=>by have x':k=w.heap.size+1:=x;omega)⟩;rw[HFSU.out];exact OA.out
    · skip
      obtain⟨e1,e2⟩:=HW.out.2.2.2 hlast h6;subst e1 e2;have HAL:=A0 HLN.out;have HRU:Hid (W.ownsRow w.heap.size 3 1 (.slice (some (aD (w.heap.size+1) 0)) (m+1) (m+1)) (m+1) (B8 arH)):=HRW.out;have HCU:Hid (Chg (λk=>k=w.heap.size+1) W W):=Chg.refl _ _;have HFSU:=A0 HFS.out;have hl1:((i:Int)==(m:Int))=false:=by simp;omega
      have hk6:(kd==6)=false:=by simpa using h6
      clear h6;gi_wp2
      refine⟨trivial,(CallsIn.inRound l (callsIn_wide.2 (HPT.out _ HCU.out))).mono ?_⟩;rintro e w2 ⟨ga,gc,rfl,hc2,ho2⟩;have HC2:=A0 (HCU.out.trans hc2 (λ_ _ x=>x.elim));have HO2:=A0 (C7 ho2 HCU.out.size);have HR2:=A0 (A3 HRU.out hc2 (λ_ _ x=>x));clear hc2 ho2 HRU HCU HPT v1 f1 cL cA n0 n1 n2 n3 n4 n5 n6 n7 n8;gi_wp2
      gi_loopw [35] (λv wr=>∃j:Nat,j<=ps.length/\v=iV (j:Int)/\Hid (Chg (λk=>k=w.heap.size+1) W wr)/\Hid (wr.ownsRow w.heap.size 3 1 (.slice (some (aD (w.heap.size+1) 0)) (m+1) (m+1)) (m+1) (B8 (M.setA arH ww (ps.take j))))/\Hid (wr.ownsRow W.heap.size 3 1 (.slice ga ps.length gc) ps.length (B8 ps))) (λv _=>ps.length - (intOf v).toNat)
      case atStart=>exact⟨0,wQ _,rfl,HC2,HR2,HO2⟩
      case round=>
       obtain⟨j,hj,rfl,CR,OA,OP⟩:=hrel;clear HC2 HR2 HO2;have hbA:Boxed wr w1.heap.size 43 (.slice (some (aD (w.heap.size+1) 0)) (m+1) (m+1)):=(CR.out.block _ HB2.out.lt (by omega)).trans HB2.out;have cA:=hbA.cell;by_cases hjl:j<ps.length
       · obtain⟨gp,hga,hgp,hl1,hl2,v0⟩:=D5 (C7 OP.out (wQ _)) hjl;subst hga;obtain⟨y,hy,hyi⟩:=HPL.out ps[j] (mQ hjl);rw[hy]at v0;have HSN:Hid (M.setA arH ww (ps.take (j+1))=(M.setA arH ww (ps.take j)).set y ww):=by
          show _=_;rw[nQ hjl,M.G2a,hy,tQ]
         have hsl:(M.setA arH ww (ps.take j)).length=m+1:=by rw[M.E5a];exact HAL.out
         have HSL:=A0 hsl;obtain⟨acc,hacc⟩:∃acc,M.setA arH ww (ps.take j)=acc:=⟨_,rfl⟩;rw[hacc]at OA HSN HSL hsl;clear hacc;have OA2:Hid (wr.ownsRow w.heap.size 3 1 (.slice (some (aD (w.heap.size+1) 0)) acc.length (m+1)) acc.length (B8 acc)):=by
          show World.ownsRow _ _ _ _ _ _ _;rw[hsl];exact OA.out
         obtain⟨gx,hgx,hgl,hx1,hx2,v1⟩:=D5 (j:=y) (C7 OA2.out (wQ _)) (show y<acc.length by omega);have hgx':gx=w.heap.size+1:=by
          have:=Option.some.inj hgx;exact(congrArg Addr.block this).symm
         subst hgx';have f1:wr.frozen? (aD (w.heap.size+1) y)=false:=by
          obtain⟨_,cur,hh⟩:=A9 OA2.out (w.heap.size+1) rfl;exact frozen_of_row wr _ y _ _ hh
         have HRS:=A0 (C8a OA2.out y ww);have HNE:Hid (gp≠w.heap.size+1):=by
          show gp≠w.heap.size+1;have h1:=(OP.out.lt gp rfl).1;have h2:=HWS.out;omega
         unfold maxLen at hl2;have hy':(y:Int)<(m:Int)+1:=by omega
         generalize acc[y]'_=av at *;clear hsl hy hgx hx1 hx2;gi_wp2
         go_roundw
         case rel=>exact⟨j+1,by omega,by go_num,(show Chg (λk=>k=w.heap.size+1) W _ from CR.out.trans (Chg.set wr (aD (w.heap.size+1) y) _) (λ_ _ x=>x)),(show World.ownsRow _ _ _ _ _ _ _ from by
          rw[HSN.out];have:=HRS.out;rw[HSL.out]at this;exact this),A3 OP.out (Chg.set wr (aD (w.heap.size+1) y) _) (λq hq x=>by
           have x':q=w.heap.size+1:=x;have h3:gp=q:=Option.some.inj hq;exact HNE.out (h3.trans x'))⟩
         case measure=>simp[intOf];omega
       · have hje:j=ps.length:=by omega
         subst hje;rw[List.take_length]at OA;gi_wp2
         refine⟨⟨CR.out.size,λk o hk ho hn=>by rw[CR.out.block k (ltG ho) (by rw[hsz]at hk;omega)];exact ho⟩,CR.out.mono (λk _ x=> .inl x),⟨(CR.out.block _ HB1.out.lt (by omega)).trans HB1.out,hbA⟩, ?_,HCW.out.trans CR.out (λk hk x=>by have x':k=w.heap.size+1:=x;omega)⟩;rw[HFSU.out];exact OA.out
 case done=>
  rintro D zs W hD rfl ⟨⟨h1,h2⟩,h3,h4⟩ hK;have cA:=h2.cell;gi_wp2
  refine⟨by simp,.inl ⟨_,_,rfl,run_takeDeferred hK, ?_⟩⟩;have hcD:Chg (λk=>k=D) W (W.putObj D (.deferred none)):=⟨rfl,rfl,rfl,by simp,λk _ hk=>World.putObj_heap_other (λe=>hk e)⟩;refine⟨_,results_tmp rfl _ _ _,_,_,rfl,h4.trans hcD (λk hk x=>by have x':k=D:=x;rw[hsz]at hD;omega), ?_⟩;have:=A3 h3 hcD (λq hq x=>by
   have x':q=D:=x;have:w.heap.size+1=q:=Option.some.inj hq;rw[hsz]at hD
   omega)
  rw[X6b N m hN (m+1) (vQ _)]at this;unfold M.fnP;rw[hN];exact this
 case stop=>
  rintro D c pre W _ _ h _;exact h.elim
theorem O8a{N:List M.Nd}{T:List M.Ty}(hf:∀i (h:i<N.length),M.FlN N T i N[i])(hls:∀i (h:i<N.length),N[i].list.length<=1200)(h0:0<N.length)(hm:N.length<=1200)(w:World)(nv:Value)(hr:Nrow w nv N):
 Calls prog 15 #[nv] w λe w'=>∃fv,e= .returned fv/\Chg No w w'/\w'.ownsRow w.heap.size 3 1 fv N.length (B8 (M.fnP N)):=by
 obtain⟨m,hN⟩:∃m,N.length=m+1:=⟨N.length - 1,by omega⟩;obtain⟨g,nc,_,_,hnv,hg,_⟩:=hr.at (Below.refl _ _) 0 h0;have key:∀j:Nat,∃(la:Option Addr) (lc:Nat),j<m+1->NdAt w g (M.ndx N j) j la lc/\w.ownsRow 0 3 1 (.slice la (M.ndx N j).list.length lc) (M.ndx N j).list.length (B8 (M.ndx N j).list):=λj=>by
  by_cases hj:j<N.length
  · obtain⟨g',nc',la,lc,hnv',_,_,_,hx,ho,_⟩:=hr.at (Below.refl _ _) j hj;rw[hnv]at hnv';have hgg:g=g':=by
     injection hnv' with e1 _ _;injection e1 with e1;exact congrArg Addr.block e1
    subst hgg;refine⟨la,lc,λ_=> ?_⟩;rw[show M.ndx N (j:Int)=N[j] from M.D3 hj];exact⟨hx,ho⟩
  · exact⟨none,0,λh=>by omega⟩
 subst hnv;rw[hN];refine(T8a hf hls m hN (by omega) w g nc hg (λj=>(key j).choose) (λj=>(key j).choose_spec.choose) (λj hj=>((key j).choose_spec.choose_spec hj).1) (λj hj=>((key j).choose_spec.choose_spec hj).2)).mono ?_;rintro e w' ⟨fa,fc,rfl,hc,ho⟩;exact⟨_,rfl,hc,ho⟩
end Go.Proofs.YtfhhipefecekkaaGreatDoor
