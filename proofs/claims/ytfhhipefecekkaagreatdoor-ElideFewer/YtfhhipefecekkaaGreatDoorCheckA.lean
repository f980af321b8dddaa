/-
  A part of the proof.
-/
import Derived.Test.YtfhhipefecekkaaGreatDoorBindA
import Derived.Test.YtfhhipefecekkaaGreatDoorPlainF
import Derived.Test.YtfhhipefecekkaaGreatDoorFitB
set_option maxHeartbeats 16000000
set_option maxRecDepth 100000
namespace Go.Proofs.YtfhhipefecekkaaGreatDoor
open Go.Proofs.Tryz
open Go.RowKit Go.Maps
theorem X0b:Keyed prog 3:=int_keyed underlying3
theorem J9d(a:Int)(h:0<=a/\a<=1000000):(Lit.int .i64 a).wf=true:=by
 simp[Lit.wf,IntKind.min,IntKind.max,IntKind.bits,IntKind.signed];omega
theorem K7a(a:Int)(h:0<=a/\a<=1000000):keyOf prog 3 (.int .i64 a)=some (.int .i64 a):=keyOf_int_mk underlying3 (J9d a h)
theorem E9c(w:World):(zeroValue 3).run prog w= .ok (.int .i64 0) w:=by kernel_rfl
structure ImM(w:World)(q m:Nat)(f:Int->Option Int):Prop where
 own:∃n D,w.ownsMap prog 3 (plainElem (H:=Unit) prog 3) q n D/\n<=m/\IsMap D/\∀(s:Int) (d:DataW Unit),D.atKey (.int .i64 s) d=match f s with
  |some j=> .lit (.int .i64 j)
  |none=>d
theorem ImM.new(w:World):ImM (w.alloc (.map #[] 0)) w.heap.size 0 (λ_=>none):=⟨0,.map [],World.ownsMap_made w _ _ _,vQ _,isMap_empty,λ_ _=>rfl⟩
theorem ImM.more{w:World}{q m m':Nat}{f:Int->Option Int}(h:ImM w q m f)(hm:m<=m'):ImM w q m' f:=by
 obtain⟨n,D,h1,h2,r⟩:=h.own;exact⟨n,D,h1,by omega,r⟩
theorem ImM.lt{w:World}{q m:Nat}{f:Int->Option Int}(h:ImM w q m f):q<w.heap.size:=by
 obtain⟨n,D,⟨es,cl,h1,_⟩,_⟩:=h.own;exact(ltG h1)
theorem ImM.chg{S:Nat->Prop}{w w':World}{q m:Nat}{f:Int->Option Int}(h:ImM w q m f)(hc:Chg S w w')(hn:¬S q):ImM w' q m f:=by
 obtain⟨n,D,⟨es,cl,h1,h2⟩,r⟩:=h.own;exact⟨n,D,⟨es,cl,by rw[hc.block q (ltG h1) hn];exact h1,h2⟩,r⟩
theorem ImM.notcells{w:World}{q m:Nat}{f:Int->Option Int}(h:ImM w q m f){cs:Array Value}{e:TypeId}{fz:Nat×Nat}:w.heap[q]? ≠some (.cells cs e fz):=by
 obtain⟨n,D,⟨es,cl,h1,_⟩,_⟩:=h.own;rw[h1];simp
theorem ImM.look{w:World}{q m:Nat}{f:Int->Option Int}(h:ImM w q m f)(s:Int)(hs:0<=s/\s<=1000000):
 (Instr.lookup 35 (.map (some q)) (.int .i64 s) true).run prog w= .ok (.tuple #[.int .i64 ((f s).getD 0),.bool (f s).isSome]) w:=by
 obtain⟨n,D,⟨es,cl,hb,F,_,rfl⟩,_,_,hat⟩:=h.own;have h0:=hat s (.lit (.int .i64 0));have h1:=hat s (.lit (.int .i64 1));rcases fit_look true X0b underlying35 (E9c w) hb F (K7a s hs) with ⟨hrun,_,ha⟩|⟨e0,y,_,_,hrun,hy,ha,_⟩
 · rw[ha]at h0 h1;cases hf:f s with
   |none=>rw[hrun];rfl
   |some j=>
    rw[hf]at h0 h1;simp only[DataW.lit.injEq,Lit.int.injEq,true_and]at h0 h1;omega
 · rw[ha]at h0 h1;cases hf:f s with
   |none=>
    rw[hf]at h0 h1;simp only at h0 h1;rw[h0]at h1;simp at h1
   |some j=>
    rw[hf]at h0;simp only at h0;have:∃c,e0.val= .int .i64 c/\y=(.lit (.int .i64 c),[])/\(Lit.int .i64 c).wf=true:=plainElem_int_inv underlying3 (by rw[hy]);obtain⟨c,hv,rfl,_⟩:=this;simp only[DataW.lit.injEq,Lit.int.injEq,true_and]at h0;rw[hrun,hv,h0];rfl
theorem ImM.get{w:World}{q m:Nat}{f:Int->Option Int}(h:ImM w q m f)(s:Int)(hs:0<=s/\s<=1000000):
 (Instr.lookup 35 (.map (some q)) (.int .i64 s) false).run prog w= .ok (.int .i64 ((f s).getD 0)) w:=by
 obtain⟨n,D,ho,_,_,hat⟩:=h.own;obtain⟨c,hrun,h2,_⟩:=ho.lookup_int X0b underlying35 underlying3 (E9c _) (K7a s hs);rw[hat s]at h2;cases hf:f s with
 |none=>
  rw[hf]at h2;simp only[DataW.lit.injEq,Lit.int.injEq,true_and]at h2;rw[hrun,<-h2];rfl
 |some j=>
  rw[hf]at h2;simp only[DataW.lit.injEq,Lit.int.injEq,true_and]at h2;rw[hrun,<-h2];rfl
theorem ImM.put{w:World}{q m:Nat}{f:Int->Option Int}(h:ImM w q m f)(s:Int)(j:Int)(hs:0<=s/\s<=1000000)(hm:m<=100000000)(hj:0<=j/\j<=1000000):
 ∃w',(Instr.mapUpdate 35 (.map (some q)) (.int .i64 s) (.int .i64 j)).run prog w= .ok () w'/\ImM w' q (m+1) (λu=>if u=s then some j else f u)/\Chg (λk=>k=q) w w':=by
 obtain⟨n,D,ho,hn,hmap,hat⟩:=h.own;have hwf:(Lit.int .i64 j).wf=true:=by
  simp[Lit.wf,IntKind.min,IntKind.max,IntKind.bits,IntKind.signed];omega
 obtain⟨w',hrun,ho',hg⟩:=ho.update X0b underlying35 (by unfold maxLen;omega) (K7a s hs) (plainElem_int underlying3 hwf);refine⟨w',hrun,⟨n+1,_,ho',by omega,hmap.put _ _,λu d=> ?_⟩,(Chg.grown hg).mono (λk _ x=>by simpa using x)⟩;by_cases hu:u=s
 · subst hu;rw[atKey_put_same hmap (show WideAt.IsKeyLit (.int .i64 u) from trivial)];simp[]
 · rw[atKey_put_other (by simpa using hu),hat u];simp[hu]
def I3:List M.Ty:=[⟨1,[],[],0⟩,⟨2,[],[],0⟩,⟨3,[],[],0⟩,⟨4,[],[],0⟩,⟨5,[],[],0⟩]
def tl(c:M.Cx)(Z:List M.Ty):List M.Ty:=c.T++I3++Z
theorem O8(c:M.Cx)(Z:List M.Ty):(tl c Z).length=c.T.length+5+Z.length:=by simp[tl,I3];omega
theorem Z6(c:M.Cx)(Z Y:List M.Ty):tl c Z++Y=tl c (Z++Y):=by simp[tl]
def Fw(T:List M.Ty):Prop:=∀i (hi:i<T.length),T[i].list.length<=100000000/\T[i].fields.length<=2001
structure OfR(T:List M.Ty)(ofs:List Int)(of:M.Of):Prop where
 len:ofs.length=of.length
 at':∀(i:Nat) (o:Option M.Tr),of[i]? =some o->match o with
  |none=>ofs[i]? =some (-1)
  |some t=>∃r:Nat,ofs[i]? =some (r:Int)/\r<T.length/\M.tr T r=t
theorem OfR.more{T:List M.Ty}{ofs:List Int}{of:M.Of}(h:OfR T ofs of)(hT:M.TsOk T)(Y:List M.Ty):OfR (T++Y) ofs of:=by
 refine⟨h.len,λi o ho=> ?_⟩;have:=h.at' i o ho;cases o with
 |none=>exact this
 |some t=>
  obtain⟨r,h1,h2,h3⟩:=this;exact⟨r,h1,by simp;omega,by rw[M.C4a _ hT h2];exact h3⟩
theorem OfR.set{T:List M.Ty}{ofs:List Int}{of:M.Of}(h:OfR T ofs of){i r:Nat}{t:M.Tr}(hr:r<T.length)(ht:M.tr T r=t):OfR T (ofs.set i (r:Int)) (of.set i (some t)):=by
 refine⟨by rw[List.length_set,List.length_set];exact h.len,λj o ho=> ?_⟩;by_cases hij:i=j
 · subst hij;rw[List.getElem?_set_self']at ho;cases hx:of[i]? with
   |none=>rw[hx]at ho;simp at ho
   |some o'=>
    rw[hx]at ho;simp at ho;subst ho;have hl:i<ofs.length:=by
     rw[h.len];exact(List.getElem?_eq_some_iff.1 hx).1
    exact⟨r,by rw[List.getElem?_set_self hl],hr,ht⟩
 · rw[List.getElem?_set_ne hij]at ho;have:=h.at' j o ho;rw[List.getElem?_set_ne hij];exact this
def pcs(c:M.Cx)(nv yv:Value)(mn:Int)(lb qb:Nat)(fv ov:Value):Array Value:=
 #[nv,yv,iV mn,pV lb,.map (some qb),fv,ov,iV 0,iV (c.T.length:Int),iV ((c.T.length+1:Nat):Int),iV ((c.T.length+2:Nat):Int),iV ((c.T.length+3:Nat):Int),iV ((c.T.length+4:Nat):Int)]
def nmM(c:M.Cx):Int->Option Int:=λx=>if 0<=x/\x<c.N.length/\c.ts.getD x.toNat 0≠-1 then some (c.ts.getD x.toNat 0) else none
def SW(w0:World)(pb lb mb k:Nat):Prop:=k=pb\/k=lb\/k=mb\/(lb<=k/\∃cs fz,w0.heap[k]? =some (.cells cs 66 fz))
structure Cbs(w0:World)(c:M.Cx)(pb lb mb qb:Nat)(nv fv:Value):Prop where
 ok:M.D8a c
 nodes:Nrow w0 nv c.N
 names:ImM w0 qb 5000 (nmM c)
 fns:w0.ownsRow 0 3 1 fv c.N.length (B8 c.fn)
 tp:∃cs,w0.heap[pb]? =some (.cells cs 46 (0,0))
 tlb:∃cs,w0.heap[lb]? =some (.cells cs 97 (0,0))
 tm:∃es cl,w0.heap[mb]? =some (.map es cl)
 ne:qb≠mb
structure Cst(w0 w:World)(c:M.Cx)(pb lb mb qb:Nat)(nv yv:Value)(mn:Int)(fv:Value)(Z:List M.Ty)(ofs:List Int):Prop where
 chg:Chg (SW w0 pb lb mb) w0 w
 st:∃ov D,w.heap[pb]? =some (.cells (pcs c nv yv mn lb qb fv ov) 46 (0,0))/\w.ownsRow w0.heap.size 3 1 ov ofs.length (B8 ofs)/\Sho w lb mb 4000 (tl c Z) D (λg=>ov.ownBlock≠some g)
 few:Fw (tl c Z)
section
variable{w0 w:World}{c:M.Cx}{pb lb mb qb:Nat}{nv yv fv:Value}{mn:Int}{Z:List M.Ty}{ofs:List Int}
theorem Cbs.lt(h:Cbs w0 c pb lb mb qb nv fv):pb<w0.heap.size/\lb<w0.heap.size/\mb<w0.heap.size/\qb<w0.heap.size:=by
 obtain⟨_,h1⟩:=h.tp;obtain⟨_,h2⟩:=h.tlb;obtain⟨_,_,h3⟩:=h.tm;exact⟨(ltG h1),(ltG h2),(ltG h3),h.names.lt⟩
theorem Cbs.not(h:Cbs w0 c pb lb mb qb nv fv){k:Nat}{cur:Array Value}{e:TypeId}{fz:Nat×Nat}(hk:w0.heap[k]? =some (.cells cur e fz))(he:e≠46/\e≠97/\e≠66):¬SW w0 pb lb mb k:=by
 obtain⟨_,h1⟩:=h.tp;obtain⟨_,h2⟩:=h.tlb;obtain⟨_,_,h3⟩:=h.tm;rintro(rfl|rfl|rfl|⟨_,_,_,h4⟩)
 · rw[hk]at h1;simp only[zQ,xW]at h1;exact he.1 h1.2.1
 · rw[hk]at h2;simp only[zQ,xW]at h2;exact he.2.1 h2.2.1
 · rw[hk]at h3;simp at h3
 · rw[hk]at h4;simp only[zQ,xW]at h4;exact he.2.2 h4.2.1
theorem Cbs.nrow(h:Cbs w0 c pb lb mb qb nv fv)(hc:Chg (SW w0 pb lb mb) w0 w):Nrow w nv c.N:=by
 obtain⟨nx,h1,h2⟩:=h.nodes;refine⟨nx,A3 h1 hc λg hg x=> ?_,h2.imp (NdV.chg hc (λg _ _ hx hh=> ?_) (λ_ _ _=>trivial))⟩
 · obtain⟨_,cur,hh⟩:=A9 h1 g hg;exact h.not hh (by decide) x
 · obtain⟨cur,e,hh,he⟩:=hh;rcases he with rfl|rfl<;>exact h.not hh (by decide) hx
theorem Cbs.nm(h:Cbs w0 c pb lb mb qb nv fv)(hc:Chg (SW w0 pb lb mb) w0 w):ImM w qb 5000 (nmM c):=by
 refine h.names.chg hc ?_;obtain⟨_,h1⟩:=h.tp;obtain⟨_,h2⟩:=h.tlb;rintro(rfl|rfl|rfl|⟨_,_,_,h4⟩)
 · exact h.names.notcells h1
 · exact h.names.notcells h2
 · exact h.ne rfl
 · exact h.names.notcells h4
theorem Cbs.fn(h:Cbs w0 c pb lb mb qb nv fv)(hc:Chg (SW w0 pb lb mb) w0 w):w.ownsRow 0 3 1 fv c.N.length (B8 c.fn):=
 A3 h.fns hc λg hg x=>by
  obtain⟨_,cur,hh⟩:=A9 h.fns g hg;exact h.not hh (by decide) x
theorem Cst.still{w':World}(h:Cst w0 w c pb lb mb qb nv yv mn fv Z ofs)(hc:Chg No w w'):Cst w0 w' c pb lb mb qb nv yv mn fv Z ofs:=by
 obtain⟨h1,⟨ov,D,h2,h3,h4⟩,h5⟩:=h;exact⟨h1.trans hc (λ_ _ x=>x.elim),⟨ov,D,by rw[hc.block pb (ltG h2) (λx=>x)];exact h2,A3 h3 hc (λ_ _ x=>x),h4.still hc⟩,h5⟩
theorem Cst.memo{w':World}(h:Cst w0 w c pb lb mb qb nv yv mn fv Z ofs)(hc:Chg (λk=>k=mb) w w')(hm:∃D,Mst w' mb 4000 (tl c Z) D):Cst w0 w' c pb lb mb qb nv yv mn fv Z ofs:=by
 obtain⟨h1,⟨ov,D,h2,h3,h4⟩,h5⟩:=h;obtain⟨D',hm⟩:=hm;have ht:∀k cur e fz,w.heap[k]? =some (.cells cur e fz)->k≠mb:=λk cur e fz hk x=>by subst x;exact h4.mst.tag _ _ _ hk
 refine⟨h1.trans hc (λ_ _ x=> .inr (.inr (.inl x))),⟨ov,D', ?_,A3 h3 hc (λg hg x=> ?_),h4.chg hc hm (λk cur e hk _=>ht k cur e _ hk) (λ_ x _=>x)⟩,h5⟩
 · rw[hc.block pb (ltG h2) (ht _ _ _ _ h2)];exact h2
 · obtain⟨_,cur,hh⟩:=A9 h3 g hg;exact ht _ _ _ _ hh x
theorem Cst.swm{w':World}(h:Cst w0 w c pb lb mb qb nv yv mn fv Z ofs)(hc:Chg (λk=>k=mb) w w'):Chg (SW w0 pb lb mb) w0 w':=h.chg.trans hc (λ_ _ x=> .inr (.inr (.inl x)))
theorem Cst.sho(h:Cst w0 w c pb lb mb qb nv yv mn fv Z ofs):∃D,Shp w lb mb 4000 (tl c Z) D:=by
 obtain⟨_,⟨ov,D,_,_,h4⟩,_⟩:=h;exact⟨D,h4.shp⟩
theorem Cst.ts(h:Cst w0 w c pb lb mb qb nv yv mn fv Z ofs):M.TsOk (tl c Z):=by
 obtain⟨D,h⟩:=h.sho;exact h.ok
theorem Cst.le(h:Cst w0 w c pb lb mb qb nv yv mn fv Z ofs):(tl c Z).length<=4000:=by
 obtain⟨D,h⟩:=h.sho;exact h.few
def KG(a b:World):Prop:=a.heap.size<=b.heap.size/\∀(q:Nat) (cs:Array Value) (e:TypeId) (fz:Nat×Nat),a.heap[q]? =some (.cells cs e fz)->e≠97->e≠66->b.heap[q]? =some (.cells cs e fz)
theorem KG.trans{a b c:World}(h:KG a b)(k:KG b c):KG a c:=⟨kQ h.1 k.1,λq cs e fz x h1 h2=>k.2 q cs e fz (h.2 q cs e fz x h1 h2) h1 h2⟩
theorem KG.still{a b:World}(h:Chg No a b):KG a b:=⟨h.size,λq cs e fz x _ _=>by rw[h.block q (ltG x) (λy=>y)];exact x⟩
theorem KG.row{a b:World}(h:KG a b){base:Nat}{e:TypeId}{size:Nat}{v:Value}{n:Nat}{xs:List Value}(ho:a.ownsRow base e size v n xs)(h1:e≠97)(h2:e≠66):b.ownsRow base e size v n xs:=by
 obtain⟨g1,g2⟩:=ho;refine⟨g1, ?_⟩;rcases g2 with g2|⟨g,cap,cur,e1,e2,e3,r⟩
 · exact .inl g2
 · exact .inr ⟨g,cap,cur,e1,e2,h.2 _ _ _ _ e3 h1 h2,r⟩
theorem Cst.grow{w':World}{v:Value}{X:List M.Ty}(h:Cst w0 w c pb lb mb qb nv yv mn fv Z ofs)(hv:w.cell? (aD lb 0)=some v)(hc:Chg (F9a lb v) w w'){ov:Value}{D:Dt}(hb:w.heap[pb]? =some (.cells (pcs c nv yv mn lb qb fv ov) 46 (0,0)))(ho:w.ownsRow w0.heap.size 3 1 ov ofs.length (B8 ofs))
 (hs:Sho w' lb mb 4000 (tl c Z++X) D (λg=>ov.ownBlock≠some g)) (hf:Fw (tl c Z++X)):Cst w0 w' c pb lb mb qb nv yv mn fv (Z++X) ofs/\KG w w':=by
 obtain⟨D0,hs0⟩:=h.sho;obtain⟨y0,yx,hlb,hy,_⟩:=hs0.blk;have ey:v=y0:=by
  rw[cell_of_row w lb 0 _ _ _ hlb]at hv;exact(Option.some.inj hv).symm
 subst ey;have key:∀(q:Nat) (cs:Array Value) (e:TypeId) (fz:Nat×Nat),w.heap[q]? =some (.cells cs e fz)->e≠97->e≠66->¬F9a lb v q:=by
  rintro q cs e fz hq h1 h2 (rfl|hx)
  · rw[hq]at hlb;simp only[zQ,xW]at hlb;exact h1 hlb.2.1
  · obtain⟨_,cur,hh⟩:=A9 hy q hx.symm;rw[hq]at hh;simp only[zQ,xW]at hh;exact h2 hh.2.1
 have kg:KG w w':=⟨hc.size,λq cs e fz hq h1 h2=>by rw[hc.block q (ltG hq) (key q cs e fz hq h1 h2)];exact hq⟩;refine⟨⟨h.chg.trans hc ?_,⟨ov,D,kg.2 _ _ _ _ hb (by decide) (by decide),kg.row ho (by decide) (by decide),by rw[<-Z6];exact hs⟩,by rw[<-Z6];exact hf⟩,kg⟩;rintro k hk (rfl|hx)
 · exact .inr (.inl rfl)
 · by_cases hsw:SW w0 pb lb mb k
   · exact hsw
   · obtain⟨hlow,cur,hh⟩:=A9 hy k hx.symm;rw[h.chg.block k hk hsw]at hh;exact .inr (.inr (.inr ⟨hlow,_,_,hh⟩))
theorem Cst.cell(h:Cst w0 w c pb lb mb qb nv yv mn fv Z ofs):∃oa oc,pb<w.heap.size/\(∀o,w.frozen? (aD pb o)=false)/\w.cell? (aD pb 0)=some nv/\w.cell? (aD pb 1)=some yv/\w.cell? (aD pb 2)=some (iV mn)/\w.cell? (aD pb 3)=some (pV lb)/\w.cell? (aD pb 4)=some (.map (some qb))/\w.cell? (aD pb 5)=some fv/\w.cell? (aD pb 6)=some (.slice oa ofs.length oc)/\
 (∀k:Nat,1<=k->k<=5->w.cell? (aD pb (7+k))=some (iV ((c.T.length+k - 1:Nat):Int)))/\
 ∀j (hj:j<ofs.length),∃g,oa=some (aD g 0)/\w0.heap.size<=g/\g<w.heap.size/\ofs.length<=oc/\oc<=maxLen/\w.cell? (aD g j)=some (iV ofs[j])/\(∀o,w.frozen? (aD g o)=false):=by
 obtain⟨h1,⟨ov,D,h2,h3,h4⟩,h5⟩:=h;obtain⟨oa,oc,rfl⟩:=B7 h3;refine⟨oa,oc,(ltG h2),λo=>frozen_of_row w pb o _ _ h2,cr h2 rfl,cr h2 rfl,cr h2 rfl,cr h2 rfl,cr h2 rfl,cr h2 rfl,cr h2 rfl,λk k1 k5=> ?_,λj hj=> ?_⟩
 · rw[cell_of_row w pb (7+k) _ _ _ h2];have:k=1\/k=2\/k=3\/k=4\/k=5:=by omega
   rcases this with rfl|rfl|rfl|rfl|rfl<;>rfl
 · obtain⟨g,h6,h7,h8,h9,h10,h11⟩:=D8 h3 (by omega);obtain⟨_,cur,hh⟩:=A9 h3 g (by rw[h6];rfl);exact⟨g,h6,h7,h8,h9,h10,h11 j _ (by simp[B8,hj]),λo=>frozen_of_row w g o _ _ hh⟩
theorem Cst.look{of:M.Of}(hR:OfR (tl c Z) ofs of){n:Nat}{t:M.Tr}(ht:of[n]? =some (some t)):∃(r:Nat) (h:n<ofs.length),ofs[n]=(r:Int)/\r<(tl c Z).length/\M.tr (tl c Z) r=M.ofA of (n:Int):=by
 obtain⟨r,h1,h2,h3⟩:=hR.at' n _ ht;obtain⟨h4,h5⟩:=List.getElem?_eq_some_iff.1 h1;refine⟨r,h4,h5,h2, ?_⟩;unfold M.ofA;rw[tQ,lQ,ht];exact h3
theorem N4b(hc:M.TsOk c.T){j:Nat}(hj:j<c.T.length):M.tr (tl c Z) j=M.tr c.T j:=by
 unfold tl;rw[List.append_assoc,M.C4a _ hc hj]
theorem Z5(hT:M.TsOk (tl c Z)){k:Nat}(h1:1<=k)(h5:k<=5):M.tr (tl c Z) (c.T.length+k - 1)=M.plT (k:Int):=by
 have hl:c.T.length+k - 1<(tl c Z).length:=by rw[O8];omega
 have e:(tl c Z)[c.T.length+k - 1]=⟨(k:Int),[],[],0⟩:=by
  have h2:(tl c Z)[c.T.length+k - 1]? =some ⟨(k:Int),[],[],0⟩:=by
   show (c.T++I3++Z)[c.T.length+k - 1]? =_;rw[List.getElem?_append_left (by simp[I3];omega),List.getElem?_append_right (by omega)];have:k=1\/k=2\/k=3\/k=4\/k=5:=by omega
   rcases this with rfl|rfl|rfl|rfl|rfl<;>simp[I3]
  rw[gQ hl]at h2;exact Option.some.inj h2
 rw[M.R9 hT hl,e];have:¬((k:Int)=8\/(k:Int)=9):=by omega
 simp[M.plT,this]
end
theorem K3d(a b c d:Value)(w:World):(Instr.field 66 (.agg #[a,b,c,d]) 0).run prog w= .ok a w:=by kernel_rfl
theorem K2d(a b c d:Value)(w:World):(Instr.field 66 (.agg #[a,b,c,d]) 2).run prog w= .ok c w:=by kernel_rfl
def GtP(t:M.Ty)(w:World)(e:Ending)(w':World):Prop:=∃fa fc la lc,e= .returned (.agg #[iV t.kind,.slice fa t.fields.length fc,.slice la t.list.length lc,iV t.of'])/\Chg No w w'/\
 w'.ownsRow 0 121 2 (.slice fa t.fields.length fc) t.fields.length (F5 t.fields)/\w'.ownsRow 0 3 1 (.slice la t.list.length lc) t.list.length (B8 t.list)
theorem Y3c{lb mb N:Nat}{T:List M.Ty}{D:Dt}(i:Nat)(w:World)(hi:i<T.length)(h:Shp w lb mb N T D):
 Calls prog 82 #[pV lb,iV (i:Int)] w (GtP T[i] w):=by
 have hfew:=h.few;obtain⟨ad,c,c0,c1,hlt,fz,hcell⟩:=h.cell;obtain⟨g,fa,fc,la,lc,rfl,hg,hc1,hc2,x0,x1,x2,x3,of1,ol1⟩:=hcell i hi;have HF:=A0 of1;have HL:=A0 ol1;unfold maxLen at hc2;clear hcell h of1 ol1;generalize T[i]=t at *;go_enter func82,ntmps82;go_wp2;exact bodyPost_ret (v:= .agg #[iV t.kind,.slice fa t.fields.length fc,.slice la t.list.length lc,iV t.of']) (by simp[results,results82,go_sem]) rfl ⟨fa,fc,la,lc,rfl,Chg.alloc _ _ _,A3 HF.out (Chg.alloc No _ _) (λ_ _ x=>x),A3 HL.out (Chg.alloc No _ _) (λ_ _ x=>x)⟩
theorem N8d{lb mb N:Nat}{T:List M.Ty}{D:Dt}(i:Nat)(w:World)(hi:i<T.length)(h:Shp w lb mb N T D):
 ∃fa fc la lc,(w.ownsRow 0 121 2 (.slice fa T[i].fields.length fc) T[i].fields.length (F5 T[i].fields)/\w.ownsRow 0 3 1 (.slice la T[i].list.length lc) T[i].list.length (B8 T[i].list))/\∀a,Chg No w a->
  Calls prog 82 #[pV lb,iV (i:Int)] a λe w'=>e= .returned (.agg #[iV T[i].kind,.slice fa T[i].fields.length fc,.slice la T[i].list.length lc,iV T[i].of'])/\w'=a.alloc (.cells #[iV T[i].kind,.slice fa T[i].fields.length fc,.slice la T[i].list.length lc,iV T[i].of'] 66):=by
 have hfew:=h.few;obtain⟨ad,c,c0,c1,hlt,fz,hcell⟩:=h.cell;obtain⟨g,fa,fc,la,lc,rfl,hg,hc1,hc2,x0,x1,x2,x3,of1,ol1⟩:=hcell i hi;refine⟨fa,fc,la,lc,⟨of1,ol1⟩,λa ha=> ?_⟩;replace c0:=A8 ha c0;replace x0:=A8 ha x0;replace x1:=A8 ha x1;replace x2:=A8 ha x2;replace x3:=A8 ha x3;have hga:g<a.heap.size:=yQ hg ha.size;have hla:lb<a.heap.size:=yQ hlt ha.size;unfold maxLen at hc2;clear hcell h of1 ol1 hg hlt fz c1 ha;generalize T[i]=t at *;go_enter func82,ntmps82;go_wp2;exact bodyPost_ret (v:= .agg #[iV t.kind,.slice fa t.fields.length fc,.slice la t.list.length lc,iV t.of']) (by simp[results,results82,go_sem]) rfl ⟨rfl,rfl⟩
section
variable{w0 w:World}{c:M.Cx}{pb lb mb qb:Nat}{nv yv fv:Value}{mn:Int}{Z:List M.Ty}{ofs:List Int}
def O8b(c:M.Cx)(n:M.Nd):Int:=if n.ty= -1 then ((c.T.length+4:Nat):Int) else n.ty
def C1a(c:M.Cx)(ofs:List Int)(j:Nat):Int:=if (M.ndx c.N j).ty≠-1 then (M.ndx c.N j).ty else if (M.ndx c.N j).kind=17 then ofs.getD (M.ndx c.N j).a.toNat 0 else ((c.T.length+4:Nat):Int)
theorem H7b(h:Cst w0 w c pb lb mb qb nv yv mn fv Z ofs)(n:M.Nd)(la:Option Addr)(lc:Nat):
 Calls prog 51 #[pV pb,nvl n la lc] w λe w'=>e= .returned (iV (O8b c n))/\Chg No w w':=by
 obtain⟨oa,oc,hp,fz,q0,q1,q2,q3,q4,q5,q6,qp,qo⟩:=h.cell;have p5:=qp 5 (by omega) (by omega);clear qp qo h;obtain⟨kd,va,vb,vc,ls,tx,vn,vt,vp⟩:=n;unfold O8b nvl;simp only[show 7+5=12 from rfl,show c.T.length+5 - 1=c.T.length+4 by omega]at p5;by_cases ht:vt= -1
 · subst ht;simp only[if_true];generalize ((c.T.length+4:Nat):Int)=z at *;go_enter func51,ntmps51;go_wp2;go_ret;exact⟨rfl,Chg.alloc No _ _⟩
 · simp only[if_neg ht];have ht':(vt== -1)=false:=by simpa using ht
   go_enter func51,ntmps51;go_wp2;go_ret;exact⟨rfl,Chg.alloc No _ _⟩
theorem G0a(hB:Cbs w0 c pb lb mb qb nv fv)(h:Cst w0 w c pb lb mb qb nv yv mn fv Z ofs)(i:Nat)(hi:i<c.N.length):
 Calls prog 85 #[pV pb,iV (i:Int)] w λe w'=>e=gu 9 (atI c.N i)/\Chg No w w':=by
 obtain⟨oa,oc,hp,fz,q0,q1,q2,q3,q4,q5,q6,qp,qo⟩:=h.cell;obtain⟨g,nc,la,lc,rfl,hg,hn1,hn2,⟨x0,x1,x2,x3,x4,x5,x6,x7,x8⟩,-,-⟩:=(hB.nrow h.chg).at (Below.refl _ _) i hi;have hlen:=hB.ok.lenN;have e:atI c.N i=c.N[i].at':=by unfold atI;rw[lQ,gQ hi];rfl
 rw[e];unfold maxLen at hn2;clear qp qo h hB e;generalize c.N[i].at'=p at *;have HG:=V9 w 9 p;go_enter func85,ntmps85;go_wp2_with fail
 refine HG.mono ?_;rintro e w' ⟨rfl,hc⟩;exact⟨rfl,rfl,hc⟩
theorem N2c(h:Cst w0 w c pb lb mb qb nv yv mn fv Z ofs)(i:Nat)(hi:i<ofs.length)(r:Nat)(hr:ofs[i]=(r:Int))(hrl:r<(tl c Z).length):
 Calls prog 52 #[pV pb,iV (i:Int)] w λe w'=>e= .returned (iV (tl c Z)[r].kind)/\Chg No w w':=by
 obtain⟨oa,oc,hp,fz,q0,q1,q2,q3,q4,q5,q6,qp,qo⟩:=h.cell;obtain⟨go,rfl,ho0,ho1,ho2,ho3,y0,-⟩:=qo i hi;rw[hr]at y0;unfold maxLen at ho3;obtain⟨D,hs⟩:=h.sho;have HG:Hid (∀a,Chg No w a->Calls prog 82 #[pV lb,iV (r:Int)] a (GtP (tl c Z)[r] a)):=λa ha=>Y3c r a hrl (hs.still ha);have hf:=K3d;clear qp qo h hr hs;generalize (tl c Z)[r]=t at *;go_enter func52,ntmps52;go_wp2_with fail
 go_region_with (go_at_call 82;refine(HG.out _ (Chg.drewN _ _ 1)).mono ?_;rintro e w5 ⟨fa,fc,la,lc,rfl,hc,-,-⟩)
 all_goals
  go_wp2_with fail
  go_ret;exact⟨rfl,B9 (Chg.drewN _ _ 1) hc⟩
theorem X1b(h:Cst w0 w c pb lb mb qb nv yv mn fv Z ofs)(i:Nat)(hi:i<ofs.length)(r:Nat)(hr:ofs[i]=(r:Int))(hrl:r<(tl c Z).length):
 Calls prog 23 #[pV pb,iV (i:Int)] w λe w'=>e= .returned (.bool ((tl c Z)[r].kind==5))/\Chg No w w':=by
 have HK:=N2c h i hi r hr hrl;clear h hr;generalize (tl c Z)[r].kind=k at *;go_enter func23,ntmps23;go_wp2_with fail
 refine HK.mono ?_;rintro e w' ⟨rfl,hc⟩;go_wp2_with fail
 go_ret;exact⟨rfl,hc⟩
theorem N8c(hB:Cbs w0 c pb lb mb qb nv fv)(h:Cst w0 w c pb lb mb qb nv yv mn fv Z ofs)(j:Nat)(hj:j<c.N.length)(ha:(M.ndx c.N j).ty= -1->(M.ndx c.N j).kind=17->∃n:Nat,(M.ndx c.N j).a=(n:Int)/\n<ofs.length):
 Calls prog 48 #[pV pb,iV (j:Int)] w λe w'=>e= .returned (iV (C1a c ofs j))/\Chg No w w':=by
 obtain⟨oa,oc,hp,fz,q0,q1,q2,q3,q4,q5,q6,qp,qo⟩:=h.cell;obtain⟨g,nc,la,lc,rfl,hg,hn1,hn2,⟨x0,x1,x2,x3,x4,x5,x6,x7,x8⟩,-,-⟩:=(hB.nrow h.chg).at (Below.refl _ _) j hj;have p5:=qp 5 (by omega) (by omega);have hlen:=hB.ok.lenN;unfold maxLen at hn2;simp only[show 7+5=12 from rfl,show c.T.length+5 - 1=c.T.length+4 by omega]at p5;unfold C1a;rw[M.D3 hj]at ha⊢;clear qp h hB;generalize c.N[j]=nd at *;obtain⟨kd,va,vb,vc,ls,tx,vn,vt,vp⟩:=nd;simp only at *;generalize ((c.T.length+4:Nat):Int)=z at *;by_cases ht:vt= -1
 · subst ht;rw[if_neg (by simp)];by_cases hk:kd=17
   · subst hk;obtain⟨n,rfl,hn⟩:=ha rfl rfl;obtain⟨go,rfl,ho0,ho1,ho2,ho3,y0,-⟩:=qo n hn;rw[if_pos rfl,tQ,lQ,gQ hn];simp only[Option.getD_some];unfold maxLen at ho3;generalize ofs[n]=r at *;clear qo;go_enter func48,ntmps48;go_wp2_with fail
     go_region
     all_goals go_wp2_with fail
     all_goals go_ret
     all_goals exact⟨rfl,B9 (Chg.alloc No _ _) (Chg.drewN _ _ 1)⟩
   · rw[if_neg hk];have hk':(kd==17)=false:=by simpa using hk
     clear qo;go_enter func48,ntmps48;go_wp2_with fail
     go_ret;exact⟨rfl,Chg.alloc No _ _⟩
 · rw[if_pos ht];have ht':(vt != -1)=true:=by simpa using ht
   clear qo;go_enter func48,ntmps48;go_wp2_with fail
   go_ret;exact⟨rfl,Chg.alloc No _ _⟩
end
theorem A3c(w:World)(nm nm':List UInt8)(x:Int)(qw:Nat)(hq:w.cell? (aD qw 5)=some (.string ⟨nm.toArray⟩)):
 Calls prog 84 #[.agg #[.string ⟨nm'.toArray⟩,iV x],pV qw] w λe w'=>e= .returned (.bool (nm'==nm))/\Chg No w w':=by
 have hlt:=World.block_lt_of_cell? w _ hq;by_cases h:nm'=nm
 · subst h;go_enter func84,ntmps84;go_wp2;go_ret;exact⟨F1 (by simp),Chg.alloc _ _ _⟩
 · go_enter func84,ntmps84;go_wp2;go_ret;exact⟨F1 (by simp),Chg.alloc _ _ _⟩
section
variable{w0 w:World}{c:M.Cx}{pb lb mb qb:Nat}{nv yv fv:Value}{mn:Int}{Z:List M.Ty}{ofs:List Int}
theorem G8d(h:Cst w0 w c pb lb mb qb nv yv mn fv Z ofs)(r a:Nat)(hr:r<(tl c Z).length)(ha:a<(tl c Z).length):
 Calls prog 112 #[pV lb,iV (r:Int),iV (a:Int)] w λe w'=>e= .returned (.bool (M.D9 (M.tr (tl c Z) r) (M.tr (tl c Z) a)))/\Chg (λk=>k=mb) w w'/\Cst w0 w' c pb lb mb qb nv yv mn fv Z ofs:=by
 obtain⟨D,hs⟩:=h.sho;refine(U3a (lb:=lb) (mb:=mb) (N:=4000) (T:=tl c Z) (r+a+1) r a w D (by omega) hr ha hs).mono ?_;rintro e w' ⟨h1,h2,D',h3,_⟩;exact⟨h1,h2,h.memo h2 ⟨D',h3⟩⟩
def FtQ(w0 w:World)(c:M.Cx)(pb lb mb qb:Nat)(nv yv:Value)(mn:Int)(fv:Value)(Z:List M.Ty)(ofs:List Int)(i:Nat)(b:Bool)(e:Ending)(w':World):Prop:=Chg (λk=>k=mb) w w'/\match b with
 |true=>e=rT/\Cst w0 w' c pb lb mb qb nv yv mn fv Z ofs
 |false=>e=gu 9 (atI c.N i)
def ExQ(w0 w:World)(c:M.Cx)(pb lb mb qb:Nat)(nv yv:Value)(mn:Int)(fv:Value)(Z:List M.Ty)(ofs:List Int)(i:Nat)(o:Option M.Tr)(e:Ending)(w':World):Prop:=Chg (λk=>k=mb) w w'/\match o with
 |none=>e=gu 9 (atI c.N i)
 |some t=>Cst w0 w' c pb lb mb qb nv yv mn fv Z ofs/\∃x:Nat,e= .returned (iV (x:Int))/\x<(tl c Z).length/\M.tr (tl c Z) x=t
theorem C1d(hB:Cbs w0 c pb lb mb qb nv fv)(h:Cst w0 w c pb lb mb qb nv yv mn fv Z ofs)(i:Nat)(hi:i<c.N.length)(p:Nat)(hp:p<ofs.length)(r:Nat)(hr:ofs[p]=(r:Int))(hrl:r<(tl c Z).length)(a:Nat)(ha:a<(tl c Z).length):
 Calls prog 86 #[pV pb,iV (i:Int),iV (p:Int),iV (a:Int)] w (FtQ w0 w c pb lb mb qb nv yv mn fv Z ofs i (M.D9 (M.tr (tl c Z) r) (M.tr (tl c Z) a))):=by
 obtain⟨oa,oc,hpb,fz,q0,q1,q2,q3,q4,q5,q6,qp,qo⟩:=h.cell;obtain⟨go,rfl,ho0,ho1,ho2,ho3,y0,-⟩:=qo p hp;rw[hr]at y0;unfold maxLen at ho3;have HF:Hid (∀u,Chg No w u->_):=λu hu=>G8d (h.still hu) r a hrl ha;have HW:Hid (∀u,Cst w0 u c pb lb mb qb nv yv mn fv Z ofs->_):=λu hu=>G0a hB hu i hi;clear qp qo h hr hB;generalize M.D9 (M.tr (tl c Z) r) (M.tr (tl c Z) a)=b at *;cases b
 · go_enter func86,ntmps86;go_wp2_with fail
   go_region_with (go_at_call 112;refine(HF.out _ (Chg.drewN _ _ 1)).mono ?_;rintro e w5 ⟨rfl,hc,hC⟩)
   all_goals
    have HC:=A0 ((Chg.drewN (λk=>k=mb) w 1).trans hc (λ_ _ x=>x));have HX:=HW.out _ hC;clear hc;go_wp2_with fail
    refine HX.mono ?_;rintro e w6 ⟨rfl,h6⟩;exact⟨rfl,HC.out.trans h6 (λ_ _ x=>x.elim),rfl⟩
 · go_enter func86,ntmps86;go_wp2_with fail
   go_region_with (go_at_call 112;refine(HF.out _ (Chg.drewN _ _ 1)).mono ?_;rintro e w5 ⟨rfl,hc,hC⟩)
   all_goals
    have HC:=A0 ((Chg.drewN (λk=>k=mb) w 1).trans hc (λ_ _ x=>x));clear hc;go_wp2_with fail
    go_end0;exact⟨HC.out,rfl,hC⟩
end
theorem D6{a b:World}{q:Nat}{cs:Array Value}{e:TypeId}(hc:Chg No a b)(h:a.heap[q]? =some (.cells cs e (0,0))):b.heap[q]? =some (.cells cs e (0,0)):=by
 rw[hc.block q (ltG h) (λx=>x)];exact h
theorem O2c{lb mb N:Nat}{T:List M.Ty}{D:Dt}(i:Nat)(w:World)(hi:i<T.length)(h:Shp w lb mb N T D):
 ∃g c fa fc la lc,w.cell? (aD lb 0)=some (.slice (some (aD g 0)) T.length c)/\w.cell? (aD g (i * 4))=some (iV T[i].kind)/\w.cell? (aD g (i * 4+1))=some (.slice fa T[i].fields.length fc)/\w.cell? (aD g (i * 4+2))=some (.slice la T[i].list.length lc)/\w.cell? (aD g (i * 4+3))=some (iV T[i].of')/\
  (w.ownsRow 0 121 2 (.slice fa T[i].fields.length fc) T[i].fields.length (F5 T[i].fields)/\w.ownsRow 0 3 1 (.slice la T[i].list.length lc) T[i].list.length (B8 T[i].list))/\∀a:World,a.cell? (aD lb 0)=some (.slice (some (aD g 0)) T.length c)->a.cell? (aD g (i * 4))=some (iV T[i].kind)->a.cell? (aD g (i * 4+1))=some (.slice fa T[i].fields.length fc)->a.cell? (aD g (i * 4+2))=some (.slice la T[i].list.length lc)->a.cell? (aD g (i * 4+3))=some (iV T[i].of')->
  Calls prog 82 #[pV lb,iV (i:Int)] a λe w'=>e= .returned (.agg #[iV T[i].kind,.slice fa T[i].fields.length fc,.slice la T[i].list.length lc,iV T[i].of'])/\w'=a.alloc (.cells #[iV T[i].kind,.slice fa T[i].fields.length fc,.slice la T[i].list.length lc,iV T[i].of'] 66):=by
 have hfew:=h.few;obtain⟨ad,c,c0,c1,hlt,fz,hcell⟩:=h.cell;obtain⟨g,fa,fc,la,lc,rfl,hg,hc1,hc2,x0,x1,x2,x3,of1,ol1⟩:=hcell i hi;refine⟨g,c,fa,fc,la,lc,c0,x0,x1,x2,x3,⟨of1,ol1⟩,λa c0 x0 x1 x2 x3=> ?_⟩;have hga:g<a.heap.size:=World.block_lt_of_cell? a _ x0;have hla:lb<a.heap.size:=World.block_lt_of_cell? a _ c0;unfold maxLen at hc2;clear hcell h of1 ol1 hg hlt fz c1;generalize T[i]=t at *;go_enter func82,ntmps82;go_wp2;exact bodyPost_ret (v:= .agg #[iV t.kind,.slice fa t.fields.length fc,.slice la t.list.length lc,iV t.of']) (by simp[results,results82,go_sem]) rfl ⟨rfl,rfl⟩
section
variable{w0 w:World}{c:M.Cx}{pb lb mb qb:Nat}{nv yv fv:Value}{mn:Int}{Z:List M.Ty}{ofs:List Int}{of:M.Of}
theorem S5b{T:List M.Ty}(hT:M.TsOk T){r:Nat}(hr:r<T.length)(h5:T[r].kind≠5)(tx:List UInt8)(h8:¬(T[r].kind=8/\tx=[108,101,110,103,116,104])){n:M.Nd}(hn:n.text=tx)(he:M.ofA of n.a=M.tr T r):
 M.J4 of n=M.H7 tx (T[r].fields.map (·.1)) (T[r].fields.map λp=>M.tr T p.2.toNat):=by
 unfold M.J4;rw[he,Y5 hT hr,if_neg h5,hn,if_neg h8,G5c hT hr,H2a hT hr];by_cases h7:T[r].kind=7
 · rw[if_neg (by omega),C6b hT hr (.inl h7)];simp
 · rw[L0a hT hr h7];simp[M.H7]
theorem X8b(hB:Cbs w0 c pb lb mb qb nv fv)(h:Cst w0 w c pb lb mb qb nv yv mn fv Z ofs)(i:Nat)(hi:i<c.N.length)(p:Nat)(hp:p<ofs.length)(hpa:c.N[i].a=(p:Int))(r:Nat)(hr:ofs[p]=(r:Int))(hrl:r<(tl c Z).length)(he:M.ofA of c.N[i].a=M.tr (tl c Z) r):
 Calls prog 49 #[pV pb,iV (i:Int)] w (ExQ w0 w c pb lb mb qb nv yv mn fv Z ofs i (M.J4 of c.N[i])):=by
 obtain⟨oa,oc,hpb,fz,q0,q1,q2,q3,q4,q5,q6,qp,qo⟩:=h.cell;obtain⟨go,rfl,ho0,ho1,ho2,ho3,y0,-⟩:=qo p hp;rw[hr]at y0;obtain⟨g,nc,la,lc,rfl,hg,hn1,hn2,⟨x0,x1,x2,x3,x4,x5,x6,x7,x8⟩,-,-⟩:=(hB.nrow h.chg).at (Below.refl _ _) i hi;have p1:=qp 1 (by omega) (by omega);simp only[show 7+1=8 from rfl,show c.T.length+1 - 1=c.T.length by omega]at p1;have hlen:=hB.ok.lenN;have hT:=h.ts;unfold maxLen at hn2 ho3;obtain⟨D,hs⟩:=h.sho;obtain⟨gt,ct,fa,fc,la2,lc2,z0,z1,z2,z3,z4,⟨hfo,-⟩,hgx⟩:=O2c r w hrl hs;have HG:=A0 hgx;have HFO:=A0 hfo;clear hgx hfo;have HW:Hid (∀u,Chg No w u->_):=λu hu=>G0a hB (h.still hu) i hi;have H0:=A0 h;have HP1:=A0 (Z5 hT (k:=1) (by omega) (by omega));have hct:c.T.length<(tl c Z).length:=by rw[O8];omega
 have E5:Hid ((tl c Z)[r].kind=5->M.J4 of c.N[i]=some (M.tr (tl c Z) r)):=λh5=>by
  unfold M.J4;rw[he,Y5 hT hrl,if_pos h5]
 have E8:Hid ((tl c Z)[r].kind=8->c.N[i].text=[108,101,110,103,116,104]->M.J4 of c.N[i]=some (M.plT 1)):=λh8 ht=>by
  unfold M.J4;rw[he,Y5 hT hrl,if_neg (by omega),if_pos ⟨h8,ht⟩]
 have EF:Hid ((tl c Z)[r].kind≠5->¬((tl c Z)[r].kind=8/\c.N[i].text=[108,101,110,103,116,104])->M.J4 of c.N[i]=M.H7 c.N[i].text ((tl c Z)[r].fields.map (·.1)) ((tl c Z)[r].fields.map λp=>M.tr (tl c Z) p.2.toNat)):=λh5 h8=>S5b hT hrl h5 _ h8 rfl he;have HFL:=A0 (hT r hrl).fld;have HRL:=A0 hrl;rw[hpa]at x1;clear qp qo h hr hs hB hpa he;generalize M.J4 of c.N[i]=FT at *;generalize c.N[i]=nd at *;generalize (tl c Z)[r]=t at *;obtain⟨kd,va,vb,vc,ls,tx,vn,vt,vp⟩:=nd;obtain⟨tk,tf,tls,tof⟩:=t;simp only at *;have A1:=Chg.alloc No w (ndC kd (p:Int) vb vc (.slice la ls.length lc) tx vn vt vp);have nb:=heap_alloc_new w (ndC kd (p:Int) vb vc (.slice la ls.length lc) tx vn vt vp);have n1:(w.alloc (ndC kd (p:Int) vb vc (.slice la ls.length lc) tx vn vt vp)).cell? (aD w.heap.size 1)=some (iV (p:Int)):=cr nb rfl;have n5:(w.alloc (ndC kd (p:Int) vb vc (.slice la ls.length lc) tx vn vt vp)).cell? (aD w.heap.size 5)=some (.string ⟨tx.toArray⟩):=cr nb rfl;replace q3:=A8 A1 q3;replace q6:=A8 A1 q6;replace p1:=A8 A1 p1;replace y0:=A8 A1 y0;replace z0:=A8 A1 z0;replace z1:=A8 A1 z1;replace z2:=A8 A1 z2;replace z3:=A8 A1 z3;replace z4:=A8 A1 z4;have hpw:=blt q3;have hgw:=blt y0;have hlw:=blt z0;have htw:=blt z1;have hnw:=blt n1;simp only at hpw hgw hlw htw hnw;have A1h:=A0 A1;clear A1 nb;go_enter func49,ntmps49;go_wp2_with fail
 clear q0 q1 q2 q4 q5 fz x0 x1 x2 x3 x4 x5 x6 x7 x8 hpb hg ho0 ho1;generalize (w.alloc (ndC kd (p:Int) vb vc (.slice la ls.length lc) tx vn vt vp))=W at *;go_cut [6] (λv6 wc=>∃q:Nat,v6=pV q/\Hid (Chg No W wc)/\wc.cell? (aD q 0)=some (iV tk)/\wc.cell? (aD q 1)=some (.slice fa tf.length fc))
 case first=>
  go_region_held3 (λw'=>w'.cell? (aD pb 3)=some (pV lb)/\w'.cell? (aD pb 6)=some (.slice (some (aD go 0)) ofs.length oc)/\w'.cell? (aD go p)=some (iV (r:Int))/\w'.cell? (aD w.heap.size 1)=some (iV (p:Int))/\
   w'.cell? (aD lb 0)=some (.slice (some (aD gt 0)) (tl c Z).length ct)/\w'.cell? (aD gt (r * 4))=some (iV tk)/\w'.cell? (aD gt (r * 4+1))=some (.slice fa tf.length fc)/\w'.cell? (aD gt (r * 4+2))=some (.slice la2 tls.length lc2)/\w'.cell? (aD gt (r * 4+3))=some (iV tof))
   (go_keep)
   (first
    |((go_at_call 82;go_split_ands;refine(HG.out _ (by assumption) (by assumption) (by assumption) (by assumption) (by assumption)).mono ?_;rintro e w' ⟨rfl,rfl⟩)))
  all_goals go_wp2_with fail
  all_goals go_meet
  all_goals exact⟨_,rfl,B9 (B9 (Chg.alloc No _ _) (Chg.alloc No _ _)) (Chg.drewN No _ 1),by simp[go_sem],by simp[go_sem]⟩
 case rest=>
  obtain⟨q,rfl,CW,t0,t1⟩:=hcut;have CX:=A0 (B9 A1h.out CW.out);replace q3:=A8 CW.out q3;replace q6:=A8 CW.out q6;replace p1:=A8 CW.out p1;replace y0:=A8 CW.out y0;replace n1:=A8 CW.out n1;replace n5:=A8 CW.out n5;have hpw2:=blt q3;have hgw2:=blt y0;have hnw2:=blt n1;simp only at hpw2 hgw2 hnw2;have FO:=A0 (A3 HFO.out CX.out (λ_ _ x=>x));clear z0 z1 z2 z3 z4 hpw hgw hlw htw hnw HG HFO A1h CW;by_cases h5:tk=5
  · have e5:=E5.out h5;subst h5;go_wp2_with fail
    go_quiet (fail)
    go_wp2_with fail
    go_ret;rw[e5];exact⟨(B9 CX.out (Chg.drewN No _ _)).mono (λ_ _ x=>x.elim),H0.out.still (B9 CX.out (Chg.drewN No _ _)),r,rfl,HRL.out,rfl⟩
  have h5':(tk==5)=false:=by simpa using h5
  have hmf:=mkf;have HFI:=A0 (K9b 84 (λ_ _=>by go_simp) wc fa fc tf FO.out tx w.heap.size (λu hu nm' x=>A3c u tx nm' x _ (A8 hu n5)));have REST:Hid (¬(tk=8/\tx=[108,101,110,103,116,104])->∀(x:Int),Idx tf tx x->(∃k:Nat,∃hk:k<tf.length,x=k/\FT=some (M.tr (tl c Z) tf[k].2.toNat)/\(0<=tf[k].2/\tf[k].2<(r:Int)))\/x= -1/\FT=none):=by
   intro h8 x hx;have eF:=EF.out h5 h8;rcases hx with ⟨k,hk,rfl,h1,h2⟩|⟨rfl,h1⟩
   · exact .inl ⟨k,hk,rfl,by rw[eF];exact I9a hk h1 h2,HFL.out _ (mQ hk)⟩
   · exact .inr ⟨rfl,by rw[eF];exact D2a h1⟩
  clear EF E5;by_cases htx:tx=[108,101,110,103,116,104]
  · subst htx;by_cases h8:tk=8
    · have e8:=A0 (E8.out h8 rfl);subst h8;clear E8 REST HFI;go_wp2_with fail
      go_ret;exact⟨CX.out.mono (λ_ _ x=>x.elim),by rw[e8.out];exact⟨H0.out.still CX.out,c.T.length,rfl,hct,by simpa using HP1.out⟩⟩
    · have g8:(tk==8)=false:=by simpa using h8
      replace REST:=A0 (REST.out (λe=>h8 e.1));clear E8 h8;go_wp2_with fail
      refine HFI.out.mono ?_;rintro e w6 ⟨⟨x,rfl,hx⟩,hc6⟩;rcases REST.out x hx with ⟨k,hk,rfl,eT,hrg⟩|⟨rfl,eT⟩
      · obtain⟨g2,rfl,hg2,hl1,hl2,v0,v1⟩:=T6 (A3 FO.out hc6 (λ_ _ x=>x)) hk;replace t1:=A8 hc6 t1;have hq6:=blt t1;simp only at hq6;have HC6:=A0 (B9 CX.out hc6);have HET:=A0 eT;obtain⟨z,hz⟩:∃z:Nat,tf[k].2=(z:Int):=⟨tf[k].2.toNat,by omega⟩;rw[hz]at v1 hrg eT;have HE2:=A0 eT;unfold maxLen at hl2;clear v0 hx hc6 eT HET hz;go_wp2_with fail
        go_ret;have hr2:=HRL.out;exact⟨HC6.out.mono (λ_ _ x=>x.elim),by rw[HE2.out];exact⟨H0.out.still HC6.out,z,rfl,by omega,rfl⟩⟩
      · have HX:=A0 (HW.out w6 (B9 CX.out hc6));have HC6:=A0 (B9 CX.out hc6);have HET:=A0 eT;clear hx hc6 eT;go_wp2_with fail
        refine HX.out.mono ?_;rintro e w7 ⟨rfl,h7⟩;exact⟨rfl,(B9 HC6.out h7).mono (λ_ _ x=>x.elim),by rw[HET.out];rfl⟩
  · have gx:(tx==[108,101,110,103,116,104])=false:=by simpa using htx
    replace REST:=A0 (REST.out (λe=>htx e.2));clear E8 htx;by_cases h8:tk=8
    · subst h8;go_wp2_with fail
      refine HFI.out.mono ?_;rintro e w6 ⟨⟨x,rfl,hx⟩,hc6⟩;rcases REST.out x hx with ⟨k,hk,rfl,eT,hrg⟩|⟨rfl,eT⟩
      · obtain⟨g2,rfl,hg2,hl1,hl2,v0,v1⟩:=T6 (A3 FO.out hc6 (λ_ _ x=>x)) hk;replace t1:=A8 hc6 t1;have hq6:=blt t1;simp only at hq6;have HC6:=A0 (B9 CX.out hc6);have HET:=A0 eT;obtain⟨z,hz⟩:∃z:Nat,tf[k].2=(z:Int):=⟨tf[k].2.toNat,by omega⟩;rw[hz]at v1 hrg eT;have HE2:=A0 eT;unfold maxLen at hl2;clear v0 hx hc6 eT HET hz;go_wp2_with fail
        go_ret;have hr2:=HRL.out;exact⟨HC6.out.mono (λ_ _ x=>x.elim),by rw[HE2.out];exact⟨H0.out.still HC6.out,z,rfl,by omega,rfl⟩⟩
      · have HX:=A0 (HW.out w6 (B9 CX.out hc6));have HC6:=A0 (B9 CX.out hc6);have HET:=A0 eT;clear hx hc6 eT;go_wp2_with fail
        refine HX.out.mono ?_;rintro e w7 ⟨rfl,h7⟩;exact⟨rfl,(B9 HC6.out h7).mono (λ_ _ x=>x.elim),by rw[HET.out];rfl⟩
    · have g8:(tk==8)=false:=by simpa using h8
      clear h8;go_wp2_with fail
      refine HFI.out.mono ?_;rintro e w6 ⟨⟨x,rfl,hx⟩,hc6⟩;rcases REST.out x hx with ⟨k,hk,rfl,eT,hrg⟩|⟨rfl,eT⟩
      · obtain⟨g2,rfl,hg2,hl1,hl2,v0,v1⟩:=T6 (A3 FO.out hc6 (λ_ _ x=>x)) hk;replace t1:=A8 hc6 t1;have hq6:=blt t1;simp only at hq6;have HC6:=A0 (B9 CX.out hc6);have HET:=A0 eT;obtain⟨z,hz⟩:∃z:Nat,tf[k].2=(z:Int):=⟨tf[k].2.toNat,by omega⟩;rw[hz]at v1 hrg eT;have HE2:=A0 eT;unfold maxLen at hl2;clear v0 hx hc6 eT HET hz;go_wp2_with fail
        go_ret;have hr2:=HRL.out;exact⟨HC6.out.mono (λ_ _ x=>x.elim),by rw[HE2.out];exact⟨H0.out.still HC6.out,z,rfl,by omega,rfl⟩⟩
      · have HX:=A0 (HW.out w6 (B9 CX.out hc6));have HC6:=A0 (B9 CX.out hc6);have HET:=A0 eT;clear hx hc6 eT;go_wp2_with fail
        refine HX.out.mono ?_;rintro e w7 ⟨rfl,h7⟩;exact⟨rfl,(B9 HC6.out h7).mono (λ_ _ x=>x.elim),by rw[HET.out];rfl⟩
end
def Lk(c:M.Cx)(Z:List M.Ty)(ofs:List Int)(of:M.Of)(x:Int):Prop:=∃(p r:Nat) (h:p<ofs.length),x=(p:Int)/\ofs[p]=(r:Int)/\r<(tl c Z).length/\M.tr (tl c Z) r=M.ofA of x
section
variable{w0 w:World}{c:M.Cx}{pb lb mb qb:Nat}{nv yv fv:Value}{mn:Int}{Z:List M.Ty}{ofs:List Int}{of:M.Of}
theorem Q8b(h:Cst w0 w c pb lb mb qb nv yv mn fv Z ofs){p:Nat}(hl:Lk c Z ofs of (p:Int)):
 Calls prog 52 #[pV pb,iV (p:Int)] w λe w'=>e= .returned (iV (M.ofA of (p:Int)).k)/\Chg No w w':=by
 obtain⟨p',r,hp,e,hr,hrl,ht⟩:=hl;have:p=p':=by omega
 subst this;rw[<-ht,Y5 h.ts hrl];exact N2c h p hp r hr hrl
def NuQ(c:M.Cx)(i:Nat)(b:Bool)(w:World)(e:Ending)(w':World):Prop:=Chg No w w'/\match b with
 |true=>e=rT
 |false=>e=gu 9 (atI c.N i)
theorem Z7a(hB:Cbs w0 c pb lb mb qb nv fv)(h:Cst w0 w c pb lb mb qb nv yv mn fv Z ofs)(i:Nat)(hi:i<c.N.length)(ls:List Int)(hls:∀x∈ls,Lk c Z ofs of x)(la:Option Addr)(lc:Nat)(ho:w.ownsRow 0 3 1 (.slice la ls.length lc) ls.length (B8 ls))(hn:ls.length<=2):
 Calls prog 111 #[pV pb,iV (i:Int),.slice la ls.length lc] w (NuQ c i (ls.all (M.A8a of)) w):=by
 have HW:Hid (∀u,Cst w0 u c pb lb mb qb nv yv mn fv Z ofs->_):=λu hu=>G0a hB hu i hi;have H0:=A0 h;have HO:=A0 ho;have HL:=A0 hls;clear h ho hls hB;go_enter func111,ntmps111;go_wp2_with fail
 go_loopw [11] (λv wr=>∃j:Nat,j<=ls.length/\v=iV (j:Int)/\Hid (∀x∈ls.take j,M.A8a of x=true)/\Hid (Chg No w wr)) (λv _=>ls.length - (intOf v).toNat)
 case atStart=>exact⟨0,wQ _,rfl,(show∀x∈ls.take 0,_ from by simp),Chg.refl _ _⟩
 case round=>
  obtain⟨j,hj,rfl,HA,KR⟩:=hrel;by_cases hjl:j<ls.length
  · obtain⟨g2,hla,hg2,hl1,hl2,y0⟩:=D5 (A3 HO.out KR.out (λ_ _ x=>x)) hjl;subst hla;have hx:=HL.out ls[j] (mQ hjl);obtain⟨p,r,hp,e,hr,hrl,ht⟩:=hx;have HK:=Q8b (of:=of) (H0.out.still KR.out) (p:=p) ⟨p,r,hp,rfl,hr,hrl,by rw[ht,e]⟩;have HB:Hid ((M.A8a of ls[j]=true ↔ (M.ofA of (p:Int)).k=1\/(M.ofA of (p:Int)).k=5)):=by
     show _ ↔ _;unfold M.A8a;rw[e];simp
    have HM:=A0 (mQ hjl);have HT2:Hid (∀x∈ls.take (j+1),x∈ls.take j\/x=ls[j]):=λx hx=>by
     rw[nQ hjl,qW,zW]at hx;exact hx
    rw[e]at y0;unfold maxLen at hl2;clear e hr ht;generalize (M.ofA of (p:Int)).k=k at *;by_cases hk:k=1\/k=5
    · have HN:Hid (∀x∈ls.take (j+1),M.A8a of x=true):=λx hx=>by
       rcases HT2.out x hx with hx|rfl
       · exact HA.out x hx
       · exact HB.out.2 hk
      rcases hk with rfl|rfl
      · go_wp2_with fail
        refine HK.mono ?_;rintro e w2 ⟨rfl,hc⟩;go_wp2_with fail
        go_roundw
        case rel=>exact⟨j+1,by omega,by go_num,HN.out,KR.out.trans hc (λ_ _ x=>x)⟩
        case measure=>simp[intOf];omega
      · go_wp2_with fail
        refine HK.mono ?_;rintro e w2 ⟨rfl,hc⟩;go_wp2_with fail
        go_roundw
        case rel=>exact⟨j+1,by omega,by go_num,HN.out,KR.out.trans hc (λ_ _ x=>x)⟩
        case measure=>simp[intOf];omega
    · have k1:(k !=1)=true:=by simp;omega
      have k5:(k !=5)=true:=by simp;omega
      have HF:Hid (ls.all (M.A8a of)=false):=by
       show _=_;rw[Bool.eq_false_iff];intro hx;exact hk (HB.out.1 (List.all_eq_true.1 hx _ HM.out))
      go_wp2_with fail
      refine HK.mono ?_;rintro e w2 ⟨rfl,hc⟩;have HX:=A0 (HW.out w2 (H0.out.still (B9 KR.out hc)));have HC:=A0 (B9 KR.out hc);clear hc HK;go_wp2_with fail
      refine HX.out.mono ?_;rintro e w3 ⟨rfl,h3⟩;exact⟨rfl,B9 HC.out h3,by rw[HF.out];rfl⟩
  · have hje:j=ls.length:=by omega
    subst hje;have HT:Hid (ls.all (M.A8a of)=true):=by
     show _=_;rw[List.all_eq_true];intro x hx;exact HA.out x (by rw[List.take_length];exact hx)
    go_wp2_with fail
    go_end0;exact⟨KR.out,by rw[HT.out]⟩
theorem N4c{W:World}{nb:Nat}{p p':Int}{a b:World}(hc:Chg No a b)(h:a.cell? (aD nb 1)=some (iV p)/\a.cell? (aD nb 2)=some (iV p')/\Hid (Chg No W a)):b.cell? (aD nb 1)=some (iV p)/\b.cell? (aD nb 2)=some (iV p')/\Hid (Chg No W b):=
 ⟨A8 hc h.1,A8 hc h.2.1,B9 h.2.2.out hc⟩
theorem K7d(hB:Cbs w0 c pb lb mb qb nv fv)(h:Cst w0 w c pb lb mb qb nv yv mn fv Z ofs)(i:Nat)(hi:i<c.N.length)(ha:Lk c Z ofs of c.N[i].a)(hb:Lk c Z ofs of c.N[i].b):
 Calls prog 110 #[pV pb,iV (i:Int)] w (ExQ w0 w c pb lb mb qb nv yv mn fv Z ofs i (M.B6b of c.N[i])):=by
 obtain⟨oa,oc,hpb,fz,q0,q1,q2,q3,q4,q5,q6,qp,qo⟩:=h.cell;have hT:=h.ts;have hct:c.T.length+4<(tl c Z).length:=by rw[O8];omega
 obtain⟨g,nc,la,lc,hnv,hg,hn1,hn2,⟨x0,x1,x2,x3,x4,x5,x6,x7,x8⟩,-,-⟩:=(hB.nrow h.chg).at (Below.refl _ _) i hi;have p1:=qp 1 (by omega) (by omega);have p3:=qp 3 (by omega) (by omega);have p5:=qp 5 (by omega) (by omega);simp only[show 7+1=8 from rfl,show 7+3=10 from rfl,show 7+5=12 from rfl,show c.T.length+1 - 1=c.T.length by omega,show c.T.length+3 - 1=c.T.length+2 by omega,show c.T.length+5 - 1=c.T.length+4 by omega]at p1 p3 p5;have HP1:=A0 (Z5 hT (k:=1) (by omega) (by omega));have HP3:=A0 (Z5 hT (k:=3) (by omega) (by omega));have HP5:=A0 (Z5 hT (k:=5) (by omega) (by omega));have hlen:=hB.ok.lenN;unfold maxLen at hn2;obtain⟨p,r,hp,hpa,hr,hrl,htr⟩:=ha;obtain⟨p',r',hp',hpb',hr',hrl',htr'⟩:=hb;have HK:Hid (∀u (x:Nat),Chg No w u->(x=p\/x=p')->Calls prog 52 #[pV pb,iV (x:Int)] u λe w'=>e= .returned (iV (M.ofA of (x:Int)).k)/\Chg No u w'):=λu x hu hx=>by
  rcases hx with rfl|rfl
  · exact Q8b (h.still hu) ⟨x,r,hp,rfl,hr,hrl,by rw[htr,hpa]⟩
  · exact Q8b (h.still hu) ⟨x,r',hp',rfl,hr',hrl',by rw[htr',hpb']⟩
 have HW:Hid (∀u,Chg No w u->_):=λu hu=>G0a hB (h.still hu) i hi;have H0:=A0 h;have ES:Hid (M.B6b of c.N[i]=if (M.ofA of (p:Int)).k=5\/(M.ofA of (p':Int)).k=5 then some M.W6 else if (M.ofA of (p:Int)).k≠(M.ofA of (p':Int)).k\/((M.ofA of (p:Int)).k≠1/\(M.ofA of (p:Int)).k≠3) then none else some (M.plT (M.ofA of (p:Int)).k)):=by
  show _=_;unfold M.B6b;rw[hpa,hpb']
 rw[hpa]at x1;rw[hpb']at x2;clear qp qo h hr hr' hB hpa hpb' htr htr' q1 q2 q3 q4 q5 q6 fz;generalize M.B6b of c.N[i]=FT at *;generalize c.N[i]=nd at *;obtain⟨kd,va,vb,vc,ls,tx,vn,vt,vp⟩:=nd;subst hnv;simp only at *;have A1:=Chg.alloc No w (ndC kd (p:Int) (p':Int) vc (.slice la ls.length lc) tx vn vt vp);have nb:=heap_alloc_new w (ndC kd (p:Int) (p':Int) vc (.slice la ls.length lc) tx vn vt vp);have n1:(w.alloc (ndC kd (p:Int) (p':Int) vc (.slice la ls.length lc) tx vn vt vp)).cell? (aD w.heap.size 1)=some (iV (p:Int)):=cr nb rfl;have n2:(w.alloc (ndC kd (p:Int) (p':Int) vc (.slice la ls.length lc) tx vn vt vp)).cell? (aD w.heap.size 2)=some (iV (p':Int)):=cr nb rfl;replace p1:=A8 A1 p1;replace p3:=A8 A1 p3;replace p5:=A8 A1 p5;have hnw:=blt n2;simp only at hnw;have A1h:=A0 A1;clear A1 nb;go_enter func110,ntmps110;go_wp2_with fail
 clear q0 x0 x1 x2 x3 x4 x5 x6 x7 x8 hpb hg;generalize (w.alloc (ndC kd (p:Int) (p':Int) vc (.slice la ls.length lc) tx vn vt vp))=W at *;have S0:Hid (W.drew.cell? (aD w.heap.size 1)=some (iV (p:Int))/\W.drew.cell? (aD w.heap.size 2)=some (iV (p':Int))/\Hid (Chg No W W.drew)):=⟨n1,n2,Chg.drewN _ _ 1⟩;generalize hka:(M.ofA of (p:Int)).k=ka at *;generalize hkb:(M.ofA of (p':Int)).k=kb at *;have HKA:=A0 hka;have HKB:=A0 hkb;clear hka hkb;go_cut [6,7] (λv6 v7 wc=>v6=iV ka/\v7=iV kb/\Hid (Chg No W wc))
 case first=>
  go_region_held3 (λw'=>w'.cell? (aD w.heap.size 1)=some (iV (p:Int))/\w'.cell? (aD w.heap.size 2)=some (iV (p':Int))/\Hid (Chg No W w'))
   (first
    |exact S0.out
    |exact N4c hc ⟨by assumption,by assumption,by assumption⟩
    |(go_split_ands;exact N4c hc ⟨by assumption,by assumption,by assumption⟩)
    |(go_split_ands;exact⟨by assumption,by assumption,by assumption⟩))
   (first
    |((go_at_call 52;go_split_ands;refine(HK.out _ _ (B9 A1h.out (Hid.out (p:=Chg No W _) (by assumption))) (by first|exact .inl rfl|exact .inr rfl)).mono ?_;rintro e w' ⟨rfl,hc⟩)))
  all_goals go_wp2_with fail
  all_goals go_meet
  all_goals exact⟨by rw[HKA.out],by rw[HKB.out],by go_split_ands;assumption⟩
 case rest=>
  obtain⟨rfl,rfl,CW⟩:=hcut;have CX:=A0 (B9 A1h.out CW.out);replace p1:=A8 CW.out p1;replace p3:=A8 CW.out p3;replace p5:=A8 CW.out p5;have hpw:=blt p1;simp only at hpw;clear S0 HK HKA HKB n1 n2 hnw CW A1h;by_cases h5:ka=5
  · have e5:Hid (FT=some M.W6):=by show _=_;rw[ES.out,if_pos (.inl h5)]
    subst h5;clear ES;go_wp2_with fail
    go_ret;exact⟨CX.out.mono (λ_ _ x=>x.elim),by rw[e5.out];exact⟨H0.out.still CX.out,c.T.length+4,rfl,by omega,by simpa[M.plT,M.W6]using HP5.out⟩⟩
  have h5':(ka==5)=false:=by simpa using h5
  by_cases h6:kb=5
  · have e5:Hid (FT=some M.W6):=by show _=_;rw[ES.out,if_pos (.inr h6)]
    subst h6;clear ES;go_wp2_with fail
    go_ret;exact⟨CX.out.mono (λ_ _ x=>x.elim),by rw[e5.out];exact⟨H0.out.still CX.out,c.T.length+4,rfl,by omega,by simpa[M.plT,M.W6]using HP5.out⟩⟩
  have h6':(kb==5)=false:=by simpa using h6
  by_cases hab:ka=kb
  · subst hab;by_cases h1:ka=1
    · have e5:Hid (FT=some (M.plT 1)):=by show _=_;rw[ES.out,if_neg (by omega),if_neg (by omega),h1]
      subst h1;clear ES;go_wp2_with fail
      go_ret;exact⟨CX.out.mono (λ_ _ x=>x.elim),by rw[e5.out];exact⟨H0.out.still CX.out,c.T.length,rfl,by omega,by simpa using HP1.out⟩⟩
    · by_cases h3:ka=3
      · have e5:Hid (FT=some (M.plT 3)):=by show _=_;rw[ES.out,if_neg (by omega),if_neg (by omega),h3]
        subst h3;clear ES;go_wp2_with fail
        go_ret;exact⟨CX.out.mono (λ_ _ x=>x.elim),by rw[e5.out];exact⟨H0.out.still CX.out,c.T.length+2,rfl,by omega,by simpa using HP3.out⟩⟩
      · have e5:Hid (FT=none):=by show _=_;rw[ES.out,if_neg (by omega),if_pos (by omega)]
        have g1:(ka !=1)=true:=by simpa using h1
        have g3:(ka !=3)=true:=by simpa using h3
        clear ES;have HX:=A0 (HW.out wc CX.out);go_wp2_with fail
        refine HX.out.mono ?_;rintro e w7 ⟨rfl,h7⟩;exact⟨rfl,(B9 CX.out h7).mono (λ_ _ x=>x.elim),by rw[e5.out];rfl⟩
  · have e5:Hid (FT=none):=by show _=_;rw[ES.out,if_neg (by omega),if_pos (.inl hab)]
    have gab:(ka !=kb)=true:=by simpa using hab
    clear ES;have HX:=A0 (HW.out wc CX.out);go_wp2_with fail
    refine HX.out.mono ?_;rintro e w7 ⟨rfl,h7⟩;exact⟨rfl,(B9 CX.out h7).mono (λ_ _ x=>x.elim),by rw[e5.out];rfl⟩
end
def KC(a b:World):Prop:=a.heap.size<=b.heap.size/\∀(q:Nat) (cs:Array Value) (e:TypeId) (fz:Nat×Nat),a.heap[q]? =some (.cells cs e fz)->b.heap[q]? =some (.cells cs e fz)
theorem KC.refl(a:World):KC a a:=⟨vQ _,λ_ _ _ _ h=>h⟩
theorem KC.trans{a b c:World}(h:KC a b)(k:KC b c):KC a c:=⟨kQ h.1 k.1,λq cs e fz x=>k.2 q cs e fz (h.2 q cs e fz x)⟩
theorem KC.still{a b:World}(h:Chg No a b):KC a b:=⟨h.size,λq cs e fz x=>by rw[h.block q (ltG x) (λy=>y)];exact x⟩
theorem KC.cell{a b:World}(h:KC a b){q o:Nat}{v:Value}(hc:a.cell? (aD q o)=some v):b.cell? (aD q o)=some v:=by
 have hlt:=World.block_lt_of_cell? a _ hc;cases hb:a.heap[q]? with
 |none=>
  simp[World.cell?,hb]at hc
 |some ob=>
  cases ob with
  |cells cs e fz=>
   have:=h.2 q cs e fz hb;rw[World.cell?_of_block (this.trans hb.symm)];exact hc
  |_=>simp[World.cell?,hb]at hc
theorem KC.row{a b:World}(h:KC a b){base:Nat}{e:TypeId}{size:Nat}{v:Value}{n:Nat}{xs:List Value}(ho:a.ownsRow base e size v n xs):b.ownsRow base e size v n xs:=by
 obtain⟨h1,h2⟩:=ho;refine⟨h1, ?_⟩;rcases h2 with h2|⟨g,cap,cur,e1,e2,e3,r⟩
 · exact .inl h2
 · exact .inr ⟨g,cap,cur,e1,e2,h.2 _ _ _ _ e3,r⟩
theorem Cst.kc{w0 w w':World}{c:M.Cx}{pb lb mb qb:Nat}{nv yv fv:Value}{mn:Int}{Z:List M.Ty}{ofs:List Int}(h:Cst w0 w c pb lb mb qb nv yv mn fv Z ofs)(hc:Chg (λk=>k=mb) w w'):KC w w':=by
 obtain⟨D,hs⟩:=h.sho;exact⟨hc.size,λq cs e fz x=>by rw[hc.block q (ltG x) (λy=>by subst y;exact hs.mst.tag _ _ _ x)];exact x⟩
structure Lks(c:M.Cx)(Z:List M.Ty)(ofs:List Int)(of:M.Of)(i:Nat):Prop where
 pe:∀x,M.Pe c.N i x->Lk c Z ofs of x
 has:∀x,M.Tg c.N i x->∃(j a:Nat),x=(j:Int)/\j<c.N.length/\C1a c ofs j=(a:Int)/\a<(tl c Z).length/\M.tr (tl c Z) a=M.T8 c of x/\((M.ndx c.N j).ty= -1->(M.ndx c.N j).kind=17->∃n:Nat,(M.ndx c.N j).a=(n:Int)/\n<ofs.length)
 res:∀x:Int,∃a:Nat,O8b c (M.ndx c.N x)=(a:Int)/\a<(tl c Z).length/\M.tr (tl c Z) a=M.E7a c.T (M.ndx c.N x)
 wt:∀x,M.Py c.T x->∃a:Nat,x=(a:Int)/\a<(tl c Z).length/\M.tr (tl c Z) a=M.tr c.T x.toNat
theorem Q7b{c:M.Cx}(hc:M.D8a c){Z:List M.Ty}(hT:M.TsOk (tl c Z)){ofs:List Int}{of:M.Of}(hR:OfR (tl c Z) ofs of){k:Nat}(hI:M.CkI c of k){i:Nat}(hik:i<=k):Lks c Z ofs of i:=by
 have hl:∀j:Nat,(h:j<c.N.length)->M.isE c.N[j].kind->(j<k\/c.N[j].kind=6)->Lk c Z ofs of (j:Int):=λj h he h6=>by
  obtain⟨t,ht⟩:=hI.ex j h he h6;obtain⟨r,h1,h2,h3,h4⟩:=Cst.look (c:=c) (Z:=Z) hR ht;exact⟨j,r,h1,rfl,h2,h3,h4⟩
 have any:c.T.length+4<(tl c Z).length/\M.tr (tl c Z) (c.T.length+4)=M.W6:=⟨by rw[O8];omega,by have:=Z5 hT (k:=5) (by omega) (by omega);simpa[M.plT,M.W6]using this⟩;have wt:∀x,M.Py c.T x->∃a:Nat,x=(a:Int)/\a<(tl c Z).length/\M.tr (tl c Z) a=M.tr c.T x.toNat:=λx ⟨j,e,hj,_⟩=>⟨j,e,by rw[O8];omega,by rw[N4b hc.ok hj,e];rfl⟩;refine⟨λx ⟨j,e,hj,h,he⟩=>by rw[e];exact hl j h he (.inl (by omega)),λx ⟨j,e,h,hkd,hj⟩=> ?_,λx=> ?_,wt⟩
 · have e1:M.ndx c.N (j:Int)=c.N[j]:=M.D3 h;have hty:=M.A4a hc (j:Int);by_cases ht:(M.ndx c.N (j:Int)).ty= -1
   · by_cases h17:(M.ndx c.N (j:Int)).kind=17
     · have hp:=((hc.flat j h).k17 (by rw[<-e1];exact h17)).2;have key:Lk c Z ofs of c.N[j].a:=by
        rcases hj with hj|⟨_,n,e2,hn,hnl,h6⟩
        · obtain⟨n,e2,hn,hnl,he⟩:=hp;rw[e2];exact hl n hnl he (.inl (by omega))
        · rw[e2];exact hl n hnl (by rw[h6];exact⟨by decide,by decide⟩) (.inr h6)
       obtain⟨p,r,hp1,e2,hr,hrl,htr⟩:=key;refine⟨j,r,e,h, ?_,hrl, ?_,λ_ _=>⟨p,by rw[e1];exact e2,hp1⟩⟩
       · unfold C1a;rw[if_neg (by rw[ht];simp),if_pos h17,e1,e2,tQ,lQ,gQ hp1];exact hr
       · unfold M.T8;rw[e,if_neg (by rw[ht];simp),if_pos h17,e1];exact htr
     · refine⟨j,c.T.length+4,e,h, ?_,any.1, ?_,λ_ h=>absurd h h17⟩
       · unfold C1a;rw[if_neg (by rw[ht];simp),if_neg h17]
       · unfold M.T8;rw[e,if_neg (by rw[ht];simp),if_neg h17];exact any.2
   · rcases hty with hty|hty
     · exact absurd hty ht
     · obtain⟨a,e2,ha,htr⟩:=wt _ hty;refine⟨j,a,e,h, ?_,ha, ?_,λh=>absurd h ht⟩
       · unfold C1a;rw[if_pos ht];exact e2
       · unfold M.T8;rw[e,if_pos ht];exact htr
 · have hty:=M.A4a hc x;by_cases ht:(M.ndx c.N x).ty= -1
   · exact⟨c.T.length+4,by unfold O8b;rw[if_pos ht],any.1,by unfold M.E7a;rw[if_pos ht];exact any.2⟩
   · rcases hty with hty|hty
     · exact absurd hty ht
     · obtain⟨a,e2,ha,htr⟩:=wt _ hty;exact⟨a,by unfold O8b;rw[if_neg ht];exact e2,ha,by unfold M.E7a;rw[if_neg ht];exact htr⟩
section
variable{w0 w:World}{c:M.Cx}{pb lb mb qb:Nat}{nv yv fv:Value}{mn:Int}{Z:List M.Ty}{ofs:List Int}{of:M.Of}
theorem FtQ.part{i:Nat}{b:Bool}{e:Ending}{w':World}(h:FtQ w0 w c pb lb mb qb nv yv mn fv Z ofs i b e w'):(e=gu 9 (atI c.N i)/\b=false/\Chg (λk=>k=mb) w w')\/(e=rT/\b=true/\Chg (λk=>k=mb) w w'/\Cst w0 w' c pb lb mb qb nv yv mn fv Z ofs):=by
 obtain⟨h1,h2⟩:=h;cases b
 · exact .inl ⟨h2,rfl,h1⟩
 · exact .inr ⟨h2.1,rfl,h1,h2.2⟩
theorem R8c{a b:World}{q:Nat}{cs:Array Value}{e:TypeId}{T:List M.Ty}{N:Nat}{D:Dt}(hm:Mst a mb N T D)(hc:Chg (λk=>k=mb) a b)(h:a.heap[q]? =some (.cells cs e (0,0))):b.heap[q]? =some (.cells cs e (0,0)):=by
 rw[hc.block q (ltG h) (λx=>by subst x;exact hm.tag _ _ _ h)];exact h
theorem Cst.blk(h:Cst w0 w c pb lb mb qb nv yv mn fv Z ofs){b:World}{q:Nat}{cs:Array Value}{e:TypeId}(hc:Chg (λk=>k=mb) w b)(hq:w.heap[q]? =some (.cells cs e (0,0))):b.heap[q]? =some (.cells cs e (0,0)):=by
 obtain⟨D,hs⟩:=h.sho;exact R8c hs.mst hc hq
theorem W2b(hB:Cbs w0 c pb lb mb qb nv fv)(h:Cst w0 w c pb lb mb qb nv yv mn fv Z ofs)(i:Nat)(hi:i<c.N.length)(p:Nat)(hp:p<ofs.length)(hpa:c.N[i].a=(p:Int))(r:Nat)(hr:ofs[p]=(r:Int))(hrl:r<(tl c Z).length)(he:M.ofA of c.N[i].a=M.tr (tl c Z) r)
 (p':Nat) (hp':p'<ofs.length) (hpb':c.N[i].b=(p':Int)) (r':Nat) (hr':ofs[p']=(r':Int)) (hrl':r'<(tl c Z).length) (he':M.ofA of c.N[i].b=M.tr (tl c Z) r'):
 Calls prog 50 #[pV pb,iV (i:Int)] w (ExQ w0 w c pb lb mb qb nv yv mn fv Z ofs i (M.J0 of c.N[i])):=by
 obtain⟨oa,oc,hpb,fz,q0,q1,q2,q3,q4,q5,q6,qp,qo⟩:=h.cell;have hT:=h.ts;have hct:c.T.length<(tl c Z).length:=by rw[O8];omega
 have hpl:M.tr (tl c Z) c.T.length=M.plT 1:=by simpa using Z5 hT (k:=1) (by omega) (by omega)
 obtain⟨g,nc,la,lc,hnv,hg,hn1,hn2,⟨x0,x1,x2,x3,x4,x5,x6,x7,x8⟩,-,-⟩:=(hB.nrow h.chg).at (Below.refl _ _) i hi;have p1:=qp 1 (by omega) (by omega);simp only[show 7+1=8 from rfl,show c.T.length+1 - 1=c.T.length by omega]at p1;have hlen:=hB.ok.lenN;unfold maxLen at hn2;have HF:Hid (∀u,Chg No w u->_):=λu hu=>C1d hB (h.still hu) i hi p' hp' r' hr' hrl' c.T.length hct;have HW:Hid (∀u,Cst w0 u c pb lb mb qb nv yv mn fv Z ofs->_):=λu hu=>G0a hB hu i hi;have H0:=A0 h;have E0:Hid (M.D9 (M.tr (tl c Z) r') (M.tr (tl c Z) c.T.length)=false->M.J0 of c.N[i]=none):=λhb=>by
  unfold M.J0;rw[he',<-hpl,hb];rfl
 have E5:Hid (M.D9 (M.tr (tl c Z) r') (M.tr (tl c Z) c.T.length)=true->(tl c Z)[r].kind=5->M.J0 of c.N[i]=some (M.tr (tl c Z) r)):=λhb h5=>by
  unfold M.J0;rw[he',<-hpl,if_pos hb,he,Y5 hT hrl,if_pos h5]
 have E8:Hid (M.D9 (M.tr (tl c Z) r') (M.tr (tl c Z) c.T.length)=true->(tl c Z)[r].kind=8->M.J0 of c.N[i]=some (M.tr (tl c Z) (tl c Z)[r].of'.toNat)/\0<=(tl c Z)[r].of'/\(tl c Z)[r].of'<(r:Int)):=λhb h8=>by
  refine⟨?_,(hT r hrl).of (.inl h8)⟩;unfold M.J0;rw[he',<-hpl,if_pos hb,he,Y5 hT hrl,if_neg (by omega),if_pos h8,H2a hT hrl,if_pos (.inl h8)];rfl
 have EN:Hid (M.D9 (M.tr (tl c Z) r') (M.tr (tl c Z) c.T.length)=true->(tl c Z)[r].kind≠5->(tl c Z)[r].kind≠8->M.J0 of c.N[i]=none):=λhb h5 h8=>by
  unfold M.J0;rw[he',<-hpl,if_pos hb,he,Y5 hT hrl,if_neg h5,if_neg h8]
 have HRL:=A0 hrl;have HGG:Hid (∀u,Cst w0 u c pb lb mb qb nv yv mn fv Z ofs->_):=λu hu=>O2c r u hrl hu.sho.choose_spec;have HCC:Hid (∀u,Cst w0 u c pb lb mb qb nv yv mn fv Z ofs->_):=λu (hu:Cst w0 u c pb lb mb qb nv yv mn fv Z ofs)=>hu.cell;have HR:=A0 hr;rw[hpa]at x1;rw[hpb']at x2;clear qp qo h hr hr' hB hpa he he' hpb' hpl q1 q2 q3 q4 q5 q6 fz;generalize M.D9 (M.tr (tl c Z) r') (M.tr (tl c Z) c.T.length)=b at *;generalize M.J0 of c.N[i]=FT at *;generalize c.N[i]=nd at *;obtain⟨kd,va,vb,vc,ls,tx,vn,vt,vp⟩:=nd;subst hnv;simp only at *;have A1:=Chg.alloc No w (ndC kd (p:Int) (p':Int) vc (.slice la ls.length lc) tx vn vt vp);have nb:=heap_alloc_new w (ndC kd (p:Int) (p':Int) vc (.slice la ls.length lc) tx vn vt vp);have n2:(w.alloc (ndC kd (p:Int) (p':Int) vc (.slice la ls.length lc) tx vn vt vp)).cell? (aD w.heap.size 2)=some (iV (p':Int)):=cr nb rfl;have p1':=A8 A1 p1;have hpw:=blt p1';have hnw:=blt n2;simp only at hpw hnw;have A1h:=A0 A1;have NB:=A0 nb;clear A1 nb;go_enter func50,ntmps50;go_wp2_with fail
 clear q0 p1 x0 x1 x2 x3 x4 x5 x6 x7 x8 hpb hg;generalize (w.alloc (ndC kd (p:Int) (p':Int) vc (.slice la ls.length lc) tx vn vt vp))=W at *;go_cut [] (λwc=>b=true/\Hid (Chg (λk=>k=mb) W wc)/\Hid (Cst w0 wc c pb lb mb qb (.slice (some (aD g 0)) c.N.length nc) yv mn fv Z ofs))
 case first=>
  go_region_with (go_at_call 86;refine(HF.out _ (B9 A1h.out (Chg.drewN _ _ 1))).mono ?_;intro e w5 hq;rcases FtQ.part hq with ⟨rfl,hb,hc⟩|⟨rfl,hb,hc,hC⟩;exact⟨rfl,((B9 A1h.out (Chg.drewN _ _ 1)).mono (λ_ _ x=>x.elim)).trans hc (λ_ _ x=>x),by rw[E0.out hb];rfl⟩)
  all_goals go_wp2_with fail
  all_goals go_meet
  all_goals exact⟨hb,(Chg.drewN (λk=>k=mb) W 1).trans hc (λ_ _ x=>x),hC⟩
 case rest=>
  obtain⟨hb,CW,CS⟩:=hcut;have nb2:=(H0.out.still A1h.out).blk CW.out NB.out;have n1:wc.cell? (aD w.heap.size 1)=some (iV (p:Int)):=cr nb2 rfl;obtain⟨oa',oc',hpb,fz,q0,q1,q2,q3,q4,q5,q6,qp,qo⟩:=HCC.out wc CS.out;obtain⟨go,rfl,ho0,ho1,ho2,ho3,y0,-⟩:=qo p hp;rw[HR.out]at y0;obtain⟨gt,ct,fa,fc,la2,lc2,z0,z1,z2,z3,z4,-,hgx⟩:=HGG.out wc CS.out;have HG:=A0 hgx;have e0:=E5.out hb;have E5':=A0 (E5.out hb);have E8':=A0 (E8.out hb);have EN':=A0 (EN.out hb);have hpw2:=blt q3;have hgw2:=blt y0;have hlw2:=blt z0;have htw2:=blt z1;have hnw2:=blt n1;simp only at hpw2 hgw2 hlw2 htw2 hnw2;unfold maxLen at ho3;have CX:=A0 ((A1h.out.mono (S':=λk=>k=mb) (λ_ _ x=>x.elim)).trans CW.out (λ_ _ x=>x));clear hgx nb2 q0 q1 q2 q4 q5 fz qp qo hb E5 E8 EN E0 e0 n2 p1' hpw hnw HGG HCC HF NB CW A1h ho0 ho1 hpb;generalize (tl c Z)[r]=t at *;obtain⟨tk,tf,tls,tof⟩:=t;simp only at *;go_wp2_with fail
  go_cut [6] (λv6 wd=>∃q:Nat,v6=pV q/\Hid (Chg No wc wd)/\wd.cell? (aD q 0)=some (iV tk)/\wd.cell? (aD q 3)=some (iV tof))
  case first=>
   go_region_held3 (λw'=>w'.cell? (aD pb 3)=some (pV lb)/\w'.cell? (aD pb 6)=some (.slice (some (aD go 0)) ofs.length oc')/\w'.cell? (aD go p)=some (iV (r:Int))/\w'.cell? (aD w.heap.size 1)=some (iV (p:Int))/\
    w'.cell? (aD lb 0)=some (.slice (some (aD gt 0)) (tl c Z).length ct)/\w'.cell? (aD gt (r * 4))=some (iV tk)/\w'.cell? (aD gt (r * 4+1))=some (.slice fa tf.length fc)/\w'.cell? (aD gt (r * 4+2))=some (.slice la2 tls.length lc2)/\w'.cell? (aD gt (r * 4+3))=some (iV tof))
    (go_keep)
    (first
     |((go_at_call 82;go_split_ands;refine(HG.out _ (by assumption) (by assumption) (by assumption) (by assumption) (by assumption)).mono ?_;rintro e w' ⟨rfl,rfl⟩)))
   all_goals go_wp2_with fail
   all_goals go_meet
   all_goals exact⟨_,rfl,B9 (B9 (Chg.alloc No _ _) (Chg.alloc No _ _)) (Chg.drewN No _ 1),by simp[go_sem],by simp[go_sem]⟩
  case rest=>
   obtain⟨q,rfl,CD,t0,t3⟩:=hcut;replace q6:=A8 CD.out q6;replace y0:=A8 CD.out y0;replace n1:=A8 CD.out n1;have hpw:=blt q6;have hgw:=blt y0;have hnw:=blt n1;simp only at hpw hgw hnw;have CZ:=A0 (CX.out.trans CD.out (λ_ _ x=>x.elim));have CSD:=A0 (CS.out.still CD.out);clear z0 z1 z2 z3 z4 hpw2 hgw2 hlw2 htw2 hnw2 HG q3 CX CS CD;by_cases h5:tk=5
   · have e5:=A0 (E5'.out h5);subst h5;clear E5' E8' EN';go_wp2_with fail
     go_quiet (fail)
     go_wp2_with fail
     go_ret;exact⟨CZ.out.trans (Chg.drewN No _ _) (λ_ _ x=>x.elim),by rw[e5.out];exact⟨CSD.out.still (Chg.drewN No _ _),r,rfl,HRL.out,rfl⟩⟩
   have h5':(tk==5)=false:=by simpa using h5
   by_cases h8:tk=8
   · obtain⟨e8,h1,h2⟩:=E8'.out h8;have e8h:=A0 e8;subst h8;obtain⟨z,rfl⟩:∃z:Nat,tof=(z:Int):=⟨tof.toNat,by omega⟩;clear E5' E8' EN' e8;go_wp2_with fail
     go_ret;have hr2:=HRL.out;exact⟨CZ.out,by rw[e8h.out];exact⟨CSD.out,z,rfl,by omega,by simp⟩⟩
   · have en:=A0 (EN'.out h5 h8);have h8':(tk !=8)=true:=by simpa using h8
     have HX:=A0 (HW.out _ CSD.out);clear E5' E8' EN';go_wp2_with fail
     refine HX.out.mono ?_;rintro e w7 ⟨rfl,h7⟩;exact⟨rfl,CZ.out.trans h7 (λ_ _ x=>x.elim),by rw[en.out];rfl⟩
theorem K4d(hB:Cbs w0 c pb lb mb qb nv fv)(h:Cst w0 w c pb lb mb qb nv yv mn fv Z ofs)(i:Nat)(hi:i<c.N.length)(ha:Lk c Z ofs of c.N[i].a)(hb:Lk c Z ofs of c.N[i].b):
 Calls prog 80 #[pV pb,iV (i:Int)] w (ExQ w0 w c pb lb mb qb nv yv mn fv Z ofs i (M.G2b of c.N[i])):=by
 obtain⟨oa,oc,hpb,fz,q0,q1,q2,q3,q4,q5,q6,qp,qo⟩:=h.cell;have hT:=h.ts;have hct:c.T.length+4<(tl c Z).length:=by rw[O8];omega
 obtain⟨g,nc,la,lc,hnv,hg,hn1,hn2,⟨x0,x1,x2,x3,x4,x5,x6,x7,x8⟩,-,-⟩:=(hB.nrow h.chg).at (Below.refl _ _) i hi;have p1:=qp 1 (by omega) (by omega);have p2:=qp 2 (by omega) (by omega);have p3:=qp 3 (by omega) (by omega);simp only[show 7+1=8 from rfl,show 7+3=10 from rfl,show 7+2=9 from rfl,show c.T.length+1 - 1=c.T.length by omega,show c.T.length+3 - 1=c.T.length+2 by omega,show c.T.length+2 - 1=c.T.length+1 by omega]at p1 p2 p3;have HP1:=A0 (Z5 hT (k:=1) (by omega) (by omega));have HP2:=A0 (Z5 hT (k:=2) (by omega) (by omega));have HP3:=A0 (Z5 hT (k:=3) (by omega) (by omega));have hlen:=hB.ok.lenN;unfold maxLen at hn2;have HS:Hid (∀u,Chg No w u->_):=λu hu=>K7d hB (h.still hu) i hi ha hb;obtain⟨p,hpa⟩:∃p:Nat,c.N[i].a=(p:Int):=by obtain⟨p,_,_,e,_⟩:=ha;exact⟨p,e⟩
 obtain⟨p',hpb'⟩:∃p:Nat,c.N[i].b=(p:Int):=by obtain⟨p,_,_,e,_⟩:=hb;exact⟨p,e⟩
 have HN:Hid (∀u,Chg No w u->∀la lc,u.ownsRow 0 3 1 (.slice la 2 lc) 2 (B8 [(p:Int),(p':Int)])->Calls prog 111 #[pV pb,iV (i:Int),.slice la 2 lc] u (NuQ c i (M.A8a of (p:Int) && M.A8a of (p':Int)) u)):=λu hu la lc ho=>by
  have:=Z7a (of:=of) hB (h.still hu) i hi [(p:Int),(p':Int)] (λx hx=>by
   simp only[jW,List.not_mem_nil,or_false]at hx;rcases hx with rfl|rfl
   · rw[<-hpa];exact ha
   · rw[<-hpb'];exact hb) la lc ho (by simp)
  simpa using this
 have ES:Hid (M.G2b of c.N[i]=if c.N[i].text=[61,61] then some (M.plT 2) else if c.N[i].text=[43] then M.B6b of c.N[i] else if M.A8a of (p:Int) && M.A8a of (p':Int) then some (if c.N[i].text=[60] then M.plT 2 else M.plT 1) else none):=by
  show _=_;unfold M.G2b;rw[hpa,hpb']
 have H0:=A0 h;rw[hpa]at x1;rw[hpb']at x2;clear qp qo h hB hpa hpb' hb ha q1 q2 q3 q4 q5 q6 fz;generalize M.G2b of c.N[i]=FT at *;generalize M.B6b of c.N[i]=FS at *;generalize c.N[i]=nd at *;obtain⟨kd,va,vb,vc,ls,tx,vn,vt,vp⟩:=nd;subst hnv;simp only at *;have A1:=Chg.alloc No w (ndC kd (p:Int) (p':Int) vc (.slice la ls.length lc) tx vn vt vp);have A1h:=A0 A1;have hpc:=A8 A1 p1;have nb:=heap_alloc_new w (ndC kd (p:Int) (p':Int) vc (.slice la ls.length lc) tx vn vt vp);have n5:(w.alloc (ndC kd (p:Int) (p':Int) vc (.slice la ls.length lc) tx vn vt vp)).cell? (aD w.heap.size 5)=some (.string ⟨tx.toArray⟩):=cr nb rfl;have NB:=A0 nb;clear A1 nb hpc;by_cases t1:tx=[61,61]
 · have e5:Hid (FT=some (M.plT 2)):=by show _=_;rw[ES.out,if_pos t1]
   subst t1;clear ES HN;go_enter func80,ntmps80;go_wp2_with fail
   go_ret;exact⟨A1h.out.mono (λ_ _ x=>x.elim),by rw[e5.out];exact⟨H0.out.still A1h.out,c.T.length+1,rfl,by omega,by simpa using HP2.out⟩⟩
 have t1':(tx==[61,61])=false:=by simpa using t1
 by_cases t2:tx=[43]
 · have e5:Hid (FT=FS):=by show _=_;rw[ES.out,if_neg t1,if_pos t2]
   have HSS:=A0 (HS.out _ A1h.out);subst t2;clear ES HN HS t1';go_enter func80,ntmps80;go_wp2_with fail
   refine HSS.out.mono ?_;rintro e w5 ⟨hc,hm⟩;cases FS with
   |none=>
    have hm':e=gu 9 (atI c.N i):=hm;subst hm';exact⟨rfl,(A1h.out.mono (λ_ _ x=>x.elim)).trans hc (λ_ _ x=>x),by rw[e5.out];rfl⟩
   |some tt=>
    obtain⟨hC,x,rfl,hx,ht⟩:=hm;have HQ:Hid (ExQ w0 w c pb lb mb qb (.slice (some (aD g 0)) c.N.length nc) yv mn fv Z ofs i FT (.returned (iV (x:Int))) w5):=⟨(A1h.out.mono (λ_ _ x=>x.elim)).trans hc (λ_ _ x=>x),by rw[e5.out];exact⟨hC,x,rfl,hx,ht⟩⟩;clear hc hC ht e5;go_wp2_with fail
    go_ret;exact HQ.out
 have t2':(tx==[43])=false:=by simpa using t2
 have H2:Hid (∀q lc2,q=(w.alloc (ndC kd (p:Int) (p':Int) vc (.slice la ls.length lc) tx vn vt vp)).heap.size->lc2=2->Calls prog 111 #[pV pb,iV (i:Int),.slice (some (aD q 0)) 2 lc2] ((w.alloc (ndC kd (p:Int) (p':Int) vc (.slice la ls.length lc) tx vn vt vp)).alloc (.cells (B8 [(p:Int),(p':Int)]).toArray 3)) (NuQ c i (M.A8a of (p:Int) && M.A8a of (p':Int)) ((w.alloc (ndC kd (p:Int) (p':Int) vc (.slice la ls.length lc) tx vn vt vp)).alloc (.cells (B8 [(p:Int),(p':Int)]).toArray 3)))):=λq lc2 hq hl=>by
  subst hq hl;exact HN.out _ (B9 A1h.out (Chg.alloc _ _ _)) _ _ (W8 (wQ _) [(p:Int),(p':Int)] (by simp))
 simp only[B8,List.map_cons,List.map_nil]at H2;clear HN;generalize hbb:(M.A8a of (p:Int) && M.A8a of (p':Int))=bb at *;have EB:Hid ((bb=false->FT=none)/\(bb=true->FT=some (if tx=[60] then M.plT 2 else M.plT 1))):=by
  constructor
  · intro hb;rw[ES.out,if_neg t1,if_neg t2,hb];rfl
  · intro hb;rw[ES.out,if_neg t1,if_neg t2,hb];rfl
 clear hbb ES t1 t2;have C2:=A0 (B9 A1h.out (Chg.alloc No _ (.cells #[iV (p:Int),iV (p':Int)] 3)));cases bb
 · have e5:=A0 (EB.out.1 rfl);clear EB;go_enter func80,ntmps80;go_wp2_with fail
   refine(H2.out _ _ (by simp) rfl).mono ?_;rintro e w5 ⟨hc,rfl⟩;exact⟨rfl,(B9 C2.out hc).mono (λ_ _ x=>x.elim),by rw[e5.out];rfl⟩
 · have e5:=A0 (EB.out.2 rfl);clear EB;by_cases t3:tx=[60]
   · have e6:Hid (FT=some (M.plT 2)):=by show _=_;rw[e5.out,if_pos t3]
     have t3':(tx==[60])=true:=by simpa using t3
     clear e5 t3;go_enter func80,ntmps80;go_wp2_with fail
     refine(H2.out _ _ (by simp) rfl).mono ?_;rintro e w5 ⟨hc,rfl⟩;have C5:=A0 (B9 C2.out hc);have p1':=A8 C5.out p1;have p2':=A8 C5.out p2;have b5:=D6 (B9 (Chg.alloc No _ (.cells #[iV (p:Int),iV (p':Int)] 3)) hc) NB.out;have n5':w5.cell? (aD w.heap.size 5)=some (.string ⟨tx.toArray⟩):=cr b5 rfl;have hpw:=blt p1';have hnw:=blt n5';simp only at hpw hnw;clear hc b5;go_wp2_with fail
     go_ret;exact⟨C5.out.mono (λ_ _ x=>x.elim),by rw[e6.out];exact⟨H0.out.still C5.out,c.T.length+1,rfl,by omega,by simpa using HP2.out⟩⟩
   · have e6:Hid (FT=some (M.plT 1)):=by show _=_;rw[e5.out,if_neg t3]
     have t3':(tx==[60])=false:=by simpa using t3
     clear e5 t3;go_enter func80,ntmps80;go_wp2_with fail
     refine(H2.out _ _ (by simp) rfl).mono ?_;rintro e w5 ⟨hc,rfl⟩;have C5:=A0 (B9 C2.out hc);have p1':=A8 C5.out p1;have p2':=A8 C5.out p2;have b5:=D6 (B9 (Chg.alloc No _ (.cells #[iV (p:Int),iV (p':Int)] 3)) hc) NB.out;have n5':w5.cell? (aD w.heap.size 5)=some (.string ⟨tx.toArray⟩):=cr b5 rfl;have hpw:=blt p1';have hnw:=blt n5';simp only at hpw hnw;clear hc b5;go_wp2_with fail
     go_ret;exact⟨C5.out.mono (λ_ _ x=>x.elim),by rw[e6.out];exact⟨H0.out.still C5.out,c.T.length,rfl,by omega,by simpa using HP1.out⟩⟩
theorem L4d(hB:Cbs w0 c pb lb mb qb nv fv)(h:Cst w0 w c pb lb mb qb nv yv mn fv Z ofs)(i:Nat)(hi:i<c.N.length)(ha:Lk c Z ofs of c.N[i].a):
 Calls prog 81 #[pV pb,iV (i:Int)] w (ExQ w0 w c pb lb mb qb nv yv mn fv Z ofs i (M.I4b of c.N[i])):=by
 obtain⟨oa,oc,hpb,fz,q0,q1,q2,q3,q4,q5,q6,qp,qo⟩:=h.cell;have hT:=h.ts;have hct:c.T.length+4<(tl c Z).length:=by rw[O8];omega
 obtain⟨g,nc,la,lc,hnv,hg,hn1,hn2,⟨x0,x1,x2,x3,x4,x5,x6,x7,x8⟩,-,-⟩:=(hB.nrow h.chg).at (Below.refl _ _) i hi;have p1:=qp 1 (by omega) (by omega);have p2:=qp 2 (by omega) (by omega);have p3:=qp 3 (by omega) (by omega);simp only[show 7+1=8 from rfl,show 7+3=10 from rfl,show 7+2=9 from rfl,show c.T.length+1 - 1=c.T.length by omega,show c.T.length+3 - 1=c.T.length+2 by omega,show c.T.length+2 - 1=c.T.length+1 by omega]at p1 p2 p3;have HP1:=A0 (Z5 hT (k:=1) (by omega) (by omega));have HP2:=A0 (Z5 hT (k:=2) (by omega) (by omega));have HP3:=A0 (Z5 hT (k:=3) (by omega) (by omega));have hlen:=hB.ok.lenN;unfold maxLen at hn2;obtain⟨p,hpa⟩:∃p:Nat,c.N[i].a=(p:Int):=by obtain⟨p,_,_,e,_⟩:=ha;exact⟨p,e⟩
 have HN:Hid (∀u,Chg No w u->∀la lc,u.ownsRow 0 3 1 (.slice la 1 lc) 1 (B8 [(p:Int)])->Calls prog 111 #[pV pb,iV (i:Int),.slice la 1 lc] u (NuQ c i (M.A8a of (p:Int)) u)):=λu hu la lc ho=>by
  have:=Z7a (of:=of) hB (h.still hu) i hi [(p:Int)] (λx hx=>by
   simp only[jW,List.not_mem_nil,or_false]at hx;subst hx;rw[<-hpa];exact ha) la lc ho (by simp)
  simpa using this
 have ES:Hid (M.I4b of c.N[i]=if c.N[i].text=[33] then some (M.plT 2) else if c.N[i].text=[116,121,112,101,111,102] then some (M.plT 3) else if M.A8a of (p:Int) then some (M.plT 1) else none):=by
  show _=_;unfold M.I4b;rw[hpa]
 have H0:=A0 h;rw[hpa]at x1;clear qp qo h hB hpa ha q1 q2 q3 q4 q5 q6 fz;generalize M.I4b of c.N[i]=FT at *;generalize c.N[i]=nd at *;obtain⟨kd,va,vb,vc,ls,tx,vn,vt,vp⟩:=nd;subst hnv;simp only at *;have A1:=Chg.alloc No w (ndC kd (p:Int) vb vc (.slice la ls.length lc) tx vn vt vp);have A1h:=A0 A1;have hpc:=A8 A1 p1;have nb:=heap_alloc_new w (ndC kd (p:Int) vb vc (.slice la ls.length lc) tx vn vt vp);have n5:(w.alloc (ndC kd (p:Int) vb vc (.slice la ls.length lc) tx vn vt vp)).cell? (aD w.heap.size 5)=some (.string ⟨tx.toArray⟩):=cr nb rfl;have NB:=A0 nb;clear A1 nb hpc;by_cases t1:tx=[33]
 · have e5:Hid (FT=some (M.plT 2)):=by show _=_;rw[ES.out,if_pos t1]
   subst t1;clear ES HN;go_enter func81,ntmps81;go_wp2_with fail
   go_ret;exact⟨A1h.out.mono (λ_ _ x=>x.elim),by rw[e5.out];exact⟨H0.out.still A1h.out,c.T.length+1,rfl,by omega,by simpa using HP2.out⟩⟩
 have t1':(tx==[33])=false:=by simpa using t1
 by_cases t2:tx=[116,121,112,101,111,102]
 · have e5:Hid (FT=some (M.plT 3)):=by show _=_;rw[ES.out,if_neg t1,if_pos t2]
   subst t2;clear ES HN t1';go_enter func81,ntmps81;go_wp2_with fail
   go_ret;exact⟨A1h.out.mono (λ_ _ x=>x.elim),by rw[e5.out];exact⟨H0.out.still A1h.out,c.T.length+2,rfl,by omega,by simpa using HP3.out⟩⟩
 have t2':(tx==[116,121,112,101,111,102])=false:=by simpa using t2
 have H1:Hid (∀q lc2,q=(w.alloc (ndC kd (p:Int) vb vc (.slice la ls.length lc) tx vn vt vp)).heap.size->lc2=1->Calls prog 111 #[pV pb,iV (i:Int),.slice (some (aD q 0)) 1 lc2] ((w.alloc (ndC kd (p:Int) vb vc (.slice la ls.length lc) tx vn vt vp)).alloc (.cells (B8 [(p:Int)]).toArray 3)) (NuQ c i (M.A8a of (p:Int)) ((w.alloc (ndC kd (p:Int) vb vc (.slice la ls.length lc) tx vn vt vp)).alloc (.cells (B8 [(p:Int)]).toArray 3)))):=λq lc2 hq hl=>by
  subst hq hl;exact HN.out _ (B9 A1h.out (Chg.alloc _ _ _)) _ _ (W8 (wQ _) [(p:Int)] (by simp))
 simp only[B8,List.map_cons,List.map_nil]at H1;clear HN;generalize hbb:(M.A8a of (p:Int))=bb at *;have EB:Hid ((bb=false->FT=none)/\(bb=true->FT=some (M.plT 1))):=by
  constructor
  · intro hb;rw[ES.out,if_neg t1,if_neg t2,hb];rfl
  · intro hb;rw[ES.out,if_neg t1,if_neg t2,hb];rfl
 clear hbb ES t1 t2;have C2:=A0 (B9 A1h.out (Chg.alloc No _ (.cells #[iV (p:Int)] 3)));cases bb
 · have e5:=A0 (EB.out.1 rfl);clear EB;go_enter func81,ntmps81;go_wp2_with fail
   refine(H1.out _ _ (by simp) rfl).mono ?_;rintro e w5 ⟨hc,rfl⟩;exact⟨rfl,(B9 C2.out hc).mono (λ_ _ x=>x.elim),by rw[e5.out];rfl⟩
 · have e6:=A0 (EB.out.2 rfl);clear EB;go_enter func81,ntmps81;go_wp2_with fail
   refine(H1.out _ _ (by simp) rfl).mono ?_;rintro e w5 ⟨hc,rfl⟩;have C5:=A0 (B9 C2.out hc);have p1':=A8 C5.out p1;have p2':=A8 C5.out p2;have b5:=D6 (B9 (Chg.alloc No _ (.cells #[iV (p:Int)] 3)) hc) NB.out;have n5':w5.cell? (aD w.heap.size 5)=some (.string ⟨tx.toArray⟩):=cr b5 rfl;have hpw:=blt p1';have hnw:=blt n5';simp only at hpw hnw;clear hc b5;go_wp2_with fail
   go_ret;exact⟨C5.out.mono (λ_ _ x=>x.elim),by rw[e6.out];exact⟨H0.out.still C5.out,c.T.length,rfl,by omega,by simpa using HP1.out⟩⟩
end
theorem H2c{T:List M.Ty}{i:Nat}(hT:M.TsOk T)(hi:i<T.length):M.sz (M.tr T i)=1+M.szL (T[i].list.map λx=>M.tr T x.toNat)+M.szL (T[i].fields.map λp=>M.tr T p.2.toNat)+(if T[i].kind=8\/T[i].kind=9 then M.sz (M.tr T T[i].of'.toNat) else 0):=by
 rw[M.R9 hT hi,M.sz,M.C6a,M.C6a];split
 · simp only[M.szL];omega
 · simp only[M.szL];omega
theorem G6b{α:Type}(f:α->M.Tr)(l:List α){j:Nat}(hj:j<l.length):M.szL ((l.take (j+1)).map f)=M.szL ((l.take j).map f)+M.sz (f l[j]):=by
 rw[nQ hj,List.map_append,M.C6a,List.map_singleton,M.szL,M.szL];omega
theorem O2a{α:Type}(f:α->M.Tr)(l:List α)(j:Nat):M.szL ((l.take j).map f)<=M.szL (l.map f):=by
 have:=congrArg (λl=>M.szL (l.map f)) (List.take_append_drop j l);simp only[List.map_append,M.C6a]at this;omega
theorem I1c{lb mb N:Nat}{T:List M.Ty}{D:Dt}:∀(i:Nat) (w:World),i<T.length->Shp w lb mb N T D->M.sz (M.tr T i)<=1000000->
 Calls prog 44 #[pV lb,iV (i:Int)] w λe w'=>e= .returned (iV (M.sz (M.tr T i):Int))/\Chg No w w':=by
 intro i;induction i using Nat.strongRecOn with
 |ind i ih=>
  intro w hi h hsz;have hT:=h.ok;have hfew:=h.few;obtain⟨ad,c,c0,c1,hlt,fz,hcell⟩:=h.cell;obtain⟨g,fa,fc,la,lc,rfl,hg,hc1,hc2,x0,x1,x2,x3,of1,ol1⟩:=hcell i hi;have HL:=A0 (hT i hi).lst;have HF:=A0 (hT i hi).fld;have HO:=A0 (λhx=>(hT i hi).of hx);have HS:=A0 h;have HE:=A0 (H2c hT hi);have hall:=H2c hT hi;have hL1:M.szL (T[i].list.map λx=>M.tr T x.toNat)<=1000000:=by omega
  have hF1:M.szL (T[i].fields.map λp=>M.tr T p.2.toNat)<=1000000:=by omega
  have hO1:(T[i].kind=8\/T[i].kind=9)->M.sz (M.tr T T[i].of'.toNat)<=1000000:=λhk=>by rw[if_pos hk]at hall;omega
  clear hcell h hall;unfold maxLen at hc2;generalize M.sz (M.tr T i)=S at *;generalize T[i].kind=k at *;generalize T[i].of'=o at *;generalize hls:T[i].list=ls at *;generalize hfs:T[i].fields=fs at *;have hw0:Hid (∀j (hj:j<ls.length),∃g2,la=some (aD g2 0)/\g2<w.heap.size/\ls.length<=lc/\lc<=maxLen/\w.cell? (aD g2 j)=some (iV ls[j])):=by
   intro j hj;obtain⟨g2,h1,_,h2,h3,h4,h5⟩:=D8 ol1 (by omega);exact⟨g2,h1,h2,h3,h4,h5 j _ (by simp[B8,hj])⟩
  have hw1:=A0 (λ(j:Nat) (hj:j<fs.length)=>T6 of1 hj);clear ol1 of1;go_enter func44,ntmps44;go_wp2;go_loopw [21,5] (λv u wr=>∃j:Nat,j<=ls.length/\v=iV (j:Int)/\u=iV ((1+M.szL ((ls.take j).map λx=>M.tr T x.toNat):Nat):Int)/\Hid (Chg No (w.alloc (.cells #[iV k,.slice fa fs.length fc,.slice la ls.length lc,iV o] 66)) wr)) (λv _ _=>ls.length - (intOf v).toNat)
  case atStart=>exact⟨0,wQ _,rfl,by simp[M.szL],Chg.refl _ _⟩
  case round=>
   obtain⟨j,hj,rfl,rfl,KR⟩:=hrel;have KW:=A0 ((Chg.alloc No w (.cells #[iV k,.slice fa fs.length fc,.slice la ls.length lc,iV o] 66)).trans KR.out (λ_ _ x=>x));by_cases hjl:j<ls.length
   · obtain⟨g2,rfl,hg2,hl1,hl2,y0⟩:=hw0.out j hjl;have y1:wr.cell? (aD g2 j)=some (iV ls[j]):=by rw[World.cell?_of_block (KW.out.block g2 hg2 (λx=>x))];exact y0
     have hg3:g2<wr.heap.size:=yQ hg2 KW.out.size;have hx:=HL.out ls[j] (mQ hjl);obtain⟨z,hz⟩:∃z:Nat,ls[j]=(z:Int):=⟨ls[j].toNat,by omega⟩;have HT:Hid (M.szL ((ls.take (j+1)).map λx=>M.tr T x.toNat)=M.szL ((ls.take j).map λx=>M.tr T x.toNat)+M.sz (M.tr T z)):=by
      show _=_;rw[G6b _ ls hjl,hz];simp
     have hle:=O2a (λx:Int=>M.tr T x.toNat) ls (j+1);rw[HT.out]at hle;rw[hz]at y1 hx;have HC:=ih z (by omega) wr (by omega) (HS.out.still KW.out) (by omega);unfold maxLen at hl2;clear y0 hz hx;generalize M.szL ((ls.take j).map λx=>M.tr T x.toNat)=t1 at *;generalize M.sz (M.tr T z)=t2 at *;go_wp2_with fail
     refine HC.mono ?_;clear HC;rintro e w2 ⟨rfl,hc⟩;go_wp2;go_roundw
     case rel=>exact⟨j+1,by omega,by go_num,by rw[HT.out];go_num,KR.out.trans hc (λ_ _ x=>x)⟩
     case measure=>simp[intOf];omega
   · have hje:j=ls.length:=by omega
     subst hje;rw[List.take_length]at *;have hb0:wr.heap[w.heap.size]? =some (.cells #[iV k,.slice fa fs.length fc,.slice la ls.length lc,iV o] 66 (0,0)):=by
      rw[KR.out.block w.heap.size (by simp) (λx=>x)];exact heap_alloc_new w _
     have b0:wr.cell? (aD w.heap.size 0)=some (iV k):=cr hb0 rfl;have b1:wr.cell? (aD w.heap.size 1)=some (.slice fa fs.length fc):=cr hb0 rfl;have HB0:=A0 hb0;have hbl:=(ltG hb0);clear hb0;generalize hs1:M.szL (ls.map λx=>M.tr T x.toNat)=s1 at *;clear hs1;go_wp2;go_loopw [34,5] (λv u wr2=>∃j:Nat,j<=fs.length/\v=iV (j:Int)/\u=iV ((1+s1+M.szL ((fs.take j).map λp=>M.tr T p.2.toNat):Nat):Int)/\Hid (Chg No wr wr2)) (λv _ _=>fs.length - (intOf v).toNat)
     case atStart=>exact⟨0,wQ _,rfl,by simp[M.szL],Chg.refl _ _⟩
     case round=>
      obtain⟨j,hj,rfl,rfl,KR2⟩:=hrel;have KW2:=A0 (KW.out.trans KR2.out (λ_ _ x=>x));by_cases hjl:j<fs.length
      · obtain⟨g2,rfl,hg2,hl1,hl2,y0,y1⟩:=hw1.out j hjl;replace y0:wr.cell? (aD g2 (j * 2))=some (.string ⟨fs[j].1.toArray⟩):=by rw[World.cell?_of_block (KW2.out.block g2 hg2 (λx=>x))];exact y0
        replace y1:wr.cell? (aD g2 (j * 2+1))=some (iV fs[j].2):=by rw[World.cell?_of_block (KW2.out.block g2 hg2 (λx=>x))];exact y1
        have hg3:g2<wr.heap.size:=yQ hg2 KW2.out.size;have hx:=HF.out fs[j] (mQ hjl);obtain⟨z,hz⟩:∃z:Nat,fs[j].2=(z:Int):=⟨fs[j].2.toNat,by omega⟩;have HT:Hid (M.szL ((fs.take (j+1)).map λp=>M.tr T p.2.toNat)=M.szL ((fs.take j).map λp=>M.tr T p.2.toNat)+M.sz (M.tr T z)):=by
         show _=_;rw[G6b _ fs hjl,hz];simp
        have hle:=O2a (λp:List UInt8×Int=>M.tr T p.2.toNat) fs (j+1);rw[HT.out]at hle;rw[hz]at y1 hx;have hcf:Chg No wr (wr.alloc (.cells #[.string ⟨fs[j].1.toArray⟩,iV (z:Int)] 121)):=Chg.alloc _ _ _;have HC:=ih z (by omega) _ (by omega) (HS.out.still (KW2.out.trans hcf (λ_ _ x=>x))) (by omega);have KF:=A0 (KR2.out.trans hcf (λ_ _ x=>x));unfold maxLen at hl2;clear hz hx hcf;generalize hnm:(⟨fs[j].1.toArray⟩:ByteArray)=nm at *;clear hnm;generalize M.szL ((fs.take j).map λp=>M.tr T p.2.toNat)=t1 at *;generalize M.sz (M.tr T z)=t2 at *;go_wp2_with fail
        refine HC.mono ?_;clear HC;rintro e w2 ⟨rfl,hc⟩;go_wp2;go_roundw
        case rel=>exact⟨j+1,by omega,by go_num,by rw[HT.out];go_num,KF.out.trans hc (λ_ _ x=>x)⟩
        case measure=>simp[intOf];omega
      · have hje:j=fs.length:=by omega
        subst hje;rw[List.take_length]at *;have hb0:wr.heap[w.heap.size]? =some (.cells #[iV k,.slice fa fs.length fc,.slice la ls.length lc,iV o] 66 (0,0)):=by
         rw[KR2.out.block w.heap.size hbl (λx=>x)];exact HB0.out
        have d0:wr.cell? (aD w.heap.size 0)=some (iV k):=cr hb0 rfl;have d3:wr.cell? (aD w.heap.size 3)=some (iV o):=cr hb0 rfl;clear hb0;generalize hs2:M.szL (fs.map λp=>M.tr T p.2.toNat)=s2 at *;clear hs2;by_cases hk:k=8\/k=9
        · have ho:=HO.out hk;have hso:=hO1 hk;obtain⟨z,rfl⟩:∃z:Nat,o=(z:Int):=⟨o.toNat,by omega⟩;have hE:=HE.out;rw[if_pos hk,tQ]at hE;rw[tQ]at hso;have HC:=A0 (ih z (by omega) wr (by omega) (HS.out.still KW2.out) hso);generalize M.sz (M.tr T z)=t3 at *;rcases hk with rfl|rfl
          · go_wp2_with fail
            refine HC.out.mono ?_;rintro e w2 ⟨rfl,hc⟩;have HK:=A0 (KW2.out.trans hc (λ_ _ x=>x));clear hc;go_wp2;go_ret;exact⟨J3 (by omega),HK.out⟩
          · go_wp2_with fail
            refine HC.out.mono ?_;rintro e w2 ⟨rfl,hc⟩;have HK:=A0 (KW2.out.trans hc (λ_ _ x=>x));clear hc;go_wp2;go_ret;exact⟨J3 (by omega),HK.out⟩
        · have hE:=HE.out;rw[if_neg hk]at hE;have k8:(k==8)=false:=by simp;omega
          have k9:(k==9)=false:=by simp;omega
          go_wp2;go_ret;exact⟨J3 (by omega),KW2.out⟩
end Go.Proofs.YtfhhipefecekkaaGreatDoor
