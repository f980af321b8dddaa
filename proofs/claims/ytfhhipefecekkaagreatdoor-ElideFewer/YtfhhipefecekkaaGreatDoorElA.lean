/-
  A part of the proof.
-/
import Derived.Laws.Entries
import Derived.Test.YtfhhipefecekkaaGreatDoorShm
import Derived.Maps.OwnSet
import Derived.MapFrom
import Derived.Test.YtfhhipefecekkaaGreatDoorCheckH
set_option maxHeartbeats 16000000
set_option maxRecDepth 100000
namespace Go.Proofs.YtfhhipefecekkaaGreatDoor.M
structure Es where
 kn:Gm
 lf:List (Int×Int)
def tgs(kn:Gm)(x:Int):Int:=(kn x).getD 127
def learn(ct:List Int)(kn:Gm)(x v:Int):Gm:=if x∈ct then kn else O0c kn x v
def C4c(kn:Gm)(x:Int):Gm:=λu=>if u=x then none else kn u
def nmx(c:Cx)(i:Int):Int:=c.ts.getD i.toNat 0
def gnm(c:Cx)(i:Nat):Int:=if (ndx c.N i).kind=16 then i else if (ndx c.N i).kind=5 then nmx c i else -1
def sgn(s:List UInt8):Int:=
 if s=[61,61]\/s=[60]\/s=[33] then 2 else if s=[45]\/s=[42] then 1 else if s=[116,121,112,101,111,102] then 4 else 0
def I2b(n:Nd):Int:=
 if n.kind=1 then 1 else if n.kind=2 then 4 else if n.kind=3 then 2 else if n.kind=4 then 8 else if n.kind=6 then 64
 else if n.kind=10 then 16 else if n.kind=11 then 32 else if n.kind=12\/n.kind=13 then sgn n.text else 0
def J7a(c:Cx)(g kn:Gm)(i:Int):Int:=
 if (ndx c.N i).kind=5 then tgs kn (nmx c i) else if I2b (ndx c.N i)≠0 then I2b (ndx c.N i) else (g i).getD 127
def grd(c:Cx)(g:Gm)(ct:List Int)(i:Nat)(s:Es):Es:=
 match g i with
 |none=>s
 |some t=>⟨if gnm c i= -1 then s.kn else learn ct s.kn (gnm c i) (bits .and .i64 (tgs s.kn (gnm c i)) t),
  if (ndx c.N i).kind≠5\/bits .andNot .i64 (tgs s.kn (gnm c i)) t≠0 then s.lf++[((i:Int),t)] else s.lf⟩
def fgN(c:Cx):Nat->Int->Gm->Gm
 |0,_,kn=>kn
 |f+1,i,kn=>
  if (ndx c.N i).kind=6 then kn
  else (prt (ndx c.N i)).foldl (λk x=>fgN c f x k) (if (ndx c.N i).kind=18 then C4c kn (nmx c i) else kn)
def fgL(c:Cx)(f:Nat)(l:List Int)(kn:Gm):Gm:=l.foldl (λk x=>fgN c f x k) kn
def eend(c:Cx)(g:Gm)(ct:List Int)(i:Nat)(s:Es):Es:=
 if (ndx c.N i).kind=17 then ⟨learn ct s.kn i (J7a c g s.kn (ndx c.N i).a),s.lf⟩
 else if (ndx c.N i).kind=18 then ⟨learn ct s.kn (nmx c i) (J7a c g s.kn (ndx c.N i).a),s.lf⟩
 else grd c g ct i s
def elN(c:Cx)(g:Gm)(ct:List Int):Nat->Int->Es->Es
 |0,_,s=>s
 |f+1,i,s=>eend c g ct i.toNat (
  if (ndx c.N i).kind=6 then ⟨s.kn,((prt (ndx c.N i)).foldl (λs x=>elN c g ct f x s) ⟨λ_=>none,s.lf⟩).lf⟩
  else if (ndx c.N i).kind=22 then
   ⟨fgL c f (prt (ndx c.N i)).tail (elN c g ct f (ndx c.N i).a s).kn,
    (prt (ndx c.N i)).tail.foldl (λl x=>(elN c g ct f x ⟨(elN c g ct f (ndx c.N i).a s).kn,l⟩).lf) (elN c g ct f (ndx c.N i).a s).lf⟩
  else if (ndx c.N i).kind=23 then
   ⟨fgL c f [(ndx c.N i).a,(ndx c.N i).b] s.kn,([(ndx c.N i).a,(ndx c.N i).b].foldl (λs x=>elN c g ct f x s) ⟨fgL c f [(ndx c.N i).a,(ndx c.N i).b] s.kn,s.lf⟩).lf⟩
  else (prt (ndx c.N i)).foldl (λs x=>elN c g ct f x s) s)
def elL(c:Cx)(g:Gm)(ct:List Int)(f:Nat)(l:List Int)(s:Es):Es:=l.foldl (λs x=>elN c g ct f x s) s
def elB(c:Cx)(g:Gm)(ct:List Int)(f:Nat)(kn:Gm)(l:List Int)(lf:List (Int×Int)):List (Int×Int):=l.foldl (λl x=>(elN c g ct f x ⟨kn,l⟩).lf) lf
def vis(c:Cx):Nat->Int->Nat
 |0,_=>0
 |f+1,i=>2+((prt (ndx c.N i)).map (vis c f)).sum
def M9(c:Cx)(f:Nat)(l:List Int):Nat:=(l.map (vis c f)).sum
def el1(c:Cx)(g:Gm)(ct:List Int)(f:Nat)(s:Es)(nd:Nd):Es:=
 if nd.kind=6 then ⟨s.kn,(elL c g ct f (prt nd) ⟨λ_=>none,s.lf⟩).lf⟩
 else if nd.kind=22 then ⟨fgL c f (prt nd).tail (elN c g ct f nd.a s).kn,elB c g ct f (elN c g ct f nd.a s).kn (prt nd).tail (elN c g ct f nd.a s).lf⟩
 else if nd.kind=23 then ⟨fgL c f [nd.a,nd.b] s.kn,(elL c g ct f [nd.a,nd.b] ⟨fgL c f [nd.a,nd.b] s.kn,s.lf⟩).lf⟩
 else elL c g ct f (prt nd) s
theorem R1c(c:Cx)(g:Gm)(ct:List Int)(f i:Nat)(s:Es)(nd:Nd)(hi:ndx c.N i=nd):elN c g ct (f+1) i s=eend c g ct i (el1 c g ct f s nd):=by
 subst hi;rw[elN];rfl
def Tgd(g:Gm):Prop:=∀x v,g x=some v->0<=v/\v<128
theorem Tgd.tgs{g:Gm}(h:Tgd g)(x:Int):0<=tgs g x/\tgs g x<128:=by
 unfold M.tgs;cases e:g x with
 |none=>simp
 |some v=>exact h x v e
theorem Tgd.set{g:Gm}(h:Tgd g)(x:Int){v:Int}(hv:0<=v/\v<128):Tgd (O0c g x v):=by
 intro y u e;unfold O0c at e;split at e
 · simp only[zQ]at e;omega
 · exact h y u e
theorem Tgd.learn{g:Gm}(h:Tgd g)(ct:List Int)(x:Int){v:Int}(hv:0<=v/\v<128):Tgd (learn ct g x v):=by
 unfold M.learn;split
 · exact h
 · exact h.set x hv
theorem Tgd.del{g:Gm}(h:Tgd g)(x:Int):Tgd (C4c g x):=by
 intro y u e;unfold C4c at e;split at e
 · simp at e
 · exact h y u e
theorem Tgd.no:Tgd λ_=>none:=λ_ _ e=>by simp at e
theorem Tgd.fg{c:Cx}:∀(f:Nat) (i:Int) {kn:Gm},Tgd kn->Tgd (fgN c f i kn)
 |0,_,kn,h=>h
 |f+1,i,kn,h=>by
  rw[fgN];split
  · exact h
  · have h1:Tgd (if (ndx c.N i).kind=18 then C4c kn (nmx c i) else kn):=by
     split
     · exact h.del _
     · exact h
    generalize (if (ndx c.N i).kind=18 then C4c kn (nmx c i) else kn)=k at *;clear h;generalize prt (ndx c.N i)=l;induction l generalizing k with
    |nil=>exact h1
    |cons x r ih=>exact ih _ (Tgd.fg f x h1)
theorem Tgd.fgl{c:Cx}(f:Nat):∀(l:List Int) {kn:Gm},Tgd kn->Tgd (fgL c f l kn)
 |[],_,h=>h
 |x::r,_,h=>Tgd.fgl f r (Tgd.fg f x h)
theorem M2b(a b:Int)(ha:0<=a/\a<128)(hb:0<=b/\b<128):0<=bits BinOp.and IntKind.i64 a b/\bits BinOp.and IntKind.i64 a b<128:=by
 obtain⟨a,rfl⟩:=Int.eq_ofNat_of_zero_le ha.1;obtain⟨b,rfl⟩:=Int.eq_ofNat_of_zero_le hb.1;have h:a &&& b<=a:=Nat.and_le_left;have e:(BitVec.ofNat IntKind.i64.bits a &&& BitVec.ofNat IntKind.i64.bits b).toNat=a &&& b:=by
  rw[BitVec.toNat_and,BitVec.toNat_ofNat,BitVec.toNat_ofNat,Nat.mod_eq_of_lt (by simp[IntKind.bits];omega),Nat.mod_eq_of_lt (by simp[IntKind.bits];omega)]
 have e2:bits BinOp.and IntKind.i64 (a:Int) (b:Int)=((a &&& b:Nat):Int):=by
  simp only[bits,BitVec.ofInt_natCast,e];simp[IntKind.wrap,IntKind.bits,IntKind.signed];omega
 rw[e2];omega
theorem W2c(n:Nd):0<=I2b n/\I2b n<128:=by
 unfold I2b sgn;repeat' split
 all_goals decide
theorem B5b(c:Cx){g kn:Gm}(hg:Tgd g)(hk:Tgd kn)(i:Int):0<=J7a c g kn i/\J7a c g kn i<128:=by
 unfold J7a;split
 · exact hk.tgs _
 split
 · exact W2c _
 · exact hg.tgs i
theorem Tgd.grd{c:Cx}{g:Gm}{ct:List Int}{i:Nat}{s:Es}(hg:Tgd g)(h:Tgd s.kn):Tgd (grd c g ct i s).kn:=by
 unfold M.grd;cases e:g i with
 |none=>exact h
 |some t=>
  simp only;split
  · exact h
  · exact h.learn _ _ (M2b _ _ (h.tgs _) (hg _ _ e))
theorem Tgd.eend{c:Cx}{g:Gm}{ct:List Int}{i:Nat}{s:Es}(hg:Tgd g)(h:Tgd s.kn):Tgd (eend c g ct i s).kn:=by
 unfold M.eend;split
 · exact h.learn _ _ (B5b c hg h _)
 split
 · exact h.learn _ _ (B5b c hg h _)
 · exact hg.grd h
theorem Tgd.el{c:Cx}{g:Gm}{ct:List Int}(hg:Tgd g):∀(f:Nat) (i:Int) {s:Es},Tgd s.kn->Tgd (elN c g ct f i s).kn
 |0,_,s,h=>h
 |f+1,i,s,h=>by
  have key:∀(l:List Int) (s:Es),Tgd s.kn->Tgd (l.foldl (λs x=>elN c g ct f x s) s).kn:=λl=>by
   induction l with
   |nil=>exact λs h=>h
   |cons x r ih=>exact λs h=>ih _ (Tgd.el hg f x h)
  rw[elN];refine Tgd.eend hg ?_;split
  · exact h
  split
  · exact Tgd.fgl f _ (Tgd.el hg f _ h)
  split
  · exact Tgd.fgl f _ h
  · exact key _ _ h
theorem Tgd.ell{c:Cx}{g:Gm}{ct:List Int}(hg:Tgd g)(f:Nat):∀(l:List Int) {s:Es},Tgd s.kn->Tgd (elL c g ct f l s).kn
 |[],_,h=>h
 |x::r,_,h=>Tgd.ell hg f r (Tgd.el hg f x h)
end Go.Proofs.YtfhhipefecekkaaGreatDoor.M
namespace Go.Proofs.YtfhhipefecekkaaGreatDoor
open Go.Proofs.Tryz
open Go.RowKit Go.Maps Go.WideElems Go.ChangeMaps
theorem V3a{w w':World}{q:Nat}(h:w.mapTurned w' q):Chg (λk=>k=q) w w':=by
 obtain⟨es,cl,es',cl',hb,rfl⟩:=h;refine⟨rfl,rfl,rfl,by simp[setBlock],λk hk hn=> ?_⟩;have hn':q≠k:=λe=>hn e.symm;simp[setBlock,hn']
theorem ImM.del{w:World}{q m:Nat}{f:Int->Option Int}(h:ImM w q m f)(s:Int)(hs:0<=s/\s<=1000000):
 ∃w',(∀ty,(Builtin.delete_ #[35,3] ty #[.map (some q),iV s]).run prog w= .ok (.tuple #[]) w')/\ImM w' q m (λu=>if u=s then none else f u)/\Chg (λk=>k=q) w w':=by
 obtain⟨n,D,ho,hn,hmap,hat⟩:=h.own;obtain⟨w',hrun,ho',hg⟩:=ho.drop X0b underlying35 (K7a s hs) 0;refine⟨w',λty=>hrun,⟨n,_,ho',hn,hmap.del _,λu d=> ?_⟩,V3a hg⟩;by_cases hu:u=s
 · subst hu;rw[atKey_del_same];simp
 · rw[atKey_del_other (by simpa using hu),hat u];simp[hu]
theorem ImM.clear{w:World}{q m:Nat}{f:Int->Option Int}(h:ImM w q m f):
 ∃w',(∀ty,(Builtin.clear_ #[35] ty #[.map (some q)]).run prog w= .ok (.tuple #[]) w')/\ImM w' q m (λ_=>none)/\Chg (λk=>k=q) w w':=by
 obtain⟨n,D,⟨es,cl,hb,F,hs,rfl⟩,hn,hmap,hat⟩:=h.own;have hF:WideElems.Fit prog 3 (plainElem (H:=Unit) prog 3) #[] cl:=⟨by simp,⟨by simp,by simp,by simp⟩,by simp⟩;refine⟨setBlock w q (.map #[] cl),λty=> ?_,⟨0,.map [],⟨#[],cl,heap_setBlock_same hb _,hF,vQ _,rfl⟩,wQ _,isMap_empty,λu d=>rfl⟩,V3a ⟨es,cl,_,_,hb,rfl⟩⟩;simp[Builtin.clear_,run_underlying underlying35,MapKept.run_getObj_map hb,MapKept.run_setObj_map _ hb,Result.andThen,setBlock]
theorem ImM.clone{w:World}{q m:Nat}{f:Int->Option Int}(h:ImM w q m f):
 Calls prog 89 #[.map (some q)] w λe w'=>e= .returned (.map (some w.heap.size))/\ImM w' w.heap.size m f/\Chg No w w'/\w.heap.size<w'.heap.size:=by
 obtain⟨n,D,ho,r⟩:=h.own;refine(AnyW.maps_Clone_owns Tryz.mapsClone 3 (plainElem (H:=Unit) prog 3) q n D w ho).mono ?_;rintro e w' ⟨rfl,h1,_,hb⟩;exact⟨rfl,⟨n,D,h1,r⟩,(Chg.below hb).mono λ_ hi x=>by omega,h1.lt⟩
structure Pgm(w:World)(c:M.Cx)(pb qb:Nat)(nv cv:Value)(ct:List Int):Prop where
 ok:M.D8a c
 nodes:Nrow w nv c.N
 names:ImM w qb 5000 (nmM c)
 blk:∃yv mn lb fv ov,w.heap[pb]? =some (.cells (pcs c nv yv mn lb qb fv ov) 46 (0,0))
 ctr:w.ownsRow 0 3 1 cv ct.length (B8 ct)
 few:ct.length<=1000000
def Ekp(B kb:Nat)(w w':World):Prop:=Chg (λk=>B<=k/\(k=kb\/∃cs e fz,w.heap[k]? =some (.cells cs e fz)/\(e=52\/e=30))) w w'
theorem Ekp.still{B kb:Nat}{w w':World}(h:Chg No w w'):Ekp B kb w w':=h.mono λ_ _ x=>x.elim
theorem Ekp.trans{B kb kb':Nat}{a b c:World}(h:Ekp B kb a b)(k:Ekp B kb' b c)(hk:kb'=kb\/a.heap.size<=kb'):Ekp B kb a c:=by
 refine⟨k.os.trans h.os,k.tape.trans h.tape,k.output.trans h.output,kQ h.size k.size,λi hi hn=> ?_⟩;have h1:=h.block i hi hn;refine(k.block i (yQ hi h.size) (λx=>hn ⟨x.1, ?_⟩)).trans h1;rcases x.2 with rfl|⟨cs,e,fz,hh,he⟩
 · rcases hk with rfl|hk
   · exact .inl rfl
   · omega
 · exact .inr ⟨cs,e,fz,by rw[<-h1];exact hh,he⟩
theorem Ekp.one{B kb q:Nat}{w w':World}(h:Chg (λk=>k=q) w w')(hB:B<=q)(hq:q=kb\/∃cs e fz,w.heap[q]? =some (.cells cs e fz)/\(e=52\/e=30)):Ekp B kb w w':=h.mono λk _ x=>by
 have x':k=q:=x;subst x';exact⟨hB,hq⟩
theorem Ekp.cells{B kb:Nat}{w w':World}(h:Ekp B kb w w')(hk:∀cs e fz,w.heap[kb]? ≠some (.cells cs e fz)){q:Nat}{cs:Array Value}{e:TypeId}{fz:Nat×Nat}(hq:w.heap[q]? =some (.cells cs e fz))(h1:e≠52)(h2:e≠30):w'.heap[q]? =some (.cells cs e fz):=by
 rw[h.block q (ltG hq) (λx=> ?_)]
 · exact hq
 rcases x.2 with rfl|⟨cs',e',fz',hh,he⟩
 · exact hk _ _ _ hq
 · rw[hq]at hh;simp only[zQ,xW]at hh;rcases he with rfl|rfl
   · exact h1 hh.2.1
   · exact h2 hh.2.1
theorem Ekp.imm{B kb:Nat}{w w':World}(h:Ekp B kb w w'){q m:Nat}{f:Int->Option Int}(hq:ImM w q m f)(hn:q≠kb):ImM w' q m f:=
 hq.chg h λx=>by
  rcases x.2 with x|⟨cs,e,fz,hh,_⟩
  · exact hn x
  · exact hq.notcells hh
theorem Ekp.below{B kb:Nat}{w w' w0:World}(h:Ekp B kb w w')(hb:Chg No w0 w)(hB:w0.heap.size<=B):Chg No w0 w':=
 hb.trans h λi hi x=>by omega
theorem Ekp.row{B kb:Nat}{w w':World}(h:Ekp B kb w w')(hk:∀cs e fz,w.heap[kb]? ≠some (.cells cs e fz)){base:Nat}{size:Nat}{v:Value}{n:Nat}{xs:List Value}(hr:w.ownsRow base 3 size v n xs):w'.ownsRow base 3 size v n xs:=
 A3 hr h λg hg x=>by
  obtain⟨_,cur,hh⟩:=A9 hr g hg;rcases x.2 with rfl|⟨cs,e,fz,h2,he⟩
  · exact hk _ _ _ hh
  · rw[hh]at h2;simp only[zQ,xW]at h2;rcases he with rfl|rfl<;>simp at h2
structure Flw(wB w:World)(pb:Nat)(cv:Value)(fb gb kb:Nat)(g:M.Gm)(m:Nat)(s:M.Es):Prop where
 chg:Chg No wB w
 blk:∃lv,w.heap[fb]? =some (.cells #[pV pb,.map (some gb),cv,.map (some kb),lv] 52 (0,0))/\w.ownsRow wB.heap.size 30 2 lv s.lf.length (J5 s.lf)
 gs:ImM w gb 5000 g
 ks:ImM w kb m s.kn
 lo:wB.heap.size<=fb/\wB.heap.size<=gb/\wB.heap.size<=kb
 ne:gb≠kb
 few:s.lf.length<=m
 tg:M.Tgd s.kn
 gt:M.Tgd g
section
variable{wB w w':World}{c:M.Cx}{pb qb fb gb kb m:Nat}{nv cv:Value}{ct:List Int}{g:M.Gm}{s:M.Es}
theorem Pgm.still(h:Pgm w c pb qb nv cv ct)(hc:Chg No w w'):Pgm w' c pb qb nv cv ct:=by
 obtain⟨yv,mn,lb,fv,ov,hb⟩:=h.blk;exact⟨h.ok,h.nodes.keep hc (λ_ _ _ _ _ _ x=>x),h.names.chg hc (λx=>x),⟨yv,mn,lb,fv,ov,D6 hc hb⟩,A3 h.ctr hc (λ_ _ x=>x),h.few⟩
theorem Pgm.cell(h:Pgm w c pb qb nv cv ct):pb<w.heap.size/\w.cell? (aD pb 0)=some nv/\w.cell? (aD pb 4)=some (.map (some qb)):=by
 obtain⟨yv,mn,lb,fv,ov,hb⟩:=h.blk;exact⟨(ltG hb),cr hb rfl,cr hb rfl⟩
theorem Flw.pgm(h:Flw wB w pb cv fb gb kb g m s)(hP:Pgm wB c pb qb nv cv ct):Pgm w c pb qb nv cv ct:=hP.still h.chg
theorem Flw.still(h:Flw wB w pb cv fb gb kb g m s)(hc:Chg No w w'):Flw wB w' pb cv fb gb kb g m s:=by
 obtain⟨lv,hb,ho⟩:=h.blk;exact⟨B9 h.chg hc,⟨lv,D6 hc hb,A3 ho hc (λ_ _ x=>x)⟩,h.gs.chg hc (λx=>x),h.ks.chg hc (λx=>x),h.lo,h.ne,h.few,h.tg,h.gt⟩
theorem Flw.more{m':Nat}(h:Flw wB w pb cv fb gb kb g m s)(hm:m<=m'):Flw wB w pb cv fb gb kb g m' s:=
 ⟨h.chg,h.blk,h.gs,h.ks.more hm,h.lo,h.ne,kQ h.few hm,h.tg,h.gt⟩
theorem Flw.nc(h:Flw wB w pb cv fb gb kb g m s):∀cs e fz,w.heap[kb]? ≠some (.cells cs e fz):=λ_ _ _=>h.ks.notcells
theorem Flw.cell(h:Flw wB w pb cv fb gb kb g m s):fb<w.heap.size/\(∀o,w.frozen? (aD fb o)=false)/\w.cell? (aD fb 0)=some (pV pb)/\w.cell? (aD fb 1)=some (.map (some gb))/\w.cell? (aD fb 2)=some cv/\w.cell? (aD fb 3)=some (.map (some kb))/\
 ∃la lc,w.cell? (aD fb 4)=some (.slice la s.lf.length lc)/\w.heap[fb]? =some (.cells #[pV pb,.map (some gb),cv,.map (some kb),.slice la s.lf.length lc] 52 (0,0))/\w.ownsRow wB.heap.size 30 2 (.slice la s.lf.length lc) s.lf.length (J5 s.lf):=by
 obtain⟨lv,hb,ho⟩:=h.blk;obtain⟨la,lc,rfl⟩:=B7 ho;exact⟨(ltG hb),λo=>frozen_of_row w fb o _ _ hb,cr hb rfl,cr hb rfl,cr hb rfl,cr hb rfl,la,lc,cr hb rfl,hb,ho⟩
theorem Flw.put{m':Nat}{kn:M.Gm}(h:Flw wB w pb cv fb gb kb g m s)(hc:Chg (λk=>k=kb) w w')(hi:ImM w' kb m' kn)(hm:m<=m')(ht:M.Tgd kn):Flw wB w' pb cv fb gb kb g m' ⟨kn,s.lf⟩/\Ekp wB.heap.size kb w w':=by
 obtain⟨lv,hb,ho⟩:=h.blk;have he:Ekp wB.heap.size kb w w':= .one hc h.lo.2.2 (.inl rfl);refine⟨⟨he.below h.chg (vQ _),⟨lv, ?_,A3 ho hc (λq hq x=> ?_)⟩,he.imm h.gs h.ne,hi,h.lo,h.ne,kQ h.few hm,ht,h.gt⟩,he⟩
 · rw[hc.block fb (ltG hb) (λx=> ?_)]
   · exact hb
   · have x':fb=kb:=x;subst x';exact h.nc _ _ _ hb
 · have x':q=kb:=x;subst x';obtain⟨_,cur,hh⟩:=A9 ho q hq;exact h.nc _ _ _ hh
theorem Flw.turn{kb' m':Nat}{kn:M.Gm}(h:Flw wB w pb cv fb gb kb g m s)(hi:ImM w kb' m' kn)(hlo:wB.heap.size<=kb')(hne:gb≠kb')(hm:s.lf.length<=m')(ht:M.Tgd kn):
 Flw wB (w.setCell (aD fb 3) (.map (some kb'))) pb cv fb gb kb' g m' ⟨kn,s.lf⟩/\Chg (λk=>k=fb) w (w.setCell (aD fb 3) (.map (some kb'))):=by
 obtain⟨lv,hb,ho⟩:=h.blk;have hc:Chg (λk=>k=fb) w (w.setCell (aD fb 3) (.map (some kb'))):=Chg.set w (aD fb 3) _;refine⟨⟨h.chg.trans hc (λk hk x=>by have:=h.lo.1;have x':k=fb:=x;omega),⟨lv, ?_,A3 ho hc (λq hq x=> ?_)⟩,h.gs.chg hc (λx=> ?_),hi.chg hc (λx=> ?_),⟨h.lo.1,h.lo.2.1,hlo⟩,hne,hm,ht,h.gt⟩,hc⟩
 · rw[heap_setCell_same w fb 3 _ _ _ hb];rfl
 · have x':q=fb:=x;subst x';exact G8 ho hb (by decide) hq
 · have x':gb=fb:=x;subst x';exact h.gs.notcells hb
 · have x':kb'=fb:=x;subst x';exact hi.notcells hb
theorem Flw.left{la:Option Addr}{lc:Nat}{w2:World}{lv':Value}{p:Int×Int}{m':Nat}(h:Flw wB w pb cv fb gb kb g m s)(hb:w.heap[fb]? =some (.cells #[pV pb,.map (some gb),cv,.map (some kb),.slice la s.lf.length lc] 52 (0,0)))(ho:w.ownsRow wB.heap.size 30 2 (.slice la s.lf.length lc) s.lf.length (J5 s.lf))
 (hc:Chg (λk=>(Value.slice la s.lf.length lc).ownBlock=some k) w w2) (ho2:w2.ownsRow wB.heap.size 30 2 lv' (s.lf.length+1) (J5 s.lf++[iV p.1,iV p.2])) (hm:m+1<=m'):
 Flw wB (w2.setCell (aD fb 4) lv') pb cv fb gb kb g m' ⟨s.kn,s.lf++[p]⟩/\Ekp wB.heap.size kb w (w2.setCell (aD fb 4) lv'):=by
 have hfl:=(ltG hb);have h1:Ekp wB.heap.size kb w w2:=hc.mono λk _ x=>by
  obtain⟨hlo,cur,hh⟩:=A9 ho k x;exact⟨hlo,.inr ⟨_,_,_,hh,.inr rfl⟩⟩
 have b2:w2.heap[fb]? =some (.cells #[pV pb,.map (some gb),cv,.map (some kb),.slice la s.lf.length lc] 52 (0,0)):=by
  rw[hc.block fb hfl (λx=>G8 ho hb (by decide) x)];exact hb
 have hs:Chg (λk=>k=fb) w2 (w2.setCell (aD fb 4) lv'):=Chg.set w2 (aD fb 4) _;have h2:Ekp wB.heap.size kb w2 (w2.setCell (aD fb 4) lv'):= .one hs h.lo.1 (.inr ⟨_,_,_,b2,.inl rfl⟩);have h3:=h1.trans h2 (.inl rfl);have hk2:ImM w2 kb m s.kn:=h.ks.chg hc λx=>by
  obtain⟨_,cur,hh⟩:=A9 ho _ x;exact h.nc _ _ _ hh
 refine⟨⟨h3.below h.chg (vQ _),⟨lv', ?_, ?_⟩,h3.imm h.gs h.ne,(hk2.chg hs (λx=> ?_)).more (by omega),h.lo,h.ne, ?_,h.tg,h.gt⟩,h3⟩
 · rw[heap_setCell_same w2 fb 4 _ _ _ b2];rfl
 · rw[J2a,qQ,List.length_singleton];exact A3 ho2 hs (λq hq x=>by
    have x':q=fb:=x;subst x';exact G8 ho2 b2 (by decide) hq)
 · have x':kb=fb:=x;subst x';exact hk2.notcells b2
 · have:=h.few;simp only[qQ,List.length_singleton];omega
end
def EQ(wB:World)(pb:Nat)(cv:Value)(fb gb kb:Nat)(g:M.Gm)(m:Nat)(s:M.Es)(w:World)(e:Ending)(w':World):Prop:=
 e=rT/\Flw wB w' pb cv fb gb kb g m s/\Ekp wB.heap.size kb w w'
section
variable{wB w:World}{c:M.Cx}{pb qb fb gb kb m:Nat}{nv cv:Value}{ct:List Int}{g:M.Gm}{s:M.Es}
theorem G9c(h:Flw wB w pb cv fb gb kb g m s)(x:Int)(hx:0<=x/\x<=1000000):
 Calls prog 62 #[pV fb,iV x] w λe w'=>e= .returned (iV (M.tgs s.kn x))/\w'=w:=by
 obtain⟨hl,-,-,-,-,b3,-⟩:=h.cell;have hlk:=h.ks.look x hx;unfold M.tgs;clear h;cases hk:s.kn x with
 |none=>
  rw[hk]at hlk;simp only[Option.getD_none,Option.isSome_none]at hlk⊢;clear hk;go_enter func62,ntmps62;go_wp2;go_ret;exact⟨rfl,rfl⟩
 |some v=>
  rw[hk]at hlk;simp only[Option.getD_some,Option.isSome_some]at hlk⊢;clear hk;go_enter func62,ntmps62;go_wp2;go_ret;exact⟨rfl,rfl⟩
theorem T3b{w:World}{cv:Value}(ho:w.ownsRow 0 3 1 cv ct.length (B8 ct))(hf:ct.length<=1000000)(x:Int):
 Calls prog 61 #[cv,iV x] w λe w'=>e= .returned (.bool (ct.contains x))/\w'=w:=by
 obtain⟨a,n,rfl⟩:=B7 ho;by_cases h0:ct.length=0
 · have:ct=[]:=List.length_eq_zero_iff.1 h0;subst this;exact Tryz.slices_Contains_int_empty a n x w
 · obtain⟨q,rfl,_⟩:=D5 ho (j:=0) (by omega);have:=Tryz.slices_Contains_int q 0 ct.length n ct x w (vQ _) (by omega) (λj hj=>by
    obtain⟨q',e,_,_,_,hc⟩:=D5 ho hj;simp only[zQ,Addr.mk.injEq,and_true]at e;subst e;rw[Nat.zero_add,hc,lQ,gQ hj]
    rfl)
   rw[List.take_length]at this;exact this
theorem W9b(hP:Pgm wB c pb qb nv cv ct)(h:Flw wB w pb cv fb gb kb g m s)(hm:m<=10000000)(x v:Int)(hx:0<=x/\x<=1000000)(hv:0<=v/\v<128):
 Calls prog 30 #[pV fb,iV x,iV v] w (EQ wB pb cv fb gb kb g (m+1) ⟨M.learn ct s.kn x v,s.lf⟩ w):=by
 obtain⟨hl,-,-,-,b2,b3,-⟩:=h.cell;have HC:=A0 (T3b (h.pgm hP).ctr hP.few x);obtain⟨w2,hrun,him,hc2⟩:=h.ks.put x v hx (by omega) (by omega);have HP:=A0 (h.put hc2 him (Nat.le_succ m) (h.tg.set x hv));have HS:=A0 (h.more (Nat.le_succ m));have hct:ct.contains x=decide (x∈ct):=by simp[List.contains_eq_mem]
 rw[hct]at HC;unfold M.learn;clear h hP him hc2 hct;by_cases hin:x∈ct
 · rw[if_pos hin];simp only[hin,decide_true]at HC;clear hrun HP;go_enter func30,ntmps30;go_wp2_with fail
   refine HC.out.mono ?_;rintro e w1 ⟨rfl,rfl⟩;go_wp2_with fail
   go_end0;exact⟨rfl,HS.out,.still (Chg.refl _ _)⟩
 · rw[if_neg hin];simp only[hin,decide_false]at HC;clear HS;go_enter func30,ntmps30;go_wp2_with fail
   refine HC.out.mono ?_;rintro e w1 ⟨rfl,rfl⟩;go_wp2_with fail
   go_end0;exact⟨rfl,HP.out.1,HP.out.2⟩
theorem Pgm.nm(h:Pgm w c pb qb nv cv ct){i:Nat}(hi:i<c.N.length)(hk:c.N[i].kind=5\/c.N[i].kind=18):(0<=M.nmx c i/\M.nmx c i<=1000000)/\(Instr.lookup 35 (.map (some qb)) (iV (i:Int)) false).run prog w= .ok (iV (M.nmx c i)) w:=by
 have hlen:=h.ok.lenN;obtain⟨n,e,hn,_⟩:=h.ok.nms.tg i hi hk;have h1:=h.names.get (i:Int) (by omega);have e1:M.nmx c i=(n:Int):=by
  unfold M.nmx;rw[tQ];exact e
 have e2:nmM c (i:Int)=some (n:Int):=by
  unfold nmM;rw[tQ,e,if_pos ⟨by omega,by omega,by omega⟩]
 rw[e2]at h1;rw[e1];exact⟨by omega,h1⟩
theorem F8d(hP:Pgm wB c pb qb nv cv ct)(h:Flw wB w pb cv fb gb kb g m s)(i:Nat)(hi:i<c.N.length):
 Calls prog 64 #[pV fb,iV (i:Int)] w λe w'=>e= .returned (iV (M.gnm c i))/\w'=w:=by
 obtain⟨hl,-,b0,-,-,-,-⟩:=h.cell;obtain⟨hpl,p0,p4⟩:=(h.pgm hP).cell;obtain⟨ng,nc,la,lc,rfl,hg,hn1,hn2,⟨x0,-,-,-,-,-,-,-,-⟩,-,-⟩:=(h.pgm hP).nodes.at (Below.refl _ _) i hi;have hlen:=hP.ok.lenN;have HN:=(h.pgm hP).nm hi;unfold maxLen at hn2;unfold M.gnm;rw[M.D3 hi];clear h hP;generalize c.N[i].kind=kd at *;by_cases h16:kd=16
 · subst h16;rw[if_pos rfl];clear HN;go_enter func64,ntmps64;go_wp2;go_ret;exact⟨rfl,rfl⟩
 · have g16:(kd==16)=false:=by simpa using h16
   rw[if_neg h16];by_cases h5:kd=5
   · subst h5;rw[if_pos rfl];obtain⟨-,hlk⟩:=HN (.inl rfl);clear HN;generalize M.nmx c i=y at *;go_enter func64,ntmps64;go_wp2;go_ret;exact⟨rfl,rfl⟩
   · have g5:(kd==5)=false:=by simpa using h5
     rw[if_neg h5];clear HN;go_enter func64,ntmps64;go_wp2;go_ret;exact⟨rfl,rfl⟩
theorem D9d(w:World)(tx:List UInt8):Calls prog 91 #[.string ⟨tx.toArray⟩] w λe w'=>e= .returned (iV (M.sgn tx))/\w'=w:=by
 go_enter func91,ntmps91;by_cases e1:tx=[61,61]
 · subst e1;go_wp2;go_ret;exact⟨rfl,rfl⟩
 have k1:(tx==[61,61])=false:=by simpa using e1
 by_cases e2:tx=[60]
 · subst e2;go_wp2;go_ret;exact⟨rfl,rfl⟩
 have k2:(tx==[60])=false:=by simpa using e2
 by_cases e3:tx=[33]
 · subst e3;go_wp2;go_ret;exact⟨rfl,rfl⟩
 have k3:(tx==[33])=false:=by simpa using e3
 by_cases e4:tx=[45]
 · subst e4;go_wp2;go_ret;exact⟨rfl,rfl⟩
 have k4:(tx==[45])=false:=by simpa using e4
 by_cases e5:tx=[42]
 · subst e5;go_wp2;go_ret;exact⟨rfl,rfl⟩
 have k5:(tx==[42])=false:=by simpa using e5
 by_cases e6:tx=[116,121,112,101,111,102]
 · subst e6;go_wp2;go_ret;exact⟨rfl,rfl⟩
 have k6:(tx==[116,121,112,101,111,102])=false:=by simpa using e6
 have e:M.sgn tx=0:=by
  unfold M.sgn;simp[e1,e2,e3,e4,e5,e6]
 rw[e];clear e;go_wp2;go_ret;exact⟨rfl,rfl⟩
end
theorem L3d(w:World)(nd:M.Nd)(la:Option Addr)(lc:Nat):Calls prog 63 #[nvl nd la lc] w λe w'=>e= .returned (iV (M.I2b nd))/\Chg No w w':=by
  obtain⟨kd,va,vb,vc,ls,tx,vn,vt,vp⟩:=nd
  unfold nvl M.I2b
  simp only
  by_cases hs:kd=1\/kd=2\/kd=3\/kd=4\/kd=6\/kd=10\/kd=11
  · rcases hs with rfl | rfl | rfl | rfl | rfl | rfl | rfl <;>
      (go_enter func63,ntmps63
       go_wp2
       go_ret
       exact⟨rfl,Chg.alloc _ _ _⟩)
  have HS:=A0 (λw1=>D9d w1 tx)
  generalize M.sgn tx=y at *
  by_cases h2:kd=12\/kd=13
  · rcases h2 with rfl | rfl <;>
      (go_enter func63,ntmps63
       go_wp2_with fail
       refine(HS.out _).mono ?_
       rintro e w1 ⟨rfl,rfl⟩
       go_wp2_with fail
       go_ret
       exact⟨rfl,Chg.alloc _ _ _⟩)
  have k:(kd==1)=false/\(kd==2)=false/\(kd==3)=false/\(kd==4)=false/\(kd==6)=false/\(kd==10)=false/\(kd==11)=false/\(kd==12)=false/\(kd==13)=false:=by
    simp only[beq_eq_false_iff_ne]
    omega
  obtain⟨k1,k2,k3,k4,k6,k10,k11,k12,k13⟩:=k
  rw[if_neg (by omega),if_neg (by omega),if_neg (by omega),if_neg (by omega),if_neg (by omega),if_neg (by omega),if_neg (by omega),if_neg (by omega)]
  clear HS
  go_enter func63,ntmps63
  go_wp2
  go_ret
  exact⟨rfl,Chg.alloc _ _ _⟩
section
variable{wB w:World}{c:M.Cx}{pb qb fb gb kb m:Nat}{nv cv:Value}{ct:List Int}{g:M.Gm}{s:M.Es}
theorem D7d(hP:Pgm wB c pb qb nv cv ct)(h:Flw wB w pb cv fb gb kb g m s)(i:Nat)(hi:i<c.N.length):
 Calls prog 31 #[pV fb,iV (i:Int)] w λe w'=>e= .returned (iV (M.J7a c g s.kn i))/\Chg No w w':=by
 obtain⟨hl,-,b0,b1,-,-,-⟩:=h.cell;obtain⟨hpl,p0,p4⟩:=(h.pgm hP).cell;obtain⟨ng,nc,la,lc,rfl,hg,hn1,hn2,⟨x0,x1,x2,x3,x4,x5,x6,x7,x8⟩,-,-⟩:=(h.pgm hP).nodes.at (Below.refl _ _) i hi;have hlen:=hP.ok.lenN;have A1:=Chg.alloc No w (.cells #[iV c.N[i].kind,iV c.N[i].a,iV c.N[i].b,iV c.N[i].c,.slice la c.N[i].list.length lc,.string ⟨c.N[i].text.toArray⟩,iV c.N[i].n,iV c.N[i].ty,iV c.N[i].at'] 70);have HN:=A0 (λhk=>((h.still A1).pgm hP).nm hi hk);have HT:=A0 (λx hx=>G9c (h.still A1) x hx);have HK:Hid (∀u,Chg No w u->u.cell? (aD fb 1)=some (.map (some gb))/\fb<u.heap.size/\(Instr.lookup 35 (.map (some gb)) (iV (i:Int)) true).run prog u= .ok (.tuple #[iV ((g i).getD 0),.bool (g i).isSome]) u):=λu hu=>⟨A8 hu b1,yQ hl hu.size,(h.gs.chg hu (λx=>x)).look (i:Int) (by omega)⟩;have HO:=A0 (λw1=>L3d w1 c.N[i] la lc);have HA:=A0 A1;unfold maxLen at hn2;unfold M.J7a;rw[M.D3 hi];unfold nvl at HO;clear h hP A1;generalize hnd:c.N[i]=nd at *;clear hnd;obtain⟨kd,va,vb,vc,ls,tx,vn,vt,vp⟩:=nd;simp only at *;by_cases h5:kd=5
 · subst h5;rw[if_pos rfl];obtain⟨hx,hlk⟩:=HN.out (.inl rfl);have HT':=A0 (HT.out _ hx);clear HN HK HO HT hx;generalize M.nmx c i=y at *;generalize M.tgs s.kn y=z at *;go_enter func31,ntmps31;go_wp2_with fail
   refine HT'.out.mono ?_;rintro e w1 ⟨rfl,rfl⟩;go_wp2_with fail
   go_ret;exact⟨rfl,HA.out⟩
 · have g5:(kd==5)=false:=by simpa using h5
   rw[if_neg h5];clear HN HT;generalize M.I2b _=y at *;obtain⟨R,hR⟩:∃R,(if y≠0 then y else (g (i:Int)).getD 127)=R:=⟨_,rfl⟩;rw[hR];have HR:=A0 hR;clear hR;go_enter func31,ntmps31;go_wp2_with fail
   refine(HO.out _).mono ?_;rintro e w1 ⟨rfl,hc⟩;have HC:=A0 (B9 HA.out hc);clear hc HO;by_cases h0:y=0
   · subst h0;obtain⟨c1,l1,k1⟩:=HK.out _ HC.out;clear HK;cases hgi:g i with
     |none=>
      have e:R=127:=by rw[<-HR.out,hgi];rfl
      subst e;rw[hgi]at k1;simp only[Option.getD_none,Option.isSome_none]at k1;clear hgi HR;go_wp2_with fail
      go_ret;exact⟨rfl,HC.out⟩
     |some v=>
      have e:R=v:=by rw[<-HR.out,hgi];rfl
      subst e;rw[hgi]at k1;simp only[Option.getD_some,Option.isSome_some]at k1;clear hgi HR;go_wp2_with fail
      go_ret;exact⟨rfl,HC.out⟩
   · have g0:(y !=0)=true:=by simpa using h0
     have e:R=y:=by rw[<-HR.out,if_pos h0]
     subst e;clear HK HR;go_wp2_with fail
     go_ret;exact⟨rfl,HC.out⟩
end
theorem Tryz.infoGe:(prog.info? 30).map (λi=>(i.zero,i.size,i.bytes))=some (some (.agg #[iV 0,iV 0]),2,16):=by kernel_rfl
section
variable{wB w:World}{c:M.Cx}{pb qb fb gb kb m:Nat}{nv cv:Value}{ct:List Int}{g:M.Gm}{s:M.Es}
theorem X5b(hP:Pgm wB c pb qb nv cv ct)(h:Flw wB w pb cv fb gb kb g m s)(hm:m<=9000000)(i:Nat)(hi:i<c.N.length):
 Calls prog 32 #[pV fb,iV (i:Int)] w (EQ wB pb cv fb gb kb g (m+2) (M.grd c g ct i s) w):=by
 obtain⟨i0,hi0,hz0,hz1,hz2⟩:=info_parts Tryz.infoGe;obtain⟨hl,fz,b0,b1,-,-,la,lc,b4,hbk,ho⟩:=h.cell;obtain⟨hpl,p0,p4⟩:=(h.pgm hP).cell;obtain⟨ng,nc,-,-,hnv,hg,hn1,hn2,⟨x0,-,-,-,-,-,-,-,-⟩,-,-⟩:=(h.pgm hP).nodes.at (Below.refl _ _) i hi;have hlen:=hP.ok.lenN;have hlk:=h.gs.look (i:Int) (by omega);have HNm:=A0 (F8d hP h i hi);have hfew:=h.few;have hwB:=h.chg.size;unfold maxLen at hn2;have hnx:M.gnm c i≠-1->0<=M.gnm c i/\M.gnm c i<=1000000:=by
  unfold M.gnm;rw[M.D3 hi];intro hne;split
  · omega
  · split
    · rename_i h5;exact((h.pgm hP).nm hi (.inl h5)).1
    · rename_i h1 h2;rw[if_neg h1,if_neg h2]at hne;exact absurd rfl hne
 have hn5:c.N[i].kind=5->M.gnm c i≠-1:=λh5 e=>by
  unfold M.gnm at e;rw[M.D3 hi,if_neg (by omega),if_pos h5]at e;have:=((h.pgm hP).nm hi (.inl h5)).1;omega
 cases hgi:g i with
 |none=>
  have e:M.grd c g ct i s=s:=by unfold M.grd;rw[hgi]
  rw[e];rw[hgi]at hlk;simp only[Option.getD_none,Option.isSome_none]at hlk;have HS:=A0 (h.more (show m<=m+2 by omega));clear h hP HNm hnx hn5 ho hbk e hgi;go_enter func32,ntmps32;go_wp2_with fail
  go_end0;exact⟨rfl,HS.out,.still (Chg.refl _ _)⟩
 |some t=>
  have e:M.grd c g ct i s=⟨if M.gnm c i= -1 then s.kn else M.learn ct s.kn (M.gnm c i) (bits .and .i64 (M.tgs s.kn (M.gnm c i)) t),if c.N[i].kind≠5\/bits .andNot .i64 (M.tgs s.kn (M.gnm c i)) t≠0 then s.lf++[((i:Int),t)] else s.lf⟩:=by
   unfold M.grd;rw[hgi,M.D3 hi]
  rw[e];rw[hgi]at hlk;simp only[Option.getD_some,Option.isSome_some]at hlk;have ht:=h.gt _ _ hgi;have HL:Hid (∀u lf',Flw wB u pb cv fb gb kb g (m+1) ⟨s.kn,lf'⟩->M.gnm c i≠-1->Calls prog 62 #[pV fb,iV (M.gnm c i)] u (λe w'=>e= .returned (iV (M.tgs s.kn (M.gnm c i)))/\w'=u)/\
   Calls prog 30 #[pV fb,iV (M.gnm c i),iV (bits .and .i64 (M.tgs s.kn (M.gnm c i)) t)] u (EQ wB pb cv fb gb kb g (m+2) ⟨M.learn ct s.kn (M.gnm c i) (bits .and .i64 (M.tgs s.kn (M.gnm c i)) t),lf'⟩ u)):=λu lf' hu hne=>
   ⟨G9c hu _ (hnx hne),W9b hP hu (by omega) _ _ (hnx hne) (M.M2b _ _ (h.tg.tgs _) ht)⟩
  have HF:Hid (∀w4 v',Chg (λk=>(Value.slice la s.lf.length lc).ownBlock=some k) w w4->w4.ownsRow wB.heap.size 30 2 v' (s.lf.length+1) (J5 s.lf++[iV (i:Int),iV t])->Flw wB (w4.setCell (aD fb 4) v') pb cv fb gb kb g (m+1) ⟨s.kn,s.lf++[((i:Int),t)]⟩/\Ekp wB.heap.size kb w (w4.setCell (aD fb 4) v')):=λw4 v' hc ho4=>h.left (p:=((i:Int),t)) hbk ho hc ho4 (vQ _);have HS:=A0 (h.more (show m<=m+1 by omega));have HO4:=A0 (ho.alloc (.cells #[iV (i:Int),iV t] 30));have hln:=(E3c s.lf);have HB:Hid (∀w4,Chg (λk=>(Value.slice la s.lf.length lc).ownBlock=some k) w w4->fb<w4.heap.size/\∀o,w4.frozen? (aD fb o)=false):=λw4 hc=>by
   have hb4:w4.heap[fb]? =_:=(hc.block fb hl (λx=>G8 ho hbk (by decide) x)).trans hbk;exact⟨(ltG hb4),λo=>frozen_of_row w4 fb o _ _ hb4⟩
  have H4:Hid (∀(w4:World),Chg (λk=>(Value.slice la s.lf.length lc).ownBlock=some k) w w4->w4.cell? (aD fb 4)=some (.slice la s.lf.length lc)):=λw4 hc=>by
   have hb4:w4.heap[fb]? =_:=(hc.block fb hl (λx=>G8 ho hbk (by decide) x)).trans hbk;rw[cell_of_row w4 fb 4 _ _ _ hb4];rfl
  subst hnv;have HN5:=A0 hn5;clear h hP hnx ho hbk e hgi hn5;generalize M.gnm c i=x at *;generalize hz:M.tgs s.kn x=z at *;clear hz;generalize c.N[i].kind=kd at *;by_cases h5:kd=5
  · subst h5;have hx:=HN5.out rfl;have gx:(x != -1)=true:=by simpa using hx
    rw[if_neg hx];by_cases ha:bits .andNot .i64 z t=0
    · have ga:(bits .andNot .i64 z t !=0)=false:=by simpa using ha
      rw[if_neg (by simp[ha])];obtain⟨l1,l2⟩:=HL.out _ _ HS.out hx;have H1:=A0 l1;have H2:=A0 l2;clear HL HF HB H4 HO4 l1 l2 HS;go_enter func32,ntmps32;go_wp2_with fail
      refine HNm.out.mono ?_;rintro e w1 ⟨rfl,rfl⟩;go_wp2_with fail
      refine H1.out.mono ?_;rintro e w1 ⟨rfl,rfl⟩;go_wp2_with fail
      refine H1.out.mono ?_;rintro e w1 ⟨rfl,rfl⟩;go_wp2_with fail
      refine H2.out.mono ?_;rintro e w2 ⟨rfl,r⟩;have HR:=A0 r;clear r;go_wp2_with fail
      go_end0;exact⟨rfl,HR.out⟩
    · have ga:(bits .andNot .i64 z t !=0)=true:=by simpa using ha
      rw[if_pos (.inr ha)];go_enter func32,ntmps32;go_wp2_with fail
      refine HNm.out.mono ?_;rintro e w1 ⟨rfl,e1⟩;replace e1:=e1.symm;subst e1;have H1:=A0 (HL.out _ _ HS.out hx).1;go_wp2_with fail
      refine H1.out.mono ?_;rintro e w1 ⟨rfl,e1⟩;replace e1:=e1.symm;subst e1;go_wp2_with (at_builtin;refine wpList_append_own _ rfl _ _ 23 rfl wB.heap.size 30 i0 (.agg #[iV 0,iV 0]) 2 16 underlying23 hi0 hz0 hz1 hz2 rfl (by decide) _ _ _ rfl HO4.out (aD w.heap.size 0) 1 1 [iV (i:Int),iV t] rfl rfl ?c1 ?c2 ?c3 ?c4 ?c5 ?_)
      case c1=>exact World.news_of_block (cs:=#[iV (i:Int),iV t]) (t:=30) (fr:=(0,0)) (heap_alloc_new w _)
      case c2=>intro u hu;simp at hu;rcases hu with rfl|rfl<;>rfl
      case c3=>simp only[maxLen];omega
      case c4=>omega
      case c5=>simp;omega
      intro v' w4 hown4 hg4 _;obtain⟨ad4,c4,rfl⟩:=B7 hown4;have hc4:Chg (λk=>(Value.slice la s.lf.length lc).ownBlock=some k) w w4:=(Chg.alloc _ w (.cells #[iV (i:Int),iV t] 30)).trans (Chg.grown hg4) (λk hk x=>x.symm);obtain⟨l4,z4⟩:=HB.out _ hc4;have y4:=H4.out _ hc4;obtain⟨f5,k5⟩:=HF.out _ _ hc4 hown4;obtain⟨l1,l2⟩:=HL.out _ _ f5 hx;have G1:=A0 l1;have G2:=A0 l2;have K5:=A0 k5;clear HL HF HB H4 HO4 l1 l2 HS f5 k5 hc4 hown4 hg4 H1;go_wp2_with fail
      refine G1.out.mono ?_;rintro e w1 ⟨rfl,e1⟩;replace e1:=e1.symm;subst e1;go_wp2_with fail
      refine G2.out.mono ?_;rintro e w2 ⟨rfl,r1,r2⟩;have HR:=A0 r1;have HK:=A0 (K5.out.trans r2 (.inl rfl));clear r1 r2 K5;go_wp2_with fail
      go_end0;exact⟨rfl,HR.out,HK.out⟩
  · have g5:(kd !=5)=true:=by simpa using h5
    by_cases hx:x= -1
    · have gx:(x != -1)=false:=by simpa using hx
      rw[if_pos hx,if_pos (show kd≠5\/bits .andNot .i64 z t≠0 from .inl h5)];go_enter func32,ntmps32;go_wp2_with fail
      refine HNm.out.mono ?_;rintro e w1 ⟨rfl,e1⟩;replace e1:=e1.symm;subst e1;go_wp2_with (at_builtin;refine wpList_append_own _ rfl _ _ 23 rfl wB.heap.size 30 i0 (.agg #[iV 0,iV 0]) 2 16 underlying23 hi0 hz0 hz1 hz2 rfl (by decide) _ _ _ rfl HO4.out (aD w.heap.size 0) 1 1 [iV (i:Int),iV t] rfl rfl ?c1 ?c2 ?c3 ?c4 ?c5 ?_)
      case c1=>exact World.news_of_block (cs:=#[iV (i:Int),iV t]) (t:=30) (fr:=(0,0)) (heap_alloc_new w _)
      case c2=>intro u hu;simp at hu;rcases hu with rfl|rfl<;>rfl
      case c3=>simp only[maxLen];omega
      case c4=>omega
      case c5=>simp;omega
      intro v' w4 hown4 hg4 _;obtain⟨ad4,c4,rfl⟩:=B7 hown4;have hc4:Chg (λk=>(Value.slice la s.lf.length lc).ownBlock=some k) w w4:=(Chg.alloc _ w (.cells #[iV (i:Int),iV t] 30)).trans (Chg.grown hg4) (λk hk x=>x.symm);obtain⟨l4,z4⟩:=HB.out _ hc4;have y4:=H4.out _ hc4;obtain⟨f5,k5⟩:=HF.out _ _ hc4 hown4;have HR:=A0 (f5.more (show m+1<=m+2 by omega));have K5:=A0 k5;clear HL HF HB H4 HO4 HS f5 k5 hc4 hown4 hg4;go_wp2_with fail
      go_end0;exact⟨rfl,HR.out,K5.out⟩
    · have gx:(x != -1)=true:=by simpa using hx
      rw[if_neg hx,if_pos (show kd≠5\/bits .andNot .i64 z t≠0 from .inl h5)];go_enter func32,ntmps32;go_wp2_with fail
      refine HNm.out.mono ?_;rintro e w1 ⟨rfl,e1⟩;replace e1:=e1.symm;subst e1;go_wp2_with (at_builtin;refine wpList_append_own _ rfl _ _ 23 rfl wB.heap.size 30 i0 (.agg #[iV 0,iV 0]) 2 16 underlying23 hi0 hz0 hz1 hz2 rfl (by decide) _ _ _ rfl HO4.out (aD w.heap.size 0) 1 1 [iV (i:Int),iV t] rfl rfl ?c1 ?c2 ?c3 ?c4 ?c5 ?_)
      case c1=>exact World.news_of_block (cs:=#[iV (i:Int),iV t]) (t:=30) (fr:=(0,0)) (heap_alloc_new w _)
      case c2=>intro u hu;simp at hu;rcases hu with rfl|rfl<;>rfl
      case c3=>simp only[maxLen];omega
      case c4=>omega
      case c5=>simp;omega
      intro v' w4 hown4 hg4 _;obtain⟨ad4,c4,rfl⟩:=B7 hown4;have hc4:Chg (λk=>(Value.slice la s.lf.length lc).ownBlock=some k) w w4:=(Chg.alloc _ w (.cells #[iV (i:Int),iV t] 30)).trans (Chg.grown hg4) (λk hk x=>x.symm);obtain⟨l4,z4⟩:=HB.out _ hc4;have y4:=H4.out _ hc4;obtain⟨f5,k5⟩:=HF.out _ _ hc4 hown4;obtain⟨l1,l2⟩:=HL.out _ _ f5 hx;have G1:=A0 l1;have G2:=A0 l2;have K5:=A0 k5;clear HL HF HB H4 HO4 l1 l2 HS f5 k5 hc4 hown4 hg4;go_wp2_with fail
      refine G1.out.mono ?_;rintro e w1 ⟨rfl,rfl⟩;go_wp2_with fail
      refine G2.out.mono ?_;rintro e w2 ⟨rfl,r1,r2⟩;have HR:=A0 r1;have HK:=A0 (K5.out.trans r2 (.inl rfl));clear r1 r2 K5;go_wp2_with fail
      go_end0;exact⟨rfl,HR.out,HK.out⟩
end
end Go.Proofs.YtfhhipefecekkaaGreatDoor
