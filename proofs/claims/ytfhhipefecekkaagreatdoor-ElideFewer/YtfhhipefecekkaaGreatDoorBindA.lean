/-
  A part of the proof.
-/
import Derived.Test.YtfhhipefecekkaaGreatDoorNodeA
import Derived.Test.YtfhhipefecekkaaGreatDoorFitA
import Derived.Deep.DeepCutAuto
import Derived.Test.YtfhhipefecekkaaGreatDoorPlainD
import Derived.Laws.AppendOwnNone
set_option maxHeartbeats 16000000
set_option maxRecDepth 100000
namespace Go.Proofs.YtfhhipefecekkaaGreatDoor
open Go.Proofs.Tryz
open Go.RowKit Go.Maps
theorem B6d:Keyed prog 9:=string_keyed underlying9
theorem J9b(l:List UInt8)(h:l.length<=1000000):keyOf prog 9 (.string ⟨l.toArray⟩)=some (.string l):=by
 have hs:(⟨l.toArray⟩:ByteArray).size<=maxLen:=by simp[ByteArray.size];unfold maxLen;omega
 unfold keyOf;simp only[underlying9];unfold mapKey;simp[underlying9,hs]
theorem C8d(w:World):(zeroValue 3).run prog w= .ok (.int .i64 0) w:=by kernel_rfl
structure FrM(w:World)(q m:Nat)(f:M.Fr):Prop where
 own:∃n D,w.ownsMap prog 9 (plainElem (H:=Unit) prog 3) q n D/\n<=m/\IsMap D/\∀(s:List UInt8) (d:DataW Unit),D.atKey (.string s) d=match f s with
  |some j=> .lit (.int .i64 j)
  |none=>d
theorem FrM.new(w:World):FrM (w.alloc (.map #[] 0)) w.heap.size 0 M.Fr.no:=⟨0,.map [],World.ownsMap_made w _ _ _,vQ _,isMap_empty,λ_ _=>rfl⟩
theorem FrM.more{w:World}{q m m':Nat}{f:M.Fr}(h:FrM w q m f)(hm:m<=m'):FrM w q m' f:=by
 obtain⟨n,D,h1,h2,r⟩:=h.own;exact⟨n,D,h1,by omega,r⟩
theorem FrM.lt{w:World}{q m:Nat}{f:M.Fr}(h:FrM w q m f):q<w.heap.size:=by
 obtain⟨n,D,⟨es,cl,h1,_⟩,_⟩:=h.own;exact(ltG h1)
theorem FrM.chg{S:Nat->Prop}{w w':World}{q m:Nat}{f:M.Fr}(h:FrM w q m f)(hc:Chg S w w')(hn:¬S q):FrM w' q m f:=by
 obtain⟨n,D,⟨es,cl,h1,h2⟩,r⟩:=h.own;exact⟨n,D,⟨es,cl,by rw[hc.block q (ltG h1) hn];exact h1,h2⟩,r⟩
theorem FrM.notcells{w:World}{q m:Nat}{f:M.Fr}(h:FrM w q m f){cs:Array Value}{e:TypeId}{fz:Nat×Nat}:w.heap[q]? ≠some (.cells cs e fz):=by
 obtain⟨n,D,⟨es,cl,h1,_⟩,_⟩:=h.own;rw[h1];simp
theorem FrM.look{w:World}{q m:Nat}{f:M.Fr}(h:FrM w q m f)(s:List UInt8)(hs:s.length<=1000000):
 (Instr.lookup 153 (.map (some q)) (.string ⟨s.toArray⟩) true).run prog w= .ok (.tuple #[.int .i64 ((f s).getD 0),.bool (f s).isSome]) w:=by
 obtain⟨n,D,⟨es,cl,hb,F,_,rfl⟩,_,_,hat⟩:=h.own;have h0:=hat s (.lit (.int .i64 0));have h1:=hat s (.lit (.int .i64 1));rcases fit_look true B6d underlying153 (C8d w) hb F (J9b s hs) with ⟨hrun,_,ha⟩|⟨e0,y,_,_,hrun,hy,ha,_⟩
 · rw[ha]at h0 h1;cases hf:f s with
   |none=>rw[hrun];rfl
   |some j=>
    rw[hf]at h0 h1;simp only[DataW.lit.injEq,Lit.int.injEq,true_and]at h0 h1;omega
 · rw[ha]at h0 h1;cases hf:f s with
   |none=>
    rw[hf]at h0 h1;simp only at h0 h1;rw[h0]at h1;simp at h1
   |some j=>
    rw[hf]at h0;simp only at h0;have:∃c,e0.val= .int .i64 c/\y=(.lit (.int .i64 c),[])/\(Lit.int .i64 c).wf=true:=plainElem_int_inv underlying3 (by rw[hy]);obtain⟨c,hv,rfl,_⟩:=this;simp only[DataW.lit.injEq,Lit.int.injEq,true_and]at h0;rw[hrun,hv,h0];rfl
theorem FrM.put{w:World}{q m:Nat}{f:M.Fr}(h:FrM w q m f)(s:List UInt8)(j:Int)(hs:s.length<=1000000)(hm:m<=1000000)(hj:0<=j/\j<=1000000):
 ∃w',(Instr.mapUpdate 153 (.map (some q)) (.string ⟨s.toArray⟩) (.int .i64 j)).run prog w= .ok () w'/\FrM w' q (m+1) (f.set s j)/\Chg (λk=>k=q) w w':=by
 obtain⟨n,D,ho,hn,hmap,hat⟩:=h.own;have hwf:(Lit.int .i64 j).wf=true:=by
  simp[Lit.wf,IntKind.min,IntKind.max,IntKind.bits,IntKind.signed];omega
 obtain⟨w',hrun,ho',hg⟩:=ho.update B6d underlying153 (by unfold maxLen;omega) (J9b s hs) (plainElem_int underlying3 hwf);refine⟨w',hrun,⟨n+1,_,ho',by omega,hmap.put _ _,λu d=> ?_⟩,(Chg.grown hg).mono (λk _ x=>by simpa using x)⟩;by_cases hu:u=s
 · subst hu;rw[atKey_put_same hmap (show WideAt.IsKeyLit (.string u) from trivial)];simp[M.Fr.set]
 · rw[atKey_put_other (by simpa using hu),hat u];simp[M.Fr.set,hu]
structure Bsx(w:World)(B bb:Nat)(nv av tv:Value)(ms:List Nat)(m:Nat)(fs:List M.Fr)(ts:List Int):Prop where
 low:B<=bb
 blk:w.heap[bb]? =some (.cells #[nv,av,tv] 86 (0,0))
 ar:w.ownsRow B 153 1 av fs.length (ms.map λq=> .map (some q))
 tos:w.ownsRow B 3 1 tv ts.length (B8 ts)
 len:ms.length=fs.length
 nd:ms.Nodup
 ge:∀q∈ms,B<=q
 fr:∀i (h:i<ms.length) (h':i<fs.length),FrM w ms[i] m fs[i]
section
variable{w w':World}{B bb m:Nat}{nv av tv:Value}{ms:List Nat}{fs:List M.Fr}{ts:List Int}
theorem Bsx.chg{S:Nat->Prop}(h:Bsx w B bb nv av tv ms m fs ts)(hc:Chg S w w')(h1:¬S bb)(h2:∀g,av.ownBlock=some g->¬S g)(h3:∀g,tv.ownBlock=some g->¬S g)(h4:∀q∈ms,¬S q):Bsx w' B bb nv av tv ms m fs ts:=
 ⟨h.low,by rw[hc.block bb (ltG h.blk) h1];exact h.blk,A3 h.ar hc h2,A3 h.tos hc h3,h.len,h.nd,h.ge,λi a b=>(h.fr i a b).chg hc (h4 _ (mQ a))⟩
theorem Bsx.still(h:Bsx w B bb nv av tv ms m fs ts)(hc:Chg No w w'):Bsx w' B bb nv av tv ms m fs ts:=h.chg hc id (λ_ _=>id) (λ_ _=>id) (λ_ _=>id)
theorem Bsx.more{m':Nat}(h:Bsx w B bb nv av tv ms m fs ts)(hm:m<=m'):Bsx w B bb nv av tv ms m' fs ts:=⟨h.low,h.blk,h.ar,h.tos,h.len,h.nd,h.ge,λi a b=>(h.fr i a b).more hm⟩
theorem Bsx.cell(h:Bsx w B bb nv av tv ms m fs ts){i:Nat}(hi:i<ms.length):∃g c,av= .slice (some (aD g 0)) ms.length c/\g<w.heap.size/\ms.length<=c/\c<=maxLen/\w.cell? (aD g i)=some (.map (some ms[i])):=by
 have ho:=h.ar;rw[<-h.len]at ho;obtain⟨ad,c,rfl⟩:=B7 ho;obtain⟨g,rfl,_,hg,h1,h2,hc⟩:=D8 ho (by omega);exact⟨g,c,rfl,hg,h1,h2,hc i _ (by simp[hi])⟩
theorem Bsx.put(h:Bsx w B bb nv av tv ms m fs ts)(hne:ms≠[])(x:List UInt8)(j:Int)(hx:x.length<=1000000)(hm:m<=1000000)(hj:0<=j/\j<=1000000):
 ∃w',(Instr.mapUpdate 153 (.map (some (ms.getLast hne))) (.string ⟨x.toArray⟩) (iV j)).run prog w= .ok () w'/\Bsx w' B bb nv av tv ms (m+1) (M.G5 fs x j) ts/\Chg (λk=>k=ms.getLast hne) w w':=by
 have hlen:=h.len;have hpos:0<ms.length:=List.length_pos_iff.2 hne;have hfne:fs≠[]:=by
  rintro rfl;simp at hlen;exact hne hlen
 have hl:ms.getLast hne=ms[ms.length - 1]:=by rw[List.getLast_eq_getElem]
 have hfl:M.C5a fs=fs[ms.length - 1]'(by omega):=by
  unfold M.C5a;have e2:fs.length - 1=ms.length - 1:=by omega
  rw[List.getLastD_eq_getLast?,List.getLast?_eq_getElem?,e2,gQ (by omega)];rfl
 have hfr:=h.fr (ms.length - 1) (by omega) (by omega);obtain⟨w',hrun,hF,hc⟩:=hfr.put x j hx hm hj;have htop:=hfr;refine⟨w',by rw[hl];exact hrun, ?_,by rw[hl];exact hc⟩;have nb:bb≠ms[ms.length - 1]:=λe=>by
  have:=hfr.notcells (cs:=#[nv,av,tv]) (e:=86) (fz:=(0,0));rw[<-e]at this;exact this h.blk
 have na:∀{v:Value} {n:Nat} {xs:List Value} {ty:TypeId} {sz:Nat},w.ownsRow B ty sz v n xs->∀g,v.ownBlock=some g->g≠ms[ms.length - 1]:=by
  intro v n xs ty sz ho g hg he;obtain⟨_,cur,hh⟩:=A9 ho g hg;have:=hfr.notcells (cs:=cur) (e:=ty) (fz:=(0,0));rw[<-he]at this;exact this hh
 have hst:(M.G5 fs x j).length=fs.length:=by
  unfold M.G5;rw[qQ,List.length_dropLast];simp only[jQ,xQ];omega
 refine⟨h.low,by rw[hc.block bb (ltG h.blk) nb];exact h.blk,by rw[hst];exact A3 h.ar hc (na h.ar),A3 h.tos hc (na h.tos),by rw[hst];exact hlen,h.nd,h.ge,λi a b=> ?_⟩;by_cases hi:i=ms.length - 1
 · subst hi;have e:(M.G5 fs x j)[ms.length - 1]'b=(fs[ms.length - 1]'(by omega)).set x j:=by
    refine Option.some.inj ?_;rw[<-gQ,M.H1b fs x j (ms.length - 1) (by omega),hfl]
   rw[e];exact hF
 · have e:(M.G5 fs x j)[i]'b=fs[i]'(by omega):=by
    refine Option.some.inj ?_;rw[<-gQ,M.O5b fs x j i (by omega),gQ]
   rw[e];refine((h.fr i a (by omega)).chg hc ?_).more (by omega);exact(List.pairwise_iff_getElem.1 h.nd) i (ms.length - 1) a (by omega) (by omega)
theorem W1c(h:Bsx w B bb nv av tv ms m fs ts)(hne:ms≠[])(hsm:ms.length<=1000000):Calls prog 127 #[pV bb] w λe w'=>e= .returned (.map (some (ms.getLast hne)))/\Chg No w w':=by
 have hpos:0<ms.length:=List.length_pos_iff.2 hne;obtain⟨g,c,rfl,hg,h1,h2,x0⟩:=h.cell (i:=ms.length - 1) (by omega);have hl:ms.getLast hne=ms[ms.length - 1]:=by rw[List.getLast_eq_getElem]
 rw[hl];have b1:w.cell? (aD bb 1)=some (.slice (some (aD g 0)) ms.length c):=cr h.blk rfl;have lb:bb<w.heap.size:=(ltG h.blk);clear h hl;unfold maxLen at h2;generalize ms[ms.length - 1]=q at *;go_enter func127,ntmps127;go_wp2_with fail
 go_region
 all_goals go_wp2
 all_goals go_ret
 all_goals exact⟨rfl,Chg.drewN No _ 1⟩
end
theorem Z9a(x:List UInt8):∀(fs:List M.Fr) (k:Nat) (i:Int),M.look x (fs.drop k)=some i->M.look x fs=some i
 |fs,0,i,h=>h
 |[],k+1,i,h=>by simpa using h
 |f::r,k+1,i,h=>by
  have:=Z9a x r k i h;rw[M.look,this]
theorem X7c(x:List UInt8)(fs:List M.Fr)(k:Nat)(hk:k<fs.length):M.look x (fs.drop k)=match M.look x (fs.drop (k+1)) with
 |some i=>some i
 |none=>fs[k] x:=by
 rw[List.drop_eq_getElem_cons hk,M.look];rfl
section
variable{w w':World}{B bb m:Nat}{nv av tv:Value}{ms:List Nat}{fs:List M.Fr}{ts:List Int}
theorem E5c(h:Bsx w B bb nv av tv ms m fs ts)(hsm:ms.length<=1000000)(kd va vb vc:Int)(la:Option Addr)(ll lc:Nat)(x:List UInt8)(vn vt vp:Int)(hx:x.length<=1000000):
 Calls prog 125 #[pV bb,.agg #[iV kd,iV va,iV vb,iV vc,.slice la ll lc,.string ⟨x.toArray⟩,iV vn,iV vt,iV vp]] w λe w'=>
  Chg No w w'/\e=match M.look x fs with
   |some j=> .returned (iV j)
   |none=>gu 5 vp:=by
 have hlen:=h.len;obtain⟨ad,c,rfl⟩:=B7 h.ar;have hb0:=heap_alloc_new w (.cells #[iV kd,iV va,iV vb,iV vc,.slice la ll lc,.string ⟨x.toArray⟩,iV vn,iV vt,iV vp] 70);have hA:Chg No w (w.alloc (.cells #[iV kd,iV va,iV vb,iV vc,.slice la ll lc,.string ⟨x.toArray⟩,iV vn,iV vt,iV vp] 70)):=Chg.alloc No _ _;have FA:Hid (∀a,Chg No (w.alloc (.cells #[iV kd,iV va,iV vb,iV vc,.slice la ll lc,.string ⟨x.toArray⟩,iV vn,iV vt,iV vp] 70)) a->a.cell? (aD w.heap.size 5)=some (.string ⟨x.toArray⟩)/\a.cell? (aD w.heap.size 8)=some (iV vp)/\a.cell? (aD bb 1)=some (.slice ad fs.length c)/\w.heap.size<a.heap.size/\bb<a.heap.size):=λa ha=>by
  refine⟨A8 ha ?_,A8 ha ?_, ?_, ?_, ?_⟩
  · rw[cell_of_row _ _ 5 _ _ _ hb0];rfl
  · rw[cell_of_row _ _ 8 _ _ _ hb0];rfl
  · have:=((h.still hA).still ha).blk;rw[cell_of_row a bb 1 _ _ _ this];rfl
  · have:=ha.size;simp only[World.size_alloc]at this;omega
  · exact(Array.getElem?_eq_some_iff.1 ((h.still hA).still ha).blk).1
 have FM:Hid (∀a,Chg No (w.alloc (.cells #[iV kd,iV va,iV vb,iV vc,.slice la ll lc,.string ⟨x.toArray⟩,iV vn,iV vt,iV vp] 70)) a->∀k (hk:k<fs.length),∃g q,ad=some (aD g 0)/\g<a.heap.size/\fs.length<=c/\c<=maxLen/\a.cell? (aD g k)=some (.map (some q))/\
  (Instr.lookup 153 (.map (some q)) (.string ⟨x.toArray⟩) true).run prog a.drew= .ok (.tuple #[iV ((fs[k] x).getD 0),.bool (fs[k] x).isSome]) a.drew):=λa ha k hk=>by
  have hb:=(h.still hA).still ha;obtain⟨g,c',e,h1,h2,h3,h4⟩:=hb.cell (i:=k) (by omega);simp only[Value.slice.injEq]at e;obtain⟨rfl,_,rfl⟩:=e;have hf:=((hb.still (Chg.drewN No a 1)).fr k (by omega) hk).look x hx;exact⟨g,_,rfl,h1,by omega,h3,h4,hf⟩
 have HG:=A0 (V9);have HA:=A0 hA;have hfl:fs.length<=1000000:=by omega
 generalize hR:M.look x fs=R;have HR:=A0 hR;clear h hb0 hA hlen hR hsm;generalize (⟨x.toArray⟩:ByteArray)=xs at *;go_enter func125,ntmps125;have b0:=(FA.out _ (Chg.refl _ _)).2.2.1;go_wp2_with fail
 go_loopw [5] (λv wr=>∃(k:Nat) (z:Int),k<=fs.length/\v=iV z/\z=(k:Int) - 1/\Hid (M.look x (fs.drop k)=none)/\Hid (Chg No (w.alloc (.cells #[iV kd,iV va,iV vb,iV vc,.slice la ll lc,.string xs,iV vn,iV vt,iV vp] 70)) wr)) (λv _=>(intOf v+1).toNat)
 case atStart=>exact⟨fs.length,(fs.length:Int) - 1,vQ _,by go_num,rfl,by simp[Hid,M.look],Chg.refl _ _⟩
 case round=>
  obtain⟨k,z,hk,rfl,hz,HK,CK⟩:=hrel;obtain⟨f5,f8,fb,l1,l2⟩:=FA.out _ CK.out;cases k with
  |zero=>
   have hno:M.look x fs=none:=by simpa using HK.out
   obtain rfl:R=none:=by rw[<-HR.out];exact hno
   have hz0:z<0:=by omega
   have hz1:¬0<=z:=by omega
   go_wp2_with fail
   refine(HG.out _ _ _).mono ?_;rintro e w2 ⟨rfl,hc⟩;exact⟨rfl,B9 (B9 HA.out CK.out) hc,rfl⟩
  |succ k=>
   have hzk:z=(k:Int):=by omega
   clear hz;subst hzk;have hkl:k<fs.length:=by omega
   obtain⟨g,q,rfl,hg,hc1,hc2,x0,hl⟩:=FM.out _ CK.out k hkl;unfold maxLen at hc2;have hla:=X7c x fs k hkl;rw[HK.out]at hla;simp only at hla;cases hf:fs[k] x with
   |none=>
    rw[hf]at hl hla;simp only[Option.getD_none,Option.isSome_none]at hl;have HN:=A0 hla;clear hla hf HR;go_wp2_with fail
    go_region
    all_goals go_wp2
    all_goals go_roundw
    case rel=>exact⟨k,(k:Int) - 1,by omega,by go_num,rfl,HN.out,B9 CK.out (Chg.drewN No _ 1)⟩
    case measure=>simp[intOf]
   |some j=>
    rw[hf]at hl hla;simp only[Option.getD_some,Option.isSome_some]at hl;obtain rfl:R=some j:=by rw[<-HR.out];exact Z9a x fs k j hla
    clear hla hf HR;go_wp2_with fail
    go_region
    all_goals go_wp2
    all_goals go_ret
    all_goals exact⟨B9 (B9 HA.out CK.out) (Chg.drewN No _ 1),rfl⟩
end
def Bkp(B bb:Nat)(tv:Value)(w w':World):Prop:=Chg (λk=>B<=k/\(k=bb\/tv.ownBlock=some k\/(∃cs fz,w.heap[k]? =some (.cells cs 153 fz))\/∃es cl,w.heap[k]? =some (.map es cl))) w w'
theorem Bkp.refl(B bb:Nat)(tv:Value)(w:World):Bkp B bb tv w w:=Chg.refl _ _
theorem Bkp.still{B bb:Nat}{tv:Value}{w w':World}(h:Chg No w w'):Bkp B bb tv w w':=h.mono λ_ _ x=>x.elim
theorem Bkp.trans{B bb:Nat}{tv:Value}{a b c:World}(h:Bkp B bb tv a b)(k:Bkp B bb tv b c):Bkp B bb tv a c:=by
 refine⟨k.os.trans h.os,k.tape.trans h.tape,k.output.trans h.output,kQ h.size k.size,λi hi hn=> ?_⟩;have h1:=h.block i hi hn;refine(k.block i (yQ hi h.size) (λx=>hn ⟨x.1, ?_⟩)).trans h1;rcases x.2 with hx|hx|⟨cs,fz,hh⟩|⟨es,cl,hh⟩
 · exact .inl hx
 · exact .inr (.inl hx)
 · exact .inr (.inr (.inl ⟨cs,fz,by rw[<-h1];exact hh⟩))
 · exact .inr (.inr (.inr ⟨es,cl,by rw[<-h1];exact hh⟩))
theorem Bkp.below{B bb:Nat}{tv:Value}{w w':World}(h:Bkp B bb tv w w')(hB:B<=w.heap.size):Below B w w':=Chg.toBelow h (λ_ _ x=>x.1) hB
theorem Bkp.row{B bb:Nat}{tv:Value}{w w':World}(hc:Bkp B bb tv w w'){base:Nat}{size:Nat}{v:Value}{n:Nat}{xs:List Value}(h:w.ownsRow base 3 size v n xs)(hb:v.ownBlock≠some bb)(ht:∀g,v.ownBlock=some g->tv.ownBlock≠some g):w'.ownsRow base 3 size v n xs:=by
 refine A3 h hc λg hg hx=> ?_;obtain⟨_,cur,hh⟩:=A9 h g hg;rcases hx.2 with rfl|hx|⟨cs,fz,h2⟩|⟨es,cl,h2⟩
 · exact hb hg
 · exact ht g hg hx
 · rw[hh]at h2;simp at h2
 · rw[hh]at h2;simp at h2
structure Bnt(w0 w:World)(B bb:Nat)(nv tv:Value)(m:Nat)(fs:List M.Fr)(ts:List Int):Prop where
 hz:w0.heap.size<=B
 le:B<=w.heap.size
 bel:Below w0.heap.size w0 w
 st:∃av ms,Bsx w B bb nv av tv ms m fs ts
def atI(N:List M.Nd)(i:Nat):Int:=(N.getD i M.nd0).at'
def BnPost(w0 w:World)(B bb:Nat)(nv tv:Value)(N:List M.Nd)(m:Nat)(ts:List Int)(r:M.Br)(e:Ending)(w':World):Prop:=
 Bkp B bb tv w w'/\match r with
  | .bad er i=>e=gu er (atI N i)
  | .ok fs' l=>e=rT/\Bnt w0 w' B bb nv tv m fs' (M.upd ts l)
def U6(w0:World)(B bb:Nat)(nv tv:Value)(N:List M.Nd)(t:M.Nt):Prop:=∀(b tb:Nat) (w:World) (m:Nat) (fs:List M.Fr) (ts:List Int),M.Em N b tb t->Bnt w0 w B bb nv tv m fs ts->fs≠[]->m+2 * M.nN t<=100000->fs.length+M.nN t<=100000->ts.length=N.length->
 Calls prog 92 #[pV bb,iV (M.ixN b tb t)] w (BnPost w0 w B bb nv tv N (m+2 * M.nN t) ts (M.bnT fs b t))
theorem Bnt.kept{w0 w w':World}{B bb:Nat}{nv tv:Value}{m:Nat}{fs:List M.Fr}{ts:List Int}(h:Bnt w0 w B bb nv tv m fs ts)(hc:Chg No w w'):Bnt w0 w' B bb nv tv m fs ts:=by
 obtain⟨av,ms,hs⟩:=h.st;exact⟨h.hz,kQ h.le hc.size,h.bel.trans (Chg.toBelow hc (λ_ _ x=>x.elim) h.bel.size),av,ms,hs.still hc⟩
section
variable{w0:World}{B bb:Nat}{nv tv:Value}{N:List M.Nd}
theorem B1d(ps:List M.Nt)(hps:∀p∈ps,1<=p.k/\U6 w0 B bb nv tv N p)(b tb:Nat)(w:World)(m:Nat)(fs:List M.Fr)(ts:List Int)(he:M.EmL N b tb ps)(h:Bnt w0 w B bb nv tv m fs ts)(hfs:fs≠[])(hm:m+2 * M.nNL ps<=100000)(hf:fs.length+M.nNL ps<=100000)(hts:ts.length=N.length)
 (la:Option Addr) (lc:Nat) (ho:w.ownsRow 0 3 1 (.slice la ps.length lc) ps.length (B8 (M.px b ps))) (hob:(Value.slice la ps.length lc).ownBlock≠some bb) (hot:∀g,(Value.slice la ps.length lc).ownBlock=some g->tv.ownBlock≠some g):
 Calls prog 66 #[pV bb,.slice la ps.length lc] w (BnPost w0 w B bb nv tv N (m+2 * M.nNL ps) ts (M.bnL false fs b ps)):=by
 have hk1:∀p∈ps,1<=p.k:=λp hp=>(hps p hp).1;have hpl:=M.B6a ps b hk1;have PX:Hid (∀j (hj:j<ps.length),(M.px b ps)[j]? =some (M.ixN (b+M.nNL (ps.take j)) (tb+M.nTL (ps.take j)) ps[j])):=M.B5d ps b tb hk1;have NT:Hid (∀j,M.nNL (ps.take j)<=M.nNL ps):=λj=>by
  have:=M.G6a (ps.take j) (ps.drop j);rw[List.take_append_drop]at this;omega
 have NS:Hid (∀j (hj:j<ps.length),M.nNL (ps.take (j+1))=M.nNL (ps.take j)+M.nN ps[j]):=λj hj=>by
  rw[nQ hj,M.G6a,M.nNL,M.nNL];omega
 have SL:Hid (∀j fs1 l1,M.bnL false fs b (ps.take j)= .ok fs1 l1->fs1.length=fs.length):=λj fs1 l1 e=>M.R6 (ps.take j) false fs b hfs fs1 l1 e;have RW:Hid (∀a,Bkp B bb tv w a->a.ownsRow 0 3 1 (.slice la (M.px b ps).length lc) (M.px b ps).length (B8 (M.px b ps))):=λa ha=>by
  rw[hpl];exact ha.row ho hob hot
 have HPS:=A0 hps;have HE:=A0 he;have H0:=A0 h;have hsm:ps.length<=100000:=by
  have:=M.J8b ps hk1;omega
 clear ho hob hot hps he h;generalize hls:M.px b ps=ls at *;clear hls;rw[<-hpl];have HPL:=A0 hpl;have hsl0:ls.length<=100000:=by omega
 clear hpl hsm;generalize hRR:M.bnL false fs b ps=RR;have HRR:=A0 hRR;clear hRR;go_enter func66,ntmps66;go_wp2_with fail
 go_loopw [8] (λv wr=>∃(j:Nat) (fs1:List M.Fr) (l1:List (Nat×Int)),j<=ls.length/\v=iV (j:Int)/\Hid (M.bnL false fs b (ps.take j)= .ok fs1 l1)/\Hid (Bnt w0 wr B bb nv tv (m+2 * M.nNL (ps.take j)) fs1 (M.upd ts l1))/\Hid (Bkp B bb tv w wr)) (λv _=>ls.length - (intOf v).toNat)
 case atStart=>exact⟨0,fs,[],wQ _,rfl,by simp[Hid,M.bnL],by simpa[Hid,M.nNL,M.upd]using H0.out,Bkp.refl _ _ _ _⟩
 case round=>
  obtain⟨j,fs1,l1,hj,rfl,HB,HS,HK⟩:=hrel;by_cases hjl:j<ls.length
  · have hjp:j<ps.length:=by have:=HPL.out;omega
    obtain⟨g,e1,hg,h11,h12,x1⟩:=D5 (RW.out _ HK.out) hjl;subst e1;unfold maxLen at h12;have hix:ls[j]=M.ixN (b+M.nNL (ps.take j)) (tb+M.nTL (ps.take j)) ps[j]:=by
     have:=PX.out j hjp;rw[gQ hjl]at this;simpa using this
    rw[hix]at x1;have hsl:=SL.out j fs1 l1 HB.out;have hns:=NS.out j hjp;have hnt:=NT.out (j+1);have HC:=A0 ((HPS.out ps[j] (mQ hjp)).2 _ _ wr _ fs1 (M.upd ts l1) (M.EmL.at HE.out j hjp) HS.out (M.M4 hfs hsl) (by omega) (by omega) (by rw[M.J5a];exact hts));have BT:=A0 (M.R7c hk1 fs b j hjp);have BD:Hid (∀e i,M.bnL false fs b (ps.take (j+1))= .bad e i->RR= .bad e i):=λe i hb=>by rw[<-HRR.out];exact M.A4d hk1 fs b (j+1) hb
    generalize M.ixN (b+M.nNL (ps.take j)) (tb+M.nTL (ps.take j)) ps[j]=ix at *;generalize hbr:M.bnT fs1 (b+M.nNL (ps.take j)) ps[j]=br at *;have HBR:=A0 hbr;have HNS:=A0 hns;clear hix hns hnt hsl hbr;go_wp2_with fail
    refine HC.out.mono ?_;rintro e w2 ⟨hk2,hr⟩;have K2:=A0 (HK.out.trans hk2);have hbt:=BT.out;rw[HB.out,M.Br.and_ok,HBR.out]at hbt;clear hk2 HC;cases br with
    |bad er i=>
     obtain rfl:e=gu er (atI N i):=hr;obtain rfl:=BD.out er i hbt;exact⟨rfl,K2.out,rfl⟩
    |ok fs2 l2=>
     obtain⟨rfl,hb2⟩:=hr;rw[<-M.V0b,Nat.add_assoc,<-Nat.mul_add,<-HNS.out]at hb2;have HB2:=A0 hb2;have HT2:=A0 hbt;clear hb2 hbt BT BD HBR;go_wp2_with fail
     all_goals go_roundw
     case rel=>exact⟨j+1,fs2,l1++l2,by omega,by go_num,HT2.out,HB2.out,K2.out⟩
     case measure=>simp[intOf];omega
  · have hje:j=ls.length:=by omega
    subst hje;have hr:RR= .ok fs1 l1:=by
     rw[<-HRR.out,<-HB.out,HPL.out,List.take_length]
    have hb:=HS.out;rw[HPL.out,List.take_length]at hb;have HB2:=A0 hb;subst hr;clear hb HS HB;go_wp2_with fail
    go_end0;exact⟨HK.out,rfl,HB2.out⟩
end
theorem T4a(w:World)(ls:List Int)(fa:Option Addr)(fc:Nat)(ho:w.ownsRow 0 3 1 (.slice fa ls.length fc) ls.length (B8 ls))(hn:ls.length<=100000):
 Calls prog 60 #[.slice fa ls.length fc] w λe w'=>∃ga gc,e= .returned (.slice ga ls.length gc)/\Chg No w w'/\w'.ownsRow w.heap.size 3 1 (.slice ga ls.length gc) ls.length (B8 ls):=by
 obtain⟨i0,hi,hz0,hz1,hz2⟩:=info_parts Tryz.infoInt;have q50:∀(w:World) (a:Option Addr) (n c n' c':Nat),(binOp .eql 43 (.slice a n c) (.slice none n' c')).run prog w= .ok (.bool a.isNone) w:=λw a n c n' c'=>Lib.run_eql_slice_nil w _ _ a n c n' c' underlying43;rcases ho.2 with ⟨hv,h0⟩|⟨g,cap,cur,hv,hb,hg,hn2,hm,hcs,htk⟩
 · have:ls=[]:=List.length_eq_zero_iff.1 h0;subst this;simp only[Value.slice.injEq]at hv;obtain⟨rfl,-,rfl⟩:=hv;go_enter func60,ntmps60;go_wp2;go_ret;exact⟨none,0,rfl,Chg.refl _ _,rfl,.inl ⟨rfl,rfl⟩⟩
 · simp only[Value.slice.injEq]at hv;obtain⟨rfl,-,rfl⟩:=hv;have hlt:=(ltG hg);have HO:Hid ((w.alloc (.cells #[] 3)).ownsRow w.heap.size 3 1 (.slice (some (aD w.heap.size 0)) 0 0) 0 []):=
    ⟨rfl,.inr ⟨w.heap.size,0,#[],rfl,vQ _,heap_alloc_new w _,vQ _,wQ _,rfl,rfl⟩⟩
   have HL:Hid ((B8 ls).length=ls.length * 1):=by simp[Hid,B8]
   have HN:Hid (∀j u,(B8 ls)[j]? =some u->(w.alloc (.cells #[] 3)).cell? (((aD g 0):Addr).add j)=some u):=by
    intro j u hj;have e:=ho.cells (g:=g) rfl j u hj;have hadd:((aD g 0):Addr).add j=(aD g j):=by unfold Addr.add;split<;>simp_all
    rw[hadd]at e⊢;exact F9 hlt e
   have H1:Hid (∀u∈B8 ls,u.oneCell'=true):=by
    intro u hu;simp only[B8,List.mem_map]at hu;obtain⟨x,-,rfl⟩:=hu;rfl
   clear ho htk hg;go_enter func60,ntmps60;go_wp2_with (at_builtin;refine wpList_append_own _ rfl _ _ 43 rfl w.heap.size 3 i0 (iV 0) 1 8 underlying43 hi hz0 hz1 hz2 rfl (by decide) _ 0 [] rfl HO.out (aD g 0) ls.length fc (B8 ls) rfl HL.out HN.out H1.out ?c3 ?c4 ?c5 ?_)
   case c3=>simp only[maxLen];omega
   case c4=>omega
   case c5=>simp
   intro v' w2 hown2 hg2 _;obtain⟨ad2,c2,rfl⟩:=B7 hown2;have HO2:=A0 hown2;have HC:Hid (Chg No w w2):=by
    refine((Chg.alloc (λk=>w.heap.size<=k) w _).trans (Chg.grown hg2) (λk hk x=> ?_)).mono (λk hk x=>by omega);have x':some k=some w.heap.size:=x;simp only[zQ]at x';omega
   clear hown2 hg2;go_wp2;go_ret;exact⟨ad2,c2,rfl,HC.out,by simpa using HO2.out⟩
def PaP(w:World)(ps:List Int)(e:Ending)(w':World):Prop:=∃ga gc,e= .returned (.slice ga ps.length gc)/\Chg No w w'/\w'.ownsRow w.heap.size 3 1 (.slice ga ps.length gc) ps.length (B8 ps)
theorem W8{w:World}{base:Nat}(hb:base<=w.heap.size)(ls:List Int)(hl:ls.length<=1000):(w.alloc (.cells (B8 ls).toArray 3)).ownsRow base 3 1 (.slice (some (aD w.heap.size 0)) ls.length ls.length) ls.length (B8 ls):=by
 have hil:(B8 ls).length=ls.length:=by simp[B8]
 exact⟨by rw[hil];omega,.inr ⟨w.heap.size,ls.length,(B8 ls).toArray,rfl,hb,heap_alloc_new w _,vQ _,by unfold maxLen;omega,by simp[hil],by simp;exact List.take_of_length_le (by omega)⟩⟩
section
variable(w:World)(va vb vc:Int)(ls:List Int)(la:Option Addr)(lc:Nat)(xs:ByteArray)(vn vt vp:Int)
theorem P4b(kd:Int)(hk:kd=1\/kd=2\/kd=3\/kd=4\/kd=5\/kd=16):Calls prog 29 #[.agg #[iV kd,iV va,iV vb,iV vc,.slice la ls.length lc,.string xs,iV vn,iV vt,iV vp]] w (PaP w []):=by
 rcases hk with rfl|rfl|rfl|rfl|rfl|rfl<;>
 · go_enter func29,ntmps29;go_wp2;go_ret;exact⟨none,0,rfl,Chg.alloc No _ _,rfl,.inl ⟨rfl,rfl⟩⟩
theorem P3b(kd:Int)(hk:kd=8\/kd=13\/kd=14\/kd=15\/kd=17\/kd=18\/kd=21\/kd=24\/kd=25):Calls prog 29 #[.agg #[iV kd,iV va,iV vb,iV vc,.slice la ls.length lc,.string xs,iV vn,iV vt,iV vp]] w (PaP w [va]):=by
 rcases hk with rfl|rfl|rfl|rfl|rfl|rfl|rfl|rfl|rfl<;>
 · have HR:=λa=>A0 (W8 (w:=w.alloc (.cells #[iV a,iV va,iV vb,iV vc,.slice la ls.length lc,.string xs,iV vn,iV vt,iV vp] 70)) (base:=w.heap.size) (by simp) [va] (by simp));go_enter func29,ntmps29;go_wp2;go_ret;exact⟨_,_,rfl,B9 (Chg.alloc No _ _) (Chg.alloc No _ _),by simpa[B8]using (HR _).out⟩
theorem S7a(kd:Int)(hk:kd=9\/kd=12\/kd=19\/kd=23\/kd=22/\vc= -1):Calls prog 29 #[.agg #[iV kd,iV va,iV vb,iV vc,.slice la ls.length lc,.string xs,iV vn,iV vt,iV vp]] w (PaP w [va,vb]):=by
 rcases hk with rfl|rfl|rfl|rfl|⟨rfl,rfl⟩<;>
 · have HR:=λa c=>A0 (W8 (w:=w.alloc (.cells #[iV a,iV va,iV vb,iV c,.slice la ls.length lc,.string xs,iV vn,iV vt,iV vp] 70)) (base:=w.heap.size) (by simp) [va,vb] (by simp));go_enter func29,ntmps29;go_wp2;go_ret;exact⟨_,_,rfl,B9 (Chg.alloc No _ _) (Chg.alloc No _ _),by simpa[B8]using (HR _ _).out⟩
theorem C2b(kd:Int)(hk:kd=20\/kd=22/\vc≠-1):Calls prog 29 #[.agg #[iV kd,iV va,iV vb,iV vc,.slice la ls.length lc,.string xs,iV vn,iV vt,iV vp]] w (PaP w [va,vb,vc]):=by
 rcases hk with rfl|⟨rfl,hc⟩
 · have HR:=A0 (W8 (w:=w.alloc (.cells #[iV 20,iV va,iV vb,iV vc,.slice la ls.length lc,.string xs,iV vn,iV vt,iV vp] 70)) (base:=w.heap.size) (by simp) [va,vb,vc] (by simp));go_enter func29,ntmps29;go_wp2;go_ret;exact⟨_,_,rfl,B9 (Chg.alloc No _ _) (Chg.alloc No _ _),by simpa[B8]using HR.out⟩
 · have HR:=A0 (W8 (w:=w.alloc (.cells #[iV 22,iV va,iV vb,iV vc,.slice la ls.length lc,.string xs,iV vn,iV vt,iV vp] 70)) (base:=w.heap.size) (by simp) [va,vb,vc] (by simp));have hc':(vc== -1)=false:=by simpa using hc
   go_enter func29,ntmps29;go_wp2;go_ret;exact⟨_,_,rfl,B9 (Chg.alloc No _ _) (Chg.alloc No _ _),by simpa[B8]using HR.out⟩
theorem P2b(kd:Int)(hk:kd=10\/kd=11\/kd=26)(ho:w.ownsRow 0 3 1 (.slice la ls.length lc) ls.length (B8 ls))(hn:ls.length<=100000):Calls prog 29 #[.agg #[iV kd,iV va,iV vb,iV vc,.slice la ls.length lc,.string xs,iV vn,iV vt,iV vp]] w (PaP w ls):=by
 rcases hk with rfl|rfl|rfl<;>
 · have HC:=λa=>A0 (T4a (w.alloc (.cells #[iV a,iV va,iV vb,iV vc,.slice la ls.length lc,.string xs,iV vn,iV vt,iV vp] 70)) ls la lc (A3 ho (Chg.alloc No _ _) (λ_ _ x=>x)) hn);go_enter func29,ntmps29;go_wp2_with fail
   refine(HC _).out.mono ?_;rintro e w2 ⟨ga,gc,rfl,hc,hr⟩;have HR:=A0 (C7 hr (by simp:w.heap.size<=_));have H2:=A0 (B9 (Chg.alloc No _ _) hc);clear hc hr HC;go_wp2;go_ret;exact⟨ga,gc,rfl,H2.out,HR.out⟩
end
theorem V4c(w:World)(o:Obj)(va:Int):((w.alloc o).alloc (.cells #[iV va] 3)).ownsRow w.heap.size 3 1 (.slice (some (aD (w.heap.size+1) 0)) 1 1) 1 [iV va]:=by
 have:=W8 (w:=w.alloc o) (base:=w.heap.size) (by simp) [va] (by simp);simpa[B8]using this
section
variable(w:World)(va vb vc:Int)(ls:List Int)(la:Option Addr)(lc:Nat)(xs:ByteArray)(vn vt vp:Int)
theorem J5c(ho:w.ownsRow 0 3 1 (.slice la ls.length lc) ls.length (B8 ls))(hn:ls.length<=100000):Calls prog 29 #[.agg #[iV 7,iV va,iV vb,iV vc,.slice la ls.length lc,.string xs,iV vn,iV vt,iV vp]] w (PaP w (va::ls)):=by
 obtain⟨i0,hi,hz0,hz1,hz2⟩:=info_parts Tryz.infoInt;have HR:Hid (((w.alloc (.cells #[iV 7,iV va,iV vb,iV vc,.slice la ls.length lc,.string xs,iV vn,iV vt,iV vp] 70)).alloc (.cells #[iV va] 3)).ownsRow w.heap.size 3 1 (.slice (some (aD (w.heap.size+1) 0)) 1 1) 1 [iV va]):=V4c w _ va;have HC2:=A0 (B9 (Chg.alloc No w (.cells #[iV 7,iV va,iV vb,iV vc,.slice la ls.length lc,.string xs,iV vn,iV vt,iV vp] 70)) (Chg.alloc No _ (.cells #[iV va] 3)));rcases ho.2 with ⟨hv,h0⟩|⟨g,cap,cur,hv,hb,hg,hn2,hm,hcs,htk⟩
 · have:ls=[]:=List.length_eq_zero_iff.1 h0;subst this;simp only[Value.slice.injEq]at hv;obtain⟨rfl,-,rfl⟩:=hv;go_enter func29,ntmps29;go_wp2_with (at_builtin;refine wpList_append_own_none rfl _ _ 43 rfl w.heap.size 3 i0 1 underlying43 hi _ _ _ rfl HR.out rfl ?_)
   go_wp2;go_ret;exact⟨_,_,rfl,HC2.out,HR.out⟩
 · simp only[Value.slice.injEq]at hv;obtain⟨rfl,-,rfl⟩:=hv;have HL:Hid ((B8 ls).length=ls.length * 1):=by simp[Hid,B8]
   have HN:Hid (∀j u,(B8 ls)[j]? =some u->((w.alloc (.cells #[iV 7,iV va,iV vb,iV vc,.slice (some (aD g 0)) ls.length lc,.string xs,iV vn,iV vt,iV vp] 70)).alloc (.cells #[iV va] 3)).cell? (((aD g 0):Addr).add j)=some u):=by
    intro j u hj;have e:=ho.cells (g:=g) rfl j u hj;exact A8 HC2.out e
   have H1:Hid (∀u∈B8 ls,u.oneCell'=true):=by
    intro u hu;simp only[B8,List.mem_map]at hu;obtain⟨x,-,rfl⟩:=hu;rfl
   clear ho htk hg;go_enter func29,ntmps29;go_wp2_with (at_builtin;refine wpList_append_own _ rfl _ _ 43 rfl w.heap.size 3 i0 (iV 0) 1 8 underlying43 hi hz0 hz1 hz2 rfl (by decide) _ 1 _ rfl HR.out (aD g 0) ls.length lc (B8 ls) rfl HL.out HN.out H1.out ?c3 ?c4 ?c5 ?_)
   case c3=>simp only[maxLen];omega
   case c4=>omega
   case c5=>simp;omega
   intro v' w2 hown2 hg2 _;have e3:1+ls.length=(va::ls).length:=by simp[Nat.add_comm]
   rw[e3]at hown2;replace hown2:w2.ownsRow w.heap.size 3 1 v' (va::ls).length (B8 (va::ls)):=hown2;obtain⟨ad2,c2,rfl⟩:=B7 hown2;have HO2:=A0 hown2;have HC:Hid (Chg No w w2):=by
    refine((HC2.out.mono (S':=λk=>w.heap.size<=k) (λ_ _ x=>x.elim)).trans (Chg.grown hg2) (λk hk x=>(A9 HR.out k x.symm).1)).mono (λk hk x=>by omega)
   clear hown2 hg2;go_wp2;go_ret;exact⟨ad2,c2,rfl,HC.out,HO2.out⟩
end
theorem V6b{w:World}{q:Nat}{x y z:Value}{t:TypeId}(h:w.heap[q]? =some (.cells #[x,y,z] t (0,0)))(v:Value):(w.setCell (aD q 1) v).heap[q]? =some (.cells #[x,v,z] t (0,0)):=by
 rw[heap_setCell_same w q 1 _ _ v h];rfl
theorem S9a{w:World}{b1 b2:Nat}{e1 e2:TypeId}{s1 s2:Nat}{v1 v2:Value}{n1 n2:Nat}{x1 x2:List Value}(h1:w.ownsRow b1 e1 s1 v1 n1 x1)(h2:w.ownsRow b2 e2 s2 v2 n2 x2)(he:e1≠e2){g:Nat}(hg:v1.ownBlock=some g):v2.ownBlock≠some g:=by
 intro hg2;obtain⟨_,c1,hh1⟩:=A9 h1 g hg;obtain⟨_,c2,hh2⟩:=A9 h2 g hg2;rw[hh1]at hh2;simp only[zQ,xW]at hh2;exact he hh2.2.1
theorem G8{w:World}{b:Nat}{e e2:TypeId}{s:Nat}{v:Value}{n:Nat}{x:List Value}(h1:w.ownsRow b e s v n x){q:Nat}{cs:Array Value}{fz:Nat×Nat}(h2:w.heap[q]? =some (.cells cs e2 fz))(he:e≠e2):v.ownBlock≠some q:=by
 intro hg;obtain⟨_,c1,hh1⟩:=A9 h1 q hg;rw[hh1]at h2;simp only[zQ,xW]at h2;exact he h2.2.1
section
variable{w w1 w2:World}{B bb m:Nat}{nv av av' tv:Value}{ms:List Nat}{fs:List M.Fr}{ts:List Int}
theorem Bsx.push(h:Bsx w B bb nv av tv ms m fs ts){q:Nat}(hq:w.heap.size<=q)(hB:B<=q)(hc1:Chg No w w1)(hf:FrM w1 q 0 M.Fr.no)(hc2:Chg (λk=>some k=av.ownBlock) w1 w2)(ho:w2.ownsRow B 153 1 av' (fs.length+1) ((ms.map λq=> .map (some q))++[.map (some q)])):
 Bsx (w2.setCell (aD bb 1) av') B bb nv av' tv (ms++[q]) m (fs++[M.Fr.no]) ts/\Bkp B bb tv w (w2.setCell (aD bb 1) av'):=by
 have h1:=h.still hc1;have nb:av.ownBlock≠some bb:=G8 h1.ar h1.blk (by decide);have nt:∀g,tv.ownBlock=some g->¬some g=av.ownBlock:=λg hg e=>S9a h1.tos h1.ar (by decide) hg e.symm;have nm:∀{x:Nat} {m:Nat} {f:M.Fr},FrM w1 x m f->¬some x=av.ownBlock:=λhx e=>by
  obtain⟨_,cur,hh⟩:=A9 h1.ar _ e.symm;exact hx.notcells hh
 have b2:w2.heap[bb]? =some (.cells #[nv,av,tv] 86 (0,0)):=by
  rw[hc2.block bb (ltG h1.blk) (λe=>nb e.symm)];exact h1.blk
 have t2:=A3 h1.tos hc2 nt;have b3:=V6b b2 av';have c3:Chg (λk=>k=bb) w2 (w2.setCell (aD bb 1) av'):=Chg.set w2 (aD bb 1) av';have hlen:=h.len;have f2:∀{x:Nat} {m:Nat} {f:M.Fr},FrM w1 x m f->FrM (w2.setCell (aD bb 1) av') x m f:=λhx=>by
  refine(hx.chg hc2 (nm hx)).chg c3 ?_;rintro rfl;exact(hx.chg hc2 (nm hx)).notcells b2
 have old:∀x∈ms,x<w.heap.size:=λx hx=>by
  obtain⟨i,hi,rfl⟩:=List.getElem_of_mem hx;exact(h.fr i hi (by omega)).lt
 refine⟨⟨h.low,b3, ?_,A3 t2 c3 ?_, ?_, ?_, ?_, ?_⟩, ?_⟩
 · have:=A3 ho c3 (λg hg e=>G8 ho b2 (by decide) (e ▸ hg));simpa using this
 · rintro g hg rfl;exact G8 t2 b2 (by decide) hg
 · simp[hlen]
 · rw[List.nodup_append];refine⟨h.nd,by simp,λa ha b hb=> ?_⟩;simp only[zW]at hb;have:=old a ha;omega
 · intro x hx;rcases qW.1 hx with hx|hx
   · exact h.ge x hx
   · simp only[zW]at hx;omega
 · intro i a b;by_cases hi:i<ms.length
   · rw[List.getElem_append_left hi,List.getElem_append_left (by omega)];exact f2 ((h.fr i hi (by omega)).chg hc1 id)
   · have e1:i=ms.length:=by simp at a;omega
     subst e1;rw[List.getElem_append_right (vQ _),List.getElem_append_right (by omega)];simp only[Nat.sub_self,List.getElem_cons_zero,hlen];exact(f2 hf).more (wQ _)
 · refine Chg.trans (Chg.trans (hc1.mono λ_ _ x=>x.elim) hc2 λk _ e=> ?_) c3 λk _ e=>⟨e ▸ h.low,.inl e⟩;obtain⟨g1,cur,g2⟩:=A9 h.ar k e.symm;exact⟨g1,.inr (.inr (.inl ⟨cur,_,g2⟩))⟩
theorem Bsx.popd(h:Bsx w B bb nv av tv ms m fs ts)(hfs:fs≠[]):∃g c,av= .slice (some (aD g 0)) fs.length c/\fs.length<=c/\c<=maxLen/\g<w.heap.size/\Bsx (w.setCell (aD bb 1) (.slice (some (aD g 0)) (fs.length - 1) c)) B bb nv (.slice (some (aD g 0)) (fs.length - 1) c) tv ms.dropLast m fs.dropLast ts/\Bkp B bb tv w (w.setCell (aD bb 1) (.slice (some (aD g 0)) (fs.length - 1) c)):=by
 have hpos:0<fs.length:=List.length_pos_iff.2 hfs;have hlen:=h.len;rcases h.ar.2 with ⟨_,h0⟩|⟨g,cap,cur,rfl,hb,hg,hn,hm,hcs,htk⟩
 · omega
 · have b3:=V6b h.blk (.slice (some (aD g 0)) (fs.length - 1) cap);have c3:Chg (λk=>k=bb) w (w.setCell (aD bb 1) (.slice (some (aD g 0)) (fs.length - 1) cap)):=Chg.set w (aD bb 1) _;have hdl:fs.dropLast.length=fs.length - 1:=List.length_dropLast;have hml:ms.dropLast.length=fs.length - 1:=by rw[List.length_dropLast,hlen]
   have ho:w.ownsRow B 153 1 (.slice (some (aD g 0)) (fs.length - 1) cap) (fs.length - 1) (ms.dropLast.map λq=> .map (some q)):=by
    refine⟨by rw[List.length_map,hml,Nat.mul_one],.inr ⟨g,cap,cur,rfl,hb,hg,by omega,hm,hcs, ?_⟩⟩;rw[Nat.mul_one]at htk⊢;have:(cur.toList.take fs.length).take (fs.length - 1)=(ms.map λq=>Value.map (some q)).take (fs.length - 1):=by rw[htk]
    rw[List.take_take,Nat.min_eq_left (by omega)]at this;rw[this,List.dropLast_eq_take,hlen,List.map_take]
   refine⟨g,cap,rfl,hn,hm,(ltG hg),⟨h.low,b3, ?_,A3 h.tos c3 ?_, ?_, ?_, ?_, ?_⟩,c3.mono λk _ e=>⟨e ▸ h.low,.inl e⟩⟩
   · rw[hdl];exact A3 ho c3 (λg hg e=>G8 ho h.blk (by decide) (e ▸ hg))
   · rintro g hg rfl;exact G8 h.tos h.blk (by decide) hg
   · omega
   · exact h.nd.sublist (List.dropLast_sublist _)
   · exact λx hx=>h.ge x ((List.dropLast_sublist _).subset hx)
   · intro i a b;rw[List.getElem_dropLast,List.getElem_dropLast];have hf:=h.fr i (by omega) (by omega);refine hf.chg c3 ?_;rintro e;exact hf.notcells (e ▸ h.blk)
end
theorem Y0c:(prog.info? 153).map (λi=>(i.zero,i.size,i.bytes))=some (some (.map none),1,8):=by kernel_rfl
section
variable{w0 w:World}{B bb m:Nat}{nv tv:Value}{fs:List M.Fr}{ts:List Int}{N:List M.Nd}
theorem X2b(kf:Nat)(cf:∀(args:Array Value) (W:World),(callFunc kf args).run prog W= .ok (.enter kf args) W)(h:Bnt w0 w B bb nv tv m fs ts)(hfl:fs.length<=100000)(m':Nat)(r:M.Br)(hr:∀f l,r= .ok f l->f≠[]/\f.length<=100001)(c1 c2:Value)(HD:∀a,Bkp B bb tv w a->Bnt w0 a B bb nv tv m (fs++[M.Fr.no]) ts->Calls prog kf #[c1,c2] a (BnPost w0 a B bb nv tv N m' ts r)):
 Calls prog 129 #[pV bb,.func (.func kf) #[] #[c1,c2]] w (BnPost w0 w B bb nv tv N m' ts r.pop):=by
 obtain⟨i0,hi,hz0,hz1,hz2⟩:=info_parts Y0c;have hmm:=@run_makeMap prog;obtain⟨av,ms,hs⟩:=h.st;have hlen:=hs.len;have hB:=h.le;have lb:bb<w.heap.size:=(ltG hs.blk);have b1:w.cell? (aD bb 1)=some av:=cr hs.blk rfl;have hca:Chg No w ((w.alloc (.map #[] 0)).alloc (.cells #[.map (some w.heap.size)] 153)):=B9 (Chg.alloc No _ _) (Chg.alloc No _ _);have HO:=A0 (hs.still hca).ar;have HF:Hid (FrM ((w.alloc (.map #[] 0)).alloc (.cells #[.map (some w.heap.size)] 153)) w.heap.size 0 M.Fr.no):=(FrM.new w).chg (Chg.alloc No _ _) id;have HCA:=A0 hca;have HS:=A0 hs;have HH:=A0 h;have HR:=A0 hr;have HDD:=A0 HD;obtain⟨aa,ac,rfl⟩:=B7 hs.ar;have hml:(ms.map λq=>Value.map (some q)).length=fs.length:=by simp[hlen]
 clear h hs hca hr HD;go_enter func129,ntmps129;go_wp2_with (at_builtin;refine wpList_append_own _ rfl _ _ 84 rfl B 153 i0 (.map none) 1 8 underlying84 hi hz0 hz1 hz2 rfl (by decide) _ fs.length _ rfl HO.out (aD (w.heap.size+1) 0) 1 1 [.map (some w.heap.size)] rfl rfl ?c1 ?c2 ?c3 ?c4 ?c5 ?_)
 case c1=>
  have:=cell_one_new (w.alloc (.map #[] 0)) (.map (some w.heap.size)) 153;simpa using this
 case c2=>intro u hu;simp at hu;rcases hu with rfl;rfl
 case c3=>simp only[maxLen];omega
 case c4=>omega
 case c5=>simp;omega
 intro v' w2 hown2 hg2 _;obtain⟨hs2,hk2⟩:=HS.out.push (vQ _) hB HCA.out HF.out (Chg.grown hg2) hown2;have l2:bb<w2.heap.size:=yQ lb (kQ HCA.out.size (Chg.grown hg2).size);have b2:w2.heap[bb]? =some (.cells #[nv,.slice aa fs.length ac,tv] 86 (0,0)):=by
  rw[(Chg.grown hg2).block bb (yQ lb HCA.out.size) (λe=>G8 HO.out (by rw[HCA.out.block bb lb id];exact HS.out.blk) (by decide) e.symm),HCA.out.block bb lb id];exact HS.out.blk
 have c2x:w2.cell? (aD bb 1)=some (.slice aa fs.length ac):=cr b2 rfl;have z2:∀o,w2.frozen? (aD bb o)=false:=λo=>frozen_of_row w2 bb o _ _ b2;obtain⟨ad2,ac2,rfl⟩:=B7 hown2;have HB2:Hid (Bnt w0 (w2.setCell (aD bb 1) (.slice ad2 (fs.length+1) ac2)) B bb nv tv m (fs++[M.Fr.no]) ts):=⟨HH.out.hz,kQ hB hk2.size,HH.out.bel.trans ((hk2.below hB).mono HH.out.hz),_,_,hs2⟩;have HC:=A0 (HDD.out _ hk2 HB2.out);have K2:=A0 hk2;clear hs2 hk2 hown2 hg2 HDD HB2 HO HF HCA HS b2;go_wp2_with fail
 refine HC.out.mono ?_;clear HC;rintro e w3 ⟨hk3,h3⟩;have K3:=A0 (K2.out.trans hk3);clear hk3 K2;cases r with
 |bad er i=>
  obtain rfl:e=gu er (atI N i):=h3;exact⟨rfl,K3.out,rfl⟩
 |ok f l=>
  obtain⟨rfl,hb3⟩:=h3;obtain⟨hne,hfl2⟩:=HR.out f l rfl;obtain⟨av3,ms3,hs3⟩:=hb3.st;obtain⟨g,c,rfl,hc1,hc2,hg,hp,hkp⟩:=hs3.popd hne;unfold maxLen at hc2;have hfp:0<f.length:=List.length_pos_iff.2 hne;have l3:bb<w3.heap.size:=(ltG hs3.blk);have c3x:w3.cell? (aD bb 1)=some (.slice (some (aD g 0)) f.length c):=cr hs3.blk rfl;have z3:∀o,w3.frozen? (aD bb o)=false:=λo=>frozen_of_row w3 bb o _ _ hs3.blk;have HP:=A0 hp;have HB3:=A0 hb3;have HKP:=A0 hkp;clear hp hb3 hkp hs3;go_wp2_with fail
  go_region
  all_goals go_end0
  all_goals
   have hk4:=K3.out.trans HKP.out;have hb4:Bnt w0 (w3.setCell (aD bb 1) (.slice (some (aD g 0)) (f.length - 1) c)) B bb nv tv m' f.dropLast (M.upd ts l):=⟨HH.out.hz,kQ hB hk4.size,HH.out.bel.trans ((hk4.below hB).mono HH.out.hz),_,_,HP.out⟩;exact⟨hk4.trans (Bkp.still (Chg.drewN No _ 1)),rfl,hb4.kept (Chg.drewN No _ 1)⟩
end
theorem M.EmL.butty{N:List M.Nd}{o:Option M.Tr}:∀{qs:List M.Nt} {b tb:Nat},M.EmL N b tb (qs++[.ty o])->M.EmL N b tb qs:=by
 intro qs b tb ⟨A,B,h,hA⟩;refine⟨A,B, ?_,hA⟩;rw[h];have:∀(qs:List M.Nt) (b tb:Nat),M.M8 b tb (qs++[.ty o])=M.M8 b tb qs:=by
  intro qs;induction qs with
  |nil=>intro b tb;simp[M.M8,M.emN]
  |cons p r ih=>intro b tb;simp[M.M8,ih]
 rw[this]
theorem M.bnL_butty{o:Option M.Tr}:∀(qs:List M.Nt) (fn:Bool) (fs:List M.Fr) (b:Nat),M.bnL fn fs b (qs++[.ty o])=M.bnL fn fs b qs
 |[],fn,fs,b=>by simp[M.bnL]
 | .ty _::r,fn,fs,b=>by rw[List.cons_append,M.bnL,M.bnL,M.bnL_butty r]
 | .nd k tx n ps::r,fn,fs,b=>by rw[List.cons_append,M.bnL,M.bnL];simp only[M.bnL_butty r]
theorem M.k_ty{p:M.Nt}(h:p.k= -1)(hg:M.Gd p):p= .ty none:=by
 cases p with
 |ty t=>cases t with
  |none=>rfl
  |some t=>simp[M.Nt.k]at h
 |nd k tx n ps=> 
  exfalso;rw[M.Gd]at hg;have h1:=hg.1;simp only[M.Nt.k]at h;subst h;simp[M.shp]at h1
def nvl(n:M.Nd)(la:Option Addr)(lc:Nat):Value:= .agg #[iV n.kind,iV n.a,iV n.b,iV n.c,.slice la n.list.length lc,.string ⟨n.text.toArray⟩,iV n.n,iV n.ty,iV n.at']
structure E7c(N:List M.Nd)(b tb:Nat)(ps:List M.Nt)(nd:M.Nd)(qs:List M.Nt):Prop where
 k:∀p∈qs,1<=p.k/\p∈ps
 em:M.EmL N b tb qs
 bn:∀fs,M.bnL false fs b ps=M.bnL false fs b qs
 n:M.nNL qs=M.nNL ps
 run:∀(w:World) (la:Option Addr) (lc:Nat),w.ownsRow 0 3 1 (.slice la nd.list.length lc) nd.list.length (B8 nd.list)->nd.list.length<=100000->Calls prog 29 #[nvl nd la lc] w (PaP w (M.px b qs))
theorem J4c{k:Int}{tx:List UInt8}{n:Int}{ps:List M.Nt}(hg:M.Gd (.nd k tx n ps))(hk:k≠6/\k≠17/\k≠26){N:List M.Nd}{b tb:Nat}(he:M.EmL N b tb ps)(nd:M.Nd)(hn:nd.fl=M.mkN k tx n (M.ixL b tb ps)):∃qs,E7c N b tb ps nd qs:=by
 rw[M.Gd]at hg;obtain⟨hs,hgl⟩:=hg;obtain⟨kd,va,vb,vc,ls,txt,vn,vt,vp⟩:=nd;have hall:∀p∈ps,M.Gd p:=λp hp=>M.Y7 hgl hp;unfold M.shp at hs;by_cases h0:k=1\/k=2\/k=3\/k=4\/k=5
 · rw[if_pos h0]at hs;have h:=h0;clear h0;have:ps=[]:=by simpa using hs
   subst this;rcases h with rfl|rfl|rfl|rfl|rfl<;>
   · simp[M.Nd.fl,M.mkN,M.ixL]at hn;obtain⟨rfl,rfl,rfl,rfl,rfl,-⟩:=hn;exact⟨[],by simp,he,λ_=>rfl,rfl,λw la lc _ _=>P4b w _ _ _ [] la lc _ _ _ _ _ (by simp)⟩
 rw[if_neg h0]at hs;by_cases h1:k=6
 · omega
 rw[if_neg h1]at hs;by_cases h2:k=7
 · rw[if_pos h2]at hs;have h:=h2;clear h2;subst h;obtain⟨x,xs,h1,h2,h3⟩:=hs;have hk1:∀p∈ps,1<=p.k:=λp hp=>by
    have:p.k∈ps.map M.Nt.k:=List.mem_map.2 ⟨p,hp,rfl⟩;rw[h1]at this;rcases jW.1 this with e|e
    · rw[e];exact h2.1
    · exact(h3 _ e).1
   rw[M.S6 b tb ps hk1]at hn;simp[M.Nd.fl,M.mkN]at hn;obtain⟨rfl,h4,rfl,rfl,h5,-⟩:=hn;have hpx:M.px b ps=va::ls:=by
    have hl:=M.B6a ps b hk1;have hl2:=congrArg List.length h1;simp at hl2;revert h4 h5 hl;cases M.px b ps with
    |nil=>simp;omega
    |cons y ys=>simp;rintro rfl rfl _;exact⟨rfl,rfl⟩
   exact⟨ps,λp hp=>⟨hk1 p hp,hp⟩,he,λ_=>rfl,rfl,λw la lc ho hl=>by rw[hpx];exact J5c w va 0 0 ls la lc _ _ _ _ ho hl⟩
 rw[if_neg h2]at hs;by_cases h3:k=8\/k=13\/k=15\/k=18\/k=21\/k=24\/k=25
 · rw[if_pos h3]at hs;have h:=h3;clear h3;obtain⟨x,h1,h2⟩:=hs;obtain⟨p,rfl,h3⟩:=M.k1 h1;have hk1:∀q∈[p],1<=q.k:=by simp[h3];exact h2.1
   rw[M.S6 b tb _ hk1]at hn;have hl:=M.B6a [p] b hk1;match hpx:M.px b [p],hl with
   |[y],_=>
    rw[hpx]at hn;rcases h with rfl|rfl|rfl|rfl|rfl|rfl|rfl<;>
    · simp[M.Nd.fl,M.mkN]at hn;obtain⟨rfl,rfl,rfl,rfl,rfl,-⟩:=hn;exact⟨[p],λq hq=>⟨hk1 q hq,hq⟩,he,λ_=>rfl,rfl,λw la lc _ _=>by rw[hpx];exact P3b w _ _ _ [] la lc _ _ _ _ _ (by simp)⟩
 rw[if_neg h3]at hs;by_cases h4:k=9\/k=12\/k=19
 · rw[if_pos h4]at hs;have h:=h4;clear h4;obtain⟨x,y,h1,h2,h4⟩:=hs;obtain⟨p,q,rfl,h3,h5⟩:=M.k2 h1;have hk1:∀q'∈[p,q],1<=q'.k:=by simp[h3,h5];exact⟨h2.1,h4.1⟩
   rw[M.S6 b tb _ hk1]at hn;have hl:=M.B6a [p,q] b hk1;match hpx:M.px b [p,q],hl with
   |[y,z],_=>
    rw[hpx]at hn;rcases h with rfl|rfl|rfl<;>
    · simp[M.Nd.fl,M.mkN]at hn;obtain⟨rfl,rfl,rfl,rfl,rfl,-⟩:=hn;exact⟨[p,q],λq hq=>⟨hk1 q hq,hq⟩,he,λ_=>rfl,rfl,λw la lc _ _=>by rw[hpx];exact S7a w _ _ _ [] la lc _ _ _ _ _ (by simp)⟩
 rw[if_neg h4]at hs;by_cases h5:k=10
 · rw[if_pos h5]at hs;have h:=h5;clear h5;subst h;have hk1:∀q∈ps,1<=q.k:=λp hp=>by
    have:=hs _ (List.mem_map.2 ⟨p,hp,rfl⟩);omega
   rw[M.S6 b tb _ hk1]at hn;simp[M.Nd.fl,M.mkN]at hn;obtain⟨rfl,rfl,rfl,rfl,rfl,-⟩:=hn;exact⟨ps,λq hq=>⟨hk1 q hq,hq⟩,he,λ_=>rfl,rfl,λw la lc ho hl=>P2b w _ _ _ _ la lc _ _ _ _ _ (by simp) ho hl⟩
 rw[if_neg h5]at hs;by_cases h6:k=11
 · rw[if_pos h6]at hs;have h:=h6;clear h6;subst h;have hk1:∀q∈ps,1<=q.k:=λp hp=>(hs _ (List.mem_map.2 ⟨p,hp,rfl⟩)).1;rw[M.S6 b tb _ hk1]at hn;simp[M.Nd.fl,M.mkN]at hn;obtain⟨rfl,rfl,rfl,rfl,rfl,-⟩:=hn;exact⟨ps,λq hq=>⟨hk1 q hq,hq⟩,he,λ_=>rfl,rfl,λw la lc ho hl=>P2b w _ _ _ _ la lc _ _ _ _ _ (by simp) ho hl⟩
 rw[if_neg h6]at hs;by_cases h7:k=14
 · rw[if_pos h7]at hs;have h:=h7;clear h7;subst h;obtain⟨x,h1,h2⟩:=hs;obtain⟨p,q,rfl,h3,h5⟩:=M.k2 h1;obtain⟨t,rfl⟩:=M.N1a (hall q (by simp)) (.inr h5);have hk1:∀q∈[p],1<=q.k:=by simp[h3];exact h2.1
   have hix:M.ixL b tb [p,.ty t]=M.px b [p]++[M.ixN (b+M.nN p) (tb+M.nT p) (.ty t)]:=by
    rw[<-M.S6 b tb _ hk1];simp[M.ixL]
   rw[hix]at hn;have hl:=M.B6a [p] b hk1;match hpx:M.px b [p],hl with
   |[y],_=>
    rw[hpx]at hn;simp[M.Nd.fl,M.mkN]at hn;obtain⟨rfl,rfl,rfl,rfl,rfl,-⟩:=hn;exact⟨[p],λq hq=>⟨hk1 q hq,by simp at hq;simp[hq]⟩,M.EmL.butty (qs:=[p]) he,λ_=>M.bnL_butty [p] _ _ _,by simp[M.nNL,M.nN],λw la lc _ _=>by rw[hpx];exact P3b w _ _ _ [] la lc _ _ _ _ _ (by simp)⟩
 rw[if_neg h7]at hs;by_cases h8:k=16
 · rw[if_pos h8]at hs;have h:=h8;clear h8;subst h;obtain⟨x,h1,h2⟩:=hs;obtain⟨p,rfl,h3⟩:=M.k1 h1;obtain⟨t,rfl⟩:=M.N1a (hall p (by simp)) (h3 ▸ h2);simp[M.Nd.fl,M.mkN]at hn;obtain⟨rfl,rfl,rfl,rfl,rfl,-⟩:=hn;exact⟨[],by simp,M.EmL.butty (qs:=[]) he,λ_=>M.bnL_butty [] _ _ _,by simp[M.nNL,M.nN],λw la lc _ _=>P4b w _ _ _ [] la lc _ _ _ _ _ (by simp)⟩
 rw[if_neg h8]at hs;by_cases h9:k=17
 · omega
 rw[if_neg h9]at hs;by_cases h10:k=20
 · rw[if_pos h10]at hs;have h:=h10;clear h10;subst h;obtain⟨x,y,z,h1,h2,h4,h6⟩:=hs;obtain⟨p,q,r,rfl,h3,h5,h7⟩:=M.k3 h1;have hk1:∀q'∈[p,q,r],1<=q'.k:=by simp[h3,h5,h7];exact⟨h2.1,h4.1,h6.1⟩
   rw[M.S6 b tb _ hk1]at hn;have hl:=M.B6a [p,q,r] b hk1;match hpx:M.px b [p,q,r],hl with
   |[y,z,u],_=>
    rw[hpx]at hn;simp[M.Nd.fl,M.mkN]at hn;obtain⟨rfl,rfl,rfl,rfl,rfl,-⟩:=hn;exact⟨[p,q,r],λq hq=>⟨hk1 q hq,hq⟩,he,λ_=>rfl,rfl,λw la lc _ _=>by rw[hpx];exact C2b w _ _ _ [] la lc _ _ _ _ _ (by simp)⟩
 rw[if_neg h10]at hs;by_cases h11:k=22
 · rw[if_pos h11]at hs;have h:=h11;clear h11;subst h;obtain⟨x,z,h1,h2,h4⟩:=hs;obtain⟨p,q,r,rfl,h3,h5,h7⟩:=M.k3 h1;rcases h4 with rfl|rfl
   · have hk1:∀q'∈[p,q,r],1<=q'.k:=by simp[h3,h5,h7];exact h2.1
     have hr:∃j:Nat,M.px b [p,q,r]=[M.ixN b tb p,M.ixN (b+M.nN p) (tb+M.nT p) q,(j:Int)]:=by
      rw[<-M.S6 b tb _ hk1];cases r with
      |ty o=>cases o<;>simp[M.Nt.k]at h7
      |nd k' t' n' ps'=>exact⟨b+M.nN p+M.nN q+M.nNL ps',by simp only[M.ixL,M.Em.ix]⟩
     obtain⟨j,hpx⟩:=hr;rw[M.S6 b tb _ hk1,hpx]at hn;simp[M.Nd.fl,M.mkN]at hn;obtain⟨rfl,rfl,rfl,rfl,rfl,-⟩:=hn;exact⟨[p,q,r],λq hq=>⟨hk1 q hq,hq⟩,he,λ_=>rfl,rfl,λw la lc _ _=>by rw[hpx];exact C2b w _ _ _ [] la lc _ _ _ _ _ (.inr ⟨rfl,show (j:Int)≠-1 by omega⟩)⟩
   · obtain rfl:=M.k_ty h7 (hall r (by simp));have hk1:∀q'∈[p,q],1<=q'.k:=by simp[h3,h5];exact h2.1
     have hix:M.ixL b tb [p,q,.ty none]=M.px b [p,q]++[-1]:=by
      rw[<-M.S6 b tb _ hk1];simp[M.ixL,M.ixN]
     rw[hix]at hn;have hl:=M.B6a [p,q] b hk1;match hpx:M.px b [p,q],hl with
     |[y,z],_=>
      rw[hpx]at hn;simp[M.Nd.fl,M.mkN]at hn;obtain⟨rfl,rfl,rfl,rfl,rfl,-⟩:=hn;exact⟨[p,q],λq' hq=>⟨hk1 q' hq,by simp at hq;rcases hq with rfl|rfl<;>simp⟩,M.EmL.butty (qs:=[p,q]) he,λ_=>M.bnL_butty [p,q] _ _ _,by simp[M.nNL,M.nN],λw la lc _ _=>by rw[hpx];exact S7a w _ _ _ [] la lc _ _ _ _ _ (by simp)⟩
 rw[if_neg h11]at hs;by_cases h12:k=23
 · rw[if_pos h12]at hs;have h:=h12;clear h12;subst h;obtain⟨x,h1,h2⟩:=hs;obtain⟨p,q,rfl,h3,h5⟩:=M.k2 h1;have hk1:∀q'∈[p,q],1<=q'.k:=by simp[h3,h5];exact h2.1
   rw[M.S6 b tb _ hk1]at hn;have hl:=M.B6a [p,q] b hk1;match hpx:M.px b [p,q],hl with
   |[y,z],_=>
    rw[hpx]at hn;simp[M.Nd.fl,M.mkN]at hn;obtain⟨rfl,rfl,rfl,rfl,rfl,-⟩:=hn;exact⟨[p,q],λq hq=>⟨hk1 q hq,hq⟩,he,λ_=>rfl,rfl,λw la lc _ _=>by rw[hpx];exact S7a w _ _ _ [] la lc _ _ _ _ _ (by simp)⟩
 rw[if_neg h12]at hs;by_cases h13:k=26
 · omega
 rw[if_neg h13]at hs;exact hs.elim
def Nrow(w:World)(nv:Value)(N:List M.Nd):Prop:=∃nx,w.ownsRow 0 70 9 nv N.length nx/\Rws (NdV w (λ_=>True)) N nx
theorem Nrow.at{w0 w:World}{nv:Value}{N:List M.Nd}(h:Nrow w0 nv N)(hb:Below w0.heap.size w0 w)(i:Nat)(hi:i<N.length):
 ∃g nc la lc,nv= .slice (some (aD g 0)) N.length nc/\g<w.heap.size/\N.length<=nc/\nc<=maxLen/\(w.cell? (aD g (i * 9))=some (iV N[i].kind)/\w.cell? (aD g (i * 9+1))=some (iV N[i].a)/\w.cell? (aD g (i * 9+2))=some (iV N[i].b)/\w.cell? (aD g (i * 9+3))=some (iV N[i].c)/\
  w.cell? (aD g (i * 9+4))=some (.slice la N[i].list.length lc)/\w.cell? (aD g (i * 9+5))=some (.string ⟨N[i].text.toArray⟩)/\w.cell? (aD g (i * 9+6))=some (iV N[i].n)/\w.cell? (aD g (i * 9+7))=some (iV N[i].ty)/\w.cell? (aD g (i * 9+8))=some (iV N[i].at'))/\
  w.ownsRow 0 3 1 (.slice la N[i].list.length lc) N[i].list.length (B8 N[i].list)/\∀q,(Value.slice la N[i].list.length lc).ownBlock=some q->q<w0.heap.size:=by
 obtain⟨nx,hn,hr⟩:=h;obtain⟨na,nc,rfl⟩:=B7 hn;obtain⟨g,rfl,_,hg,hc1,hc2,hcell⟩:=D8 hn (by omega);obtain⟨xs,ht,hx⟩:=Rws.at (z:=9) (λ_ _ h=>h.len) i hi hr;obtain⟨lv,rfl,ho2,_⟩:=ht;obtain⟨la,lc,rfl⟩:=B7 ho2;have hcl:∀j v,w0.cell? (aD g j)=some v->w.cell? (aD g j)=some v:=λj v e=>by
  have:=hb.block g hg;unfold World.cell? at *;simp only at *;rw[this];exact e
 have hc:Chg (λk=>w0.heap.size<=k) w0 w:=⟨hb.os,hb.tape,hb.output,hb.size,λk hk _=>hb.block k hk⟩;refine⟨g,nc,la,lc,rfl,yQ hg hb.size,hc1,hc2,⟨hcl _ _ (hcell _ _ ?_),hcl _ _ (hcell _ _ ?_),hcl _ _ (hcell _ _ ?_),hcl _ _ (hcell _ _ ?_),hcl _ _ (hcell _ _ ?_),hcl _ _ (hcell _ _ ?_),hcl _ _ (hcell _ _ ?_),hcl _ _ (hcell _ _ ?_),hcl _ _ (hcell _ _ ?_)⟩,A3 ho2 hc (λq hq=>by have:=(ho2.lt q hq).2;omega),λq hq=>(ho2.lt q hq).2⟩
 · have:=hx 0 (by omega);simpa using this
 · have:=hx 1 (by omega);simpa using this
 · have:=hx 2 (by omega);simpa using this
 · have:=hx 3 (by omega);simpa using this
 · have:=hx 4 (by omega);simpa using this
 · have:=hx 5 (by omega);simpa using this
 · have:=hx 6 (by omega);simpa using this
 · have:=hx 7 (by omega);simpa using this
 · have:=hx 8 (by omega);simpa using this
theorem Bkp.other{B bb:Nat}{tv:Value}{w w':World}(hc:Bkp B bb tv w w'){q:Nat}{cs:Array Value}{e:TypeId}(h:w.heap[q]? =some (.cells cs e (0,0)))(he:e≠153)(hb:q≠bb)(ht:tv.ownBlock≠some q):w'.heap[q]? =some (.cells cs e (0,0)):=by
 rw[hc.block q (ltG h) (λx=> ?_)]
 · exact h
 rcases x.2 with hx|hx|⟨cs',fz,h2⟩|⟨es,cl,h2⟩
 · exact hb hx
 · exact ht hx
 · rw[h]at h2;simp only[zQ,xW]at h2;exact he h2.2.1
 · rw[h]at h2;simp at h2
theorem Bnt.tv{w0 w:World}{B bb m:Nat}{nv tv:Value}{fs:List M.Fr}{ts:List Int}(h:Bnt w0 w B bb nv tv m fs ts){q:Nat}{cs:Array Value}{e:TypeId}{fz:Nat×Nat}(hq:w.heap[q]? =some (.cells cs e fz))(he:e≠3/\e≠86):q≠bb/\tv.ownBlock≠some q:=by
 obtain⟨av,ms,hs⟩:=h.st;refine⟨?_,G8 hs.tos hq (Ne.symm he.1)⟩;rintro rfl;rw[hs.blk]at hq;simp only[zQ,xW]at hq;exact he.2 hq.2.1.symm
theorem Bnt.low{w0 w:World}{B bb m:Nat}{nv tv:Value}{fs:List M.Fr}{ts:List Int}(h:Bnt w0 w B bb nv tv m fs ts):B<=bb/\∀q,tv.ownBlock=some q->B<=q:=by
 obtain⟨av,ms,hs⟩:=h.st;exact⟨hs.low,λq hq=>(hs.tos.lt q hq).1⟩
section
variable{w0:World}{B bb:Nat}{nv tv:Value}{N:List M.Nd}
theorem L5a(ps:List M.Nt)(hps:∀p∈ps,1<=p.k/\U6 w0 B bb nv tv N p)(b tb:Nat)(w:World)(m:Nat)(fs:List M.Fr)(ts:List Int)(he:M.EmL N b tb ps)(h:Bnt w0 w B bb nv tv m fs ts)(hfs:fs≠[])(hm:m+2 * M.nNL ps<=100000)(hf:fs.length+M.nNL ps<=100000)(hts:ts.length=N.length)
 (la:Option Addr) (lc:Nat) (ls:List Int) (hls:ls=M.px b ps) (ho:w.ownsRow 0 3 1 (.slice la ls.length lc) ls.length (B8 ls)) (hlow:∀q,(Value.slice la ls.length lc).ownBlock=some q->q<w0.heap.size\/B<=q/\q≠bb/\tv.ownBlock≠some q):
 Calls prog 66 #[pV bb,.slice la ls.length lc] w (BnPost w0 w B bb nv tv N (m+2 * M.nNL ps) ts (M.bnL false fs b ps)):=by
 subst hls;have hl:=M.B6a ps b (λp hp=>(hps p hp).1);obtain⟨l1,l2⟩:=h.low;have hz:=h.hz;rw[hl]at ho hlow⊢;refine B1d ps hps b tb w m fs ts he h hfs hm hf hts la lc ho (λe=> ?_) (λg hg e=> ?_)
 · rcases hlow bb e with x|x
   · omega
   · exact x.2.1 rfl
 · rcases hlow g hg with x|x
   · have:=l2 g e;omega
   · exact x.2.2 e
theorem B2c(ps:List M.Nt)(hps:∀p∈ps,1<=p.k/\U6 w0 B bb nv tv N p)(b tb:Nat)(w:World)(m:Nat)(fs:List M.Fr)(ts:List Int)(he:M.EmL N b tb ps)(h:Bnt w0 w B bb nv tv m fs ts)(hfs:fs≠[])(hm:m+2 * M.nNL ps<=100000)(hf:fs.length+M.nNL ps<=100000)(hts:ts.length=N.length)
 (la:Option Addr) (lc:Nat) (ls:List Int) (hls:ls=M.px b ps) (ho:w.ownsRow 0 3 1 (.slice la ls.length lc) ls.length (B8 ls)) (hlow:∀q,(Value.slice la ls.length lc).ownBlock=some q->q<w0.heap.size)
 (qb qn:Nat) (hqb:w.heap[qb]? =some (.cells #[pV bb] 81 (0,0))) (kd va vb vc:Int) (xs:ByteArray) (vn vt vp:Int) (hqn:w.heap[qn]? =some (.cells #[iV kd,iV va,iV vb,iV vc,.slice la ls.length lc,.string xs,iV vn,iV vt,iV vp] 70 (0,0))):
 Calls prog 130 #[pV qb,pV qn] w (BnPost w0 w B bb nv tv N (m+2 * M.nNL ps) ts (M.bnL false fs b ps)):=by
 have HA:=A0 (L5a ps hps b tb w m fs ts he h hfs hm hf hts la lc ls hls ho (λq hq=> .inl (hlow q hq)));have c0:w.cell? (aD qb 0)=some (pV bb):=cr hqb rfl;have c1:w.cell? (aD qn 4)=some (.slice la ls.length lc):=cr hqn rfl;have l1:=(ltG hqn);generalize M.bnL false fs b ps=RR at *;generalize m+2 * M.nNL ps=mm at *;clear hqb hqn ho hlow h he hps hls;go_enter func130,ntmps130;go_wp2_with fail
 refine HA.out.mono ?_;rintro e w2 ⟨hk,hr⟩;cases RR with
 |bad er i=>
  obtain rfl:e=gu er (atI N i):=hr;exact⟨rfl,hk,rfl⟩
 |ok f l=>
  obtain⟨rfl,hb⟩:=hr;have HK:=A0 hk;have HB:=A0 hb;clear hk hb HA;go_wp2;go_end0;exact⟨HK.out,rfl,HB.out⟩
end
theorem M.bnL_fn{o:Option M.Tr}{tx:List UInt8}{n:Int}{qs:List M.Nt}:∀(ps:List M.Nt) (fs:List M.Fr) (b:Nat),(∀p∈ps,p.k=16)->M.bnL true fs b (ps++[.ty o,.nd 26 tx n qs])=(M.bnL false fs b ps).and λf=>M.bnL false f (b+M.nNL ps) qs
 |[],fs,b,_=>by
  rw[List.nil_append,M.bnL,M.bnL,M.bnL];simp only[Bool.true_and,beq_self_eq_true,↓reduceIte,M.bnL,M.Br.and_nil,M.nNL,Nat.add_zero];rw[M.Br.and_ok];generalize M.bnL false fs b qs=R;cases R<;>simp
 | .ty t::r,fs,b,h=>by
  have:=h (.ty t) (by simp);cases t<;>simp[M.Nt.k]at this
 | .nd k tx' n' ps'::r,fs,b,h=>by
  have hk:k=16:=h (.nd k tx' n' ps') (by simp);subst hk;rw[List.cons_append,M.bnL,M.bnL];simp only[Bool.true_and,Bool.false_and,show ((16:Int)==26)=false from rfl,Bool.false_eq_true,↓reduceIte,M.Br.and_assoc];congr 1
  funext f
  rw[M.bnL_fn r f _ (λp hp=>h p (by simp[hp])),M.nNL,Nat.add_assoc]
theorem M.EmL.left{N:List M.Nd}:∀{ps qs:List M.Nt} {b tb:Nat},M.EmL N b tb (ps++qs)->M.EmL N b tb ps/\M.EmL N (b+M.nNL ps) (tb+M.nTL ps) qs:=by
 intro ps qs b tb ⟨A,B,h,hA⟩;have e:∀(ps:List M.Nt) (b tb:Nat),M.M8 b tb (ps++qs)=M.M8 b tb ps++M.M8 (b+M.nNL ps) (tb+M.nTL ps) qs:=by
  intro ps;induction ps with
  |nil=>intro b tb;simp[M.M8,M.nNL,M.nTL]
  |cons p r ih=>intro b tb;simp[M.M8,ih,M.nNL,M.nTL,Nat.add_assoc]
 rw[e]at h;exact⟨⟨A,M.M8 (b+M.nNL ps) (tb+M.nTL ps) qs++B,by rw[h];simp,hA⟩,⟨A++M.M8 b tb ps,B,by rw[h];simp,by rw[qQ,M.M6,hA]⟩⟩
section
variable{w0:World}{B bb:Nat}{nv tv:Value}{N:List M.Nd}
def N0b(w0 w:World)(B bb:Nat)(nv tv:Value)(N:List M.Nd)(m:Nat)(ts:List Int)(r:M.Br)(e:Ending)(w':World):Prop:=
 (∃er p,e=gu er p/\Hid (BnPost w0 w B bb nv tv N m ts r (gu er p) w'))\/(e=rT/\Hid (BnPost w0 w B bb nv tv N m ts r (rT) w'))
theorem BnPost.ans{w w':World}{m:Nat}{ts:List Int}{r:M.Br}{e:Ending}(h:BnPost w0 w B bb nv tv N m ts r e w'):N0b w0 w B bb nv tv N m ts r e w':=by
 have h2:=h.2;cases r with
 |bad er i=>
  obtain rfl:e=gu er (atI N i):=h2;exact .inl ⟨_,_,rfl,h⟩
 |ok f l=>
  obtain⟨rfl,_⟩:=h2;exact .inr ⟨rfl,h⟩
theorem BnPost.and{w w1 w2:World}{m':Nat}{ts:List Int}{fs:List M.Fr}{l:List (Nat×Int)}{k:List M.Fr->M.Br}{e:Ending}(hk:Bkp B bb tv w w1)(h:BnPost w0 w1 B bb nv tv N m' (M.upd ts l) (k fs) e w2):BnPost w0 w B bb nv tv N m' ts ((M.Br.ok fs l).and k) e w2:=by
 obtain⟨h1,h2⟩:=h;refine⟨hk.trans h1, ?_⟩;rw[M.Br.and_ok];cases hkf:k fs with
 |bad er i=>
  rw[hkf]at h2;exact h2
 |ok f l'=>
  rw[hkf]at h2;show e=_/\Bnt _ _ _ _ _ _ _ f (M.upd ts (l++l'));rw[M.V0b];exact h2
theorem BnPost.more{w w':World}{m m':Nat}{ts:List Int}{r:M.Br}{e:Ending}(h:BnPost w0 w B bb nv tv N m ts r e w')(hm:m<=m'):BnPost w0 w B bb nv tv N m' ts r e w':=by
 refine⟨h.1, ?_⟩;have h2:=h.2;cases r with
 |bad er i=>exact h2
 |ok f l=>
  obtain⟨he,hb⟩:=h2;obtain⟨av,ms,hs⟩:=hb.st;exact⟨he,hb.hz,hb.le,hb.bel,av,ms,hs.more hm⟩
theorem BnPost.after{w w1 w2:World}{m:Nat}{ts:List Int}{r:M.Br}{e:Ending}(hk:Bkp B bb tv w w1)(h:BnPost w0 w1 B bb nv tv N m ts r e w2):BnPost w0 w B bb nv tv N m ts r e w2:=⟨hk.trans h.1,h.2⟩
theorem K5b(hN:Nrow w0 nv N)(ps:List M.Nt)(o:Option M.Tr)(tx:List UInt8)(n:Int)(qs:List M.Nt)(hps:∀p∈ps,p.k=16/\U6 w0 B bb nv tv N p)(hqs:∀p∈qs,1<=p.k/\U6 w0 B bb nv tv N p)(b tb:Nat)(w:World)(m:Nat)(fs:List M.Fr)(ts:List Int)
 (he:M.EmL N b tb (ps++[.ty o,.nd 26 tx n qs])) (h:Bnt w0 w B bb nv tv m fs ts) (hfs:fs≠[]) (hm:m+2 * (M.nNL ps+M.nNL qs)<=100000) (hf:fs.length+(M.nNL ps+M.nNL qs)<=100000) (hts:ts.length=N.length) (hNl:N.length<=100000)
 (la:Option Addr) (lc:Nat) (ls:List Int) (hls:ls=M.px b ps) (ho:w.ownsRow 0 3 1 (.slice la ls.length lc) ls.length (B8 ls)) (hlow:∀q,(Value.slice la ls.length lc).ownBlock=some q->q<w0.heap.size)
 (qb qn:Nat) (hqb:w.heap[qb]? =some (.cells #[pV bb] 81 (0,0))) (kd vb vc:Int) (xs:ByteArray) (vn vt vp:Int) (hqn:w.heap[qn]? =some (.cells #[iV kd,iV ((b+M.nNL ps+M.nNL qs:Nat):Int),iV vb,iV vc,.slice la ls.length lc,.string xs,iV vn,iV vt,iV vp] 70 (0,0))):
 Calls prog 158 #[pV qb,pV qn] w (BnPost w0 w B bb nv tv N (m+2 * (M.nNL ps+M.nNL qs)) ts (M.bnL true fs b (ps++[.ty o,.nd 26 tx n qs]))):=by
 have hk16:∀p∈ps,p.k=16:=λp hp=>(hps p hp).1;have hk1:∀p∈ps,1<=p.k:=λp hp=>by rw[hk16 p hp];decide
 rw[M.bnL_fn ps fs b hk16];obtain⟨he1,he2⟩:=he.left;have he3:=(M.EmL.head he2).2;have he4:=(M.EmL.head he3).1;rw[M.nN,Nat.add_zero]at he4;obtain⟨he5,hi,hnd⟩:=M.Em.parts he4;have hq1:∀p∈qs,1<=p.k:=λp hp=>(hqs p hp).1;have hlst:(N[b+M.nNL ps+M.nNL qs]).list=M.px (b+M.nNL ps) qs:=by
  rw[M.S6 _ _ qs hq1]at hnd;simp[M.Nd.fl,M.mkN]at hnd;exact hnd.2.2.2.2.1
 have HA:=A0 (L5a ps (λp hp=>⟨hk1 p hp,(hps p hp).2⟩) b tb w m fs ts he1 h hfs (by omega) (by omega) hts la lc ls hls ho (λq hq=> .inl (hlow q hq)));have SL:=A0 (M.R6 ps false fs b hfs);have c0:w.cell? (aD qb 0)=some (pV bb):=cr hqb rfl;have c1:w.cell? (aD qn 4)=some (.slice la ls.length lc):=cr hqn rfl;have l1:=(ltG hqn);have FB:Hid (∀a,Bkp B bb tv w a->a.heap[qb]? =some (.cells #[pV bb] 81 (0,0))/\a.heap[qn]? =some (.cells #[iV kd,iV ((b+M.nNL ps+M.nNL qs:Nat):Int),iV vb,iV vc,.slice la ls.length lc,.string xs,iV vn,iV vt,iV vp] 70 (0,0))):=λa ha=>by
  obtain⟨x1,x2⟩:=h.tv hqb (by decide);obtain⟨y1,y2⟩:=h.tv hqn (by decide);exact⟨ha.other hqb (by decide) x1 x2,ha.other hqn (by decide) y1 y2⟩
 have HI:Hid (b+M.nNL ps+M.nNL qs<N.length):=hi;have hjx:b+M.nNL ps+M.nNL qs<=100000:=by omega
 have H2:Hid (∀(a:World) (f:List M.Fr) (l:List (Nat×Int)),Bnt w0 a B bb nv tv (m+2 * M.nNL ps) f (M.upd ts l)->f.length=fs.length->Bkp B bb tv w a->∃g nc la2 lc2,nv= .slice (some (aD g 0)) N.length nc/\g<a.heap.size/\N.length<=nc/\nc<=maxLen/\a.cell? (aD g ((b+M.nNL ps+M.nNL qs) * 9+4))=some (.slice la2 (M.px (b+M.nNL ps) qs).length lc2)/\a.cell? (aD bb 0)=some nv/\bb<a.heap.size/\
  ∀a2,Chg No a a2->Calls prog 66 #[pV bb,.slice la2 (M.px (b+M.nNL ps) qs).length lc2] a2 (N0b w0 w B bb nv tv N (m+2 * (M.nNL ps+M.nNL qs)) ts ((M.Br.ok f l).and λf=>M.bnL false f (b+M.nNL ps) qs))):=by
  intro a f l ha hfl hka;obtain⟨g,nc,la2,lc2,e1,e2,e3,e4,e5,e6,e7⟩:=hN.at ha.bel _ HI.out;obtain⟨av,ms,hs⟩:=ha.st;rw[hlst]at e5 e6 e7;refine⟨g,nc,la2,lc2,e1,e2,e3,e4,e5.2.2.2.2.1,cr hs.blk rfl,(ltG hs.blk),λa2 h2=> ?_⟩;refine(L5a qs hqs (b+M.nNL ps) _ a2 _ f (M.upd ts l) he5 (ha.kept h2) (M.M4 hfs hfl) (by omega) (by omega) (by rw[M.J5a];exact hts) la2 lc2 _ rfl (A3 e6 h2 (λ_ _ x=>x)) (λq hq=> .inl (e7 q hq))).mono ?_;intro e w' hp;have hp2:=BnPost.and (k:=λf=>M.bnL false f (b+M.nNL ps) qs) (hka.trans (Bkp.still h2)) hp;rw[Nat.add_assoc,<-Nat.mul_add]at hp2;exact hp2.ans
 generalize hR1:M.bnL false fs b ps=R1 at *;generalize hj:b+M.nNL ps+M.nNL qs=jj at *;generalize hpl:(M.px (b+M.nNL ps) qs).length=pl at *;generalize hmm:m+2 * (M.nNL ps+M.nNL qs)=mm at *;generalize hm1:m+2 * M.nNL ps=m1 at *;clear hqb hqn ho hlow h he hps hqs hls he1 he2 he3 he4 he5 hnd hR1 hj hpl hmm hm1 hlst hk16 hk1 hq1 hN;go_enter func158,ntmps158;go_wp2_with fail
 refine HA.out.mono ?_;rintro e w2 ⟨hk,hr⟩;cases R1 with
 |bad er i=>
  obtain rfl:e=gu er (atI N i):=hr;exact⟨rfl,hk,rfl⟩
 |ok f l=>
  obtain⟨rfl,hb⟩:=hr;obtain⟨f1,f2⟩:=FB.out w2 hk;have d0:w2.cell? (aD qb 0)=some (pV bb):=cr f1 rfl;have d1:w2.cell? (aD qn 1)=some (iV (jj:Int)):=cr f2 rfl;have d2:=(ltG f2);obtain⟨g,nc,la2,lc2,rfl,e2,e3,e4,e5,e6,e7,e8⟩:=H2.out w2 f l hb (SL.out f l rfl) hk;have hi2:=HI.out;unfold maxLen at e4;have H3:=A0 e8;clear hk hb HA H2 FB f1 f2 e8 SL c0 c1 HI;go_wp2_with fail
  go_region_with (go_at_call 66;refine(H3.out _ (Chg.drewN _ _ 1)).mono ?_;rintro e w3 (⟨er,p,rfl,H4⟩|⟨rfl,H4⟩);exact⟨rfl,H4.out⟩)
  all_goals go_wp2_with fail
  all_goals go_end0
  all_goals exact H4.out
theorem M.Sl.small{f:List M.Fr}{r:M.Br}(h:M.Sl (f++[M.Fr.no]) r)(hf:f.length<=100000):∀f' l,r= .ok f' l->f'≠[]/\f'.length<=100001:=by
 intro f' l e;have:=h f' l e;simp at this;refine⟨?_,by omega⟩;rintro rfl;simp at this
theorem R8b(hN:Nrow w0 nv N)(ps:List M.Nt)(o:Option M.Tr)(tx:List UInt8)(n:Int)(qs:List M.Nt)(hps:∀p∈ps,p.k=16/\U6 w0 B bb nv tv N p)(hqs:∀p∈qs,1<=p.k/\U6 w0 B bb nv tv N p)(b tb:Nat)(w:World)(m:Nat)(fs:List M.Fr)(ts:List Int)
 (he:M.EmL N b tb (ps++[.ty o,.nd 26 tx n qs])) (h:Bnt w0 w B bb nv tv m fs ts) (hm:m+2 * (M.nNL ps+M.nNL qs)<=100000) (hf:fs.length+1+(M.nNL ps+M.nNL qs)<=100000) (hts:ts.length=N.length) (hNl:N.length<=100000)
 (la:Option Addr) (lc:Nat) (ls:List Int) (hls:ls=M.px b ps) (ho:w.ownsRow 0 3 1 (.slice la ls.length lc) ls.length (B8 ls)) (hlow:∀q,(Value.slice la ls.length lc).ownBlock=some q->q<w0.heap.size)
 (kd vb vc:Int) (xs:ByteArray) (vn vt vp:Int):
 Calls prog 128 #[pV bb,.agg #[iV kd,iV ((b+M.nNL ps+M.nNL qs:Nat):Int),iV vb,iV vc,.slice la ls.length lc,.string xs,iV vn,iV vt,iV vp]] w (BnPost w0 w B bb nv tv N (m+2 * (M.nNL ps+M.nNL qs)) ts (M.bnL true (fs++[M.Fr.no]) b (ps++[.ty o,.nd 26 tx n qs])).pop):=by
 generalize hva:((b+M.nNL ps+M.nNL qs:Nat):Int)=va at *;have hne:fs++[M.Fr.no]≠[]:=by simp
 have hc:Chg No w ((w.alloc (.cells #[pV bb] 81)).alloc (.cells #[iV kd,iV va,iV vb,iV vc,.slice la ls.length lc,.string xs,iV vn,iV vt,iV vp] 70)):=B9 (Chg.alloc No _ _) (Chg.alloc No _ _);have hb0:((w.alloc (.cells #[pV bb] 81)).alloc (.cells #[iV kd,iV va,iV vb,iV vc,.slice la ls.length lc,.string xs,iV vn,iV vt,iV vp] 70)).heap[w.heap.size]? =some (.cells #[pV bb] 81 (0,0)):=by
  rw[Below.heap_alloc _ _ _ (by simp)];have:=heap_alloc_new w (.cells #[pV bb] 81);simpa using this
 have hb1:((w.alloc (.cells #[pV bb] 81)).alloc (.cells #[iV kd,iV va,iV vb,iV vc,.slice la ls.length lc,.string xs,iV vn,iV vt,iV vp] 70)).heap[w.heap.size+1]? =some (.cells #[iV kd,iV va,iV vb,iV vc,.slice la ls.length lc,.string xs,iV vn,iV vt,iV vp] 70 (0,0)):=by
  have:=heap_alloc_new (w.alloc (.cells #[pV bb] 81)) (.cells #[iV kd,iV va,iV vb,iV vc,.slice la ls.length lc,.string xs,iV vn,iV vt,iV vp] 70);simpa using this
 have h1:=h.kept hc;have HI:=A0 (X2b 158 (λ_ _=>by go_simp) h1 (N:=N) (by omega) (m+2 * (M.nNL ps+M.nNL qs)) (M.bnL true (fs++[M.Fr.no]) b (ps++[.ty o,.nd 26 tx n qs])) (M.Sl.small (M.R6 _ _ _ _ hne) (by omega)) (pV w.heap.size) (pV (w.heap.size+1)) (λa ha hb=>by
  obtain⟨x1,x2⟩:=h1.tv hb0 (by decide);obtain⟨y1,y2⟩:=h1.tv hb1 (by decide);have hlw:=h.low;have hz:=h.hz;refine K5b hN ps o tx n qs hps hqs b tb a m (fs++[M.Fr.no]) ts he hb hne hm (by simp;omega) hts hNl la lc ls hls ?_ hlow _ _ (ha.other hb0 (by decide) x1 x2) kd vb vc xs vn vt vp (by rw[hva];exact ha.other hb1 (by decide) y1 y2);refine ha.row (A3 ho hc (λ_ _ x=>x)) (λe=> ?_) (λg hg e=> ?_)
  · have:=hlow _ e;omega
  · have:=hlow _ hg;have:=hlw.2 g e
    omega))
 have hmf:=mkf;have HC:=A0 (Bkp.still (B:=B) (bb:=bb) (tv:=tv) hc);generalize hRR:(M.bnL true (fs++[M.Fr.no]) b (ps++[.ty o,.nd 26 tx n qs])).pop=RR at *;generalize m+2 * (M.nNL ps+M.nNL qs)=mm at *;clear hRR h1 hb0 hb1 hc hlow ho hls he hps hqs h hN hva;go_enter func128,ntmps128;go_wp2_with fail
 refine HI.out.mono ?_;rintro e w2 hp;have hp:=BnPost.after HC.out hp;have hp2:=hp.2;cases RR with
 |bad er i=>
  obtain rfl:e=gu er (atI N i):=hp2;exact⟨rfl,hp⟩
 |ok f l=>
  obtain⟨rfl,-⟩:=hp2;have HP:=A0 hp;clear hp HI HC;go_wp2;go_end0;exact HP.out
theorem Bsx.top{w:World}{m:Nat}{av:Value}{ms:List Nat}{fs:List M.Fr}{ts:List Int}(h:Bsx w B bb nv av tv ms m fs ts)(hne:ms≠[]):FrM w (ms.getLast hne) m (M.C5a fs):=by
 have hlen:=h.len;have hpos:0<ms.length:=List.length_pos_iff.2 hne;have hl:ms.getLast hne=ms[ms.length - 1]:=by rw[List.getLast_eq_getElem]
 have hfl:M.C5a fs=fs[ms.length - 1]'(by omega):=by
  unfold M.C5a;have e2:fs.length - 1=ms.length - 1:=by omega
  rw[List.getLastD_eq_getLast?,List.getLast?_eq_getElem?,e2,gQ (by omega)];rfl
 rw[hl,hfl];exact h.fr (ms.length - 1) (by omega) (by omega)
theorem Bnt.step{w w':World}{m m':Nat}{fs fs':List M.Fr}{ts ts':List Int}{av:Value}{ms:List Nat}(h:Bnt w0 w B bb nv tv m fs ts)(hk:Bkp B bb tv w w')(hs:Bsx w' B bb nv av tv ms m' fs' ts'):Bnt w0 w' B bb nv tv m' fs' ts':=
 ⟨h.hz,kQ h.le hk.size,h.bel.trans ((hk.below h.le).mono h.hz),av,ms,hs⟩
theorem W4b{w:World}{m:Nat}{fs:List M.Fr}{ts:List Int}(h:Bnt w0 w B bb nv tv m fs ts)(hfs:fs≠[])(hf:fs.length<=100000)(hm:m<=100000)(x:List UInt8)(hx:x.length<=1000000)(j:Int)(hj:0<=j/\j<=1000000)(w2:World)(hc:Chg No w w2):
 Calls prog 127 #[pV bb] w2 λe w'=>∃q,e= .returned (.map (some q))/\Chg No w w'/\(Instr.lookup 153 (.map (some q)) (.string ⟨x.toArray⟩) true).run prog w'= .ok (.tuple #[iV ((M.C5a fs x).getD 0),.bool (M.C5a fs x).isSome]) w'/\
  ∃w3,(Instr.mapUpdate 153 (.map (some q)) (.string ⟨x.toArray⟩) (iV j)).run prog w'= .ok () w3/\Hid (Bkp B bb tv w w3/\Bnt w0 w3 B bb nv tv (m+1) (M.G5 fs x j) ts):=by
 have h2:=h.kept hc;obtain⟨av,ms,hs⟩:=h2.st;have hlen:=hs.len;have hpos:0<fs.length:=List.length_pos_iff.2 hfs;have hne:ms≠[]:=λe=>by subst e;simp at hlen;omega
 refine(W1c hs hne (by omega)).mono ?_;rintro e w' ⟨rfl,hc2⟩;have h3:=hs.still hc2;obtain⟨w3,hrun,hs3,hch⟩:=h3.put hne x j hx (by omega) hj;have hk:Bkp B bb tv w' w3:=by
  refine hch.mono λk _ e=> ?_;subst e;obtain⟨n,D,⟨es,cl,h1,_⟩,_⟩:=(h3.top hne).own;exact⟨h3.ge _ (List.getLast_mem hne),.inr (.inr (.inr ⟨es,cl,h1⟩))⟩
 exact⟨_,rfl,B9 hc hc2,(h3.top hne).look x hx,w3,hrun,(Bkp.still (B9 hc hc2)).trans hk,(h.kept (B9 hc hc2)).step hk hs3⟩
theorem Bnt.blk{w:World}{m:Nat}{fs:List M.Fr}{ts:List Int}(h:Bnt w0 w B bb nv tv m fs ts):w.cell? (aD bb 0)=some nv/\bb<w.heap.size:=by
 obtain⟨av,ms,hs⟩:=h.st;exact⟨cr hs.blk rfl,(ltG hs.blk)⟩
theorem M.bn_let(fs:List M.Fr)(b:Nat)(tx:List UInt8)(n:Int)(o:Option M.Tr)(E:M.Nt)(hE:1<=E.k):M.bnT fs b (.nd 17 tx n [.ty o,E])=if (M.C5a fs tx).isSome then .bad 6 (b+M.nN E) else (M.bnT (if E.k=6 then M.G5 fs tx ((b+M.nN E:Nat):Int) else fs) b E).setF tx ((b+M.nN E:Nat):Int):=by
 have hn:M.nNL [.ty o,E]=M.nN E:=by simp[M.nNL,M.nN]
 rw[M.bnT];simp only[hn];rw[if_neg (by decide),if_neg (by decide),if_pos trivial];congr 2
 have h2:∀f,M.bnL false f b [.ty o,E]=M.bnT f b E:=λf=>by
  rw[M.bnL,M.F8a _ _ _ _ hE];simp only[M.bnL,M.Br.and_nil]
 rw[h2];cases E with
 |ty o=>cases o<;>simp[M.Nt.k]at hE
 |nd k t n' ps=>by_cases h6:k=6<;>simp[M.N6c,M.Nt.k,h6]
theorem Bnt.fresh{w:World}{m:Nat}{fs:List M.Fr}{ts:List Int}(h:Bnt w0 w B bb nv tv m fs ts){q:Nat}(hq:w.heap.size<=q):B<=q/\q≠bb/\tv.ownBlock≠some q:=by
 obtain⟨av,ms,hs⟩:=h.st;have h1:=(ltG hs.blk);have h2:=h.le;refine⟨by omega,by omega,λe=> ?_⟩;have:=(hs.tos.lt _ e).2;omega
theorem N0a{w w1:World}(hk:Bkp B bb tv w w1){m:Nat}{fs:List M.Fr}{ts:List Int}{l0:List (Nat×Int)}(h1:Bnt w0 w1 B bb nv tv m fs (M.upd ts l0))(hfs:fs≠[]){b tb:Nat}{ps qs:List M.Nt}{nd:M.Nd}(hpt:E7c N b tb ps nd qs)(hC:∀p∈ps,1<=p.k->U6 w0 B bb nv tv N p)(hm:m+2 * M.nNL ps<=100000)(hf:fs.length+M.nNL ps<=100000)(hts:ts.length=N.length)
 (la:Option Addr) (lc:Nat) (ho:w1.ownsRow 0 3 1 (.slice la nd.list.length lc) nd.list.length (B8 nd.list)) (hnl:nd.list.length<=100000) (qb:Nat) (hqb:w1.cell? (aD qb 0)=some (pV bb)) (m':Nat) (hm':m+2 * M.nNL ps<=m') (a:World) (ha:Chg No w1 a):
 Calls prog 29 #[nvl nd la lc] a λe w3=>∃ga gc,e= .returned (.slice ga (M.px b qs).length gc)/\w3.cell? (aD qb 0)=some (pV bb)/\
  Hid (Calls prog 66 #[pV bb,.slice ga (M.px b qs).length gc] w3 (N0b w0 w B bb nv tv N m' ts ((M.Br.ok fs l0).and λf=>M.bnL false f b ps))):=by
 refine(hpt.run a la lc (A3 ho ha (λ_ _ x=>x)) hnl).mono ?_;rintro e w3 ⟨ga,gc,rfl,hc,hr⟩;have hc3:=B9 ha hc;have h3:=h1.kept hc3;refine⟨ga,gc,rfl,A8 hc3 hqb, ?_⟩;have hn:=hpt.n;have hA:=L5a qs (λp hp=>⟨(hpt.k p hp).1,hC p (hpt.k p hp).2 (hpt.k p hp).1⟩) b tb w3 m fs (M.upd ts l0) hpt.em h3 hfs (by omega) (by omega) (by rw[M.J5a];exact hts) ga gc _ rfl (C7 hr (wQ _)) (λq hq=> .inr (h1.fresh (kQ ha.size (hr.lt q hq).1)));refine hA.mono ?_;intro e w4 hp;have hp2:=BnPost.and (k:=λf=>M.bnL false f b qs) (ts:=ts) (hk.trans (Bkp.still hc3)) hp;have e1:(λf=>M.bnL false f b ps)=λf=>M.bnL false f b qs:=funext λf=>hpt.bn f;rw[e1];exact(hp2.more (by omega)).ans
theorem M.Br.and_zero(fs:List M.Fr)(k:List M.Fr->M.Br):(M.Br.ok fs []).and k=k fs:=by
 rw[M.Br.and_ok];cases k fs<;>simp
end
end Go.Proofs.YtfhhipefecekkaaGreatDoor
