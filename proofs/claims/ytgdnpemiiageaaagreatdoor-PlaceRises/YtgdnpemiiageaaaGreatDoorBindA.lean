/-
  A part of the proof.
-/
import Derived.Test.YtgdnpemiiageaaaGreatDoorNodeA
import Derived.Test.YtgdnpemiiageaaaGreatDoorFitA
import Derived.Deep.DeepCutAuto
import Derived.Test.YtgdnpemiiageaaaGreatDoorPlainE
import Derived.Laws.AppendOwnNone
set_option maxHeartbeats 16000000
set_option maxRecDepth 100000
namespace Go.Proofs.YtgdnpemiiageaaaGreatDoor
open Go.RowKit Go.Maps
theorem A2d:Keyed Tryz.prog 9:=string_keyed Tryz.underlying9
theorem K3b (l:List UInt8) (h:l.length<=1000000):keyOf Tryz.prog 9 (.string ⟨l.toArray⟩)=some (.string l):=by
 have hs:(⟨l.toArray⟩:ByteArray).size<=maxLen:=by simp[ByteArray.size];unfold maxLen;omega
 unfold keyOf;simp only[Tryz.underlying9];unfold mapKey;simp[Tryz.underlying9,hs]
theorem B4d (w:World):(zeroValue 3).run Tryz.prog w= .ok (.int .i64 0) w:=by kernel_rfl
structure FrM (w:World) (q m:Nat) (f:M.Fr):Prop where
 own:∃n D,w.ownsMap Tryz.prog 9 (plainElem (H:=Unit) Tryz.prog 3) q n D/\n<=m/\IsMap D/\∀(s:List UInt8) (d:DataW Unit),D.atKey (.string s) d=match f s with
  |some j=> .lit (.int .i64 j)
  |none=>d
theorem FrM.new (w:World):FrM (w.alloc (.map #[] 0)) w.heap.size 0 M.Fr.no:=⟨0,.map [],World.ownsMap_made w _ _ _,Nat.le_refl _,isMap_empty,fun _ _=>rfl⟩
theorem FrM.more {w:World} {q m m':Nat} {f:M.Fr} (h:FrM w q m f) (hm:m<=m'):FrM w q m' f:=by
 obtain⟨n,D,h1,h2,r⟩:=h.own;exact⟨n,D,h1,by omega,r⟩
theorem FrM.lt {w:World} {q m:Nat} {f:M.Fr} (h:FrM w q m f):q<w.heap.size:=by
 obtain⟨n,D,⟨es,cl,h1,_⟩,_⟩:=h.own;exact(ltG h1)
theorem FrM.chg {S:Nat->Prop} {w w':World} {q m:Nat} {f:M.Fr} (h:FrM w q m f) (hc:Chg S w w') (hn:¬S q):FrM w' q m f:=by
 obtain⟨n,D,⟨es,cl,h1,h2⟩,r⟩:=h.own;exact⟨n,D,⟨es,cl,by rw[hc.block q (ltG h1) hn];exact h1,h2⟩,r⟩
theorem FrM.notcells {w:World} {q m:Nat} {f:M.Fr} (h:FrM w q m f) {cs:Array Value} {e:TypeId} {fz:Nat×Nat}:w.heap[q]? ≠some (.cells cs e fz):=by
 obtain⟨n,D,⟨es,cl,h1,_⟩,_⟩:=h.own;rw[h1];simp
theorem FrM.look {w:World} {q m:Nat} {f:M.Fr} (h:FrM w q m f) (s:List UInt8) (hs:s.length<=1000000):
 (Instr.lookup 155 (.map (some q)) (.string ⟨s.toArray⟩) true).run Tryz.prog w= .ok (.tuple #[.int .i64 ((f s).getD 0),.bool (f s).isSome]) w:=by
 obtain⟨n,D,⟨es,cl,hb,F,_,rfl⟩,_,_,hat⟩:=h.own;have h0:=hat s (.lit (.int .i64 0));have h1:=hat s (.lit (.int .i64 1));rcases fit_look true A2d Tryz.underlying155 (B4d w) hb F (K3b s hs) with ⟨hrun,_,ha⟩|⟨e0,y,_,_,hrun,hy,ha,_⟩
 · rw[ha]at h0 h1;cases hf:f s with
   |none=>rw[hrun];rfl
   |some j=>
    rw[hf]at h0 h1;simp only[DataW.lit.injEq,Lit.int.injEq,true_and]at h0 h1;omega
 · rw[ha]at h0 h1;cases hf:f s with
   |none=>
    rw[hf]at h0 h1;simp only at h0 h1;rw[h0]at h1;simp at h1
   |some j=>
    rw[hf]at h0;simp only at h0;have:∃c,e0.val= .int .i64 c/\y=(.lit (.int .i64 c),[])/\(Lit.int .i64 c).wf=true:=plainElem_int_inv Tryz.underlying3 (by rw[hy]);obtain⟨c,hv,rfl,_⟩:=this;simp only[DataW.lit.injEq,Lit.int.injEq,true_and]at h0;rw[hrun,hv,h0];rfl
theorem FrM.put {w:World} {q m:Nat} {f:M.Fr} (h:FrM w q m f) (s:List UInt8) (j:Int) (hs:s.length<=1000000) (hm:m<=1000000) (hj:0<=j/\j<=1000000):
 ∃w',(Instr.mapUpdate 155 (.map (some q)) (.string ⟨s.toArray⟩) (.int .i64 j)).run Tryz.prog w= .ok () w'/\FrM w' q (m+1) (f.set s j)/\Chg (fun k=>k=q) w w':=by
 obtain⟨n,D,ho,hn,hmap,hat⟩:=h.own;have hwf:(Lit.int .i64 j).wf=true:=by
  simp[Lit.wf,IntKind.min,IntKind.max,IntKind.bits,IntKind.signed];omega
 obtain⟨w',hrun,ho',hg⟩:=ho.update A2d Tryz.underlying155 (by unfold maxLen;omega) (K3b s hs) (plainElem_int Tryz.underlying3 hwf);refine⟨w',hrun,⟨n+1,_,ho',by omega,hmap.put _ _,fun u d=> ?_⟩,(Chg.grown hg).mono (fun k _ x=>by simpa using x)⟩;by_cases hu:u=s
 · subst hu;rw[atKey_put_same hmap (show WideAt.IsKeyLit (.string u) from trivial)];simp[M.Fr.set]
 · rw[atKey_put_other (by simpa using hu),hat u];simp[M.Fr.set,hu]
open Go.RowKit Go.Maps
structure Bsx (w:World) (B bb:Nat) (nv av tv:Value) (ms:List Nat) (m:Nat) (fs:List M.Fr) (ts:List Int):Prop where
 low:B<=bb
 blk:w.heap[bb]? =some (.cells #[nv,av,tv] 90 (0,0))
 ar:w.ownsRow B 155 1 av fs.length (ms.map fun q=> .map (some q))
 tos:w.ownsRow B 3 1 tv ts.length (C7 ts)
 len:ms.length=fs.length
 nd:ms.Nodup
 ge:∀q∈ms,B<=q
 fr:∀i (h:i<ms.length) (h':i<fs.length),FrM w ms[i] m fs[i]
section
variable {w w':World} {B bb m:Nat} {nv av tv:Value} {ms:List Nat} {fs:List M.Fr} {ts:List Int}
theorem Bsx.chg {S:Nat->Prop} (h:Bsx w B bb nv av tv ms m fs ts) (hc:Chg S w w') (h1:¬S bb) (h2:∀g,av.ownBlock=some g->¬S g) (h3:∀g,tv.ownBlock=some g->¬S g) (h4:∀q∈ms,¬S q):Bsx w' B bb nv av tv ms m fs ts:=
 ⟨h.low,by rw[hc.block bb (ltG h.blk) h1];exact h.blk,A8 h.ar hc h2,A8 h.tos hc h3,h.len,h.nd,h.ge,fun i a b=>(h.fr i a b).chg hc (h4 _ (List.getElem_mem a))⟩
theorem Bsx.still (h:Bsx w B bb nv av tv ms m fs ts) (hc:Chg No w w'):Bsx w' B bb nv av tv ms m fs ts:=h.chg hc id (fun _ _=>id) (fun _ _=>id) (fun _ _=>id)
theorem Bsx.more {m':Nat} (h:Bsx w B bb nv av tv ms m fs ts) (hm:m<=m'):Bsx w B bb nv av tv ms m' fs ts:=⟨h.low,h.blk,h.ar,h.tos,h.len,h.nd,h.ge,fun i a b=>(h.fr i a b).more hm⟩
theorem Bsx.cell (h:Bsx w B bb nv av tv ms m fs ts) {i:Nat} (hi:i<ms.length):∃g c,av= .slice (some (aD g 0)) ms.length c/\g<w.heap.size/\ms.length<=c/\c<=maxLen/\w.cell? (aD g i)=some (.map (some ms[i])):=by
 have ho:=h.ar;rw[<-h.len]at ho;obtain⟨ad,c,rfl⟩:=B6 ho;obtain⟨g,rfl,_,hg,h1,h2,hc⟩:=E7 ho (by omega);exact⟨g,c,rfl,hg,h1,h2,hc i _ (by simp[hi])⟩
theorem Bsx.put (h:Bsx w B bb nv av tv ms m fs ts) (hne:ms≠[]) (x:List UInt8) (j:Int) (hx:x.length<=1000000) (hm:m<=1000000) (hj:0<=j/\j<=1000000):
 ∃w',(Instr.mapUpdate 155 (.map (some (ms.getLast hne))) (.string ⟨x.toArray⟩) (iV j)).run Tryz.prog w= .ok () w'/\Bsx w' B bb nv av tv ms (m+1) (M.H7 fs x j) ts/\Chg (fun k=>k=ms.getLast hne) w w':=by
 have hlen:=h.len;have hpos:0<ms.length:=List.length_pos_iff.2 hne;have hfne:fs≠[]:=by
  rintro rfl;simp at hlen;exact hne hlen
 have hl:ms.getLast hne=ms[ms.length - 1]:=by rw[List.getLast_eq_getElem]
 have hfl:M.D4a fs=fs[ms.length - 1]'(by omega):=by
  unfold M.D4a;have e2:fs.length - 1=ms.length - 1:=by omega
  rw[List.getLastD_eq_getLast?,List.getLast?_eq_getElem?,e2,List.getElem?_eq_getElem (by omega)];rfl
 have hfr:=h.fr (ms.length - 1) (by omega) (by omega);obtain⟨w',hrun,hF,hc⟩:=hfr.put x j hx hm hj;have htop:=hfr;refine⟨w',by rw[hl];exact hrun, ?_,by rw[hl];exact hc⟩;have nb:bb≠ms[ms.length - 1]:=fun e=>by
  have:=hfr.notcells (cs:=#[nv,av,tv]) (e:=90) (fz:=(0,0));rw[<-e]at this;exact this h.blk
 have na:∀{v:Value} {n:Nat} {xs:List Value} {ty:TypeId} {sz:Nat},w.ownsRow B ty sz v n xs->∀g,v.ownBlock=some g->g≠ms[ms.length - 1]:=by
  intro v n xs ty sz ho g hg he;obtain⟨_,cur,hh⟩:=A9 ho g hg;have:=hfr.notcells (cs:=cur) (e:=ty) (fz:=(0,0));rw[<-he]at this;exact this hh
 have hst:(M.H7 fs x j).length=fs.length:=by
  unfold M.H7;rw[List.length_append,List.length_dropLast];simp only[List.length_cons,List.length_nil];omega
 refine⟨h.low,by rw[hc.block bb (ltG h.blk) nb];exact h.blk,by rw[hst];exact A8 h.ar hc (na h.ar),A8 h.tos hc (na h.tos),by rw[hst];exact hlen,h.nd,h.ge,fun i a b=> ?_⟩;by_cases hi:i=ms.length - 1
 · subst hi;have e:(M.H7 fs x j)[ms.length - 1]'b=(fs[ms.length - 1]'(by omega)).set x j:=by
    refine Option.some.inj ?_;rw[<-List.getElem?_eq_getElem,M.H5b fs x j (ms.length - 1) (by omega),hfl]
   rw[e];exact hF
 · have e:(M.H7 fs x j)[i]'b=fs[i]'(by omega):=by
    refine Option.some.inj ?_;rw[<-List.getElem?_eq_getElem,M.O5b fs x j i (by omega),List.getElem?_eq_getElem]
   rw[e];refine((h.fr i a (by omega)).chg hc ?_).more (by omega);exact(List.pairwise_iff_getElem.1 h.nd) i (ms.length - 1) a (by omega) (by omega)
theorem U4c (h:Bsx w B bb nv av tv ms m fs ts) (hne:ms≠[]) (hsm:ms.length<=1000000):Calls Tryz.prog 107 #[pV bb] w fun e w'=>e= .returned (.map (some (ms.getLast hne)))/\Chg No w w':=by
 have hpos:0<ms.length:=List.length_pos_iff.2 hne;obtain⟨g,c,rfl,hg,h1,h2,x0⟩:=h.cell (i:=ms.length - 1) (by omega);have hl:ms.getLast hne=ms[ms.length - 1]:=by rw[List.getLast_eq_getElem]
 rw[hl];have b1:w.cell? (aD bb 1)=some (.slice (some (aD g 0)) ms.length c):=cr h.blk rfl;have lb:bb<w.heap.size:=(ltG h.blk);clear h hl;unfold maxLen at h2;generalize ms[ms.length - 1]=q at *;go_enter Tryz.func107,Tryz.ntmps107;go_wp2_with fail
 go_region
 all_goals go_wp2
 all_goals go_ret
 all_goals exact⟨rfl,Chg.drewN No _ 1⟩
end
open Go.RowKit Go.Maps
theorem A0b (x:List UInt8):∀(fs:List M.Fr) (k:Nat) (i:Int),M.look x (fs.drop k)=some i->M.look x fs=some i
 |fs,0,i,h=>h
 |[],k+1,i,h=>by simpa using h
 |f::r,k+1,i,h=>by
  have:=A0b x r k i h;rw[M.look,this]
theorem V8c (x:List UInt8) (fs:List M.Fr) (k:Nat) (hk:k<fs.length):M.look x (fs.drop k)=match M.look x (fs.drop (k+1)) with
 |some i=>some i
 |none=>fs[k] x:=by
 rw[List.drop_eq_getElem_cons hk,M.look];rfl
section
variable {w w':World} {B bb m:Nat} {nv av tv:Value} {ms:List Nat} {fs:List M.Fr} {ts:List Int}
theorem A6b (h:Bsx w B bb nv av tv ms m fs ts) (hsm:ms.length<=1000000) (kd va vb vc:Int) (la:Option Addr) (ll lc:Nat) (x:List UInt8) (vn vt vp:Int) (hx:x.length<=1000000):
 Calls Tryz.prog 105 #[pV bb,.agg #[iV kd,iV va,iV vb,iV vc,.slice la ll lc,.string ⟨x.toArray⟩,iV vn,iV vt,iV vp]] w fun e w'=>
  Chg No w w'/\e=match M.look x fs with
   |some j=> .returned (iV j)
   |none=>gu 5 vp:=by
 have hlen:=h.len;obtain⟨ad,c,rfl⟩:=B6 h.ar;have hb0:=heap_alloc_new w (.cells #[iV kd,iV va,iV vb,iV vc,.slice la ll lc,.string ⟨x.toArray⟩,iV vn,iV vt,iV vp] 72);have hA:Chg No w (w.alloc (.cells #[iV kd,iV va,iV vb,iV vc,.slice la ll lc,.string ⟨x.toArray⟩,iV vn,iV vt,iV vp] 72)):=Chg.alloc No _ _;have FA:Hid (∀a,Chg No (w.alloc (.cells #[iV kd,iV va,iV vb,iV vc,.slice la ll lc,.string ⟨x.toArray⟩,iV vn,iV vt,iV vp] 72)) a->a.cell? (aD w.heap.size 5)=some (.string ⟨x.toArray⟩)/\a.cell? (aD w.heap.size 8)=some (iV vp)/\a.cell? (aD bb 1)=some (.slice ad fs.length c)/\w.heap.size<a.heap.size/\bb<a.heap.size):=fun a ha=>by
  refine⟨A4 ha ?_,A4 ha ?_, ?_, ?_, ?_⟩
  · rw[cell_of_row _ _ 5 _ _ _ hb0];rfl
  · rw[cell_of_row _ _ 8 _ _ _ hb0];rfl
  · have:=((h.still hA).still ha).blk;rw[cell_of_row a bb 1 _ _ _ this];rfl
  · have:=ha.size;simp only[World.size_alloc]at this;omega
  · exact(Array.getElem?_eq_some_iff.1 ((h.still hA).still ha).blk).1
 have FM:Hid (∀a,Chg No (w.alloc (.cells #[iV kd,iV va,iV vb,iV vc,.slice la ll lc,.string ⟨x.toArray⟩,iV vn,iV vt,iV vp] 72)) a->∀k (hk:k<fs.length),∃g q,ad=some (aD g 0)/\g<a.heap.size/\fs.length<=c/\c<=maxLen/\a.cell? (aD g k)=some (.map (some q))/\
  (Instr.lookup 155 (.map (some q)) (.string ⟨x.toArray⟩) true).run Tryz.prog a.drew= .ok (.tuple #[iV ((fs[k] x).getD 0),.bool (fs[k] x).isSome]) a.drew):=fun a ha k hk=>by
  have hb:=(h.still hA).still ha;obtain⟨g,c',e,h1,h2,h3,h4⟩:=hb.cell (i:=k) (by omega);simp only[Value.slice.injEq]at e;obtain⟨rfl,_,rfl⟩:=e;have hf:=((hb.still (Chg.drewN No a 1)).fr k (by omega) hk).look x hx;exact⟨g,_,rfl,h1,by omega,h3,h4,hf⟩
 have HG:=A0 (V8);have HA:=A0 hA;have hfl:fs.length<=1000000:=by omega
 generalize hR:M.look x fs=R;have HR:=A0 hR;clear h hb0 hA hlen hR hsm;generalize (⟨x.toArray⟩:ByteArray)=xs at *;go_enter Tryz.func105,Tryz.ntmps105;have b0:=(FA.out _ (Chg.refl _ _)).2.2.1;go_wp2_with fail
 go_loopw [5] (fun v wr=>∃(k:Nat) (z:Int),k<=fs.length/\v=iV z/\z=(k:Int) - 1/\Hid (M.look x (fs.drop k)=none)/\Hid (Chg No (w.alloc (.cells #[iV kd,iV va,iV vb,iV vc,.slice la ll lc,.string xs,iV vn,iV vt,iV vp] 72)) wr)) (fun v _=>(intOf v+1).toNat)
 case atStart=>exact⟨fs.length,(fs.length:Int) - 1,Nat.le_refl _,by go_num,rfl,by simp[Hid,M.look],Chg.refl _ _⟩
 case round=>
  obtain⟨k,z,hk,rfl,hz,HK,CK⟩:=hrel;obtain⟨f5,f8,fb,l1,l2⟩:=FA.out _ CK.out;cases k with
  |zero=>
   have hno:M.look x fs=none:=by simpa using HK.out
   obtain rfl:R=none:=by rw[<-HR.out];exact hno
   have hz0:z<0:=by omega
   have hz1:¬0<=z:=by omega
   go_wp2_with fail
   refine(HG.out _ _ _).mono ?_;rintro e w2 ⟨rfl,hc⟩;exact⟨rfl,C8 (C8 HA.out CK.out) hc,rfl⟩
  |succ k=>
   have hzk:z=(k:Int):=by omega
   clear hz;subst hzk;have hkl:k<fs.length:=by omega
   obtain⟨g,q,rfl,hg,hc1,hc2,x0,hl⟩:=FM.out _ CK.out k hkl;unfold maxLen at hc2;have hla:=V8c x fs k hkl;rw[HK.out]at hla;simp only at hla;cases hf:fs[k] x with
   |none=>
    rw[hf]at hl hla;simp only[Option.getD_none,Option.isSome_none]at hl;have HN:=A0 hla;clear hla hf HR;go_wp2_with fail
    go_region
    all_goals go_wp2
    all_goals go_roundw
    case rel=>exact⟨k,(k:Int) - 1,by omega,by go_num,rfl,HN.out,C8 CK.out (Chg.drewN No _ 1)⟩
    case measure=>simp[intOf]
   |some j=>
    rw[hf]at hl hla;simp only[Option.getD_some,Option.isSome_some]at hl;obtain rfl:R=some j:=by rw[<-HR.out];exact A0b x fs k j hla
    clear hla hf HR;go_wp2_with fail
    go_region
    all_goals go_wp2
    all_goals go_ret
    all_goals exact⟨C8 (C8 HA.out CK.out) (Chg.drewN No _ 1),rfl⟩
end
open Go.RowKit Go.Maps
def Bkp (B bb:Nat) (tv:Value) (w w':World):Prop:=Chg (fun k=>B<=k/\(k=bb\/tv.ownBlock=some k\/(∃cs fz,w.heap[k]? =some (.cells cs 155 fz))\/∃es cl,w.heap[k]? =some (.map es cl))) w w'
theorem Bkp.refl (B bb:Nat) (tv:Value) (w:World):Bkp B bb tv w w:=Chg.refl _ _
theorem Bkp.still {B bb:Nat} {tv:Value} {w w':World} (h:Chg No w w'):Bkp B bb tv w w':=h.mono fun _ _ x=>x.elim
theorem Bkp.trans {B bb:Nat} {tv:Value} {a b c:World} (h:Bkp B bb tv a b) (k:Bkp B bb tv b c):Bkp B bb tv a c:=by
 refine⟨k.os.trans h.os,k.tape.trans h.tape,k.output.trans h.output,Nat.le_trans h.size k.size,fun i hi hn=> ?_⟩;have h1:=h.block i hi hn;refine(k.block i (Nat.lt_of_lt_of_le hi h.size) (fun x=>hn ⟨x.1, ?_⟩)).trans h1;rcases x.2 with hx|hx|⟨cs,fz,hh⟩|⟨es,cl,hh⟩
 · exact .inl hx
 · exact .inr (.inl hx)
 · exact .inr (.inr (.inl ⟨cs,fz,by rw[<-h1];exact hh⟩))
 · exact .inr (.inr (.inr ⟨es,cl,by rw[<-h1];exact hh⟩))
theorem Bkp.below {B bb:Nat} {tv:Value} {w w':World} (h:Bkp B bb tv w w') (hB:B<=w.heap.size):Below B w w':=Chg.toBelow h (fun _ _ x=>x.1) hB
theorem Bkp.row {B bb:Nat} {tv:Value} {w w':World} (hc:Bkp B bb tv w w') {base:Nat} {size:Nat} {v:Value} {n:Nat} {xs:List Value} (h:w.ownsRow base 3 size v n xs) (hb:v.ownBlock≠some bb) (ht:∀g,v.ownBlock=some g->tv.ownBlock≠some g):w'.ownsRow base 3 size v n xs:=by
 refine A8 h hc fun g hg hx=> ?_;obtain⟨_,cur,hh⟩:=A9 h g hg;rcases hx.2 with rfl|hx|⟨cs,fz,h2⟩|⟨es,cl,h2⟩
 · exact hb hg
 · exact ht g hg hx
 · rw[hh]at h2;simp at h2
 · rw[hh]at h2;simp at h2
structure Bnt (w0 w:World) (B bb:Nat) (nv tv:Value) (m:Nat) (fs:List M.Fr) (ts:List Int):Prop where
 hz:w0.heap.size<=B
 le:B<=w.heap.size
 bel:Below w0.heap.size w0 w
 st:∃av ms,Bsx w B bb nv av tv ms m fs ts
def atI (N:List M.Nd) (i:Nat):Int:=(N.getD i M.nd0).at'
def BnPost (w0 w:World) (B bb:Nat) (nv tv:Value) (N:List M.Nd) (m:Nat) (ts:List Int) (r:M.Br) (e:Ending) (w':World):Prop:=
 Bkp B bb tv w w'/\match r with
  | .bad er i=>e=gu er (atI N i)
  | .ok fs' l=>e=rT/\Bnt w0 w' B bb nv tv m fs' (M.upd ts l)
def T7 (w0:World) (B bb:Nat) (nv tv:Value) (N:List M.Nd) (t:M.Nt):Prop:=∀(b tb:Nat) (w:World) (m:Nat) (fs:List M.Fr) (ts:List Int),M.Em N b tb t->Bnt w0 w B bb nv tv m fs ts->fs≠[]->m+2 * M.nN t<=100000->fs.length+M.nN t<=100000->ts.length=N.length->
 Calls Tryz.prog 77 #[pV bb,iV (M.ixN b tb t)] w (BnPost w0 w B bb nv tv N (m+2 * M.nN t) ts (M.bnT fs b t))
theorem Bnt.kept {w0 w w':World} {B bb:Nat} {nv tv:Value} {m:Nat} {fs:List M.Fr} {ts:List Int} (h:Bnt w0 w B bb nv tv m fs ts) (hc:Chg No w w'):Bnt w0 w' B bb nv tv m fs ts:=by
 obtain⟨av,ms,hs⟩:=h.st;exact⟨h.hz,Nat.le_trans h.le hc.size,h.bel.trans (Chg.toBelow hc (fun _ _ x=>x.elim) h.bel.size),av,ms,hs.still hc⟩
section
variable {w0:World} {B bb:Nat} {nv tv:Value} {N:List M.Nd}
theorem Z5c (ps:List M.Nt) (hps:∀p∈ps,1<=p.k/\T7 w0 B bb nv tv N p) (b tb:Nat) (w:World) (m:Nat) (fs:List M.Fr) (ts:List Int) (he:M.EmL N b tb ps) (h:Bnt w0 w B bb nv tv m fs ts) (hfs:fs≠[]) (hm:m+2 * M.nNL ps<=100000) (hf:fs.length+M.nNL ps<=100000) (hts:ts.length=N.length)
 (la:Option Addr) (lc:Nat) (ho:w.ownsRow 0 3 1 (.slice la ps.length lc) ps.length (C7 (M.px b ps))) (hob:(Value.slice la ps.length lc).ownBlock≠some bb) (hot:∀g,(Value.slice la ps.length lc).ownBlock=some g->tv.ownBlock≠some g):
 Calls Tryz.prog 49 #[pV bb,.slice la ps.length lc] w (BnPost w0 w B bb nv tv N (m+2 * M.nNL ps) ts (M.bnL false fs b ps)):=by
 have hk1:∀p∈ps,1<=p.k:=fun p hp=>(hps p hp).1;have hpl:=M.C2a ps b hk1;have PX:Hid (∀j (hj:j<ps.length),(M.px b ps)[j]? =some (M.ixN (b+M.nNL (ps.take j)) (tb+M.nTL (ps.take j)) ps[j])):=M.A1d ps b tb hk1;have NT:Hid (∀j,M.nNL (ps.take j)<=M.nNL ps):=fun j=>by
  have:=M.H2a (ps.take j) (ps.drop j);rw[List.take_append_drop]at this;omega
 have NS:Hid (∀j (hj:j<ps.length),M.nNL (ps.take (j+1))=M.nNL (ps.take j)+M.nN ps[j]):=fun j hj=>by
  rw[List.take_succ_eq_append_getElem hj,M.H2a,M.nNL,M.nNL];omega
 have SL:Hid (∀j fs1 l1,M.bnL false fs b (ps.take j)= .ok fs1 l1->fs1.length=fs.length):=fun j fs1 l1 e=>M.S5 (ps.take j) false fs b hfs fs1 l1 e;have RW:Hid (∀a,Bkp B bb tv w a->a.ownsRow 0 3 1 (.slice la (M.px b ps).length lc) (M.px b ps).length (C7 (M.px b ps))):=fun a ha=>by
  rw[hpl];exact ha.row ho hob hot
 have HPS:=A0 hps;have HE:=A0 he;have H0:=A0 h;have hsm:ps.length<=100000:=by
  have:=M.K2b ps hk1;omega
 clear ho hob hot hps he h;generalize hls:M.px b ps=ls at *;clear hls;rw[<-hpl];have HPL:=A0 hpl;have hsl0:ls.length<=100000:=by omega
 clear hpl hsm;generalize hRR:M.bnL false fs b ps=RR;have HRR:=A0 hRR;clear hRR;go_enter Tryz.func49,Tryz.ntmps49;go_wp2_with fail
 go_loopw [8] (fun v wr=>∃(j:Nat) (fs1:List M.Fr) (l1:List (Nat×Int)),j<=ls.length/\v=iV (j:Int)/\Hid (M.bnL false fs b (ps.take j)= .ok fs1 l1)/\Hid (Bnt w0 wr B bb nv tv (m+2 * M.nNL (ps.take j)) fs1 (M.upd ts l1))/\Hid (Bkp B bb tv w wr)) (fun v _=>ls.length - (intOf v).toNat)
 case atStart=>exact⟨0,fs,[],Nat.zero_le _,rfl,by simp[Hid,M.bnL],by simpa[Hid,M.nNL,M.upd]using H0.out,Bkp.refl _ _ _ _⟩
 case round=>
  obtain⟨j,fs1,l1,hj,rfl,HB,HS,HK⟩:=hrel;by_cases hjl:j<ls.length
  · have hjp:j<ps.length:=by have:=HPL.out;omega
    obtain⟨g,e1,hg,h11,h12,x1⟩:=D7 (RW.out _ HK.out) hjl;subst e1;unfold maxLen at h12;have hix:ls[j]=M.ixN (b+M.nNL (ps.take j)) (tb+M.nTL (ps.take j)) ps[j]:=by
     have:=PX.out j hjp;rw[List.getElem?_eq_getElem hjl]at this;simpa using this
    rw[hix]at x1;have hsl:=SL.out j fs1 l1 HB.out;have hns:=NS.out j hjp;have hnt:=NT.out (j+1);have HC:=A0 ((HPS.out ps[j] (List.getElem_mem hjp)).2 _ _ wr _ fs1 (M.upd ts l1) (M.EmL.at HE.out j hjp) HS.out (M.M6 hfs hsl) (by omega) (by omega) (by rw[M.J9a];exact hts));have BT:=A0 (M.Q0c hk1 fs b j hjp);have BD:Hid (∀e i,M.bnL false fs b (ps.take (j+1))= .bad e i->RR= .bad e i):=fun e i hb=>by rw[<-HRR.out];exact M.Y8c hk1 fs b (j+1) hb
    generalize M.ixN (b+M.nNL (ps.take j)) (tb+M.nTL (ps.take j)) ps[j]=ix at *;generalize hbr:M.bnT fs1 (b+M.nNL (ps.take j)) ps[j]=br at *;have HBR:=A0 hbr;have HNS:=A0 hns;clear hix hns hnt hsl hbr;go_wp2_with fail
    refine HC.out.mono ?_;rintro e w2 ⟨hk2,hr⟩;have K2:=A0 (HK.out.trans hk2);have hbt:=BT.out;rw[HB.out,M.Br.and_ok,HBR.out]at hbt;clear hk2 HC;cases br with
    |bad er i=>
     obtain rfl:e=gu er (atI N i):=hr;obtain rfl:=BD.out er i hbt;exact⟨rfl,K2.out,rfl⟩
    |ok fs2 l2=>
     obtain⟨rfl,hb2⟩:=hr;rw[<-M.U5b,Nat.add_assoc,<-Nat.mul_add,<-HNS.out]at hb2;have HB2:=A0 hb2;have HT2:=A0 hbt;clear hb2 hbt BT BD HBR;go_wp2_with fail
     all_goals go_roundw
     case rel=>exact⟨j+1,fs2,l1++l2,by omega,by go_num,HT2.out,HB2.out,K2.out⟩
     case measure=>simp[intOf];omega
  · have hje:j=ls.length:=by omega
    subst hje;have hr:RR= .ok fs1 l1:=by
     rw[<-HRR.out,<-HB.out,HPL.out,List.take_length]
    have hb:=HS.out;rw[HPL.out,List.take_length]at hb;have HB2:=A0 hb;subst hr;clear hb HS HB;go_wp2_with fail
    go_end0;exact⟨HK.out,rfl,HB2.out⟩
end
open Go.RowKit
theorem T6a (w:World) (ls:List Int) (fa:Option Addr) (fc:Nat) (ho:w.ownsRow 0 3 1 (.slice fa ls.length fc) ls.length (C7 ls)) (hn:ls.length<=100000):
 Calls Tryz.prog 58 #[.slice fa ls.length fc] w fun e w'=>∃ga gc,e= .returned (.slice ga ls.length gc)/\Chg No w w'/\w'.ownsRow w.heap.size 3 1 (.slice ga ls.length gc) ls.length (C7 ls):=by
 obtain⟨i0,hi,hz0,hz1,hz2⟩:=info_parts Tryz.infoInt;have q50:∀(w:World) (a:Option Addr) (n c n' c':Nat),(binOp .eql 48 (.slice a n c) (.slice none n' c')).run Tryz.prog w= .ok (.bool a.isNone) w:=fun w a n c n' c'=>Lib.run_eql_slice_nil w _ _ a n c n' c' Tryz.underlying48;rcases ho.2 with ⟨hv,h0⟩|⟨g,cap,cur,hv,hb,hg,hn2,hm,hcs,htk⟩
 · have:ls=[]:=List.length_eq_zero_iff.1 h0;subst this;simp only[Value.slice.injEq]at hv;obtain⟨rfl,-,rfl⟩:=hv;go_enter Tryz.func58,Tryz.ntmps58;go_wp2;go_ret;exact⟨none,0,rfl,Chg.refl _ _,rfl,.inl ⟨rfl,rfl⟩⟩
 · simp only[Value.slice.injEq]at hv;obtain⟨rfl,-,rfl⟩:=hv;have hlt:=(ltG hg);have HO:Hid ((w.alloc (.cells #[] 3)).ownsRow w.heap.size 3 1 (.slice (some (aD w.heap.size 0)) 0 0) 0 []):=
    ⟨rfl,.inr ⟨w.heap.size,0,#[],rfl,Nat.le_refl _,heap_alloc_new w _,Nat.le_refl _,Nat.zero_le _,rfl,rfl⟩⟩
   have HL:Hid ((C7 ls).length=ls.length * 1):=by simp[Hid,C7]
   have HN:Hid (∀j u,(C7 ls)[j]? =some u->(w.alloc (.cells #[] 3)).cell? (((aD g 0):Addr).add j)=some u):=by
    intro j u hj;have e:=ho.cells (g:=g) rfl j u hj;have hadd:((aD g 0):Addr).add j=(aD g j):=by unfold Addr.add;split<;>simp_all
    rw[hadd]at e⊢;exact F9 hlt e
   have H1:Hid (∀u∈C7 ls,u.oneCell'=true):=by
    intro u hu;simp only[C7,List.mem_map]at hu;obtain⟨x,-,rfl⟩:=hu;rfl
   clear ho htk hg;go_enter Tryz.func58,Tryz.ntmps58;go_wp2_with (at_builtin;refine wpList_append_own _ rfl _ _ 48 rfl w.heap.size 3 i0 (iV 0) 1 8 Tryz.underlying48 hi hz0 hz1 hz2 rfl (by decide) _ 0 [] rfl HO.out (aD g 0) ls.length fc (C7 ls) rfl HL.out HN.out H1.out ?c3 ?c4 ?c5 ?_)
   case c3=>simp only[maxLen];omega
   case c4=>omega
   case c5=>simp
   intro v' w2 hown2 hg2 _;obtain⟨ad2,c2,rfl⟩:=B6 hown2;have HO2:=A0 hown2;have HC:Hid (Chg No w w2):=by
    refine((Chg.alloc (fun k=>w.heap.size<=k) w _).trans (Chg.grown hg2) (fun k hk x=> ?_)).mono (fun k hk x=>by omega);have x':some k=some w.heap.size:=x;simp only[Option.some.injEq]at x';omega
   clear hown2 hg2;go_wp2;go_ret;exact⟨ad2,c2,rfl,HC.out,by simpa using HO2.out⟩
def PaP (w:World) (ps:List Int) (e:Ending) (w':World):Prop:=∃ga gc,e= .returned (.slice ga ps.length gc)/\Chg No w w'/\w'.ownsRow w.heap.size 3 1 (.slice ga ps.length gc) ps.length (C7 ps)
theorem B4a {w:World} {base:Nat} (hb:base<=w.heap.size) (ls:List Int) (hl:ls.length<=1000):(w.alloc (.cells (C7 ls).toArray 3)).ownsRow base 3 1 (.slice (some (aD w.heap.size 0)) ls.length ls.length) ls.length (C7 ls):=by
 have hil:(C7 ls).length=ls.length:=by simp[C7]
 exact⟨by rw[hil];omega,.inr ⟨w.heap.size,ls.length,(C7 ls).toArray,rfl,hb,heap_alloc_new w _,Nat.le_refl _,by unfold maxLen;omega,by simp[hil],by simp;exact List.take_of_length_le (by omega)⟩⟩
section
variable (w:World) (va vb vc:Int) (ls:List Int) (la:Option Addr) (lc:Nat) (xs:ByteArray) (vn vt vp:Int)
theorem P3b (kd:Int) (hk:kd=1\/kd=2\/kd=3\/kd=4\/kd=5\/kd=16):Calls Tryz.prog 30 #[.agg #[iV kd,iV va,iV vb,iV vc,.slice la ls.length lc,.string xs,iV vn,iV vt,iV vp]] w (PaP w []):=by
 rcases hk with rfl|rfl|rfl|rfl|rfl|rfl<;>
 · go_enter Tryz.func30,Tryz.ntmps30;go_wp2;go_ret;exact⟨none,0,rfl,Chg.alloc No _ _,rfl,.inl ⟨rfl,rfl⟩⟩
theorem P2b (kd:Int) (hk:kd=8\/kd=13\/kd=14\/kd=15\/kd=17\/kd=18\/kd=21\/kd=24\/kd=25):Calls Tryz.prog 30 #[.agg #[iV kd,iV va,iV vb,iV vc,.slice la ls.length lc,.string xs,iV vn,iV vt,iV vp]] w (PaP w [va]):=by
 rcases hk with rfl|rfl|rfl|rfl|rfl|rfl|rfl|rfl|rfl<;>
 · have HR:=fun a=>A0 (B4a (w:=w.alloc (.cells #[iV a,iV va,iV vb,iV vc,.slice la ls.length lc,.string xs,iV vn,iV vt,iV vp] 72)) (base:=w.heap.size) (by simp) [va] (by simp));go_enter Tryz.func30,Tryz.ntmps30;go_wp2;go_ret;exact⟨_,_,rfl,C8 (Chg.alloc No _ _) (Chg.alloc No _ _),by simpa[C7]using (HR _).out⟩
theorem S9a (kd:Int) (hk:kd=9\/kd=12\/kd=19\/kd=23\/kd=22/\vc= -1):Calls Tryz.prog 30 #[.agg #[iV kd,iV va,iV vb,iV vc,.slice la ls.length lc,.string xs,iV vn,iV vt,iV vp]] w (PaP w [va,vb]):=by
 rcases hk with rfl|rfl|rfl|rfl|⟨rfl,rfl⟩<;>
 · have HR:=fun a c=>A0 (B4a (w:=w.alloc (.cells #[iV a,iV va,iV vb,iV c,.slice la ls.length lc,.string xs,iV vn,iV vt,iV vp] 72)) (base:=w.heap.size) (by simp) [va,vb] (by simp));go_enter Tryz.func30,Tryz.ntmps30;go_wp2;go_ret;exact⟨_,_,rfl,C8 (Chg.alloc No _ _) (Chg.alloc No _ _),by simpa[C7]using (HR _ _).out⟩
theorem C4b (kd:Int) (hk:kd=20\/kd=22/\vc≠-1):Calls Tryz.prog 30 #[.agg #[iV kd,iV va,iV vb,iV vc,.slice la ls.length lc,.string xs,iV vn,iV vt,iV vp]] w (PaP w [va,vb,vc]):=by
 rcases hk with rfl|⟨rfl,hc⟩
 · have HR:=A0 (B4a (w:=w.alloc (.cells #[iV 20,iV va,iV vb,iV vc,.slice la ls.length lc,.string xs,iV vn,iV vt,iV vp] 72)) (base:=w.heap.size) (by simp) [va,vb,vc] (by simp));go_enter Tryz.func30,Tryz.ntmps30;go_wp2;go_ret;exact⟨_,_,rfl,C8 (Chg.alloc No _ _) (Chg.alloc No _ _),by simpa[C7]using HR.out⟩
 · have HR:=A0 (B4a (w:=w.alloc (.cells #[iV 22,iV va,iV vb,iV vc,.slice la ls.length lc,.string xs,iV vn,iV vt,iV vp] 72)) (base:=w.heap.size) (by simp) [va,vb,vc] (by simp));have hc':(vc== -1)=false:=by simpa using hc
   go_enter Tryz.func30,Tryz.ntmps30;go_wp2;go_ret;exact⟨_,_,rfl,C8 (Chg.alloc No _ _) (Chg.alloc No _ _),by simpa[C7]using HR.out⟩
theorem P1b (kd:Int) (hk:kd=10\/kd=11\/kd=26) (ho:w.ownsRow 0 3 1 (.slice la ls.length lc) ls.length (C7 ls)) (hn:ls.length<=100000):Calls Tryz.prog 30 #[.agg #[iV kd,iV va,iV vb,iV vc,.slice la ls.length lc,.string xs,iV vn,iV vt,iV vp]] w (PaP w ls):=by
 rcases hk with rfl|rfl|rfl<;>
 · have HC:=fun a=>A0 (T6a (w.alloc (.cells #[iV a,iV va,iV vb,iV vc,.slice la ls.length lc,.string xs,iV vn,iV vt,iV vp] 72)) ls la lc (A8 ho (Chg.alloc No _ _) (fun _ _ x=>x)) hn);go_enter Tryz.func30,Tryz.ntmps30;go_wp2_with fail
   refine(HC _).out.mono ?_;rintro e w2 ⟨ga,gc,rfl,hc,hr⟩;have HR:=A0 (C9 hr (by simp:w.heap.size<=_));have H2:=A0 (C8 (Chg.alloc No _ _) hc);clear hc hr HC;go_wp2;go_ret;exact⟨ga,gc,rfl,H2.out,HR.out⟩
end
open Go.RowKit
theorem T4c (w:World) (o:Obj) (va:Int):((w.alloc o).alloc (.cells #[iV va] 3)).ownsRow w.heap.size 3 1 (.slice (some (aD (w.heap.size+1) 0)) 1 1) 1 [iV va]:=by
 have:=B4a (w:=w.alloc o) (base:=w.heap.size) (by simp) [va] (by simp);simpa[C7]using this
section
variable (w:World) (va vb vc:Int) (ls:List Int) (la:Option Addr) (lc:Nat) (xs:ByteArray) (vn vt vp:Int)
theorem I2c (ho:w.ownsRow 0 3 1 (.slice la ls.length lc) ls.length (C7 ls)) (hn:ls.length<=100000):Calls Tryz.prog 30 #[.agg #[iV 7,iV va,iV vb,iV vc,.slice la ls.length lc,.string xs,iV vn,iV vt,iV vp]] w (PaP w (va::ls)):=by
 obtain⟨i0,hi,hz0,hz1,hz2⟩:=info_parts Tryz.infoInt;have HR:Hid (((w.alloc (.cells #[iV 7,iV va,iV vb,iV vc,.slice la ls.length lc,.string xs,iV vn,iV vt,iV vp] 72)).alloc (.cells #[iV va] 3)).ownsRow w.heap.size 3 1 (.slice (some (aD (w.heap.size+1) 0)) 1 1) 1 [iV va]):=T4c w _ va;have HC2:=A0 (C8 (Chg.alloc No w (.cells #[iV 7,iV va,iV vb,iV vc,.slice la ls.length lc,.string xs,iV vn,iV vt,iV vp] 72)) (Chg.alloc No _ (.cells #[iV va] 3)));rcases ho.2 with ⟨hv,h0⟩|⟨g,cap,cur,hv,hb,hg,hn2,hm,hcs,htk⟩
 · have:ls=[]:=List.length_eq_zero_iff.1 h0;subst this;simp only[Value.slice.injEq]at hv;obtain⟨rfl,-,rfl⟩:=hv;go_enter Tryz.func30,Tryz.ntmps30;go_wp2_with (at_builtin;refine wpList_append_own_none rfl _ _ 48 rfl w.heap.size 3 i0 1 Tryz.underlying48 hi _ _ _ rfl HR.out rfl ?_)
   go_wp2;go_ret;exact⟨_,_,rfl,HC2.out,HR.out⟩
 · simp only[Value.slice.injEq]at hv;obtain⟨rfl,-,rfl⟩:=hv;have HL:Hid ((C7 ls).length=ls.length * 1):=by simp[Hid,C7]
   have HN:Hid (∀j u,(C7 ls)[j]? =some u->((w.alloc (.cells #[iV 7,iV va,iV vb,iV vc,.slice (some (aD g 0)) ls.length lc,.string xs,iV vn,iV vt,iV vp] 72)).alloc (.cells #[iV va] 3)).cell? (((aD g 0):Addr).add j)=some u):=by
    intro j u hj;have e:=ho.cells (g:=g) rfl j u hj;exact A4 HC2.out e
   have H1:Hid (∀u∈C7 ls,u.oneCell'=true):=by
    intro u hu;simp only[C7,List.mem_map]at hu;obtain⟨x,-,rfl⟩:=hu;rfl
   clear ho htk hg;go_enter Tryz.func30,Tryz.ntmps30;go_wp2_with (at_builtin;refine wpList_append_own _ rfl _ _ 48 rfl w.heap.size 3 i0 (iV 0) 1 8 Tryz.underlying48 hi hz0 hz1 hz2 rfl (by decide) _ 1 _ rfl HR.out (aD g 0) ls.length lc (C7 ls) rfl HL.out HN.out H1.out ?c3 ?c4 ?c5 ?_)
   case c3=>simp only[maxLen];omega
   case c4=>omega
   case c5=>simp;omega
   intro v' w2 hown2 hg2 _;have e3:1+ls.length=(va::ls).length:=by simp[Nat.add_comm]
   rw[e3]at hown2;replace hown2:w2.ownsRow w.heap.size 3 1 v' (va::ls).length (C7 (va::ls)):=hown2;obtain⟨ad2,c2,rfl⟩:=B6 hown2;have HO2:=A0 hown2;have HC:Hid (Chg No w w2):=by
    refine((HC2.out.mono (S':=fun k=>w.heap.size<=k) (fun _ _ x=>x.elim)).trans (Chg.grown hg2) (fun k hk x=>(A9 HR.out k x.symm).1)).mono (fun k hk x=>by omega)
   clear hown2 hg2;go_wp2;go_ret;exact⟨ad2,c2,rfl,HC.out,HO2.out⟩
end
end Go.Proofs.YtgdnpemiiageaaaGreatDoor
