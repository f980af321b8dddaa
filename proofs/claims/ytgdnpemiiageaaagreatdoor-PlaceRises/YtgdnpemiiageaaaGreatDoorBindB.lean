/-
  A part of the proof.
-/
import Derived.Test.YtgdnpemiiageaaaGreatDoorBindA
set_option maxHeartbeats 16000000
set_option maxRecDepth 100000
namespace Go.Proofs.YtgdnpemiiageaaaGreatDoor
open Go.RowKit Go.Maps
theorem V1b {w:World} {q:Nat} {x y z:Value} {t:TypeId} (h:w.heap[q]? =some (.cells #[x,y,z] t (0,0))) (v:Value):(w.setCell (aD q 1) v).heap[q]? =some (.cells #[x,v,z] t (0,0)):=by
 rw[heap_setCell_same w q 1 _ _ v h];rfl
theorem T1a {w:World} {b1 b2:Nat} {e1 e2:TypeId} {s1 s2:Nat} {v1 v2:Value} {n1 n2:Nat} {x1 x2:List Value} (h1:w.ownsRow b1 e1 s1 v1 n1 x1) (h2:w.ownsRow b2 e2 s2 v2 n2 x2) (he:e1≠e2) {g:Nat} (hg:v1.ownBlock=some g):v2.ownBlock≠some g:=by
 intro hg2;obtain⟨_,c1,hh1⟩:=A9 h1 g hg;obtain⟨_,c2,hh2⟩:=A9 h2 g hg2;rw[hh1]at hh2;simp only[Option.some.injEq,Obj.cells.injEq]at hh2;exact he hh2.2.1
theorem J7 {w:World} {b:Nat} {e e2:TypeId} {s:Nat} {v:Value} {n:Nat} {x:List Value} (h1:w.ownsRow b e s v n x) {q:Nat} {cs:Array Value} {fz:Nat×Nat} (h2:w.heap[q]? =some (.cells cs e2 fz)) (he:e≠e2):v.ownBlock≠some q:=by
 intro hg;obtain⟨_,c1,hh1⟩:=A9 h1 q hg;rw[hh1]at h2;simp only[Option.some.injEq,Obj.cells.injEq]at h2;exact he h2.2.1
section
variable {w w1 w2:World} {B bb m:Nat} {nv av av' tv:Value} {ms:List Nat} {fs:List M.Fr} {ts:List Int}
theorem Bsx.push (h:Bsx w B bb nv av tv ms m fs ts) {q:Nat} (hq:w.heap.size<=q) (hB:B<=q) (hc1:Chg No w w1) (hf:FrM w1 q 0 M.Fr.no) (hc2:Chg (fun k=>some k=av.ownBlock) w1 w2) (ho:w2.ownsRow B 155 1 av' (fs.length+1) ((ms.map fun q=> .map (some q))++[.map (some q)])):
 Bsx (w2.setCell (aD bb 1) av') B bb nv av' tv (ms++[q]) m (fs++[M.Fr.no]) ts/\Bkp B bb tv w (w2.setCell (aD bb 1) av'):=by
 have h1:=h.still hc1;have nb:av.ownBlock≠some bb:=J7 h1.ar h1.blk (by decide);have nt:∀g,tv.ownBlock=some g->¬some g=av.ownBlock:=fun g hg e=>T1a h1.tos h1.ar (by decide) hg e.symm;have nm:∀{x:Nat} {m:Nat} {f:M.Fr},FrM w1 x m f->¬some x=av.ownBlock:=fun hx e=>by
  obtain⟨_,cur,hh⟩:=A9 h1.ar _ e.symm;exact hx.notcells hh
 have b2:w2.heap[bb]? =some (.cells #[nv,av,tv] 90 (0,0)):=by
  rw[hc2.block bb (ltG h1.blk) (fun e=>nb e.symm)];exact h1.blk
 have t2:=A8 h1.tos hc2 nt;have b3:=V1b b2 av';have c3:Chg (fun k=>k=bb) w2 (w2.setCell (aD bb 1) av'):=Chg.set w2 (aD bb 1) av';have hlen:=h.len;have f2:∀{x:Nat} {m:Nat} {f:M.Fr},FrM w1 x m f->FrM (w2.setCell (aD bb 1) av') x m f:=fun hx=>by
  refine(hx.chg hc2 (nm hx)).chg c3 ?_;rintro rfl;exact(hx.chg hc2 (nm hx)).notcells b2
 have old:∀x∈ms,x<w.heap.size:=fun x hx=>by
  obtain⟨i,hi,rfl⟩:=List.getElem_of_mem hx;exact(h.fr i hi (by omega)).lt
 refine⟨⟨h.low,b3, ?_,A8 t2 c3 ?_, ?_, ?_, ?_, ?_⟩, ?_⟩
 · have:=A8 ho c3 (fun g hg e=>J7 ho b2 (by decide) (e ▸ hg));simpa using this
 · rintro g hg rfl;exact J7 t2 b2 (by decide) hg
 · simp[hlen]
 · rw[List.nodup_append];refine⟨h.nd,by simp,fun a ha b hb=> ?_⟩;simp only[List.mem_singleton]at hb;have:=old a ha;omega
 · intro x hx;rcases List.mem_append.1 hx with hx|hx
   · exact h.ge x hx
   · simp only[List.mem_singleton]at hx;omega
 · intro i a b;by_cases hi:i<ms.length
   · rw[List.getElem_append_left hi,List.getElem_append_left (by omega)];exact f2 ((h.fr i hi (by omega)).chg hc1 id)
   · have e1:i=ms.length:=by simp at a;omega
     subst e1;rw[List.getElem_append_right (Nat.le_refl _),List.getElem_append_right (by omega)];simp only[Nat.sub_self,List.getElem_cons_zero,hlen];exact(f2 hf).more (Nat.zero_le _)
 · refine Chg.trans (Chg.trans (hc1.mono fun _ _ x=>x.elim) hc2 fun k _ e=> ?_) c3 fun k _ e=>⟨e ▸ h.low,.inl e⟩;obtain⟨g1,cur,g2⟩:=A9 h.ar k e.symm;exact⟨g1,.inr (.inr (.inl ⟨cur,_,g2⟩))⟩
theorem Bsx.popd (h:Bsx w B bb nv av tv ms m fs ts) (hfs:fs≠[]):∃g c,av= .slice (some (aD g 0)) fs.length c/\fs.length<=c/\c<=maxLen/\g<w.heap.size/\Bsx (w.setCell (aD bb 1) (.slice (some (aD g 0)) (fs.length - 1) c)) B bb nv (.slice (some (aD g 0)) (fs.length - 1) c) tv ms.dropLast m fs.dropLast ts/\Bkp B bb tv w (w.setCell (aD bb 1) (.slice (some (aD g 0)) (fs.length - 1) c)):=by
 have hpos:0<fs.length:=List.length_pos_iff.2 hfs;have hlen:=h.len;rcases h.ar.2 with ⟨_,h0⟩|⟨g,cap,cur,rfl,hb,hg,hn,hm,hcs,htk⟩
 · omega
 · have b3:=V1b h.blk (.slice (some (aD g 0)) (fs.length - 1) cap);have c3:Chg (fun k=>k=bb) w (w.setCell (aD bb 1) (.slice (some (aD g 0)) (fs.length - 1) cap)):=Chg.set w (aD bb 1) _;have hdl:fs.dropLast.length=fs.length - 1:=List.length_dropLast;have hml:ms.dropLast.length=fs.length - 1:=by rw[List.length_dropLast,hlen]
   have ho:w.ownsRow B 155 1 (.slice (some (aD g 0)) (fs.length - 1) cap) (fs.length - 1) (ms.dropLast.map fun q=> .map (some q)):=by
    refine⟨by rw[List.length_map,hml,Nat.mul_one],.inr ⟨g,cap,cur,rfl,hb,hg,by omega,hm,hcs, ?_⟩⟩;rw[Nat.mul_one]at htk⊢;have:(cur.toList.take fs.length).take (fs.length - 1)=(ms.map fun q=>Value.map (some q)).take (fs.length - 1):=by rw[htk]
    rw[List.take_take,Nat.min_eq_left (by omega)]at this;rw[this,List.dropLast_eq_take,hlen,List.map_take]
   refine⟨g,cap,rfl,hn,hm,(ltG hg),⟨h.low,b3, ?_,A8 h.tos c3 ?_, ?_, ?_, ?_, ?_⟩,c3.mono fun k _ e=>⟨e ▸ h.low,.inl e⟩⟩
   · rw[hdl];exact A8 ho c3 (fun g hg e=>J7 ho h.blk (by decide) (e ▸ hg))
   · rintro g hg rfl;exact J7 h.tos h.blk (by decide) hg
   · omega
   · exact h.nd.sublist (List.dropLast_sublist _)
   · exact fun x hx=>h.ge x ((List.dropLast_sublist _).subset hx)
   · intro i a b;rw[List.getElem_dropLast,List.getElem_dropLast];have hf:=h.fr i (by omega) (by omega);refine hf.chg c3 ?_;rintro e;exact hf.notcells (e ▸ h.blk)
end
open Go.RowKit Go.Maps
theorem W4b:(Tryz.prog.info? 155).map (fun i=>(i.zero,i.size,i.bytes))=some (some (.map none),1,8):=by kernel_rfl
section
variable {w0 w:World} {B bb m:Nat} {nv tv:Value} {fs:List M.Fr} {ts:List Int} {N:List M.Nd}
theorem B6c (h:Bnt w0 w B bb nv tv m fs ts) (hfl:fs.length<=100000) (m':Nat) (r:M.Br) (hr:∀f l,r= .ok f l->f≠[]/\f.length<=100001) (c1 c2:Value) (HD:∀a,Bkp B bb tv w a->Bnt w0 a B bb nv tv m (fs++[M.Fr.no]) ts->Calls Tryz.prog 110 #[c1,c2] a (BnPost w0 a B bb nv tv N m' ts r)):
 Calls Tryz.prog 109 #[pV bb,.func (.func 110) #[] #[c1,c2]] w (BnPost w0 w B bb nv tv N m' ts r.pop):=by
 obtain⟨i0,hi,hz0,hz1,hz2⟩:=info_parts W4b;have hmm:=@run_makeMap Tryz.prog;obtain⟨av,ms,hs⟩:=h.st;have hlen:=hs.len;have hB:=h.le;have lb:bb<w.heap.size:=(ltG hs.blk);have b1:w.cell? (aD bb 1)=some av:=cr hs.blk rfl;have hca:Chg No w ((w.alloc (.map #[] 0)).alloc (.cells #[.map (some w.heap.size)] 155)):=C8 (Chg.alloc No _ _) (Chg.alloc No _ _);have HO:=A0 (hs.still hca).ar;have HF:Hid (FrM ((w.alloc (.map #[] 0)).alloc (.cells #[.map (some w.heap.size)] 155)) w.heap.size 0 M.Fr.no):=(FrM.new w).chg (Chg.alloc No _ _) id;have HCA:=A0 hca;have HS:=A0 hs;have HH:=A0 h;have HR:=A0 hr;have HDD:=A0 HD;obtain⟨aa,ac,rfl⟩:=B6 hs.ar;have hml:(ms.map fun q=>Value.map (some q)).length=fs.length:=by simp[hlen]
 clear h hs hca hr HD;go_enter Tryz.func109,Tryz.ntmps109;go_wp2_with (at_builtin;refine wpList_append_own _ rfl _ _ 88 rfl B 155 i0 (.map none) 1 8 Tryz.underlying88 hi hz0 hz1 hz2 rfl (by decide) _ fs.length _ rfl HO.out (aD (w.heap.size+1) 0) 1 1 [.map (some w.heap.size)] rfl rfl ?c1 ?c2 ?c3 ?c4 ?c5 ?_)
 case c1=>
  have:=cell_one_new (w.alloc (.map #[] 0)) (.map (some w.heap.size)) 155;simpa using this
 case c2=>intro u hu;simp at hu;rcases hu with rfl;rfl
 case c3=>simp only[maxLen];omega
 case c4=>omega
 case c5=>simp;omega
 intro v' w2 hown2 hg2 _;obtain⟨hs2,hk2⟩:=HS.out.push (Nat.le_refl _) hB HCA.out HF.out (Chg.grown hg2) hown2;have l2:bb<w2.heap.size:=Nat.lt_of_lt_of_le lb (Nat.le_trans HCA.out.size (Chg.grown hg2).size);have b2:w2.heap[bb]? =some (.cells #[nv,.slice aa fs.length ac,tv] 90 (0,0)):=by
  rw[(Chg.grown hg2).block bb (Nat.lt_of_lt_of_le lb HCA.out.size) (fun e=>J7 HO.out (by rw[HCA.out.block bb lb id];exact HS.out.blk) (by decide) e.symm),HCA.out.block bb lb id];exact HS.out.blk
 have c2x:w2.cell? (aD bb 1)=some (.slice aa fs.length ac):=cr b2 rfl;have z2:∀o,w2.frozen? (aD bb o)=false:=fun o=>frozen_of_row w2 bb o _ _ b2;obtain⟨ad2,ac2,rfl⟩:=B6 hown2;have HB2:Hid (Bnt w0 (w2.setCell (aD bb 1) (.slice ad2 (fs.length+1) ac2)) B bb nv tv m (fs++[M.Fr.no]) ts):=⟨HH.out.hz,Nat.le_trans hB hk2.size,HH.out.bel.trans ((hk2.below hB).mono HH.out.hz),_,_,hs2⟩;have HC:=A0 (HDD.out _ hk2 HB2.out);have K2:=A0 hk2;clear hs2 hk2 hown2 hg2 HDD HB2 HO HF HCA HS b2;go_wp2_with fail
 refine HC.out.mono ?_;clear HC;rintro e w3 ⟨hk3,h3⟩;have K3:=A0 (K2.out.trans hk3);clear hk3 K2;cases r with
 |bad er i=>
  obtain rfl:e=gu er (atI N i):=h3;exact⟨rfl,K3.out,rfl⟩
 |ok f l=>
  obtain⟨rfl,hb3⟩:=h3;obtain⟨hne,hfl2⟩:=HR.out f l rfl;obtain⟨av3,ms3,hs3⟩:=hb3.st;obtain⟨g,c,rfl,hc1,hc2,hg,hp,hkp⟩:=hs3.popd hne;unfold maxLen at hc2;have hfp:0<f.length:=List.length_pos_iff.2 hne;have l3:bb<w3.heap.size:=(ltG hs3.blk);have c3x:w3.cell? (aD bb 1)=some (.slice (some (aD g 0)) f.length c):=cr hs3.blk rfl;have z3:∀o,w3.frozen? (aD bb o)=false:=fun o=>frozen_of_row w3 bb o _ _ hs3.blk;have HP:=A0 hp;have HB3:=A0 hb3;have HKP:=A0 hkp;clear hp hb3 hkp hs3;go_wp2_with fail
  go_region
  all_goals go_end0
  all_goals
   have hk4:=K3.out.trans HKP.out;have hb4:Bnt w0 (w3.setCell (aD bb 1) (.slice (some (aD g 0)) (f.length - 1) c)) B bb nv tv m' f.dropLast (M.upd ts l):=⟨HH.out.hz,Nat.le_trans hB hk4.size,HH.out.bel.trans ((hk4.below hB).mono HH.out.hz),_,_,HP.out⟩;exact⟨hk4.trans (Bkp.still (Chg.drewN No _ 1)),rfl,hb4.kept (Chg.drewN No _ 1)⟩
theorem X2a (h:Bnt w0 w B bb nv tv m fs ts) (hfl:fs.length<=100000) (m':Nat) (r:M.Br) (hr:∀f l,r= .ok f l->f≠[]/\f.length<=100001) (c1 c2:Value) (HD:∀a,Bkp B bb tv w a->Bnt w0 a B bb nv tv m (fs++[M.Fr.no]) ts->Calls Tryz.prog 136 #[c1,c2] a (BnPost w0 a B bb nv tv N m' ts r)):
 Calls Tryz.prog 109 #[pV bb,.func (.func 136) #[] #[c1,c2]] w (BnPost w0 w B bb nv tv N m' ts r.pop):=by
 obtain⟨i0,hi,hz0,hz1,hz2⟩:=info_parts W4b;have hmm:=@run_makeMap Tryz.prog;obtain⟨av,ms,hs⟩:=h.st;have hlen:=hs.len;have hB:=h.le;have lb:bb<w.heap.size:=(ltG hs.blk);have b1:w.cell? (aD bb 1)=some av:=cr hs.blk rfl;have hca:Chg No w ((w.alloc (.map #[] 0)).alloc (.cells #[.map (some w.heap.size)] 155)):=C8 (Chg.alloc No _ _) (Chg.alloc No _ _);have HO:=A0 (hs.still hca).ar;have HF:Hid (FrM ((w.alloc (.map #[] 0)).alloc (.cells #[.map (some w.heap.size)] 155)) w.heap.size 0 M.Fr.no):=(FrM.new w).chg (Chg.alloc No _ _) id;have HCA:=A0 hca;have HS:=A0 hs;have HH:=A0 h;have HR:=A0 hr;have HDD:=A0 HD;obtain⟨aa,ac,rfl⟩:=B6 hs.ar;have hml:(ms.map fun q=>Value.map (some q)).length=fs.length:=by simp[hlen]
 clear h hs hca hr HD;go_enter Tryz.func109,Tryz.ntmps109;go_wp2_with (at_builtin;refine wpList_append_own _ rfl _ _ 88 rfl B 155 i0 (.map none) 1 8 Tryz.underlying88 hi hz0 hz1 hz2 rfl (by decide) _ fs.length _ rfl HO.out (aD (w.heap.size+1) 0) 1 1 [.map (some w.heap.size)] rfl rfl ?c1 ?c2 ?c3 ?c4 ?c5 ?_)
 case c1=>
  have:=cell_one_new (w.alloc (.map #[] 0)) (.map (some w.heap.size)) 155;simpa using this
 case c2=>intro u hu;simp at hu;rcases hu with rfl;rfl
 case c3=>simp only[maxLen];omega
 case c4=>omega
 case c5=>simp;omega
 intro v' w2 hown2 hg2 _;obtain⟨hs2,hk2⟩:=HS.out.push (Nat.le_refl _) hB HCA.out HF.out (Chg.grown hg2) hown2;have l2:bb<w2.heap.size:=Nat.lt_of_lt_of_le lb (Nat.le_trans HCA.out.size (Chg.grown hg2).size);have b2:w2.heap[bb]? =some (.cells #[nv,.slice aa fs.length ac,tv] 90 (0,0)):=by
  rw[(Chg.grown hg2).block bb (Nat.lt_of_lt_of_le lb HCA.out.size) (fun e=>J7 HO.out (by rw[HCA.out.block bb lb id];exact HS.out.blk) (by decide) e.symm),HCA.out.block bb lb id];exact HS.out.blk
 have c2x:w2.cell? (aD bb 1)=some (.slice aa fs.length ac):=cr b2 rfl;have z2:∀o,w2.frozen? (aD bb o)=false:=fun o=>frozen_of_row w2 bb o _ _ b2;obtain⟨ad2,ac2,rfl⟩:=B6 hown2;have HB2:Hid (Bnt w0 (w2.setCell (aD bb 1) (.slice ad2 (fs.length+1) ac2)) B bb nv tv m (fs++[M.Fr.no]) ts):=⟨HH.out.hz,Nat.le_trans hB hk2.size,HH.out.bel.trans ((hk2.below hB).mono HH.out.hz),_,_,hs2⟩;have HC:=A0 (HDD.out _ hk2 HB2.out);have K2:=A0 hk2;clear hs2 hk2 hown2 hg2 HDD HB2 HO HF HCA HS b2;go_wp2_with fail
 refine HC.out.mono ?_;clear HC;rintro e w3 ⟨hk3,h3⟩;have K3:=A0 (K2.out.trans hk3);clear hk3 K2;cases r with
 |bad er i=>
  obtain rfl:e=gu er (atI N i):=h3;exact⟨rfl,K3.out,rfl⟩
 |ok f l=>
  obtain⟨rfl,hb3⟩:=h3;obtain⟨hne,hfl2⟩:=HR.out f l rfl;obtain⟨av3,ms3,hs3⟩:=hb3.st;obtain⟨g,c,rfl,hc1,hc2,hg,hp,hkp⟩:=hs3.popd hne;unfold maxLen at hc2;have hfp:0<f.length:=List.length_pos_iff.2 hne;have l3:bb<w3.heap.size:=(ltG hs3.blk);have c3x:w3.cell? (aD bb 1)=some (.slice (some (aD g 0)) f.length c):=cr hs3.blk rfl;have z3:∀o,w3.frozen? (aD bb o)=false:=fun o=>frozen_of_row w3 bb o _ _ hs3.blk;have HP:=A0 hp;have HB3:=A0 hb3;have HKP:=A0 hkp;clear hp hb3 hkp hs3;go_wp2_with fail
  go_region
  all_goals go_end0
  all_goals
   have hk4:=K3.out.trans HKP.out;have hb4:Bnt w0 (w3.setCell (aD bb 1) (.slice (some (aD g 0)) (f.length - 1) c)) B bb nv tv m' f.dropLast (M.upd ts l):=⟨HH.out.hz,Nat.le_trans hB hk4.size,HH.out.bel.trans ((hk4.below hB).mono HH.out.hz),_,_,HP.out⟩;exact⟨hk4.trans (Bkp.still (Chg.drewN No _ 1)),rfl,hb4.kept (Chg.drewN No _ 1)⟩
end
open Go.RowKit
theorem M.EmL.butty {N:List M.Nd} {o:Option M.Tr}:∀{qs:List M.Nt} {b tb:Nat},M.EmL N b tb (qs++[.ty o])->M.EmL N b tb qs:=by
 intro qs b tb ⟨A,B,h,hA⟩;refine⟨A,B, ?_,hA⟩;rw[h];have:∀(qs:List M.Nt) (b tb:Nat),M.M9 b tb (qs++[.ty o])=M.M9 b tb qs:=by
  intro qs;induction qs with
  |nil=>intro b tb;simp[M.M9,M.emN]
  |cons p r ih=>intro b tb;simp[M.M9,ih]
 rw[this]
theorem M.bnL_butty {o:Option M.Tr}:∀(qs:List M.Nt) (fn:Bool) (fs:List M.Fr) (b:Nat),M.bnL fn fs b (qs++[.ty o])=M.bnL fn fs b qs
 |[],fn,fs,b=>by simp[M.bnL]
 | .ty _::r,fn,fs,b=>by rw[List.cons_append,M.bnL,M.bnL,M.bnL_butty r]
 | .nd k tx n ps::r,fn,fs,b=>by rw[List.cons_append,M.bnL,M.bnL];simp only[M.bnL_butty r]
theorem M.k_ty {p:M.Nt} (h:p.k= -1) (hg:M.Gd p):p= .ty none:=by
 cases p with
 |ty t=>cases t with
  |none=>rfl
  |some t=>simp[M.Nt.k]at h
 |nd k tx n ps=> 
  exfalso;rw[M.Gd]at hg;have h1:=hg.1;simp only[M.Nt.k]at h;subst h;simp[M.shp]at h1
def nvl (n:M.Nd) (la:Option Addr) (lc:Nat):Value:= .agg #[iV n.kind,iV n.a,iV n.b,iV n.c,.slice la n.list.length lc,.string ⟨n.text.toArray⟩,iV n.n,iV n.ty,iV n.at']
structure T6b (N:List M.Nd) (b tb:Nat) (ps:List M.Nt) (nd:M.Nd) (qs:List M.Nt):Prop where
 k:∀p∈qs,1<=p.k/\p∈ps
 em:M.EmL N b tb qs
 bn:∀fs,M.bnL false fs b ps=M.bnL false fs b qs
 n:M.nNL qs=M.nNL ps
 run:∀(w:World) (la:Option Addr) (lc:Nat),w.ownsRow 0 3 1 (.slice la nd.list.length lc) nd.list.length (C7 nd.list)->nd.list.length<=100000->Calls Tryz.prog 30 #[nvl nd la lc] w (PaP w (M.px b qs))
theorem I1c {k:Int} {tx:List UInt8} {n:Int} {ps:List M.Nt} (hg:M.Gd (.nd k tx n ps)) (hk:k≠6/\k≠17/\k≠26) {N:List M.Nd} {b tb:Nat} (he:M.EmL N b tb ps) (nd:M.Nd) (hn:nd.fl=M.mkN k tx n (M.ixL b tb ps)):∃qs,T6b N b tb ps nd qs:=by
 rw[M.Gd]at hg;obtain⟨hs,hgl⟩:=hg;obtain⟨kd,va,vb,vc,ls,txt,vn,vt,vp⟩:=nd;have hall:∀p∈ps,M.Gd p:=fun p hp=>M.Y7 hgl hp;unfold M.shp at hs;by_cases h0:k=1\/k=2\/k=3\/k=4\/k=5
 · rw[if_pos h0]at hs;have h:=h0;clear h0;have:ps=[]:=by simpa using hs
   subst this;rcases h with rfl|rfl|rfl|rfl|rfl<;>
   · simp[M.Nd.fl,M.mkN,M.ixL]at hn;obtain⟨rfl,rfl,rfl,rfl,rfl,-⟩:=hn;exact⟨[],by simp,he,fun _=>rfl,rfl,fun w la lc _ _=>P3b w _ _ _ [] la lc _ _ _ _ _ (by simp)⟩
 rw[if_neg h0]at hs;by_cases h1:k=6
 · omega
 rw[if_neg h1]at hs;by_cases h2:k=7
 · rw[if_pos h2]at hs;have h:=h2;clear h2;subst h;obtain⟨x,xs,h1,h2,h3⟩:=hs;have hk1:∀p∈ps,1<=p.k:=fun p hp=>by
    have:p.k∈ps.map M.Nt.k:=List.mem_map.2 ⟨p,hp,rfl⟩;rw[h1]at this;rcases List.mem_cons.1 this with e|e
    · rw[e];exact h2.1
    · exact(h3 _ e).1
   rw[M.Y3 b tb ps hk1]at hn;simp[M.Nd.fl,M.mkN]at hn;obtain⟨rfl,h4,rfl,rfl,h5,-⟩:=hn;have hpx:M.px b ps=va::ls:=by
    have hl:=M.C2a ps b hk1;have hl2:=congrArg List.length h1;simp at hl2;revert h4 h5 hl;cases M.px b ps with
    |nil=>simp;omega
    |cons y ys=>simp;rintro rfl rfl _;exact⟨rfl,rfl⟩
   exact⟨ps,fun p hp=>⟨hk1 p hp,hp⟩,he,fun _=>rfl,rfl,fun w la lc ho hl=>by rw[hpx];exact I2c w va 0 0 ls la lc _ _ _ _ ho hl⟩
 rw[if_neg h2]at hs;by_cases h3:k=8\/k=13\/k=15\/k=18\/k=21\/k=24\/k=25
 · rw[if_pos h3]at hs;have h:=h3;clear h3;obtain⟨x,h1,h2⟩:=hs;obtain⟨p,rfl,h3⟩:=M.k1 h1;have hk1:∀q∈[p],1<=q.k:=by simp[h3];exact h2.1
   rw[M.Y3 b tb _ hk1]at hn;have hl:=M.C2a [p] b hk1;match hpx:M.px b [p],hl with
   |[y],_=>
    rw[hpx]at hn;rcases h with rfl|rfl|rfl|rfl|rfl|rfl|rfl<;>
    · simp[M.Nd.fl,M.mkN]at hn;obtain⟨rfl,rfl,rfl,rfl,rfl,-⟩:=hn;exact⟨[p],fun q hq=>⟨hk1 q hq,hq⟩,he,fun _=>rfl,rfl,fun w la lc _ _=>by rw[hpx];exact P2b w _ _ _ [] la lc _ _ _ _ _ (by simp)⟩
 rw[if_neg h3]at hs;by_cases h4:k=9\/k=12\/k=19
 · rw[if_pos h4]at hs;have h:=h4;clear h4;obtain⟨x,y,h1,h2,h4⟩:=hs;obtain⟨p,q,rfl,h3,h5⟩:=M.k2 h1;have hk1:∀q'∈[p,q],1<=q'.k:=by simp[h3,h5];exact⟨h2.1,h4.1⟩
   rw[M.Y3 b tb _ hk1]at hn;have hl:=M.C2a [p,q] b hk1;match hpx:M.px b [p,q],hl with
   |[y,z],_=>
    rw[hpx]at hn;rcases h with rfl|rfl|rfl<;>
    · simp[M.Nd.fl,M.mkN]at hn;obtain⟨rfl,rfl,rfl,rfl,rfl,-⟩:=hn;exact⟨[p,q],fun q hq=>⟨hk1 q hq,hq⟩,he,fun _=>rfl,rfl,fun w la lc _ _=>by rw[hpx];exact S9a w _ _ _ [] la lc _ _ _ _ _ (by simp)⟩
 rw[if_neg h4]at hs;by_cases h5:k=10
 · rw[if_pos h5]at hs;have h:=h5;clear h5;subst h;have hk1:∀q∈ps,1<=q.k:=fun p hp=>by
    have:=hs _ (List.mem_map.2 ⟨p,hp,rfl⟩);omega
   rw[M.Y3 b tb _ hk1]at hn;simp[M.Nd.fl,M.mkN]at hn;obtain⟨rfl,rfl,rfl,rfl,rfl,-⟩:=hn;exact⟨ps,fun q hq=>⟨hk1 q hq,hq⟩,he,fun _=>rfl,rfl,fun w la lc ho hl=>P1b w _ _ _ _ la lc _ _ _ _ _ (by simp) ho hl⟩
 rw[if_neg h5]at hs;by_cases h6:k=11
 · rw[if_pos h6]at hs;have h:=h6;clear h6;subst h;have hk1:∀q∈ps,1<=q.k:=fun p hp=>(hs _ (List.mem_map.2 ⟨p,hp,rfl⟩)).1;rw[M.Y3 b tb _ hk1]at hn;simp[M.Nd.fl,M.mkN]at hn;obtain⟨rfl,rfl,rfl,rfl,rfl,-⟩:=hn;exact⟨ps,fun q hq=>⟨hk1 q hq,hq⟩,he,fun _=>rfl,rfl,fun w la lc ho hl=>P1b w _ _ _ _ la lc _ _ _ _ _ (by simp) ho hl⟩
 rw[if_neg h6]at hs;by_cases h7:k=14
 · rw[if_pos h7]at hs;have h:=h7;clear h7;subst h;obtain⟨x,h1,h2⟩:=hs;obtain⟨p,q,rfl,h3,h5⟩:=M.k2 h1;obtain⟨t,rfl⟩:=M.N2a (hall q (by simp)) (.inr h5);have hk1:∀q∈[p],1<=q.k:=by simp[h3];exact h2.1
   have hix:M.ixL b tb [p,.ty t]=M.px b [p]++[M.ixN (b+M.nN p) (tb+M.nT p) (.ty t)]:=by
    rw[<-M.Y3 b tb _ hk1];simp[M.ixL]
   rw[hix]at hn;have hl:=M.C2a [p] b hk1;match hpx:M.px b [p],hl with
   |[y],_=>
    rw[hpx]at hn;simp[M.Nd.fl,M.mkN]at hn;obtain⟨rfl,rfl,rfl,rfl,rfl,-⟩:=hn;exact⟨[p],fun q hq=>⟨hk1 q hq,by simp at hq;simp[hq]⟩,M.EmL.butty (qs:=[p]) he,fun _=>M.bnL_butty [p] _ _ _,by simp[M.nNL,M.nN],fun w la lc _ _=>by rw[hpx];exact P2b w _ _ _ [] la lc _ _ _ _ _ (by simp)⟩
 rw[if_neg h7]at hs;by_cases h8:k=16
 · rw[if_pos h8]at hs;have h:=h8;clear h8;subst h;obtain⟨x,h1,h2⟩:=hs;obtain⟨p,rfl,h3⟩:=M.k1 h1;obtain⟨t,rfl⟩:=M.N2a (hall p (by simp)) (h3 ▸ h2);simp[M.Nd.fl,M.mkN]at hn;obtain⟨rfl,rfl,rfl,rfl,rfl,-⟩:=hn;exact⟨[],by simp,M.EmL.butty (qs:=[]) he,fun _=>M.bnL_butty [] _ _ _,by simp[M.nNL,M.nN],fun w la lc _ _=>P3b w _ _ _ [] la lc _ _ _ _ _ (by simp)⟩
 rw[if_neg h8]at hs;by_cases h9:k=17
 · omega
 rw[if_neg h9]at hs;by_cases h10:k=20
 · rw[if_pos h10]at hs;have h:=h10;clear h10;subst h;obtain⟨x,y,z,h1,h2,h4,h6⟩:=hs;obtain⟨p,q,r,rfl,h3,h5,h7⟩:=M.k3 h1;have hk1:∀q'∈[p,q,r],1<=q'.k:=by simp[h3,h5,h7];exact⟨h2.1,h4.1,h6.1⟩
   rw[M.Y3 b tb _ hk1]at hn;have hl:=M.C2a [p,q,r] b hk1;match hpx:M.px b [p,q,r],hl with
   |[y,z,u],_=>
    rw[hpx]at hn;simp[M.Nd.fl,M.mkN]at hn;obtain⟨rfl,rfl,rfl,rfl,rfl,-⟩:=hn;exact⟨[p,q,r],fun q hq=>⟨hk1 q hq,hq⟩,he,fun _=>rfl,rfl,fun w la lc _ _=>by rw[hpx];exact C4b w _ _ _ [] la lc _ _ _ _ _ (by simp)⟩
 rw[if_neg h10]at hs;by_cases h11:k=22
 · rw[if_pos h11]at hs;have h:=h11;clear h11;subst h;obtain⟨x,z,h1,h2,h4⟩:=hs;obtain⟨p,q,r,rfl,h3,h5,h7⟩:=M.k3 h1;rcases h4 with rfl|rfl
   · have hk1:∀q'∈[p,q,r],1<=q'.k:=by simp[h3,h5,h7];exact h2.1
     have hr:∃j:Nat,M.px b [p,q,r]=[M.ixN b tb p,M.ixN (b+M.nN p) (tb+M.nT p) q,(j:Int)]:=by
      rw[<-M.Y3 b tb _ hk1];cases r with
      |ty o=>cases o<;>simp[M.Nt.k]at h7
      |nd k' t' n' ps'=>exact⟨b+M.nN p+M.nN q+M.nNL ps',by simp only[M.ixL,M.Em.ix]⟩
     obtain⟨j,hpx⟩:=hr;rw[M.Y3 b tb _ hk1,hpx]at hn;simp[M.Nd.fl,M.mkN]at hn;obtain⟨rfl,rfl,rfl,rfl,rfl,-⟩:=hn;exact⟨[p,q,r],fun q hq=>⟨hk1 q hq,hq⟩,he,fun _=>rfl,rfl,fun w la lc _ _=>by rw[hpx];exact C4b w _ _ _ [] la lc _ _ _ _ _ (.inr ⟨rfl,show (j:Int)≠-1 by omega⟩)⟩
   · obtain rfl:=M.k_ty h7 (hall r (by simp));have hk1:∀q'∈[p,q],1<=q'.k:=by simp[h3,h5];exact h2.1
     have hix:M.ixL b tb [p,q,.ty none]=M.px b [p,q]++[-1]:=by
      rw[<-M.Y3 b tb _ hk1];simp[M.ixL,M.ixN]
     rw[hix]at hn;have hl:=M.C2a [p,q] b hk1;match hpx:M.px b [p,q],hl with
     |[y,z],_=>
      rw[hpx]at hn;simp[M.Nd.fl,M.mkN]at hn;obtain⟨rfl,rfl,rfl,rfl,rfl,-⟩:=hn;exact⟨[p,q],fun q' hq=>⟨hk1 q' hq,by simp at hq;rcases hq with rfl|rfl<;>simp⟩,M.EmL.butty (qs:=[p,q]) he,fun _=>M.bnL_butty [p,q] _ _ _,by simp[M.nNL,M.nN],fun w la lc _ _=>by rw[hpx];exact S9a w _ _ _ [] la lc _ _ _ _ _ (by simp)⟩
 rw[if_neg h11]at hs;by_cases h12:k=23
 · rw[if_pos h12]at hs;have h:=h12;clear h12;subst h;obtain⟨x,h1,h2⟩:=hs;obtain⟨p,q,rfl,h3,h5⟩:=M.k2 h1;have hk1:∀q'∈[p,q],1<=q'.k:=by simp[h3,h5];exact h2.1
   rw[M.Y3 b tb _ hk1]at hn;have hl:=M.C2a [p,q] b hk1;match hpx:M.px b [p,q],hl with
   |[y,z],_=>
    rw[hpx]at hn;simp[M.Nd.fl,M.mkN]at hn;obtain⟨rfl,rfl,rfl,rfl,rfl,-⟩:=hn;exact⟨[p,q],fun q hq=>⟨hk1 q hq,hq⟩,he,fun _=>rfl,rfl,fun w la lc _ _=>by rw[hpx];exact S9a w _ _ _ [] la lc _ _ _ _ _ (by simp)⟩
 rw[if_neg h12]at hs;by_cases h13:k=26
 · omega
 rw[if_neg h13]at hs;exact hs.elim
open Go.RowKit Go.Maps
def Nrow (w:World) (nv:Value) (N:List M.Nd):Prop:=∃nx,w.ownsRow 0 72 9 nv N.length nx/\Rws (NdV w (fun _=>True)) N nx
theorem Nrow.at {w0 w:World} {nv:Value} {N:List M.Nd} (h:Nrow w0 nv N) (hb:Below w0.heap.size w0 w) (i:Nat) (hi:i<N.length):
 ∃g nc la lc,nv= .slice (some (aD g 0)) N.length nc/\g<w.heap.size/\N.length<=nc/\nc<=maxLen/\(w.cell? (aD g (i * 9))=some (iV N[i].kind)/\w.cell? (aD g (i * 9+1))=some (iV N[i].a)/\w.cell? (aD g (i * 9+2))=some (iV N[i].b)/\w.cell? (aD g (i * 9+3))=some (iV N[i].c)/\
  w.cell? (aD g (i * 9+4))=some (.slice la N[i].list.length lc)/\w.cell? (aD g (i * 9+5))=some (.string ⟨N[i].text.toArray⟩)/\w.cell? (aD g (i * 9+6))=some (iV N[i].n)/\w.cell? (aD g (i * 9+7))=some (iV N[i].ty)/\w.cell? (aD g (i * 9+8))=some (iV N[i].at'))/\
  w.ownsRow 0 3 1 (.slice la N[i].list.length lc) N[i].list.length (C7 N[i].list)/\∀q,(Value.slice la N[i].list.length lc).ownBlock=some q->q<w0.heap.size:=by
 obtain⟨nx,hn,hr⟩:=h;obtain⟨na,nc,rfl⟩:=B6 hn;obtain⟨g,rfl,_,hg,hc1,hc2,hcell⟩:=E7 hn (by omega);obtain⟨xs,ht,hx⟩:=Rws.at (z:=9) (fun _ _ h=>h.len) i hi hr;obtain⟨lv,rfl,ho2,_⟩:=ht;obtain⟨la,lc,rfl⟩:=B6 ho2;have hcl:∀j v,w0.cell? (aD g j)=some v->w.cell? (aD g j)=some v:=fun j v e=>by
  have:=hb.block g hg;unfold World.cell? at *;simp only at *;rw[this];exact e
 have hc:Chg (fun k=>w0.heap.size<=k) w0 w:=⟨hb.os,hb.tape,hb.output,hb.size,fun k hk _=>hb.block k hk⟩;refine⟨g,nc,la,lc,rfl,Nat.lt_of_lt_of_le hg hb.size,hc1,hc2,⟨hcl _ _ (hcell _ _ ?_),hcl _ _ (hcell _ _ ?_),hcl _ _ (hcell _ _ ?_),hcl _ _ (hcell _ _ ?_),hcl _ _ (hcell _ _ ?_),hcl _ _ (hcell _ _ ?_),hcl _ _ (hcell _ _ ?_),hcl _ _ (hcell _ _ ?_),hcl _ _ (hcell _ _ ?_)⟩,A8 ho2 hc (fun q hq=>by have:=(ho2.lt q hq).2;omega),fun q hq=>(ho2.lt q hq).2⟩
 · have:=hx 0 (by omega);simpa using this
 · have:=hx 1 (by omega);simpa using this
 · have:=hx 2 (by omega);simpa using this
 · have:=hx 3 (by omega);simpa using this
 · have:=hx 4 (by omega);simpa using this
 · have:=hx 5 (by omega);simpa using this
 · have:=hx 6 (by omega);simpa using this
 · have:=hx 7 (by omega);simpa using this
 · have:=hx 8 (by omega);simpa using this
theorem Bkp.other {B bb:Nat} {tv:Value} {w w':World} (hc:Bkp B bb tv w w') {q:Nat} {cs:Array Value} {e:TypeId} (h:w.heap[q]? =some (.cells cs e (0,0))) (he:e≠155) (hb:q≠bb) (ht:tv.ownBlock≠some q):w'.heap[q]? =some (.cells cs e (0,0)):=by
 rw[hc.block q (ltG h) (fun x=> ?_)]
 · exact h
 rcases x.2 with hx|hx|⟨cs',fz,h2⟩|⟨es,cl,h2⟩
 · exact hb hx
 · exact ht hx
 · rw[h]at h2;simp only[Option.some.injEq,Obj.cells.injEq]at h2;exact he h2.2.1
 · rw[h]at h2;simp at h2
theorem Bnt.tv {w0 w:World} {B bb m:Nat} {nv tv:Value} {fs:List M.Fr} {ts:List Int} (h:Bnt w0 w B bb nv tv m fs ts) {q:Nat} {cs:Array Value} {e:TypeId} {fz:Nat×Nat} (hq:w.heap[q]? =some (.cells cs e fz)) (he:e≠3/\e≠90):q≠bb/\tv.ownBlock≠some q:=by
 obtain⟨av,ms,hs⟩:=h.st;refine⟨?_,J7 hs.tos hq (Ne.symm he.1)⟩;rintro rfl;rw[hs.blk]at hq;simp only[Option.some.injEq,Obj.cells.injEq]at hq;exact he.2 hq.2.1.symm
theorem Bnt.low {w0 w:World} {B bb m:Nat} {nv tv:Value} {fs:List M.Fr} {ts:List Int} (h:Bnt w0 w B bb nv tv m fs ts):B<=bb/\∀q,tv.ownBlock=some q->B<=q:=by
 obtain⟨av,ms,hs⟩:=h.st;exact⟨hs.low,fun q hq=>(hs.tos.lt q hq).1⟩
section
variable {w0:World} {B bb:Nat} {nv tv:Value} {N:List M.Nd}
theorem L4a (ps:List M.Nt) (hps:∀p∈ps,1<=p.k/\T7 w0 B bb nv tv N p) (b tb:Nat) (w:World) (m:Nat) (fs:List M.Fr) (ts:List Int) (he:M.EmL N b tb ps) (h:Bnt w0 w B bb nv tv m fs ts) (hfs:fs≠[]) (hm:m+2 * M.nNL ps<=100000) (hf:fs.length+M.nNL ps<=100000) (hts:ts.length=N.length)
 (la:Option Addr) (lc:Nat) (ls:List Int) (hls:ls=M.px b ps) (ho:w.ownsRow 0 3 1 (.slice la ls.length lc) ls.length (C7 ls)) (hlow:∀q,(Value.slice la ls.length lc).ownBlock=some q->q<w0.heap.size\/B<=q/\q≠bb/\tv.ownBlock≠some q):
 Calls Tryz.prog 49 #[pV bb,.slice la ls.length lc] w (BnPost w0 w B bb nv tv N (m+2 * M.nNL ps) ts (M.bnL false fs b ps)):=by
 subst hls;have hl:=M.C2a ps b (fun p hp=>(hps p hp).1);obtain⟨l1,l2⟩:=h.low;have hz:=h.hz;rw[hl]at ho hlow⊢;refine Z5c ps hps b tb w m fs ts he h hfs hm hf hts la lc ho (fun e=> ?_) (fun g hg e=> ?_)
 · rcases hlow bb e with x|x
   · omega
   · exact x.2.1 rfl
 · rcases hlow g hg with x|x
   · have:=l2 g e;omega
   · exact x.2.2 e
theorem A4c (ps:List M.Nt) (hps:∀p∈ps,1<=p.k/\T7 w0 B bb nv tv N p) (b tb:Nat) (w:World) (m:Nat) (fs:List M.Fr) (ts:List Int) (he:M.EmL N b tb ps) (h:Bnt w0 w B bb nv tv m fs ts) (hfs:fs≠[]) (hm:m+2 * M.nNL ps<=100000) (hf:fs.length+M.nNL ps<=100000) (hts:ts.length=N.length)
 (la:Option Addr) (lc:Nat) (ls:List Int) (hls:ls=M.px b ps) (ho:w.ownsRow 0 3 1 (.slice la ls.length lc) ls.length (C7 ls)) (hlow:∀q,(Value.slice la ls.length lc).ownBlock=some q->q<w0.heap.size)
 (qb qn:Nat) (hqb:w.heap[qb]? =some (.cells #[pV bb] 85 (0,0))) (kd va vb vc:Int) (xs:ByteArray) (vn vt vp:Int) (hqn:w.heap[qn]? =some (.cells #[iV kd,iV va,iV vb,iV vc,.slice la ls.length lc,.string xs,iV vn,iV vt,iV vp] 72 (0,0))):
 Calls Tryz.prog 110 #[pV qb,pV qn] w (BnPost w0 w B bb nv tv N (m+2 * M.nNL ps) ts (M.bnL false fs b ps)):=by
 have HA:=A0 (L4a ps hps b tb w m fs ts he h hfs hm hf hts la lc ls hls ho (fun q hq=> .inl (hlow q hq)));have c0:w.cell? (aD qb 0)=some (pV bb):=cr hqb rfl;have c1:w.cell? (aD qn 4)=some (.slice la ls.length lc):=cr hqn rfl;have l1:=(ltG hqn);generalize M.bnL false fs b ps=RR at *;generalize m+2 * M.nNL ps=mm at *;clear hqb hqn ho hlow h he hps hls;go_enter Tryz.func110,Tryz.ntmps110;go_wp2_with fail
 refine HA.out.mono ?_;rintro e w2 ⟨hk,hr⟩;cases RR with
 |bad er i=>
  obtain rfl:e=gu er (atI N i):=hr;exact⟨rfl,hk,rfl⟩
 |ok f l=>
  obtain⟨rfl,hb⟩:=hr;have HK:=A0 hk;have HB:=A0 hb;clear hk hb HA;go_wp2;go_end0;exact⟨HK.out,rfl,HB.out⟩
end
open Go.RowKit Go.Maps
theorem M.bnL_fn {o:Option M.Tr} {tx:List UInt8} {n:Int} {qs:List M.Nt}:∀(ps:List M.Nt) (fs:List M.Fr) (b:Nat),(∀p∈ps,p.k=16)->M.bnL true fs b (ps++[.ty o,.nd 26 tx n qs])=(M.bnL false fs b ps).and fun f=>M.bnL false f (b+M.nNL ps) qs
 |[],fs,b,_=>by
  rw[List.nil_append,M.bnL,M.bnL,M.bnL];simp only[Bool.true_and,beq_self_eq_true,↓reduceIte,M.bnL,M.Br.and_nil,M.nNL,Nat.add_zero];rw[M.Br.and_ok];generalize M.bnL false fs b qs=R;cases R<;>simp
 | .ty t::r,fs,b,h=>by
  have:=h (.ty t) (by simp);cases t<;>simp[M.Nt.k]at this
 | .nd k tx' n' ps'::r,fs,b,h=>by
  have hk:k=16:=h (.nd k tx' n' ps') (by simp);subst hk;rw[List.cons_append,M.bnL,M.bnL];simp only[Bool.true_and,Bool.false_and,show ((16:Int)==26)=false from rfl,Bool.false_eq_true,↓reduceIte,M.Br.and_assoc];congr 1
  funext f
  rw[M.bnL_fn r f _ (fun p hp=>h p (by simp[hp])),M.nNL,Nat.add_assoc]
theorem M.EmL.left {N:List M.Nd}:∀{ps qs:List M.Nt} {b tb:Nat},M.EmL N b tb (ps++qs)->M.EmL N b tb ps/\M.EmL N (b+M.nNL ps) (tb+M.nTL ps) qs:=by
 intro ps qs b tb ⟨A,B,h,hA⟩;have e:∀(ps:List M.Nt) (b tb:Nat),M.M9 b tb (ps++qs)=M.M9 b tb ps++M.M9 (b+M.nNL ps) (tb+M.nTL ps) qs:=by
  intro ps;induction ps with
  |nil=>intro b tb;simp[M.M9,M.nNL,M.nTL]
  |cons p r ih=>intro b tb;simp[M.M9,ih,M.nNL,M.nTL,Nat.add_assoc]
 rw[e]at h;exact⟨⟨A,M.M9 (b+M.nNL ps) (tb+M.nTL ps) qs++B,by rw[h];simp,hA⟩,⟨A++M.M9 b tb ps,B,by rw[h];simp,by rw[List.length_append,M.M7,hA]⟩⟩
section
variable {w0:World} {B bb:Nat} {nv tv:Value} {N:List M.Nd}
def B0b (w0 w:World) (B bb:Nat) (nv tv:Value) (N:List M.Nd) (m:Nat) (ts:List Int) (r:M.Br) (e:Ending) (w':World):Prop:=
 (∃er p,e=gu er p/\Hid (BnPost w0 w B bb nv tv N m ts r (gu er p) w'))\/(e=rT/\Hid (BnPost w0 w B bb nv tv N m ts r (rT) w'))
theorem BnPost.ans {w w':World} {m:Nat} {ts:List Int} {r:M.Br} {e:Ending} (h:BnPost w0 w B bb nv tv N m ts r e w'):B0b w0 w B bb nv tv N m ts r e w':=by
 have h2:=h.2;cases r with
 |bad er i=>
  obtain rfl:e=gu er (atI N i):=h2;exact .inl ⟨_,_,rfl,h⟩
 |ok f l=>
  obtain⟨rfl,_⟩:=h2;exact .inr ⟨rfl,h⟩
theorem BnPost.and {w w1 w2:World} {m':Nat} {ts:List Int} {fs:List M.Fr} {l:List (Nat×Int)} {k:List M.Fr->M.Br} {e:Ending} (hk:Bkp B bb tv w w1) (h:BnPost w0 w1 B bb nv tv N m' (M.upd ts l) (k fs) e w2):BnPost w0 w B bb nv tv N m' ts ((M.Br.ok fs l).and k) e w2:=by
 obtain⟨h1,h2⟩:=h;refine⟨hk.trans h1, ?_⟩;rw[M.Br.and_ok];cases hkf:k fs with
 |bad er i=>
  rw[hkf]at h2;exact h2
 |ok f l'=>
  rw[hkf]at h2;show e=_/\Bnt _ _ _ _ _ _ _ f (M.upd ts (l++l'));rw[M.U5b];exact h2
theorem BnPost.more {w w':World} {m m':Nat} {ts:List Int} {r:M.Br} {e:Ending} (h:BnPost w0 w B bb nv tv N m ts r e w') (hm:m<=m'):BnPost w0 w B bb nv tv N m' ts r e w':=by
 refine⟨h.1, ?_⟩;have h2:=h.2;cases r with
 |bad er i=>exact h2
 |ok f l=>
  obtain⟨he,hb⟩:=h2;obtain⟨av,ms,hs⟩:=hb.st;exact⟨he,hb.hz,hb.le,hb.bel,av,ms,hs.more hm⟩
theorem BnPost.after {w w1 w2:World} {m:Nat} {ts:List Int} {r:M.Br} {e:Ending} (hk:Bkp B bb tv w w1) (h:BnPost w0 w1 B bb nv tv N m ts r e w2):BnPost w0 w B bb nv tv N m ts r e w2:=⟨hk.trans h.1,h.2⟩
theorem K7b (hN:Nrow w0 nv N) (ps:List M.Nt) (o:Option M.Tr) (tx:List UInt8) (n:Int) (qs:List M.Nt) (hps:∀p∈ps,p.k=16/\T7 w0 B bb nv tv N p) (hqs:∀p∈qs,1<=p.k/\T7 w0 B bb nv tv N p) (b tb:Nat) (w:World) (m:Nat) (fs:List M.Fr) (ts:List Int)
 (he:M.EmL N b tb (ps++[.ty o,.nd 26 tx n qs])) (h:Bnt w0 w B bb nv tv m fs ts) (hfs:fs≠[]) (hm:m+2 * (M.nNL ps+M.nNL qs)<=100000) (hf:fs.length+(M.nNL ps+M.nNL qs)<=100000) (hts:ts.length=N.length) (hNl:N.length<=100000)
 (la:Option Addr) (lc:Nat) (ls:List Int) (hls:ls=M.px b ps) (ho:w.ownsRow 0 3 1 (.slice la ls.length lc) ls.length (C7 ls)) (hlow:∀q,(Value.slice la ls.length lc).ownBlock=some q->q<w0.heap.size)
 (qb qn:Nat) (hqb:w.heap[qb]? =some (.cells #[pV bb] 85 (0,0))) (kd vb vc:Int) (xs:ByteArray) (vn vt vp:Int) (hqn:w.heap[qn]? =some (.cells #[iV kd,iV ((b+M.nNL ps+M.nNL qs:Nat):Int),iV vb,iV vc,.slice la ls.length lc,.string xs,iV vn,iV vt,iV vp] 72 (0,0))):
 Calls Tryz.prog 136 #[pV qb,pV qn] w (BnPost w0 w B bb nv tv N (m+2 * (M.nNL ps+M.nNL qs)) ts (M.bnL true fs b (ps++[.ty o,.nd 26 tx n qs]))):=by
 have hk16:∀p∈ps,p.k=16:=fun p hp=>(hps p hp).1;have hk1:∀p∈ps,1<=p.k:=fun p hp=>by rw[hk16 p hp];decide
 rw[M.bnL_fn ps fs b hk16];obtain⟨he1,he2⟩:=he.left;have he3:=(M.EmL.head he2).2;have he4:=(M.EmL.head he3).1;rw[M.nN,Nat.add_zero]at he4;obtain⟨he5,hi,hnd⟩:=M.Em.parts he4;have hq1:∀p∈qs,1<=p.k:=fun p hp=>(hqs p hp).1;have hlst:(N[b+M.nNL ps+M.nNL qs]).list=M.px (b+M.nNL ps) qs:=by
  rw[M.Y3 _ _ qs hq1]at hnd;simp[M.Nd.fl,M.mkN]at hnd;exact hnd.2.2.2.2.1
 have HA:=A0 (L4a ps (fun p hp=>⟨hk1 p hp,(hps p hp).2⟩) b tb w m fs ts he1 h hfs (by omega) (by omega) hts la lc ls hls ho (fun q hq=> .inl (hlow q hq)));have SL:=A0 (M.S5 ps false fs b hfs);have c0:w.cell? (aD qb 0)=some (pV bb):=cr hqb rfl;have c1:w.cell? (aD qn 4)=some (.slice la ls.length lc):=cr hqn rfl;have l1:=(ltG hqn);have FB:Hid (∀a,Bkp B bb tv w a->a.heap[qb]? =some (.cells #[pV bb] 85 (0,0))/\a.heap[qn]? =some (.cells #[iV kd,iV ((b+M.nNL ps+M.nNL qs:Nat):Int),iV vb,iV vc,.slice la ls.length lc,.string xs,iV vn,iV vt,iV vp] 72 (0,0))):=fun a ha=>by
  obtain⟨x1,x2⟩:=h.tv hqb (by decide);obtain⟨y1,y2⟩:=h.tv hqn (by decide);exact⟨ha.other hqb (by decide) x1 x2,ha.other hqn (by decide) y1 y2⟩
 have HI:Hid (b+M.nNL ps+M.nNL qs<N.length):=hi;have hjx:b+M.nNL ps+M.nNL qs<=100000:=by omega
 have H2:Hid (∀(a:World) (f:List M.Fr) (l:List (Nat×Int)),Bnt w0 a B bb nv tv (m+2 * M.nNL ps) f (M.upd ts l)->f.length=fs.length->Bkp B bb tv w a->∃g nc la2 lc2,nv= .slice (some (aD g 0)) N.length nc/\g<a.heap.size/\N.length<=nc/\nc<=maxLen/\a.cell? (aD g ((b+M.nNL ps+M.nNL qs) * 9+4))=some (.slice la2 (M.px (b+M.nNL ps) qs).length lc2)/\a.cell? (aD bb 0)=some nv/\bb<a.heap.size/\
  ∀a2,Chg No a a2->Calls Tryz.prog 49 #[pV bb,.slice la2 (M.px (b+M.nNL ps) qs).length lc2] a2 (B0b w0 w B bb nv tv N (m+2 * (M.nNL ps+M.nNL qs)) ts ((M.Br.ok f l).and fun f=>M.bnL false f (b+M.nNL ps) qs))):=by
  intro a f l ha hfl hka;obtain⟨g,nc,la2,lc2,e1,e2,e3,e4,e5,e6,e7⟩:=hN.at ha.bel _ HI.out;obtain⟨av,ms,hs⟩:=ha.st;rw[hlst]at e5 e6 e7;refine⟨g,nc,la2,lc2,e1,e2,e3,e4,e5.2.2.2.2.1,cr hs.blk rfl,(ltG hs.blk),fun a2 h2=> ?_⟩;refine(L4a qs hqs (b+M.nNL ps) _ a2 _ f (M.upd ts l) he5 (ha.kept h2) (M.M6 hfs hfl) (by omega) (by omega) (by rw[M.J9a];exact hts) la2 lc2 _ rfl (A8 e6 h2 (fun _ _ x=>x)) (fun q hq=> .inl (e7 q hq))).mono ?_;intro e w' hp;have hp2:=BnPost.and (k:=fun f=>M.bnL false f (b+M.nNL ps) qs) (hka.trans (Bkp.still h2)) hp;rw[Nat.add_assoc,<-Nat.mul_add]at hp2;exact hp2.ans
 generalize hR1:M.bnL false fs b ps=R1 at *;generalize hj:b+M.nNL ps+M.nNL qs=jj at *;generalize hpl:(M.px (b+M.nNL ps) qs).length=pl at *;generalize hmm:m+2 * (M.nNL ps+M.nNL qs)=mm at *;generalize hm1:m+2 * M.nNL ps=m1 at *;clear hqb hqn ho hlow h he hps hqs hls he1 he2 he3 he4 he5 hnd hR1 hj hpl hmm hm1 hlst hk16 hk1 hq1 hN;go_enter Tryz.func136,Tryz.ntmps136;go_wp2_with fail
 refine HA.out.mono ?_;rintro e w2 ⟨hk,hr⟩;cases R1 with
 |bad er i=>
  obtain rfl:e=gu er (atI N i):=hr;exact⟨rfl,hk,rfl⟩
 |ok f l=>
  obtain⟨rfl,hb⟩:=hr;obtain⟨f1,f2⟩:=FB.out w2 hk;have d0:w2.cell? (aD qb 0)=some (pV bb):=cr f1 rfl;have d1:w2.cell? (aD qn 1)=some (iV (jj:Int)):=cr f2 rfl;have d2:=(ltG f2);obtain⟨g,nc,la2,lc2,rfl,e2,e3,e4,e5,e6,e7,e8⟩:=H2.out w2 f l hb (SL.out f l rfl) hk;have hi2:=HI.out;unfold maxLen at e4;have H3:=A0 e8;clear hk hb HA H2 FB f1 f2 e8 SL c0 c1 HI;go_wp2_with fail
  go_region_with (go_at_call 49;refine(H3.out _ (Chg.drewN _ _ 1)).mono ?_;rintro e w3 (⟨er,p,rfl,H4⟩|⟨rfl,H4⟩);exact⟨rfl,H4.out⟩)
  all_goals go_wp2_with fail
  all_goals go_end0
  all_goals exact H4.out
end
open Go.RowKit Go.Maps
section
variable {w0:World} {B bb:Nat} {nv tv:Value} {N:List M.Nd}
theorem M.Sl.small {f:List M.Fr} {r:M.Br} (h:M.Sl (f++[M.Fr.no]) r) (hf:f.length<=100000):∀f' l,r= .ok f' l->f'≠[]/\f'.length<=100001:=by
 intro f' l e;have:=h f' l e;simp at this;refine⟨?_,by omega⟩;rintro rfl;simp at this
theorem R5b (hN:Nrow w0 nv N) (ps:List M.Nt) (o:Option M.Tr) (tx:List UInt8) (n:Int) (qs:List M.Nt) (hps:∀p∈ps,p.k=16/\T7 w0 B bb nv tv N p) (hqs:∀p∈qs,1<=p.k/\T7 w0 B bb nv tv N p) (b tb:Nat) (w:World) (m:Nat) (fs:List M.Fr) (ts:List Int)
 (he:M.EmL N b tb (ps++[.ty o,.nd 26 tx n qs])) (h:Bnt w0 w B bb nv tv m fs ts) (hm:m+2 * (M.nNL ps+M.nNL qs)<=100000) (hf:fs.length+1+(M.nNL ps+M.nNL qs)<=100000) (hts:ts.length=N.length) (hNl:N.length<=100000)
 (la:Option Addr) (lc:Nat) (ls:List Int) (hls:ls=M.px b ps) (ho:w.ownsRow 0 3 1 (.slice la ls.length lc) ls.length (C7 ls)) (hlow:∀q,(Value.slice la ls.length lc).ownBlock=some q->q<w0.heap.size)
 (kd vb vc:Int) (xs:ByteArray) (vn vt vp:Int):
 Calls Tryz.prog 108 #[pV bb,.agg #[iV kd,iV ((b+M.nNL ps+M.nNL qs:Nat):Int),iV vb,iV vc,.slice la ls.length lc,.string xs,iV vn,iV vt,iV vp]] w (BnPost w0 w B bb nv tv N (m+2 * (M.nNL ps+M.nNL qs)) ts (M.bnL true (fs++[M.Fr.no]) b (ps++[.ty o,.nd 26 tx n qs])).pop):=by
 generalize hva:((b+M.nNL ps+M.nNL qs:Nat):Int)=va at *;have hne:fs++[M.Fr.no]≠[]:=by simp
 have hc:Chg No w ((w.alloc (.cells #[pV bb] 85)).alloc (.cells #[iV kd,iV va,iV vb,iV vc,.slice la ls.length lc,.string xs,iV vn,iV vt,iV vp] 72)):=C8 (Chg.alloc No _ _) (Chg.alloc No _ _);have hb0:((w.alloc (.cells #[pV bb] 85)).alloc (.cells #[iV kd,iV va,iV vb,iV vc,.slice la ls.length lc,.string xs,iV vn,iV vt,iV vp] 72)).heap[w.heap.size]? =some (.cells #[pV bb] 85 (0,0)):=by
  rw[Below.heap_alloc _ _ _ (by simp)];have:=heap_alloc_new w (.cells #[pV bb] 85);simpa using this
 have hb1:((w.alloc (.cells #[pV bb] 85)).alloc (.cells #[iV kd,iV va,iV vb,iV vc,.slice la ls.length lc,.string xs,iV vn,iV vt,iV vp] 72)).heap[w.heap.size+1]? =some (.cells #[iV kd,iV va,iV vb,iV vc,.slice la ls.length lc,.string xs,iV vn,iV vt,iV vp] 72 (0,0)):=by
  have:=heap_alloc_new (w.alloc (.cells #[pV bb] 85)) (.cells #[iV kd,iV va,iV vb,iV vc,.slice la ls.length lc,.string xs,iV vn,iV vt,iV vp] 72);simpa using this
 have h1:=h.kept hc;have HI:=A0 (X2a h1 (N:=N) (by omega) (m+2 * (M.nNL ps+M.nNL qs)) (M.bnL true (fs++[M.Fr.no]) b (ps++[.ty o,.nd 26 tx n qs])) (M.Sl.small (M.S5 _ _ _ _ hne) (by omega)) (pV w.heap.size) (pV (w.heap.size+1)) (fun a ha hb=>by
  obtain⟨x1,x2⟩:=h1.tv hb0 (by decide);obtain⟨y1,y2⟩:=h1.tv hb1 (by decide);have hlw:=h.low;have hz:=h.hz;refine K7b hN ps o tx n qs hps hqs b tb a m (fs++[M.Fr.no]) ts he hb hne hm (by simp;omega) hts hNl la lc ls hls ?_ hlow _ _ (ha.other hb0 (by decide) x1 x2) kd vb vc xs vn vt vp (by rw[hva];exact ha.other hb1 (by decide) y1 y2);refine ha.row (A8 ho hc (fun _ _ x=>x)) (fun e=> ?_) (fun g hg e=> ?_)
  · have:=hlow _ e;omega
  · have:=hlow _ hg;have:=hlw.2 g e
    omega))
 have hmf:=mkf;have HC:=A0 (Bkp.still (B:=B) (bb:=bb) (tv:=tv) hc);generalize hRR:(M.bnL true (fs++[M.Fr.no]) b (ps++[.ty o,.nd 26 tx n qs])).pop=RR at *;generalize m+2 * (M.nNL ps+M.nNL qs)=mm at *;clear hRR h1 hb0 hb1 hc hlow ho hls he hps hqs h hN hva;go_enter Tryz.func108,Tryz.ntmps108;go_wp2_with fail
 refine HI.out.mono ?_;rintro e w2 hp;have hp:=BnPost.after HC.out hp;have hp2:=hp.2;cases RR with
 |bad er i=>
  obtain rfl:e=gu er (atI N i):=hp2;exact⟨rfl,hp⟩
 |ok f l=>
  obtain⟨rfl,-⟩:=hp2;have HP:=A0 hp;clear hp HI HC;go_wp2;go_end0;exact HP.out
end
open Go.RowKit Go.Maps
section
variable {w0:World} {B bb:Nat} {nv tv:Value} {N:List M.Nd}
theorem Bsx.top {w:World} {m:Nat} {av:Value} {ms:List Nat} {fs:List M.Fr} {ts:List Int} (h:Bsx w B bb nv av tv ms m fs ts) (hne:ms≠[]):FrM w (ms.getLast hne) m (M.D4a fs):=by
 have hlen:=h.len;have hpos:0<ms.length:=List.length_pos_iff.2 hne;have hl:ms.getLast hne=ms[ms.length - 1]:=by rw[List.getLast_eq_getElem]
 have hfl:M.D4a fs=fs[ms.length - 1]'(by omega):=by
  unfold M.D4a;have e2:fs.length - 1=ms.length - 1:=by omega
  rw[List.getLastD_eq_getLast?,List.getLast?_eq_getElem?,e2,List.getElem?_eq_getElem (by omega)];rfl
 rw[hl,hfl];exact h.fr (ms.length - 1) (by omega) (by omega)
theorem Bnt.step {w w':World} {m m':Nat} {fs fs':List M.Fr} {ts ts':List Int} {av:Value} {ms:List Nat} (h:Bnt w0 w B bb nv tv m fs ts) (hk:Bkp B bb tv w w') (hs:Bsx w' B bb nv av tv ms m' fs' ts'):Bnt w0 w' B bb nv tv m' fs' ts':=
 ⟨h.hz,Nat.le_trans h.le hk.size,h.bel.trans ((hk.below h.le).mono h.hz),av,ms,hs⟩
theorem V8b {w:World} {m:Nat} {fs:List M.Fr} {ts:List Int} (h:Bnt w0 w B bb nv tv m fs ts) (hfs:fs≠[]) (hf:fs.length<=100000) (hm:m<=100000) (x:List UInt8) (hx:x.length<=1000000) (j:Int) (hj:0<=j/\j<=1000000) (w2:World) (hc:Chg No w w2):
 Calls Tryz.prog 107 #[pV bb] w2 fun e w'=>∃q,e= .returned (.map (some q))/\Chg No w w'/\(Instr.lookup 155 (.map (some q)) (.string ⟨x.toArray⟩) true).run Tryz.prog w'= .ok (.tuple #[iV ((M.D4a fs x).getD 0),.bool (M.D4a fs x).isSome]) w'/\
  ∃w3,(Instr.mapUpdate 155 (.map (some q)) (.string ⟨x.toArray⟩) (iV j)).run Tryz.prog w'= .ok () w3/\Hid (Bkp B bb tv w w3/\Bnt w0 w3 B bb nv tv (m+1) (M.H7 fs x j) ts):=by
 have h2:=h.kept hc;obtain⟨av,ms,hs⟩:=h2.st;have hlen:=hs.len;have hpos:0<fs.length:=List.length_pos_iff.2 hfs;have hne:ms≠[]:=fun e=>by subst e;simp at hlen;omega
 refine(U4c hs hne (by omega)).mono ?_;rintro e w' ⟨rfl,hc2⟩;have h3:=hs.still hc2;obtain⟨w3,hrun,hs3,hch⟩:=h3.put hne x j hx (by omega) hj;have hk:Bkp B bb tv w' w3:=by
  refine hch.mono fun k _ e=> ?_;subst e;obtain⟨n,D,⟨es,cl,h1,_⟩,_⟩:=(h3.top hne).own;exact⟨h3.ge _ (List.getLast_mem hne),.inr (.inr (.inr ⟨es,cl,h1⟩))⟩
 exact⟨_,rfl,C8 hc hc2,(h3.top hne).look x hx,w3,hrun,(Bkp.still (C8 hc hc2)).trans hk,(h.kept (C8 hc hc2)).step hk hs3⟩
theorem Bnt.blk {w:World} {m:Nat} {fs:List M.Fr} {ts:List Int} (h:Bnt w0 w B bb nv tv m fs ts):w.cell? (aD bb 0)=some nv/\bb<w.heap.size:=by
 obtain⟨av,ms,hs⟩:=h.st;exact⟨cr hs.blk rfl,(ltG hs.blk)⟩
theorem M.bn_let (fs:List M.Fr) (b:Nat) (tx:List UInt8) (n:Int) (o:Option M.Tr) (E:M.Nt) (hE:1<=E.k):M.bnT fs b (.nd 17 tx n [.ty o,E])=if (M.D4a fs tx).isSome then .bad 6 (b+M.nN E) else (M.bnT (if E.k=6 then M.H7 fs tx ((b+M.nN E:Nat):Int) else fs) b E).setF tx ((b+M.nN E:Nat):Int):=by
 have hn:M.nNL [.ty o,E]=M.nN E:=by simp[M.nNL,M.nN]
 rw[M.bnT];simp only[hn];rw[if_neg (by decide),if_neg (by decide),if_pos trivial];congr 2
 have h2:∀f,M.bnL false f b [.ty o,E]=M.bnT f b E:=fun f=>by
  rw[M.bnL,M.G2a _ _ _ _ hE];simp only[M.bnL,M.Br.and_nil]
 rw[h2];cases E with
 |ty o=>cases o<;>simp[M.Nt.k]at hE
 |nd k t n' ps=>by_cases h6:k=6<;>simp[M.M3c,M.Nt.k,h6]
end
open Go.RowKit Go.Maps
section
variable {w0:World} {B bb:Nat} {nv tv:Value} {N:List M.Nd}
theorem Bnt.fresh {w:World} {m:Nat} {fs:List M.Fr} {ts:List Int} (h:Bnt w0 w B bb nv tv m fs ts) {q:Nat} (hq:w.heap.size<=q):B<=q/\q≠bb/\tv.ownBlock≠some q:=by
 obtain⟨av,ms,hs⟩:=h.st;have h1:=(ltG hs.blk);have h2:=h.le;refine⟨by omega,by omega,fun e=> ?_⟩;have:=(hs.tos.lt _ e).2;omega
theorem G8a {w w1:World} (hk:Bkp B bb tv w w1) {m:Nat} {fs:List M.Fr} {ts:List Int} {l0:List (Nat×Int)} (h1:Bnt w0 w1 B bb nv tv m fs (M.upd ts l0)) (hfs:fs≠[]) {b tb:Nat} {ps qs:List M.Nt} {nd:M.Nd} (hpt:T6b N b tb ps nd qs) (hC:∀p∈ps,1<=p.k->T7 w0 B bb nv tv N p) (hm:m+2 * M.nNL ps<=100000) (hf:fs.length+M.nNL ps<=100000) (hts:ts.length=N.length)
 (la:Option Addr) (lc:Nat) (ho:w1.ownsRow 0 3 1 (.slice la nd.list.length lc) nd.list.length (C7 nd.list)) (hnl:nd.list.length<=100000) (qb:Nat) (hqb:w1.cell? (aD qb 0)=some (pV bb)) (m':Nat) (hm':m+2 * M.nNL ps<=m') (a:World) (ha:Chg No w1 a):
 Calls Tryz.prog 30 #[nvl nd la lc] a fun e w3=>∃ga gc,e= .returned (.slice ga (M.px b qs).length gc)/\w3.cell? (aD qb 0)=some (pV bb)/\
  Hid (Calls Tryz.prog 49 #[pV bb,.slice ga (M.px b qs).length gc] w3 (B0b w0 w B bb nv tv N m' ts ((M.Br.ok fs l0).and fun f=>M.bnL false f b ps))):=by
 refine(hpt.run a la lc (A8 ho ha (fun _ _ x=>x)) hnl).mono ?_;rintro e w3 ⟨ga,gc,rfl,hc,hr⟩;have hc3:=C8 ha hc;have h3:=h1.kept hc3;refine⟨ga,gc,rfl,A4 hc3 hqb, ?_⟩;have hn:=hpt.n;have hA:=L4a qs (fun p hp=>⟨(hpt.k p hp).1,hC p (hpt.k p hp).2 (hpt.k p hp).1⟩) b tb w3 m fs (M.upd ts l0) hpt.em h3 hfs (by omega) (by omega) (by rw[M.J9a];exact hts) ga gc _ rfl (C9 hr (Nat.zero_le _)) (fun q hq=> .inr (h1.fresh (Nat.le_trans ha.size (hr.lt q hq).1)));refine hA.mono ?_;intro e w4 hp;have hp2:=BnPost.and (k:=fun f=>M.bnL false f b qs) (ts:=ts) (hk.trans (Bkp.still hc3)) hp;have e1:(fun f=>M.bnL false f b ps)=fun f=>M.bnL false f b qs:=funext fun f=>hpt.bn f;rw[e1];exact(hp2.more (by omega)).ans
theorem M.Br.and_zero (fs:List M.Fr) (k:List M.Fr->M.Br):(M.Br.ok fs []).and k=k fs:=by
 rw[M.Br.and_ok];cases k fs<;>simp
end
end Go.Proofs.YtgdnpemiiageaaaGreatDoor
