/-
  A part of the proof.
-/
import Derived.Test.YtgdnpemiiageaaaGreatDoorWriteA
import Derived.Test.YtgdnpemiiageaaaGreatDoorSrt
import Derived.Shelf.SlSortCmp.NoneTotal
import Derived.Lib.SliceRun
set_option maxHeartbeats 16000000
set_option maxRecDepth 100000
namespace Go.Proofs.YtgdnpemiiageaaaGreatDoor
open Go.RowKit Go.Maps
section
variable {B wb:Nat} {tv:Value} {bn:Bool} {T:List M.Ty} {m:Nat}
def M9d (B wb:Nat) (tv:Value) (bn:Bool) (T:List M.Ty) (i:Nat):Prop:=∀(hi:i<T.length) (w:World) (bs:List UInt8) (fa:Option Addr) (fc:Nat),T[i].kind=7->Wsp w B wb tv bn T bs->B<=w.heap.size->w.ownsRow 0 126 2 (.slice fa T[i].fields.length fc) T[i].fields.length (F6 T[i].fields)->bs.length+(wtx bn T i).length<=100000000000000->
 Calls Tryz.prog 71 #[pV wb,.slice fa T[i].fields.length fc] w (Q6 w B wb tv bn (bs++wtx bn T i))
theorem J6d {a0:World} (hB:B<=a0.heap.size) (a:World) (q:Nat) (bs:List UInt8) (s:ByteArray) (hq:q=a.heap.size) (hk:Wkp B wb a0 a) (hw:Wrt a B wb tv bn bs) (hl:bs.length+s.size<=100000000000000):
 Calls Tryz.prog 72 #[pV wb,.slice (some (aD q 0)) 1 1] (a.alloc (.cells #[.string s] 9)) (Q6 a0 B wb tv bn (bs++s.data.toList)):=by
 subst hq;have e:s.data.toList.length=s.size:=bl s;refine(C1b (hw.still (Chg.alloc _ _ _)) [s] a.heap.size (0,0) (heap_alloc_new a _) (by simp) (by simp[D6a];omega) (by simp;have:=hk.size;omega)).mono ?_;rintro e w' ⟨rfl,h1,h2⟩;exact⟨rfl,(hk.trans (Wkp.still (Chg.alloc _ _ _))).trans h1,by simpa[D6a]using h2⟩
theorem Y5b (IH:D7c B wb tv bn T m) (i:Nat) (him:i<=m) (HOB:M9d B wb tv bn T i) (hi:i<T.length) (w:World) (bs:List UInt8) (h:Wsp w B wb tv bn T bs) (hBw:B<=w.heap.size) (hlen:bs.length+(wtx bn T i).length<=100000000000000) (hls:T[i].list.length<=100000000):
 Calls Tryz.prog 46 #[pV wb,iV (i:Int)] w (Q6 w B wb tv bn (bs++wtx bn T i)):=by
 have hT:=h.ok;obtain⟨ad,c,etv,c2,c3,hlt,hcell⟩:=h.cell;obtain⟨g,fa,fc,la,lc,rfl,hg,hc1,hc2,x0,x1,x2,x3,of1,ol1⟩:=hcell i hi;unfold maxLen at hc2;clear hcell;have HW8:=A0 (fun e=>R7c (bn:=bn) hT hi e);have HW9:=A0 (fun e=>B8d (bn:=bn) hT hi e);have HW10:=A0 (fun e=>R5c (bn:=bn) hT hi e);have HWp:=A0 (fun e1 e2=>Y6b (bn:=bn) hT hi e1 e2);have HOb:=A0 (fun e w' bs'=>HOB hi w' bs' fa fc e);have hty:=hT i hi;have hls2:=hty.lst;have hof:=hty.of;have hkinds:T[i].kind=7\/T[i].kind=8\/T[i].kind=9\/T[i].kind=10\/(1<=T[i].kind/\T[i].kind<=6):=by
  rcases hty with ht|ht|ht|ht|ht
  · exact .inr (.inr (.inr (.inr ⟨ht.1,ht.2.1⟩)))
  · exact .inl ht.1
  · exact .inr (.inl ht.1)
  · exact .inr (.inr (.inl ht.1))
  · exact .inr (.inr (.inr (.inl ht.1)))
 clear hty HOB;generalize wtx bn T i=tx at *;generalize T[i].kind=k at *;generalize T[i].of'=o at *;generalize T[i].fields=fs at *;generalize T[i].list=ls at *;have hc0:Chg No w ((w.alloc (.cells #[pV wb] 78)).alloc (.cells #[iV k,.slice fa fs.length fc,.slice la ls.length lc,iV o] 68)):=(Chg.alloc No _ _).trans (Chg.alloc No _ _) (fun _ _ x=>x);have hs0:=h.still hc0;have hB0:B<=((w.alloc (.cells #[pV wb] 78)).alloc (.cells #[iV k,.slice fa fs.length fc,.slice la ls.length lc,iV o] 68)).heap.size:=Nat.le_trans hBw hc0.size;have HEND:Hid (∀e w' bs',Q6 ((w.alloc (.cells #[pV wb] 78)).alloc (.cells #[iV k,.slice fa fs.length fc,.slice la ls.length lc,iV o] 68)) B wb tv bn bs' e w'->Q6 w B wb tv bn bs' e w'):=by
  rintro e w' bs' ⟨rfl,h1,h2⟩;exact⟨rfl,(Wkp.still hc0).trans h1,h2⟩
 have hx:((w.alloc (.cells #[pV wb] 78)).alloc (.cells #[iV k,.slice fa fs.length fc,.slice la ls.length lc,iV o] 68)).heap[w.heap.size]? =some (.cells #[pV wb] 78 (0,0)):=by
  rw[Below.heap_alloc _ _ _ (by simp)];exact heap_alloc_new w _
 have ht:((w.alloc (.cells #[pV wb] 78)).alloc (.cells #[iV k,.slice fa fs.length fc,.slice la ls.length lc,iV o] 68)).heap[w.heap.size+1]? =some (.cells #[iV k,.slice fa fs.length fc,.slice la ls.length lc,iV o] 68 (0,0)):=by
  have:=heap_alloc_new (w.alloc (.cells #[pV wb] 78)) (.cells #[iV k,.slice fa fs.length fc,.slice la ls.length lc,iV o] 68);simpa using this
 have hol:((w.alloc (.cells #[pV wb] 78)).alloc (.cells #[iV k,.slice fa fs.length fc,.slice la ls.length lc,iV o] 68)).ownsRow 0 3 1 (.slice la ls.length lc) ls.length (C7 ls):=A8 ol1 hc0 (fun _ _ x=>x);have hofl:((w.alloc (.cells #[pV wb] 78)).alloc (.cells #[iV k,.slice fa fs.length fc,.slice la ls.length lc,iV o] 68)).ownsRow 0 126 2 (.slice fa fs.length fc) fs.length (F6 fs):=A8 of1 hc0 (fun _ _ x=>x);have FC:Hid (∀a,Wkp B wb ((w.alloc (.cells #[pV wb] 78)).alloc (.cells #[iV k,.slice fa fs.length fc,.slice la ls.length lc,iV o] 68)) a->a.cell? (aD w.heap.size 0)=some (pV wb)/\a.cell? (aD (w.heap.size+1) 2)=some (.slice la ls.length lc)/\a.cell? (aD (w.heap.size+1) 3)=some (iV o)/\w.heap.size<a.heap.size/\w.heap.size+1<a.heap.size):=by
  intro a ha;have hx2:=ha.other hs0.wrt hx (by decide) (by decide);have ht2:=ha.other hs0.wrt ht (by decide) (by decide);exact⟨cr hx2 rfl,cr ht2 rfl,cr ht2 rfl,(ltG hx2),(ltG ht2)⟩
 have FS:=A0 (fun a q bs' s=>J6d (wb:=wb) (tv:=tv) (bn:=bn) (a0:=((w.alloc (.cells #[pV wb] 78)).alloc (.cells #[iV k,.slice fa fs.length fc,.slice la ls.length lc,iV o] 68))) hB0 a q bs' s);have FW:Hid (∀a z bs',Wkp B wb ((w.alloc (.cells #[pV wb] 78)).alloc (.cells #[iV k,.slice fa fs.length fc,.slice la ls.length lc,iV o] 68)) a->Wrt a B wb tv bn bs'->z<i->bs'.length+(wtx bn T z).length<=100000000000000->Calls Tryz.prog 46 #[pV wb,iV (z:Int)] a (Q6 ((w.alloc (.cells #[pV wb] 78)).alloc (.cells #[iV k,.slice fa fs.length fc,.slice la ls.length lc,iV o] 68)) B wb tv bn (bs'++wtx bn T z))):=by
  intro a z bs' ha hw hz hl;refine(IH z a bs' (by omega) (by omega) (hs0.kept ha hw) (Nat.le_trans hB0 ha.size) hl).mono ?_;rintro e w' ⟨rfl,h1,h2⟩;exact⟨rfl,ha.trans h1,h2⟩
 have FR:Hid (∀a bs',Wkp B wb ((w.alloc (.cells #[pV wb] 78)).alloc (.cells #[iV k,.slice fa fs.length fc,.slice la ls.length lc,iV o] 68)) a->Wrt a B wb tv bn bs'->bs'.length+(Q7 [44,32] (fun j=>wtx bn T (ls.getD j 0).toNat) ls.length).length<=100000000000000->Calls Tryz.prog 73 #[pV wb,iV (ls.length:Int),.string ⟨#[44,32]⟩,.func (.func 74) #[] #[pV w.heap.size,pV (w.heap.size+1)]] a (Q6 ((w.alloc (.cells #[pV wb] 78)).alloc (.cells #[iV k,.slice fa fs.length fc,.slice la ls.length lc,iV o] 68)) B wb tv bn (bs'++Q7 [44,32] (fun j=>wtx bn T (ls.getD j 0).toNat) ls.length))):=by
  intro a bs' ha hw hl;have hsa:=hs0.kept ha hw;have hxa:=ha.other hs0.wrt hx (by decide) (by decide);have hta:=ha.other hs0.wrt ht (by decide) (by decide);have hola:=ha.own hs0.wrt hol (by decide) (by decide);refine(H4c a bs' hw (Nat.le_trans hB0 ha.size) ls.length (by omega) ⟨#[44,32]⟩ _ _ (fun j=>wtx bn T (ls.getD j 0).toNat) hl ?_).mono ?_
  · intro a2 j bs2 hk2 hw2 hj hl2;have hxx:=hls2 ls[j] (List.getElem_mem hj);obtain⟨z,hz⟩:∃z:Nat,ls[j]=(z:Int):=⟨ls[j].toNat,by omega⟩;have e:wtx bn T (ls.getD j 0).toNat=wtx bn T z:=by
     rw[show ls.getD j 0=(z:Int) from by simp[hj,hz],Int.toNat_natCast]
    rw[e]at hl2⊢;refine(Y8b IH a2 bs2 (hsa.kept hk2 hw2) (Nat.le_trans hB0 (Nat.le_trans ha.size hk2.size)) j w.heap.size (w.heap.size+1) _ _ _ la lc ls hj z hz (by omega) (by omega) hl2 (hk2.other hsa.wrt hxa (by decide) (by decide)) (hk2.other hsa.wrt hta (by decide) (by decide)) (hk2.own hsa.wrt hola (by decide) (by decide))).mono ?_;rintro e w' ⟨rfl,h1,h2⟩;exact⟨rfl,hk2.trans h1,h2⟩
  · rintro e w' ⟨rfl,h1,h2⟩;exact⟨rfl,ha.trans h1,h2⟩
 have HR0:=A0 hs0;have hk0:=A0 (Wkp.refl B wb ((w.alloc (.cells #[pV wb] 78)).alloc (.cells #[iV k,.slice fa fs.length fc,.slice la ls.length lc,iV o] 68)));rcases hkinds with rfl|rfl|rfl|rfl|⟨hk1,hk2⟩
 · have HC:=A0 (HOb.out rfl _ bs hs0 hB0 hofl hlen);clear h hs0 hx ht hol hofl of1 ol1 FW FS FC HW8 HW9 HW10 HWp HOb hc0 hB0;go_enter Tryz.func46,Tryz.ntmps46;go_wp2_with fail
   refine HC.out.mono ?_;rintro e w1 hp;have hp2:=HEND.out _ _ _ hp;obtain⟨rfl,h1,h2⟩:=hp2;go_wp2;go_end0;exact⟨rfl,h1,h2⟩
 · have e:=HW8.out rfl;obtain⟨z,rfl⟩:∃z:Nat,o=(z:Int):=⟨o.toNat,by have:=hof (.inl rfl);omega⟩;have hzi:z<i:=by have:=hof (.inl rfl);omega
   rw[Int.toNat_natCast]at e;subst e;simp only[List.length_append,List.length_cons,List.length_nil]at hlen;have HS1:=A0 (FS.out _ (w.heap.size+1+1) bs ⟨#[91]⟩ (by simp) hk0.out HR0.out.wrt (by simp[ByteArray.size];omega));clear h hs0 hx ht hol hofl of1 ol1 HW8 HW9 HW10 HWp HOb hc0 hB0 hof;go_enter Tryz.func46,Tryz.ntmps46;go_wp2_with fail
   refine HS1.out.mono ?_;rintro e w1 ⟨rfl,h1,h2⟩;obtain⟨d1,d2,d3,l1,l2⟩:=FC.out w1 h1;have HS2:=A0 (FW.out w1 z _ h1 h2 hzi (by simp;omega));clear h1 h2 HS1;go_wp2_with fail
   refine HS2.out.mono ?_;rintro e w2 ⟨rfl,h3,h4⟩;obtain⟨d4,-,-,l4,-⟩:=FC.out w2 h3;have HS3:=A0 (FS.out w2 w2.heap.size _ ⟨#[93]⟩ rfl h3 h4 (by simp[ByteArray.size];omega));clear h3 h4 HS2;go_wp2_with fail
   refine HS3.out.mono ?_;rintro e w3 hp;obtain⟨rfl,h5,h6⟩:=HEND.out _ _ _ hp;go_wp2;go_end0;exact⟨rfl,h5,by simpa using h6⟩
 · have e:=HW9.out rfl;obtain⟨z,rfl⟩:∃z:Nat,o=(z:Int):=⟨o.toNat,by have:=hof (.inr rfl);omega⟩;have hzi:z<i:=by have:=hof (.inr rfl);omega
   rw[Int.toNat_natCast]at e;subst e;generalize Q7 [44,32] (fun j=>wtx bn T (ls.getD j 0).toNat) ls.length=rb at *;simp only[List.length_append,List.length_cons,List.length_nil]at hlen;have HS1:=A0 (FS.out _ (w.heap.size+1+1) bs ⟨#[40]⟩ (by simp) hk0.out HR0.out.wrt (by simp[ByteArray.size];omega));clear h hs0 hx ht hol hofl of1 ol1 HW8 HW9 HW10 HWp HOb hc0 hB0 hof;go_enter Tryz.func46,Tryz.ntmps46;go_wp2_with fail
   refine HS1.out.mono ?_;rintro e w1 ⟨rfl,h1,h2⟩;obtain⟨d1,d2,d3,l1,l2⟩:=FC.out w1 h1;have HS2:=A0 (FR.out w1 _ h1 h2 (by simp;omega));clear h1 h2 HS1;go_wp2_with fail
   refine HS2.out.mono ?_;rintro e w2 ⟨rfl,h3,h4⟩;obtain⟨d4,d5,d6,l4,l5⟩:=FC.out w2 h3;have HS3:=A0 (FS.out w2 w2.heap.size _ ⟨#[41,32,61,62,32]⟩ rfl h3 h4 (by simp[ByteArray.size];omega));clear h3 h4 HS2;go_wp2_with fail
   refine HS3.out.mono ?_;rintro e w3 ⟨rfl,h5,h6⟩;obtain⟨d7,-,d8,l7,l8⟩:=FC.out w3 h5;have HS4:=A0 (FW.out w3 z _ h5 h6 hzi (by simp;omega));clear h5 h6 HS3;go_wp2_with fail
   refine HS4.out.mono ?_;rintro e w4 hp;obtain⟨rfl,h7,h8⟩:=HEND.out _ _ _ hp;go_wp2;go_end0;exact⟨rfl,h7,by simpa using h8⟩
 · have e:=HW10.out rfl;subst e;have HC:=A0 (N0b IH _ bs hs0 hB0 la lc ls hls (fun x hxm=>by have:=hls2 x hxm;omega) hol hlen);clear h hs0 hx ht hol hofl of1 ol1 FW FS FC FR HW8 HW9 HW10 HWp HOb hc0 hB0 hof;go_enter Tryz.func46,Tryz.ntmps46;go_wp2_with fail
   refine HC.out.mono ?_;rintro e w1 hp;obtain⟨rfl,h1,h2⟩:=HEND.out _ _ _ hp;go_wp2;go_end0;exact⟨rfl,h1,h2⟩
 · have e:=HWp.out hk1 hk2;subst e;obtain⟨d1,-,-,l1,l2⟩:=FC.out _ hk0.out;have d0:(((w.alloc (.cells #[pV wb] 78)).alloc (.cells #[iV k,.slice fa fs.length fc,.slice la ls.length lc,iV o] 68))).cell? (aD (w.heap.size+1) 0)=some (iV k):=cr ht rfl;have HWt:=A0 HR0.out.wrt;have hwl:(M.P1a k).length<=7:=by
    have hk:k=1\/k=2\/k=3\/k=4\/k=5\/k=6:=by omega
    rcases hk with rfl|rfl|rfl|rfl|rfl|rfl<;>decide
   have FP:Hid (∀n q,q=w.heap.size+1+1->Calls Tryz.prog 72 #[pV wb,.slice (some (aD q 0)) 1 1] (((((w.alloc (.cells #[pV wb] 78)).alloc (.cells #[iV k,.slice fa fs.length fc,.slice la ls.length lc,iV o] 68))).drewN n).alloc (.cells #[.string ⟨(M.P1a k).toArray⟩] 9)) (Q6 w B wb tv bn (bs++M.P1a k))):=by
    intro n q hq;have hd:=Chg.drewN No ((w.alloc (.cells #[pV wb] 78)).alloc (.cells #[iV k,.slice fa fs.length fc,.slice la ls.length lc,iV o] 68)) n;refine(FS.out (World.drewN ((w.alloc (.cells #[pV wb] 78)).alloc (.cells #[iV k,.slice fa fs.length fc,.slice la ls.length lc,iV o] 68)) n) q bs ⟨(M.P1a k).toArray⟩ (by rw[hq];simp) (Wkp.still hd) (HWt.out.still hd) (by simp[ByteArray.size];omega)).mono ?_;intro e w' hp;exact HEND.out _ _ _ hp
   clear h hs0 hx ht hol hofl of1 ol1 FW FS FC FR HW8 HW9 HW10 HWp HOb hc0 hB0 hof;have e7:(k==7)=false:=by simp;omega
   have e8:(k==8)=false:=by simp;omega
   have e9:(k==9)=false:=by simp;omega
   have e10:(k==10)=false:=by simp;omega
   have HWD:=A0 (fun a=>E1c k hk1 hk2 a);generalize M.P1a k=wk at *;go_enter Tryz.func46,Tryz.ntmps46;go_wp2_with fail
   go_region_with (first
    |(go_at_call 76;refine(HWD.out _).mono ?_;rintro e w' ⟨rfl,rfl⟩)
    |(go_at_call 72;refine(FP.out 1 _ (by simp)).mono ?_;rintro e w1 ⟨rfl,h1,h2⟩))
   all_goals
    go_wp2;go_end0;exact⟨rfl,h1,h2⟩
end
open Go.RowKit Go.Maps
section
variable {α:Type}
theorem F7a (enc:α->List Value) (hk:∀x,(enc x).length=2):∀(l:List α) (i c:Nat) (hi:i<l.length),c<2->(l.flatMap enc)[i * 2+c]? =(enc l[i])[c]?
 |[],_,_,hi,_=>by simp at hi
 |x::r,0,c,_,hc=>by
  rw[List.flatMap_cons,List.getElem?_append_left (by rw[hk];omega)];simp
 |x::r,i+1,c,hi,hc=>by
  rw[List.flatMap_cons,List.getElem?_append_right (by rw[hk];omega),hk,show (i+1) * 2+c - 2=i * 2+c by omega,F7a enc hk r i c (by simpa using hi) hc];rfl
theorem U2a (enc:α->List Value) (hk:∀x,(enc x).length=2):∀l:List α,(l.flatMap enc).length=l.length * 2
 |[]=>rfl
 |x::r=>by
  rw[List.flatMap_cons,List.length_append,hk,U2a enc hk r,List.length_cons];omega
end
theorem B9c [Inhabited (List UInt8×Int)] (d:Array (List UInt8×Int)) (cur:Array Value) (h:d.size * 2<=cur.size):(Sort.putCells id 0 (Sort.flatK J4 2 d) cur).toList.take (d.size * 2)=F6 d.toList:=by
 have hf:(F6 d.toList).length=d.size * 2:=by
  unfold F6;rw[U2a J4 (fun _=>rfl)];simp
 refine List.ext_getElem? fun t=> ?_;by_cases ht:t<d.size * 2
 · have e:=F7a J4 (fun _=>rfl) d.toList (t / 2) (t % 2) (by simp;omega) (by omega);rw[show t / 2 * 2+t % 2=t by omega]at e;unfold F6;rw[e,List.getElem?_take_of_lt ht];have hc:t<cur.size:=by omega
   have e2:(Sort.putCells id 0 (Sort.flatK J4 2 d) cur).toList[t]? =some ((J4 d[t / 2]!)[t % 2]!):=by
    unfold Sort.putCells;rw[Array.getElem?_toList,Array.getElem?_mapIdx];simp only[hc,Array.getElem?_eq_getElem,Option.map_some];rw[if_pos (by simp;omega)];simp only[Nat.sub_zero,id];rw[Sort.get_flatK _ _ _ _ ht]
   rw[e2];have hd:t / 2<d.size:=by omega
   have e3:d[t / 2]! =d.toList[t / 2]'(by simpa using hd):=by simp[hd]
   rw[e3];have h2:t % 2<(J4 (d.toList[t / 2]'(by simpa using hd))).length:=by
    show t % 2<2;omega
   rw[List.getElem?_eq_getElem h2,getElem!_pos (J4 (d.toList[t / 2]'(by simpa using hd))) (t % 2) h2]
 · rw[List.getElem?_eq_none (by simp;omega),List.getElem?_eq_none (by rw[hf];omega)]
theorem I8c (x y:List UInt8×Int) (W:World):Calls Tryz.prog 100 #[.agg #[.string ⟨x.1.toArray⟩,iV x.2],.agg #[.string ⟨y.1.toArray⟩,iV y.2]] W fun e w'=>e= .returned (iV (Lib.compareBytes x.1 y.1))/\∃q os',w'=Sort.grow (W.drewN q) os':=by
 have hcon:=fun W'=>Tryz.strings_Compare ⟨x.1.toArray⟩ ⟨y.1.toArray⟩ W';generalize hr:Lib.compareBytes x.1 y.1=r;simp only[hr]at hcon;go_enter Tryz.func100,Tryz.ntmps100;go_wp2_with (go_at_call 101;refine(hcon _).mono ?_;rintro e w' ⟨rfl,rfl⟩)
 go_ret;exact⟨rfl,0,_,by rw[Sort.alloc_eq_grow,Sort.alloc_eq_grow,Sort.grow_grow];rfl⟩
def S9b (x y:List UInt8×Int):Int:=Lib.compareBytes x.1 y.1
theorem swoN:Sort.SWO (ltOf S9b) where
 irrefl x:=by simp[ltOf,S9b,M.A5b]
 trans x y z h1 h2:=by
  have a1:=of_decide_eq_true h1;have a2:=of_decide_eq_true h2;unfold S9b at a1 a2;exact decide_eq_true ((M.E1a x.1 y.1 z.1 (by omega) (by omega)).2 (.inl a1))
 ntrans x y z h1 h2:=by
  have a1:=of_decide_eq_false h1;have a2:=of_decide_eq_false h2;unfold S9b at a1 a2;have e1:=M.S4 x.1 y.1;have e2:=M.S4 y.1 z.1;have e3:=M.S4 x.1 z.1;have:=(M.E1a z.1 y.1 x.1 (by omega) (by omega)).1;refine decide_eq_false ?_;unfold S9b;omega
theorem H0c (w:World) (n0:Nat) (fs:List (List UInt8×Int)) (hn:(fs.map (·.1)).Nodup) (v:Value) (ho:w.ownsRow n0 126 2 v fs.length (F6 fs)) (hle:fs.length<=100000000):
 Calls Tryz.prog 99 #[v,.func (.func 100) #[] #[]] w fun e w'=>e=rT/\Chg (fun k=>some k=v.ownBlock) w w'/\w'.ownsRow n0 126 2 v fs.length (F6 (M.K1a fs)):=by
 rcases ho.2 with ⟨rfl,h0⟩|⟨g,cap,cur,rfl,hb,hg,hn2,hm,hcs,htk⟩
 · have hcon:=AnyF.slices_SortFunc_none Tryz.sortF none 0 (.func (.func 100) #[] #[]) w;refine Calls.mono (show Calls Tryz.prog 99 _ _ _ from hcon) ?_;rintro e w' ⟨rfl,rfl⟩;have:fs=[]:=List.length_eq_zero_iff.1 h0;subst this;have e:M.K1a ([]:List (List UInt8×Int))=[]:=List.length_eq_zero_iff.1 (M.B3a _);rw[e];exact⟨rfl,Chg.refl _ _,ho⟩
 · have hlt:=(ltG hg);have eg:∀args w,(callFunc 100 args).run Tryz.prog w= .ok (.enter 100 args) w:=enters_of Tryz.func100 (by kernel_rfl) rfl;have hH:Sort.HoldsK J4 2 w g 0 fs.toArray:=by
    intro j hj;rw[Sort.size_flatK]at hj;simp only[List.size_toArray]at hj;refine⟨?_,by rw[Nat.zero_add];exact frozen_of_row w g j _ _ hg⟩;rw[Nat.zero_add,cell_of_row w g j _ _ _ hg,Sort.get_flatK _ _ _ _ (by simpa using hj)];have e:=F7a J4 (fun _=>rfl) fs (j / 2) (j % 2) (by omega) (by omega);rw[show j / 2 * 2+j % 2=j by omega]at e;have e2:cur[j]? =(F6 fs)[j]? :=by
     rw[<-htk,List.getElem?_take_of_lt hj,Array.getElem?_toList]
    have hd:j / 2<fs.length:=by omega
    have h2:j % 2<(J4 fs[j / 2]).length:=by
     show j % 2<2;omega
    rw[e2];unfold F6;rw[e,List.getElem?_eq_getElem h2];simp[hd,h2]
   have hcon:=AnyQ.slices_SortFunc Tryz.sortF 2 Tryz.isAgg126 Tryz.sizeOf126 J4 (fun _=>rfl) (fun x v hv=>by simp[J4]at hv;rcases hv with rfl|rfl<;>rfl) S9b swoN 100 #[] g 0 cap fs.toArray w eg (fun _ _ _ _ x y=>I8c x y _) hH hlt (by simp;omega);simp only[List.size_toArray]at hcon;refine Calls.mono (show Calls Tryz.prog 99 _ _ _ from hcon) ?_;rintro e w' ⟨rfl,d',n,os,hp,hs,rfl⟩;have hsz:d'.size=fs.length:=by have:=hp.1;simpa using this
   have hd:d'.toList=M.K1a fs:=by
    have hpp:=hp.2.2;have e1:(d'.extract 0 fs.length).toList=d'.toList:=by rw[<-hsz];simp
    have e2:(fs.toArray.extract 0 fs.length).toList=fs:=by simp
    rw[e1,e2]at hpp;refine M.I3a _ _ (hpp.trans (M.T4 fs).symm) ((hpp.map _).nodup_iff.2 hn) ?_ (M.E9a fs);rw[List.pairwise_iff_getElem];intro i j hi hj hij;have:=hs i j (Nat.zero_le _) hij (by rw[<-hsz];simpa using hj);simp only[Array.length_toList]at hi hj;have this:=of_decide_eq_false this;unfold S9b at this;rw[getElem!_pos d' i hi,getElem!_pos d' j hj]at this;simp only[M.leN,M.ltN,Bool.not_eq_true',decide_eq_false_iff_not,Array.getElem_toList];exact this
   have hw:(sortWorldK J4 2 w g 0 n d' os).heap[g]? =some (.cells (Sort.putCells id 0 (Sort.flatK J4 2 d') cur) 126 (0,0)):=by
    unfold sortWorldK Sort.grow Sort.putRowK Sort.putRow Sort.mapBlock Sort.ahead;rw[Array.getElem?_append_left (by simpa using hlt),Array.getElem?_modify,if_pos rfl,hg];rfl
   refine⟨rfl, ?_, ?_⟩
   · refine⟨rfl,rfl,rfl,by simp[sortWorldK,Sort.grow,Sort.putRowK,Sort.putRow,Sort.mapBlock,Sort.ahead],fun k hk hne=> ?_⟩;have hne2:¬g=k:=fun e=>hne (by subst e;rfl);unfold sortWorldK Sort.grow Sort.putRowK Sort.putRow Sort.mapBlock Sort.ahead;rw[Array.getElem?_append_left (by simpa using hk),Array.getElem?_modify,if_neg hne2]
   · refine⟨?_,.inr ⟨g,cap,_,rfl,hb,hw,hn2,hm, ?_, ?_⟩⟩
     · unfold F6;rw[U2a J4 (fun _=>rfl),M.B3a]
     · simp[Sort.putCells,hcs]
     · rw[<-hd,<-hsz];exact B9c d' cur (by rw[hcs,hsz];omega)
theorem S2b (w:World) (fs:List (List UInt8×Int)) (fa:Option Addr) (fc:Nat) (ho:w.ownsRow 0 126 2 (.slice fa fs.length fc) fs.length (F6 fs)) (hn:fs.length<=100000000):
 Calls Tryz.prog 98 #[.slice fa fs.length fc] w fun e w'=>∃ga gc,e= .returned (.slice ga fs.length gc)/\Chg No w w'/\w'.ownsRow w.heap.size 126 2 (.slice ga fs.length gc) fs.length (F6 fs):=by
 obtain⟨i0,hi,hz0,hz1,hz2⟩:=info_parts Tryz.infoField;have q50:∀(w:World) (a:Option Addr) (n c n' c':Nat),(binOp .eql 66 (.slice a n c) (.slice none n' c')).run Tryz.prog w= .ok (.bool a.isNone) w:=fun w a n c n' c'=>Lib.run_eql_slice_nil w _ _ a n c n' c' Tryz.underlying66;rcases ho.2 with ⟨hv,h0⟩|⟨g,cap,cur,hv,hb,hg,hn2,hm,hcs,htk⟩
 · have:fs=[]:=List.length_eq_zero_iff.1 h0;subst this;simp only[Value.slice.injEq]at hv;obtain⟨rfl,-,rfl⟩:=hv;go_enter Tryz.func98,Tryz.ntmps98;go_wp2;go_ret;exact⟨none,0,rfl,Chg.refl _ _,rfl,.inl ⟨rfl,rfl⟩⟩
 · simp only[Value.slice.injEq]at hv;obtain⟨rfl,-,rfl⟩:=hv;have hlt:=(ltG hg);have HO:Hid ((w.alloc (.cells #[] 126)).ownsRow w.heap.size 126 2 (.slice (some (aD w.heap.size 0)) 0 0) 0 []):=
    ⟨rfl,.inr ⟨w.heap.size,0,#[],rfl,Nat.le_refl _,heap_alloc_new w _,Nat.le_refl _,Nat.zero_le _,rfl,rfl⟩⟩
   have HL:=A0 (I5c ho);have HN:Hid (∀j u,(F6 fs)[j]? =some u->(w.alloc (.cells #[] 126)).cell? (((aD g 0):Addr).add j)=some u):=by
    intro j u hj;have e:=ho.cells (g:=g) rfl j u hj;have hadd:((aD g 0):Addr).add j=(aD g j):=by unfold Addr.add;split<;>simp_all
    rw[hadd]at e⊢;exact F9 hlt e
   have H1:Hid (∀u∈F6 fs,u.oneCell'=true):=by
    intro u hu;unfold F6 at hu;obtain⟨x,-,hx⟩:=List.mem_flatMap.1 hu;simp[J4]at hx;rcases hx with rfl|rfl<;>rfl
   clear ho htk hg;go_enter Tryz.func98,Tryz.ntmps98;go_wp2_with (at_builtin;refine wpList_append_own _ rfl _ _ 66 rfl w.heap.size 126 i0 (.agg #[.string ⟨#[]⟩,iV 0]) 2 24 Tryz.underlying66 hi hz0 hz1 hz2 rfl (by decide) _ 0 [] rfl HO.out (aD g 0) fs.length fc (F6 fs) rfl HL.out HN.out H1.out ?c3 ?c4 ?c5 ?_)
   case c3=>simp only[maxLen];omega
   case c4=>omega
   case c5=>simp
   intro v' w2 hown2 hg2 _;obtain⟨ad2,c2,rfl⟩:=B6 hown2;have HO2:=A0 hown2;have HC:Hid (Chg No w w2):=by
    refine((Chg.alloc (fun k=>w.heap.size<=k) w _).trans (Chg.grown hg2) (fun k hk x=> ?_)).mono (fun k hk x=>by omega);have x':some k=some w.heap.size:=x;simp only[Option.some.injEq]at x';omega
   clear hown2 hg2;go_wp2;go_ret;exact⟨ad2,c2,rfl,HC.out,HO2.out⟩
open Go.RowKit Go.Maps
def R6b (bn:Bool) (T:List M.Ty) (p:List UInt8×Int):List UInt8:=[32]++p.1++[58,32]++wtx bn T p.2.toNat++[59]
def U5 (bn:Bool) (T:List M.Ty) (l:List (List UInt8×Int)):List UInt8:=l.flatMap (R6b bn T)
def A3a (bn:Bool) (l:List (List UInt8×Int)):List (List UInt8×Int):=if bn then M.K1a l else l
theorem J3a {bn:Bool} {T:List M.Ty} (l:List (List UInt8×Int)) {j:Nat} (hj:j<l.length):U5 bn T (l.take (j+1))=U5 bn T (l.take j)++R6b bn T l[j]:=by
 unfold U5;rw[List.take_succ_eq_append_getElem hj,List.flatMap_append];simp
theorem K8b {bn:Bool} {T:List M.Ty} (l:List (List UInt8×Int)) {j:Nat} (hj:j<l.length):(U5 bn T (l.take j)).length+(R6b bn T l[j]).length<=(U5 bn T l).length:=by
 have h1:=J3a (bn:=bn) (T:=T) l hj;have h2:U5 bn T l=U5 bn T (l.take (j+1))++U5 bn T (l.drop (j+1)):=by
  unfold U5;rw[<-List.flatMap_append,List.take_append_drop]
 rw[h2,h1];simp only[List.length_append];omega
theorem P6b (bn:Bool) (l:List (List UInt8×Int)):(A3a bn l).length=l.length:=by
 unfold A3a;split
 · exact M.B3a l
 · rfl
theorem P5b {bn:Bool} {l:List (List UInt8×Int)} {p:List UInt8×Int} (h:p∈A3a bn l):p∈l:=by
 unfold A3a at h;split at h
 · exact(M.T4 l).subset h
 · exact h
section
variable {bn:Bool} {T:List M.Ty} {i:Nat}
theorem Z7a (hT:M.TsOk T) (hi:i<T.length) (h:T[i].kind=7):T[i].list=[]/\(T[i].fields.map (·.1)).Nodup:=by
 rcases hT i hi with ht|ht|ht|ht|ht
 · omega
 · exact⟨ht.2.1,ht.2.2.1⟩
 · omega
 · omega
 · omega
theorem R6c (hT:M.TsOk T) (hi:i<T.length) (h:T[i].kind=7):wtx bn T i=[123]++U5 bn T (A3a bn T[i].fields)++(if T[i].fields.length=0 then [] else [32])++[125]:=by
 obtain⟨hl,hn⟩:=Z7a hT hi h;have e:M.tr T i= .nd 7 (T[i].fields.map (·.1)) (T[i].fields.map fun p=>(fun z:Int=>M.tr T z.toNat) p.2):=by
  rw[M.S6 hT hi,if_neg (by omega),hl,h];simp
 unfold wtx;rw[e];cases bn with
 |false=>
  have e2:∀t,wtr false t=t:=fun t=>by simp[wtr]
  rw[e2,M.U8b T[i].fields (fun z:Int=>M.tr T z.toNat)];unfold U5 R6b A3a wtx;simp only[e2];rfl
 |true=>
  have e2:∀t,wtr true t=M.srt t:=fun t=>by simp[wtr]
  rw[e2,M.S8c _ (fun z:Int=>M.tr T z.toNat) hn,M.U8b _ (fun z:Int=>M.srt (M.tr T z.toNat)),M.B3a];unfold U5 R6b A3a wtx;simp only[e2];rfl
end
section
variable {B wb:Nat} {tv:Value} {bn:Bool} {T:List M.Ty} {m:Nat}
theorem C3d {a0:World} (hB:B<=a0.heap.size) (a:World) (q:Nat) (bs:List UInt8) (s1 s2 s3:ByteArray) (hq:q=a.heap.size) (hk:Wkp B wb a0 a) (hw:Wrt a B wb tv bn bs) (hl:bs.length+s1.size+s2.size+s3.size<=100000000000000):
 Calls Tryz.prog 72 #[pV wb,.slice (some (aD q 0)) 3 3] (a.alloc (.cells #[.string s1,.string s2,.string s3] 9)) (Q6 a0 B wb tv bn (bs++(s1.data.toList++s2.data.toList++s3.data.toList))):=by
 subst hq;have e1:s1.data.toList.length=s1.size:=bl s1;have e2:s2.data.toList.length=s2.size:=bl s2;have e3:s3.data.toList.length=s3.size:=bl s3;refine(C1b (hw.still (Chg.alloc _ _ _)) [s1,s2,s3] a.heap.size (0,0) (heap_alloc_new a _) (by simp) (by simp[D6a];omega) (by simp;have:=hk.size;omega)).mono ?_;rintro e w' ⟨rfl,h1,h2⟩;exact⟨rfl,(hk.trans (Wkp.still (Chg.alloc _ _ _))).trans h1,by simpa[D6a]using h2⟩
theorem Z6a {w:World} {base:Nat} {ga:Option Addr} {gc:Nat} {gs:List (List UInt8×Int)} (ho:w.ownsRow base 126 2 (.slice ga gs.length gc) gs.length (F6 gs)) {j:Nat} (hj:j<gs.length):
 ∃g,ga=some (aD g 0)/\g<w.heap.size/\gs.length<=gc/\gc<=maxLen/\w.cell? (aD g (j * 2))=some (.string ⟨gs[j].1.toArray⟩)/\w.cell? (aD g (j * 2+1))=some (iV gs[j].2):=by
 obtain⟨g,rfl,-,hg,h1,h2,hc⟩:=E7 ho (by omega);have a0:=F7a J4 (fun _=>rfl) gs j 0 hj (by omega);have a1:=F7a J4 (fun _=>rfl) gs j 1 hj (by omega);exact⟨g,rfl,hg,h1,h2,hc _ _ a0,hc _ _ a1⟩
theorem P8b (IH:D7c B wb tv bn T m) (i:Nat) (him:i<=m) (hi:i<T.length) (hfs:T[i].fields.length<=2001):M9d B wb tv bn T i:=by
 intro _ w bs fa fc hk7 h hBw ho hlen;have hT:=h.ok;have hE:=R6c (bn:=bn) hT hi hk7;have hnd:=(Z7a hT hi hk7).2;have hfld:=(hT i hi).fld;have hol:=P6b bn T[i].fields;have hmem:∀p∈A3a bn T[i].fields,0<=p.2/\p.2<(i:Int):=fun p hp=>hfld p (P5b hp);have hlen2:bs.length+(U5 bn T (A3a bn T[i].fields)).length+2<=100000000000000:=by
  rw[hE]at hlen;simp only[List.length_append,List.length_cons,List.length_nil]at hlen;omega
 have hlen3:T[i].fields.length≠0->bs.length+(U5 bn T (A3a bn T[i].fields)).length+3<=100000000000000:=by
  intro h0;rw[hE,if_neg h0]at hlen;simp only[List.length_append,List.length_cons,List.length_nil]at hlen;omega
 have HE:=A0 hE;clear hE hfld hk7 hlen;generalize wtx bn T i=tx at *;obtain⟨c2,c3,hwl⟩:=h.wrt.tys;generalize hfe:T[i].fields=fs at *;generalize hge:A3a bn fs=gs at *
 /- what follows,whatever was done ahead of it -/
 have FS1:Hid (∀a0:World,Chg No w a0->∀a q bs' s,q=a.heap.size->Wkp B wb a0 a->Wrt a B wb tv bn bs'->bs'.length+s.size<=100000000000000->Calls Tryz.prog 72 #[pV wb,.slice (some (aD q 0)) 1 1] (a.alloc (.cells #[.string s] 9)) (Q6 a0 B wb tv bn (bs'++s.data.toList))):=
  fun a0 hc a q bs' s=>J6d (Nat.le_trans hBw hc.size) a q bs' s
 have FS3:Hid (∀a0:World,Chg No w a0->∀a q bs' s1 s2 s3,q=a.heap.size->Wkp B wb a0 a->Wrt a B wb tv bn bs'->bs'.length+s1.size+s2.size+s3.size<=100000000000000->Calls Tryz.prog 72 #[pV wb,.slice (some (aD q 0)) 3 3] (a.alloc (.cells #[.string s1,.string s2,.string s3] 9)) (Q6 a0 B wb tv bn (bs'++(s1.data.toList++s2.data.toList++s3.data.toList)))):=
  fun a0 hc a q bs' s1 s2 s3=>C3d (Nat.le_trans hBw hc.size) a q bs' s1 s2 s3
 have FW:Hid (∀a0:World,Chg No w a0->∀a z bs',Wkp B wb a0 a->Wrt a B wb tv bn bs'->z<i->bs'.length+(wtx bn T z).length<=100000000000000->Calls Tryz.prog 46 #[pV wb,iV (z:Int)] a (Q6 a0 B wb tv bn (bs'++wtx bn T z))):=by
  intro a0 hc a z bs' ha hw hz hl;refine(IH z a bs' (by omega) (by omega) ((h.still hc).kept ha hw) (Nat.le_trans hBw (Nat.le_trans hc.size ha.size)) hl).mono ?_;rintro e w' ⟨rfl,h1,h2⟩;exact⟨rfl,ha.trans h1,h2⟩
 have FWR:Hid (∀a0:World,Chg No w a0->Wrt a0 B wb tv bn bs):=fun a0 hc=>h.wrt.still hc;have FR:Hid (∀a0:World,Chg No w a0->∀ga gc,a0.ownsRow 0 126 2 (.slice ga gs.length gc) gs.length (F6 gs)->∀a,Wkp B wb a0 a->a.ownsRow 0 126 2 (.slice ga gs.length gc) gs.length (F6 gs)):=
  fun a0 hc ga gc hr a ha=>ha.own (h.wrt.still hc) hr (by decide) (by decide)
 have hnn:=A0 hnd;clear hnd;cases bn with
 |false=>
  have hgs:gs=fs:=by rw[<-hge];rfl
  subst hgs;clear hge hol;have hc0:Chg No w w:=Chg.refl _ _;have hr0:=A0 ho;clear h ho;go_enter Tryz.func71,Tryz.ntmps71;go_wp2_with fail
  have HS1:=A0 (FS1.out w hc0 w w.heap.size bs ⟨#[123]⟩ rfl (Wkp.refl _ _ _) (FWR.out w hc0) (by simp[ByteArray.size];omega));refine HS1.out.mono ?_;rintro e u1 ⟨rfl,h1,h2⟩;have K1:=A0 h1;have R1:=A0 h2;clear h1 h2 HS1;go_wp2_with fail
  go_loopw [19] (fun v wr=>∃j:Nat,j<=gs.length/\v=iV (j:Int)/\Hid (Wrt wr B wb tv false (bs++[123]++U5 false T (gs.take j)))/\Hid (Wkp B wb w wr)) (fun v _=>gs.length - (intOf v).toNat)
  case atStart=>exact⟨0,Nat.zero_le _,rfl,by simpa[U5]using R1,K1.out⟩
  case round=>
   obtain⟨j,hj,rfl,WR,CR⟩:=hrel;have hBr:B<=wr.heap.size:=Nat.le_trans hBw (Nat.le_trans hc0.size CR.out.size);by_cases hjl:j<gs.length
   · have hl:=K8b (bn:=false) (T:=T) gs hjl;have HT:=A0 (J3a (bn:=false) (T:=T) gs hjl);obtain⟨g,hga,hg,hg1,hg2,x0,x1⟩:=Z6a (FR.out w hc0 _ _ hr0.out wr CR.out) hjl;subst hga;unfold maxLen at hg2;have hzm:=hmem gs[j] (List.getElem_mem hjl);unfold R6b at hl HT;generalize gs[j]=p at *;obtain⟨nm,zz⟩:=p;obtain⟨z,rfl⟩:∃z:Nat,zz=(z:Int):=⟨zz.toNat,by have:=hzm.1;simp only at this;omega⟩;have hzi:z<i:=by have:=hzm.2;simp only at this;omega
     simp only[Int.toNat_natCast,List.length_append,List.length_cons,List.length_nil]at hl HT x0 x1;clear hzm;have ha1:Chg No wr (wr.alloc (.cells #[.string ⟨nm.toArray⟩,iV (z:Int)] 126)):=Chg.alloc _ _ _;have HW3:=A0 (C3d (B:=B) (wb:=wb) (tv:=tv) (bn:=false) (a0:=wr.alloc (.cells #[.string ⟨nm.toArray⟩,iV (z:Int)] 126)) (Nat.le_trans hBr ha1.size) _ (wr.heap.size+1) _ ⟨#[32]⟩ ⟨nm.toArray⟩ ⟨#[58,32]⟩ (by simp) (Wkp.refl _ _ _) (WR.out.still ha1) (by simp[ByteArray.size];omega));have WA:=A0 (WR.out.still ha1);have CR2:=A0 (CR.out.trans (Wkp.still ha1));have hwr:wr.heap.size<(wr.alloc (.cells #[.string ⟨nm.toArray⟩,iV (z:Int)] 126)).heap.size:=by simp
     clear CR WR ha1;go_wp2_with fail
     refine HW3.out.mono ?_;rintro e w3 ⟨rfl,h3,h4⟩;have hq:=h3.other WA.out (heap_alloc_new wr _) (by decide) (by decide);have d1:w3.cell? (aD wr.heap.size 1)=some (iV (z:Int)):=cr hq rfl;have d2:wr.heap.size<w3.heap.size:=Nat.lt_of_lt_of_le hwr h3.size;have HWT:=A0 (FW.out w hc0 w3 z _ (CR2.out.trans h3) h4 hzi (by simp only[List.length_append,List.length_cons,List.length_nil];omega));clear h3 h4 hq WA CR2 HW3 hwr;go_wp2_with fail
     refine HWT.out.mono ?_;rintro e w4 ⟨rfl,h5,h6⟩;have HS4:=A0 (FS1.out w hc0 w4 w4.heap.size _ ⟨#[59]⟩ rfl h5 h6 (by simp[ByteArray.size];omega));clear h5 h6 HWT;go_wp2_with fail
     refine HS4.out.mono ?_;rintro e w5 ⟨rfl,h7,h8⟩;have K7:=A0 h7;have R8:=A0 h8;clear h7 h8 HS4;go_wp2;go_roundw
     case rel=>exact⟨j+1,by omega,by go_num,by rw[HT.out];simpa using R8,K7.out⟩
     case measure=>simp[intOf];omega
   · have hje:j=gs.length:=by omega
     subst hje;rw[List.take_length]at WR;have hcw:Wkp B wb w w:=Wkp.still hc0;by_cases hz:gs.length=0
     · have HS5:=A0 (FS1.out w hc0 wr wr.heap.size _ ⟨#[125]⟩ rfl CR.out WR.out (by simp[ByteArray.size];omega));have HE2:=HE.out;rw[if_pos hz]at HE2;have HE3:=A0 HE2;clear HE2 HE;clear CR WR;have hz0:(gs.length:Int)=0:=by omega
       simp only[hz0]at *;go_wp2_with fail
       refine HS5.out.mono ?_;rintro e w6 ⟨rfl,h9,h10⟩;go_wp2;go_end0;exact⟨rfl,hcw.trans h9,by rw[HE3.out];simpa using h10⟩
     · have hpos:(0:Int)<(gs.length:Int):=by omega
       have hlen4:=hlen3 hz;have HE2:=HE.out;rw[if_neg hz]at HE2;have HE3:=A0 HE2;clear HE2 HE;have HS5:=A0 (FS1.out w hc0 wr wr.heap.size _ ⟨#[32]⟩ rfl CR.out WR.out (by simp[ByteArray.size];omega));clear CR WR;go_wp2_with fail
       refine HS5.out.mono ?_;rintro e w6 ⟨rfl,h9,h10⟩;have HS6:=A0 (FS1.out w hc0 w6 w6.heap.size _ ⟨#[125]⟩ rfl h9 h10 (by simp[ByteArray.size];omega));clear h9 h10 HS5;go_wp2_with fail
       refine HS6.out.mono ?_;rintro e w7 ⟨rfl,h11,h12⟩;go_wp2;go_end0;exact⟨rfl,hcw.trans h11,by rw[HE3.out];simpa using h12⟩
 |true=>
  have hgs:gs=M.K1a fs:=by rw[<-hge];rfl
  have HC:=A0 (S2b w fs fa fc ho (by omega));clear h ho;go_enter Tryz.func71,Tryz.ntmps71;go_wp2_with fail
  refine HC.out.mono ?_;rintro e w1 ⟨ga,gc,rfl,k1,o1⟩;have HC2:=A0 (H0c w1 w.heap.size fs hnn.out _ o1 (by omega));have K1:=A0 k1;have O1:=A0 o1;clear k1 o1 HC;go_wp2_with fail
  refine HC2.out.mono ?_;rintro e w2 ⟨rfl,k2,o2⟩;have hc0:Chg No w w2:=K1.out.trans k2 (fun k hk x=>by have:=(A9 O1.out k x.symm).1;omega);rw[<-hgs]at o2;have hr0:=A0 (C9 o2 (Nat.zero_le _));clear K1 O1 HC2 k2 o2 hgs hnn hge;generalize fs.length=n at *;subst hol;go_wp2_with fail
  have HS1:=A0 (FS1.out w2 hc0 w2 w2.heap.size bs ⟨#[123]⟩ rfl (Wkp.refl _ _ _) (FWR.out w2 hc0) (by simp[ByteArray.size];omega));refine HS1.out.mono ?_;rintro e u1 ⟨rfl,h1,h2⟩;have K1:=A0 h1;have R1:=A0 h2;clear h1 h2 HS1;go_wp2_with fail
  go_loopw [19] (fun v wr=>∃j:Nat,j<=gs.length/\v=iV (j:Int)/\Hid (Wrt wr B wb tv true (bs++[123]++U5 true T (gs.take j)))/\Hid (Wkp B wb w2 wr)) (fun v _=>gs.length - (intOf v).toNat)
  case atStart=>exact⟨0,Nat.zero_le _,rfl,by simpa[U5]using R1,K1.out⟩
  case round=>
   obtain⟨j,hj,rfl,WR,CR⟩:=hrel;have hBr:B<=wr.heap.size:=Nat.le_trans hBw (Nat.le_trans hc0.size CR.out.size);by_cases hjl:j<gs.length
   · have hl:=K8b (bn:=true) (T:=T) gs hjl;have HT:=A0 (J3a (bn:=true) (T:=T) gs hjl);obtain⟨g,hga,hg,hg1,hg2,x0,x1⟩:=Z6a (FR.out w2 hc0 _ _ hr0.out wr CR.out) hjl;subst hga;unfold maxLen at hg2;have hzm:=hmem gs[j] (List.getElem_mem hjl);unfold R6b at hl HT;generalize gs[j]=p at *;obtain⟨nm,zz⟩:=p;obtain⟨z,rfl⟩:∃z:Nat,zz=(z:Int):=⟨zz.toNat,by have:=hzm.1;simp only at this;omega⟩;have hzi:z<i:=by have:=hzm.2;simp only at this;omega
     simp only[Int.toNat_natCast,List.length_append,List.length_cons,List.length_nil]at hl HT x0 x1;clear hzm;have ha1:Chg No wr (wr.alloc (.cells #[.string ⟨nm.toArray⟩,iV (z:Int)] 126)):=Chg.alloc _ _ _;have HW3:=A0 (C3d (B:=B) (wb:=wb) (tv:=tv) (bn:=true) (a0:=wr.alloc (.cells #[.string ⟨nm.toArray⟩,iV (z:Int)] 126)) (Nat.le_trans hBr ha1.size) _ (wr.heap.size+1) _ ⟨#[32]⟩ ⟨nm.toArray⟩ ⟨#[58,32]⟩ (by simp) (Wkp.refl _ _ _) (WR.out.still ha1) (by simp[ByteArray.size];omega));have WA:=A0 (WR.out.still ha1);have CR2:=A0 (CR.out.trans (Wkp.still ha1));have hwr:wr.heap.size<(wr.alloc (.cells #[.string ⟨nm.toArray⟩,iV (z:Int)] 126)).heap.size:=by simp
     clear CR WR ha1;go_wp2_with fail
     refine HW3.out.mono ?_;rintro e w3 ⟨rfl,h3,h4⟩;have hq:=h3.other WA.out (heap_alloc_new wr _) (by decide) (by decide);have d1:w3.cell? (aD wr.heap.size 1)=some (iV (z:Int)):=cr hq rfl;have d2:wr.heap.size<w3.heap.size:=Nat.lt_of_lt_of_le hwr h3.size;have HWT:=A0 (FW.out w2 hc0 w3 z _ (CR2.out.trans h3) h4 hzi (by simp only[List.length_append,List.length_cons,List.length_nil];omega));clear h3 h4 hq WA CR2 HW3 hwr;go_wp2_with fail
     refine HWT.out.mono ?_;rintro e w4 ⟨rfl,h5,h6⟩;have HS4:=A0 (FS1.out w2 hc0 w4 w4.heap.size _ ⟨#[59]⟩ rfl h5 h6 (by simp[ByteArray.size];omega));clear h5 h6 HWT;go_wp2_with fail
     refine HS4.out.mono ?_;rintro e w5 ⟨rfl,h7,h8⟩;have K7:=A0 h7;have R8:=A0 h8;clear h7 h8 HS4;go_wp2;go_roundw
     case rel=>exact⟨j+1,by omega,by go_num,by rw[HT.out];simpa using R8,K7.out⟩
     case measure=>simp[intOf];omega
   · have hje:j=gs.length:=by omega
     subst hje;rw[List.take_length]at WR;have hcw:Wkp B wb w w2:=Wkp.still hc0;by_cases hz:gs.length=0
     · have HS5:=A0 (FS1.out w2 hc0 wr wr.heap.size _ ⟨#[125]⟩ rfl CR.out WR.out (by simp[ByteArray.size];omega));have HE2:=HE.out;rw[if_pos hz]at HE2;have HE3:=A0 HE2;clear HE2 HE;clear CR WR;have hz0:(gs.length:Int)=0:=by omega
       simp only[hz0]at *;go_wp2_with fail
       refine HS5.out.mono ?_;rintro e w6 ⟨rfl,h9,h10⟩;go_wp2;go_end0;exact⟨rfl,hcw.trans h9,by rw[HE3.out];simpa using h10⟩
     · have hpos:(0:Int)<(gs.length:Int):=by omega
       have hlen4:=hlen3 hz;have HE2:=HE.out;rw[if_neg hz]at HE2;have HE3:=A0 HE2;clear HE2 HE;have HS5:=A0 (FS1.out w2 hc0 wr wr.heap.size _ ⟨#[32]⟩ rfl CR.out WR.out (by simp[ByteArray.size];omega));clear CR WR;go_wp2_with fail
       refine HS5.out.mono ?_;rintro e w6 ⟨rfl,h9,h10⟩;have HS6:=A0 (FS1.out w2 hc0 w6 w6.heap.size _ ⟨#[125]⟩ rfl h9 h10 (by simp[ByteArray.size];omega));clear h9 h10 HS5;go_wp2_with fail
       refine HS6.out.mono ?_;rintro e w7 ⟨rfl,h11,h12⟩;go_wp2;go_end0;exact⟨rfl,hcw.trans h11,by rw[HE3.out];simpa using h12⟩
theorem R4a (hls:∀i (hi:i<T.length),T[i].list.length<=100000000/\T[i].fields.length<=2001):∀m,D7c B wb tv bn T m
 |0=>fun i w bs hm=>by omega
 |m+1=>fun i w bs him hi h hBw hlen=>Y5b (R4a hls m) i (by omega) (P8b (R4a hls m) i (by omega) hi (hls i hi).2) hi w bs h hBw hlen (hls i hi).1
end
open Go.RowKit Go.Maps
theorem M2b {w:World} {B wb:Nat} {tv:Value} {bn:Bool} {l:List UInt8} (h:Wrt w B wb tv bn l) (h0:l≠[]):
 Calls Tryz.prog 47 #[pV wb] w fun e w'=>e= .returned (.string ⟨l.toArray⟩)/\Below B w w':=by
 obtain⟨hB,p,v,hbk,_,hown⟩:=h;have hl0:l.length≠0:=by simpa using h0
 obtain⟨g,cap,cur,rfl,hbg,hg,hnc,hcm,hcs,htake⟩:∃g cap cur,v= .slice (some (aD g 0)) l.length cap/\B<=g/\w.heap[g]? =some (.cells cur 5 (0,0))/\l.length<=cap/\cap<=maxLen/\cur.size=cap * 1/\cur.toList.take (l.length * 1)=Lib.byteCells l:=by
  rcases hown.2 with ⟨_,hz⟩|⟨g,cap,cur,hv,r⟩
  · exact absurd hz hl0
  · exact⟨g,cap,cur,hv,r⟩
 have c1:w.drew.cell? (aD wb 1)=some (.slice (some (aD g 0)) l.length cap):=by
  have:w.drew.heap[wb]? =some (.cells #[p,.slice (some (aD g 0)) l.length cap,tv,.bool bn] 84 (0,0)):=hbk;rw[cell_of_row w.drew wb 1 _ _ _ this];rfl
 have hSD:(Builtin.unsafeSliceData_ #[80] 135 #[.slice (some (aD g 0)) l.length cap]).run Tryz.prog w.drew= .ok (pV g) w.drew:=
  Lib.run_unsafeSliceData_row _ _ _ _ _ _ (by omega)
 have hUS:(Builtin.unsafeString_ #[135,3] 9 #[pV g,iV l.length]).run Tryz.prog w.drew= .ok (.string ⟨l.toArray⟩) (w.drew.freeze (aD g 0) l.length):=by
  refine Lib.run_unsafeString_row w.drew 135 3 9 5 Tryz.underlying135 Tryz.cellsByte g cur.size (by have hg':w.drew.heap[g]? =some (.cells cur 5 (0,0)):=hg;simp[World.shape?,hg']) l h0 (by omega) (by unfold maxLen at hcm;omega) ?_;intro j x hx;have:=hown.cells (g:=g) rfl j (.int .u8 x.toNat) (by simp[Lib.byteCells,hx]);exact this
 clear hown hbk htake hg hcs;go_enter Tryz.func47,Tryz.ntmps47;go_wp2;go_region
 all_goals (go_wp2;go_ret;exact⟨rfl,Lib.below_freeze (Below.drew (Below.refl B w)) (p:=(aD g 0)) hbg _⟩)
open Go.RowKit Go.Maps
def Few (T:List M.Ty):Prop:=∀i (hi:i<T.length),T[i].list.length<=100000000/\T[i].fields.length<=2001
theorem B7d {bn:Bool} {T:List M.Ty} {i:Nat} (hT:M.TsOk T) (hi:i<T.length):wtx bn T i≠[]:=by
 unfold wtx wtr;split
 · exact M.F2c _ (M.C0d _ (M.Y3a hT i hi))
 · exact M.F2c _ (M.Y3a hT i hi)
theorem T8b {bn:Bool} {T:List M.Ty} {i:Nat}:(wtx bn T i).length<=M.wg (M.tr T i):=by
 unfold wtx wtr;split
 · exact Nat.le_trans (M.J8b _) (M.B9d _)
 · exact M.J8b _
section
variable {lb mb N:Nat} {T:List M.Ty} {D:Dt}
theorem W2b (w:World) (h:Shp w lb mb N T D) (hf:Few T) (bn:Bool) (wb:Nat) (hwb:w.heap[wb]? =some (.cells #[.pointer none,sN,sN,.bool bn] 84 (0,0))) (i:Nat) (hi:i<T.length) (hl:M.wg (M.tr T i)<=1000000000):
 Calls Tryz.prog 24 #[pV lb,pV wb,iV (i:Int)] w fun e w'=>e= .returned (.string ⟨(wtx bn T i).toArray⟩)/\Below wb w w':=by
 have hT:=h.ok;obtain⟨_,_,yv,yx,hb,ho,hr⟩:=h;obtain⟨ad,c,rfl⟩:=B6 ho;have hlt:=(ltG hwb);have hlb:=(ltG hb);have c0:w.cell? (aD lb 0)=some (.slice ad T.length c):=cr hb rfl;have c2:w.cell? (aD wb 2)=some (sN):=cr hwb rfl;have f2:w.frozen? (aD wb 2)=false:=frozen_of_row w wb 2 _ _ hwb;have hc1:=Chg.set w (aD wb 2) (.slice ad T.length c);have ne:∀g cur e,w.heap[g]? =some (.cells cur e (0,0))->e≠84->¬g=wb:=by
  rintro g cur e hg he rfl;rw[hwb]at hg;simp only[Option.some.injEq,Obj.cells.injEq]at hg;exact he hg.2.1.symm
 have hw1:Wrt (w.setCell (aD wb 2) (.slice ad T.length c)) wb wb (.slice ad T.length c) bn []:=⟨Nat.le_refl _,.pointer none,sN,by rw[heap_setCell_same w wb 2 _ _ _ hwb];rfl,.inl rfl,World.ownsRow_nil _ _ _ _⟩;have hs1:Wsp (w.setCell (aD wb 2) (.slice ad T.length c)) wb wb (.slice ad T.length c) bn T []:=by
  refine⟨hw1,hT,yx,A8 (C9 ho (Nat.zero_le _)) hc1 fun g hg x=> ?_,hr.imp (TyV.chg hc1 (fun g _ _ hx hh=> ?_) (fun _ _ _=>trivial))⟩
  · obtain⟨_,cur,hh⟩:=A9 ho g hg;exact ne g cur _ hh (by decide) x
  · obtain⟨cur,e,hh,he⟩:=hh;exact ne g cur _ hh (by rcases he with rfl|rfl<;>decide) hx
 have hlen:=T8b (bn:=bn) (T:=T) (i:=i);have HT:=A0 (R4a (B:=wb) (wb:=wb) (tv:=(.slice ad T.length c)) (bn:=bn) hf (i+1) i _ [] (Nat.le_refl _) hi hs1 (by simp;omega) (by simp;omega));have HN:=A0 (B7d (bn:=bn) hT hi);have HC1:=A0 (hc1.toBelow (B:=wb) (fun k _ x=>by have x':k=wb:=x;omega) (by omega));clear hs1 hw1 hc1 ho hr hb hwb ne;go_enter Tryz.func24,Tryz.ntmps24;go_wp2_with fail
 refine HT.out.mono ?_;rintro e w2 ⟨rfl,h2,h3⟩;have hw2:wb<w2.heap.size:=h3.tys.2.2;rw[List.nil_append]at h3;have HS:=A0 (M2b h3 HN.out);have HC2:=A0 (HC1.out.trans (h2.below (by simp;omega)));clear h2 h3 HT;go_wp2_with fail
 refine HS.out.mono ?_;rintro e w3 ⟨rfl,h4⟩;have HC3:=A0 (HC2.out.trans h4);clear h4;go_wp2;go_ret;exact⟨rfl,HC3.out⟩
theorem W0c (w:World) (h:Shp w lb mb N T D) (hf:Few T) (i:Nat) (hi:i<T.length) (hl:M.wg (M.tr T i)<=1000000000):
 Calls Tryz.prog 126 #[pV lb,iV (i:Int)] w fun e w'=>e= .returned (.string ⟨(wtx true T i).toArray⟩)/\Chg No w w':=by
 have HT:=A0 (W2b _ (h.alloc (.cells #[.pointer none,sN,sN,.bool true] 84)) hf true w.heap.size (heap_alloc_new w _) i hi hl);clear h;go_enter Tryz.func126,Tryz.ntmps126;go_wp2_with fail
 refine HT.out.mono ?_;rintro e w2 ⟨rfl,h2⟩;have HC:=A0 (((Chg.alloc (fun k=>w.heap.size<=k) w _).trans (Chg.below h2) (fun _ _ x=>x)).mono (S':=fun _=>False) (fun k hk x=>by omega));clear h2;go_wp2;go_ret;exact⟨rfl,HC.out⟩
theorem B0c (w:World) (h:Shp w lb mb N T D) (hf:Few T) (i:Nat) (hi:i<T.length) (hl:M.wg (M.tr T i)<=1000000000):
 Calls Tryz.prog 11 #[pV lb,iV (i:Int)] w fun e w'=>e= .returned (.string ⟨(wtx false T i).toArray⟩)/\Chg No w w':=by
 have HT:=A0 (W2b _ (h.alloc (.cells #[.pointer none,sN,sN,.bool false] 84)) hf false w.heap.size (heap_alloc_new w _) i hi hl);clear h;go_enter Tryz.func11,Tryz.ntmps11;go_wp2_with fail
 refine HT.out.mono ?_;rintro e w2 ⟨rfl,h2⟩;have HC:=A0 (((Chg.alloc (fun k=>w.heap.size<=k) w _).trans (Chg.below h2) (fun _ _ x=>x)).mono (S':=fun _=>False) (fun k hk x=>by omega));clear h2;go_wp2;go_ret;exact⟨rfl,HC.out⟩
end
end Go.Proofs.YtgdnpemiiageaaaGreatDoor
