/-
  A part of the proof.
-/
import Derived.Test.YtfhhipefecekkaaGreatDoorFitB
import Derived.Test.YtfhhipefecekkaaGreatDoorSrt
import Derived.Shelf.SlSortCmp.NoneTotal
import Derived.Lib.SliceRun
set_option maxHeartbeats 16000000
set_option maxRecDepth 100000
namespace Go.Proofs.YtfhhipefecekkaaGreatDoor
open Go.Proofs.Tryz
open Go.RowKit Go.Maps
def Wkp(B wb:Nat)(w w':World):Prop:=Chg (λk=>B<=k/\(k=wb\/∃cs fz,w.heap[k]? =some (.cells cs 5 fz))) w w'
theorem Wkp.refl(B wb:Nat)(w:World):Wkp B wb w w:=Chg.refl _ _
theorem Wkp.trans{B wb:Nat}{a b c:World}(h:Wkp B wb a b)(k:Wkp B wb b c):Wkp B wb a c:=by
 refine⟨k.os.trans h.os,k.tape.trans h.tape,k.output.trans h.output,kQ h.size k.size,λi hi hn=> ?_⟩;have h1:=h.block i hi hn;refine(k.block i (yQ hi h.size) (λx=>hn ⟨x.1, ?_⟩)).trans h1;rcases x.2 with hx|⟨cs,fz,hh⟩
 · exact .inl hx
 · exact .inr ⟨cs,fz,by rw[<-h1];exact hh⟩
theorem Wkp.still{B wb:Nat}{w w':World}(h:Chg No w w'):Wkp B wb w w':=h.mono λ_ _ x=>x.elim
theorem Wkp.below{B wb:Nat}{w w':World}(h:Wkp B wb w w')(hB:B<=w.heap.size):Below B w w':=Chg.toBelow h (λ_ _ x=>x.1) hB
theorem Wkp.set{B wb:Nat}(hB:B<=wb)(w:World)(o:Nat)(v:Value):Wkp B wb w (w.setCell (aD wb o) v):=(Chg.set w _ v).mono λk _ x=>by
 have x':k=wb:=x;exact⟨by omega,.inl x'⟩
theorem Wkp.row{B wb:Nat}{w w':World}(hc:Wkp B wb w w'){base:Nat}{e:TypeId}{size:Nat}{v:Value}{n:Nat}{xs:List Value}(h:w.ownsRow base e size v n xs)(he:e≠5)(hw:v.ownBlock≠some wb):w'.ownsRow base e size v n xs:=by
 refine A3 h hc λg hg hx=> ?_;rcases hx.2 with rfl|⟨cs,fz,hh⟩
 · exact hw hg
 · obtain⟨_,cur,hh2⟩:=A9 h g hg;rw[hh]at hh2;simp only[zQ,xW]at hh2;exact he hh2.2.1.symm
structure Wrt(w:World)(B wb:Nat)(tv:Value)(bn:Bool)(bs:List UInt8):Prop where
 low:B<=wb
 blk:∃p v,w.heap[wb]? =some (.cells #[p,v,tv,.bool bn] 183 (0,0))/\(p= .pointer none\/p=pV wb)/\w.ownsRow B 5 1 v bs.length (Lib.byteCells bs)
theorem Wrt.still{w w':World}{B wb:Nat}{tv:Value}{bn:Bool}{bs:List UInt8}(h:Wrt w B wb tv bn bs)(hc:Chg No w w'):Wrt w' B wb tv bn bs:=by
 obtain⟨hB,p,v,hb,hp,ho⟩:=h;exact⟨hB,p,v,by rw[hc.block wb (ltG hb) (λx=>x)];exact hb,hp,A3 ho hc (λ_ _ x=>x)⟩
theorem Wrt.tys{w:World}{B wb:Nat}{tv:Value}{bn:Bool}{bs:List UInt8}(h:Wrt w B wb tv bn bs):w.cell? (aD wb 2)=some tv/\w.cell? (aD wb 3)=some (.bool bn)/\wb<w.heap.size:=by
 obtain⟨hB,p,v,hb,hp,ho⟩:=h;exact⟨cr hb rfl,cr hb rfl,(ltG hb)⟩
theorem Tryz.sizeBld:(prog.info? 181).map (·.size)=some 2:=by kernel_rfl
theorem Tryz.liesBld:liesAt prog prog.depth 183 (4 / prog.cellsOf 183) 0 181 1=true:=by kernel_rfl
theorem Tryz.infoByte:(prog.info? 5).map (λi=>(i.zero,i.size,i.bytes))=some (some (.int .u8 0),1,1):=by kernel_rfl
theorem Tryz.cellsByte:prog.cellsOf 5=1:=by kernel_rfl
theorem V0a(b:Nat)(w:World)(h0:w.cell? (aD b 0)=some (pV b)):
 Calls prog 209 #[pV b] w λe w'=>e=rT/\w'=w:=by
 obtain⟨j,hj,_⟩:=Option.map_eq_some_iff.1 Tryz.sizeBld;go_enter func209,ntmps209;go_wp2;rw[Lib.run_neq_ptr_same w _ underlying178 hj];go_wp2;go_end0;exact⟨rfl,rfl⟩
theorem P8a(b:Nat)(w:World)(h0:w.cell? (aD b 0)=some (.pointer none))(hsh:w.shape? b=some (183,4))(hfz:w.frozen? (aD b 0)=false):
 Calls prog 209 #[pV b] w λe w'=>e=rT/\w'=w.setCell (aD b 0) (pV b):=by
 obtain⟨j,hj,hjs⟩:=Option.map_eq_some_iff.1 Tryz.sizeBld;go_enter func209,ntmps209;go_wp2;rw[Lib.run_to_unsafe w (aD b 0) underlying178 underlying216 hj (by rw[hjs];decide) hsh (Nat.zero_lt_succ 3)];simp only[Result.andThen];rw[Oper.upon_value];go_wp2;rw[run_callFunc_extern func224 (by kernel_rfl) (by kernel_rfl) (by kernel_rfl) (e:=Extern.AbiNoEscape.same) (by kernel_rfl)];rw[Lib.run_noEscape];simp only[Result.andThen];rw[Oper.upon_value];go_wp2;rw[Lib.run_from_unsafe w (aD b 0) underlying216 underlying178 hj hsh Tryz.liesBld];simp only[Result.andThen];rw[Oper.upon_value];go_wp2;go_end0;exact⟨rfl,rfl⟩
theorem X3a{w:World}{B wb:Nat}{tv:Value}{bn:Bool}{bs:List UInt8}(h:Wrt w B wb tv bn bs):
 Calls prog 209 #[pV wb] w λe w'=>e=rT/\Wkp B wb w w'/\w'.heap.size=w.heap.size/\
  ∃v,w'.heap[wb]? =some (.cells #[pV wb,v,tv,.bool bn] 183 (0,0))/\w'.ownsRow B 5 1 v bs.length (Lib.byteCells bs):=by
 obtain⟨hB,p,v,hb,hp,ho⟩:=h;have hlt:=(ltG hb);rcases hp with rfl|rfl
 · refine(P8a wb w (cr hb rfl) (by simp[World.shape?,hb]) (frozen_of_row w wb 0 _ _ hb)).mono ?_;rintro e w' ⟨rfl,rfl⟩;refine⟨rfl,Wkp.set hB w 0 _,by simp,v,by rw[heap_setCell_same w wb 0 _ _ _ hb];rfl,A3 ho (Chg.set w (aD wb 0) _) λk hk hx=> ?_⟩;have hx':k=wb:=hx;subst hx';obtain⟨_,cur,hh⟩:=A9 ho k hk;rw[hb]at hh;simp only[zQ,xW]at hh;exact absurd hh.2.1 (by decide)
 · refine(V0a wb w (cr hb rfl)).mono ?_;rintro e w' ⟨rfl,rfl⟩;exact⟨rfl,Wkp.refl _ _ _,rfl,v,hb,ho⟩
theorem D6a{w:World}{B wb:Nat}{tv:Value}{bn:Bool}{bs:List UInt8}(h:Wrt w B wb tv bn bs)(s:ByteArray)(hlen:bs.length+s.size<=100000000000000)(hBw:B<=w.heap.size):
 Calls prog 200 #[pV wb,.string s] w λe w'=>e= .returned (.tuple #[iV s.size,.nilIface])/\Wkp B wb w w'/\Wrt w' B wb tv bn (bs++s.data.toList):=by
 obtain⟨i0,hi,hz0,hz1,hz2⟩:=info_parts Tryz.infoByte;have hB:=h.low;have HC:=A0 (X3a h);clear h;go_enter func200,ntmps200;go_wp2_with fail
 refine HC.out.mono ?_;rintro e w1 ⟨rfl,hk1,hs1,v,hbk,hown⟩;have hlt:=(ltG hbk);have c1:w1.cell? (aD wb 1)=some v:=cr hbk rfl;have HK1:=A0 hk1;have HBK:=A0 hbk;have HO:=A0 hown;have HS1:=A0 hs1;clear hk1 hbk hown hs1;go_wp2_with (at_builtin;refine Lib.wpList_append_own_string _ rfl _ _ 179 9 rfl B 5 i0 underlying179 underlying9 hi hz0 hz1 hz2 _ _ _ rfl HO.out s rfl ?c3 ?c4 ?c5 ?_)
 case c3=>unfold maxLen;omega
 case c4=>omega
 case c5=>rw[HS1.out];exact hBw
 intro v' w2 hown' hgrow _;have hne:v.ownBlock≠some wb:=by
  intro hx;obtain⟨_,cur,hh⟩:=A9 HO.out wb hx;rw[HBK.out]at hh;simp only[zQ,xW]at hh;exact absurd hh.2.1 (by decide)
 have hb2:w2.heap[wb]? =some (.cells #[pV wb,v,tv,.bool bn] 183 (0,0)):=by
  rw[hgrow.block wb hlt (λe=>hne e.symm)];exact HBK.out
 have d1:w2.cell? (aD wb 1)=some v:=cr hb2 rfl;have f1:w2.frozen? (aD wb 1)=false:=frozen_of_row w2 wb 1 _ _ hb2;obtain⟨ao,n',cap,rfl⟩:∃ao n' cap,v'= .slice ao n' cap:=by
  rcases hown'.2 with ⟨hv,_⟩|⟨g,cap,cur,hv,_⟩
  · exact⟨_,_,_,hv⟩
  · exact⟨_,_,_,hv⟩
 have HB2:=A0 hb2;have HO2:=A0 hown';have HG:=A0 hgrow;clear hb2 hown' hgrow;go_wp2;go_ret2
 refine⟨rfl, ?_,hB,_,.slice ao n' cap,by rw[heap_setCell_same w2 wb 1 _ _ _ HB2.out];rfl,.inr rfl, ?_⟩
 · refine(HK1.out.trans ?_).trans (Wkp.set hB w2 1 _);refine(Chg.grown HG.out).mono λk hk hx=> ?_;obtain⟨hlow,cur,hh⟩:=A9 HO.out k hx.symm;exact⟨hlow,.inr ⟨cur,_,hh⟩⟩
 · have:=A3 HO2.out (Chg.set w2 (aD wb 1) (.slice ao n' cap)) λk hk hx=>by
    have hx':k=wb:=hx;subst hx';obtain⟨_,cur,hh⟩:=A9 HO2.out k hk;rw[HB2.out]at hh;simp only[zQ,xW]at hh;exact absurd hh.2.1 (by decide)
   rw[Lib.byteCells_append,<-Lib.strCells_eq];simpa[bl]using this
def C7a(ws:List ByteArray):List UInt8:=ws.flatMap (λs=>s.data.toList)
theorem Y8a(ws:List ByteArray){j:Nat}(hj:j<ws.length):C7a (ws.take (j+1))=C7a (ws.take j)++ws[j].data.toList:=by
 unfold C7a;rw[nQ hj,List.flatMap_append];simp
theorem V2c(ws:List ByteArray){j:Nat}(hj:j<ws.length):(C7a (ws.take j)).length+ws[j].size<=(C7a ws).length:=by
 have h1:=Y8a ws hj;have h2:C7a ws=C7a (ws.take (j+1))++C7a (ws.drop (j+1)):=by
  unfold C7a;rw[<-List.flatMap_append,List.take_append_drop]
 rw[h2,h1];have:ws[j].data.toList.length=ws[j].size:=bl _;simp only[qQ];omega
theorem B9b{w:World}{B wb:Nat}{tv:Value}{bn:Bool}{bs:List UInt8}(h:Wrt w B wb tv bn bs)(ws:List ByteArray)(g:Nat)(fz:Nat×Nat)(hg:w.heap[g]? =some (.cells (ws.map Value.string).toArray 9 fz))(hn:ws.length<=1000)(hlen:bs.length+(C7a ws).length<=100000000000000)(hBw:B<=w.heap.size):
 Calls prog 187 #[pV wb,.slice (some (aD g 0)) ws.length ws.length] w λe w'=>e=rT/\Wkp B wb w w'/\Wrt w' B wb tv bn (bs++C7a ws):=by
 have hlg:=(ltG hg);have hgw:g≠wb:=by
  intro hx;subst hx;obtain⟨p,v,hb,_⟩:=h.blk;rw[hg]at hb;simp only[zQ,xW]at hb;exact absurd hb.2.1 (by decide)
 have HG:Hid (∀wr,Wkp B wb w wr->wr.heap[g]? =some (.cells (ws.map Value.string).toArray 9 fz)):=by
  intro wr hc;rw[hc.block g hlg (λx=> ?_)]
  · exact hg
  · rcases x.2 with hx|⟨cs,f2,hx⟩
    · exact hgw hx
    · rw[hg]at hx;simp only[zQ,xW]at hx;exact absurd hx.2.1 (by decide)
 have H0:=A0 h;clear h hg;go_enter func187,ntmps187;go_wp2_with fail
 go_loopw [8] (λv wr=>∃(j:Nat),j<=ws.length/\v=iV (j:Int)/\Hid (Wrt wr B wb tv bn (bs++C7a (ws.take j)))/\Hid (Wkp B wb w wr)) (λv _=>ws.length - (intOf v).toNat)
 case atStart=>exact⟨0,wQ _,rfl,by simpa[C7a]using H0,Wkp.refl _ _ _⟩
 case round=>
  obtain⟨j,hj,rfl,WR,CR⟩:=hrel;by_cases hjl:j<ws.length
  · have cg:wr.cell? (aD g j)=some (.string ws[j]):=by
     rw[cell_of_row wr g j _ _ _ (HG.out wr CR.out)];simp[hjl]
    have hlgr:g<wr.heap.size:=yQ hlg CR.out.size;have hl:=V2c ws hjl;have hwl:wb<wr.heap.size:=WR.out.tys.2.2;have HT:=A0 (Y8a ws hjl);have HW:=A0 (D6a WR.out ws[j] (by simp only[qQ];omega) (kQ hBw CR.out.size));have CR2:=A0 CR.out;clear CR WR;go_wp2_with fail
    refine HW.out.mono ?_;rintro e w1 ⟨rfl,hk,hw⟩;have HK:=A0 hk;have HWr:=A0 hw;clear hk hw;go_wp2;go_roundw
    case rel=>exact⟨j+1,by omega,by go_num,by rw[HT.out,<-List.append_assoc];exact HWr.out,CR2.out.trans HK.out⟩
    case measure=>simp[intOf];omega
  · have hje:j=ws.length:=by omega
    subst hje;rw[List.take_length]at *;go_wp2_with fail
    go_end0;exact⟨rfl,CR.out,WR.out⟩
structure Wsp(w:World)(B wb:Nat)(tv:Value)(bn:Bool)(T:List M.Ty)(bs:List UInt8):Prop where
 wrt:Wrt w B wb tv bn bs
 ok:M.TsOk T
 row:∃yx,w.ownsRow 0 66 4 tv T.length yx/\Rws (TyV w (λ_=>True)) T yx
theorem Wsp.kept{w w':World}{B wb:Nat}{tv:Value}{bn:Bool}{T:List M.Ty}{bs bs':List UInt8}(h:Wsp w B wb tv bn T bs)(hc:Wkp B wb w w')(h':Wrt w' B wb tv bn bs'):Wsp w' B wb tv bn T bs':=by
 obtain⟨hw,hT,yx,ho,hr⟩:=h;obtain⟨p,v,hb,_⟩:=hw.blk;have key:∀k cur e,w.heap[k]? =some (.cells cur e (0,0))->(e=66\/e=121\/e=3)->¬(B<=k/\(k=wb\/∃cs fz,w.heap[k]? =some (.cells cs 5 fz))):=by
  rintro k cur e hk he ⟨_,hx|⟨cs,fz,hx⟩⟩
  · subst hx;rw[hb]at hk;simp only[zQ,xW]at hk;rcases he with rfl|rfl|rfl<;>exact absurd hk.2.1 (by decide)
  · rw[hk]at hx;simp only[zQ,xW]at hx;rcases he with rfl|rfl|rfl<;>exact absurd hx.2.1 (by decide)
 refine⟨h',hT,yx,A3 ho hc λg hg x=> ?_,hr.imp (TyV.chg hc (λg _ _ hx hh=> ?_) (λ_ _ _=>trivial))⟩
 · obtain⟨_,cur,hh⟩:=A9 ho g hg;exact key g cur _ hh (.inl rfl) x
 · obtain⟨cur,e,hh,he⟩:=hh;rcases he with rfl|rfl
   · exact key g cur _ hh (.inr (.inl rfl)) hx
   · exact key g cur _ hh (.inr (.inr rfl)) hx
theorem Wsp.still{w w':World}{B wb:Nat}{tv:Value}{bn:Bool}{T:List M.Ty}{bs:List UInt8}(h:Wsp w B wb tv bn T bs)(hc:Chg No w w'):Wsp w' B wb tv bn T bs:=h.kept (Wkp.still hc) (h.wrt.still hc)
theorem Wsp.cell{w:World}{B wb:Nat}{tv:Value}{bn:Bool}{T:List M.Ty}{bs:List UInt8}(h:Wsp w B wb tv bn T bs):∃ad c,tv= .slice ad T.length c/\w.cell? (aD wb 2)=some (.slice ad T.length c)/\w.cell? (aD wb 3)=some (.bool bn)/\wb<w.heap.size/\
 ∀i (hi:i<T.length),∃g fa fc la lc,ad=some (aD g 0)/\g<w.heap.size/\T.length<=c/\c<=maxLen/\w.cell? (aD g (i * 4))=some (iV T[i].kind)/\w.cell? (aD g (i * 4+1))=some (.slice fa T[i].fields.length fc)/\w.cell? (aD g (i * 4+2))=some (.slice la T[i].list.length lc)/\
  w.cell? (aD g (i * 4+3))=some (iV T[i].of')/\w.ownsRow 0 121 2 (.slice fa T[i].fields.length fc) T[i].fields.length (F5 T[i].fields)/\w.ownsRow 0 3 1 (.slice la T[i].list.length lc) T[i].list.length (B8 T[i].list):=by
 obtain⟨hw,hT,yx,ho,hr⟩:=h;obtain⟨ad,c,rfl⟩:=B7 ho;obtain⟨h1,h2,h3⟩:=hw.tys;exact⟨ad,c,rfl,h1,h2,h3,λi hi=>Y2a ho hr hi⟩
theorem F1c(k:Int)(h1:1<=k)(h2:k<=6)(w:World):Calls prog 191 #[iV k] w λe w'=>e= .returned (.string ⟨(M.P4a k).toArray⟩)/\w'=w:=by
 have hk:k=1\/k=2\/k=3\/k=4\/k=5\/k=6:=by omega
 rcases hk with rfl|rfl|rfl|rfl|rfl|rfl<;>
 · go_enter func191,ntmps191;go_wp2;go_ret;exact⟨rfl,rfl⟩
def brk(k:Int)(last:Bool):Bool:=decide (k=10)||(decide (k=9) && !last)
theorem B5c{w:World}{B wb:Nat}{tv:Value}{bn:Bool}{T:List M.Ty}{bs:List UInt8}(h:Wsp w B wb tv bn T bs)(i:Nat)(hi:i<T.length)(last:Bool):
 Calls prog 202 #[pV wb,iV (i:Int),.bool last] w λe w'=>e= .returned (.bool (brk T[i].kind last))/\w'=w:=by
 obtain⟨ad,c,rfl,c2,c3,hlt,hcell⟩:=h.cell;obtain⟨g,fa,fc,la,lc,rfl,hg,hc1,hc2,x0,x1,x2,x3,-,-⟩:=hcell i hi;unfold maxLen at hc2;clear hcell h;generalize T[i].kind=k at *;by_cases h10:k=10
 · subst h10;go_enter func202,ntmps202;go_wp2;go_ret;exact⟨rfl,rfl⟩
 · by_cases h9:k=9
   · subst h9;cases last<;>
     · go_enter func202,ntmps202;go_wp2;go_ret;exact⟨rfl,rfl⟩
   · have e:brk k last=false:=by simp[brk,h10,h9]
     rw[e];go_enter func202,ntmps202;go_wp2;go_ret;refine⟨?_,rfl⟩;have e10:(k==10)=false:=by simp[h10]
     show Ending.returned (Value.bool (k==10))=_;rw[e10]
def wtr(bn:Bool)(t:M.Tr):M.Tr:=if bn then M.srt t else t
def wtx(bn:Bool)(T:List M.Ty)(i:Nat):List UInt8:=M.txt' (wtr bn (M.tr T i))
def S4(w:World)(B wb:Nat)(tv:Value)(bn:Bool)(bs:List UInt8)(e:Ending)(w':World):Prop:=e=rT/\Wkp B wb w w'/\Wrt w' B wb tv bn bs
def E6c(B wb:Nat)(tv:Value)(bn:Bool)(T:List M.Ty)(m:Nat):Prop:=∀(i:Nat) (w:World) (bs:List UInt8),i+1<=m->i<T.length->Wsp w B wb tv bn T bs->B<=w.heap.size->bs.length+(wtx bn T i).length<=100000000000000->
 Calls prog 181 #[pV wb,iV (i:Int)] w (S4 w B wb tv bn (bs++wtx bn T i))
theorem Wkp.other{w w':World}{B wb:Nat}{tv:Value}{bn:Bool}{bs:List UInt8}(hc:Wkp B wb w w')(hw:Wrt w B wb tv bn bs){q:Nat}{cs:Array Value}{e:TypeId}{fz:Nat×Nat}(h:w.heap[q]? =some (.cells cs e fz))(he:e≠5)(hf:e≠183):w'.heap[q]? =some (.cells cs e fz):=by
 rw[hc.block q (ltG h) (λx=> ?_)]
 · exact h
 · rcases x.2 with hx|⟨cs2,f2,hx⟩
   · subst hx;obtain⟨p,v,hb,_⟩:=hw.blk;rw[h]at hb;simp only[zQ,xW]at hb;exact hf hb.2.1
   · rw[h]at hx;simp only[zQ,xW]at hx;exact he hx.2.1
theorem Wkp.own{w w':World}{B wb:Nat}{tv:Value}{bn:Bool}{bs:List UInt8}(hc:Wkp B wb w w')(hw:Wrt w B wb tv bn bs){base size n:Nat}{e:TypeId}{v:Value}{xs:List Value}(h:w.ownsRow base e size v n xs)(he:e≠5)(hf:e≠183):w'.ownsRow base e size v n xs:=by
 refine hc.row h he λhx=> ?_;obtain⟨_,cur,hh⟩:=A9 h wb hx;obtain⟨p,v,hb,_⟩:=hw.blk;rw[hb]at hh;simp only[zQ,xW]at hh;exact hf hh.2.1.symm
section
variable{B wb:Nat}{tv:Value}{bn:Bool}{T:List M.Ty}{m:Nat}
theorem Z7b(IH:E6c B wb tv bn T m)(w:World)(bs:List UInt8)(h:Wsp w B wb tv bn T bs)(hBw:B<=w.heap.size)(k qx qt:Nat)(kd fv o:Value)(la:Option Addr)(lc:Nat)(ls:List Int)(hk:k<ls.length)(z:Nat)(hz:ls[k]=(z:Int))(hzm:z+1<=m)(hzT:z<T.length)(hlen:bs.length+(wtx bn T z).length<=100000000000000)
 (hx:w.heap[qx]? =some (.cells #[pV wb] 177 (0,0))) (ht:w.heap[qt]? =some (.cells #[kd,fv,.slice la ls.length lc,o] 66 (0,0))) (ho:w.ownsRow 0 3 1 (.slice la ls.length lc) ls.length (B8 ls)):
 Calls prog 189 #[iV (k:Int),pV qx,pV qt] w (S4 w B wb tv bn (bs++wtx bn T z)):=by
 have FW:Hid (∀a,Chg No w a->Calls prog 181 #[pV wb,iV (z:Int)] a (S4 w B wb tv bn (bs++wtx bn T z))):=by
  intro a ha;refine(IH z a bs hzm hzT (h.still ha) (kQ hBw ha.size) hlen).mono ?_;rintro e w' ⟨rfl,h1,h2⟩;exact⟨rfl,(Wkp.still ha).trans h1,h2⟩
 have c1:w.cell? (aD qx 0)=some (pV wb):=cr hx rfl;have c2:w.cell? (aD qt 2)=some (.slice la ls.length lc):=cr ht rfl;obtain⟨g,rfl,hg,hl1,hl2,y0⟩:=D5 ho hk;rw[hz]at y0;unfold maxLen at hl2;have hk1:decide ((k:Int)<0)=false:=by simp
 have hk':(k:Int)<(ls.length:Int):=by omega
 clear h hx ht ho hz hlen;generalize wtx bn T z=tx at *;go_enter func189,ntmps189;go_wp2_with fail
 go_region_with ((go_at_call 181;refine(FW.out _ (Chg.drewN _ _ 1)).mono ?_;rintro e w1 ⟨rfl,h1,h2⟩))
 all_goals
  go_wp2;go_end0;exact⟨rfl,h1,h2⟩
def wup(bn:Bool)(T:List M.Ty)(z:Nat)(b:Bool):List UInt8:=if b then [40]++wtx bn T z++[41] else wtx bn T z
theorem N2b(IH:E6c B wb tv bn T m)(w:World)(bs:List UInt8)(h:Wsp w B wb tv bn T bs)(hBw:B<=w.heap.size)(k qx ql:Nat)(la:Option Addr)(lc:Nat)(ls:List Int)(hk:k<ls.length)(z:Nat)(hz:ls[k]=(z:Int))(hzm:z+1<=m)(hzT:z<T.length)(bb:Bool)(hbb:bb=brk T[z].kind (decide (k+1=ls.length)))(hlen:bs.length+(wup bn T z bb).length<=100000000000000)
 (hx:w.heap[qx]? =some (.cells #[pV wb] 177 (0,0))) (ht:w.heap[ql]? =some (.cells #[.slice la ls.length lc] 43 (0,0))) (ho:w.ownsRow 0 3 1 (.slice la ls.length lc) ls.length (B8 ls)):
 Calls prog 201 #[iV (k:Int),pV qx,pV ql] w (S4 w B wb tv bn (bs++wup bn T z bb)):=by
 have hlq:=(ltG ht);have elast:((k:Int)==IntKind.i64.wrap ((ls.length:Int) - 1))=decide (k+1=ls.length):=by
  obtain⟨_,_,_,hl1,hl2,_⟩:=D5 ho hk;unfold maxLen at hl2;have e:IntKind.i64.wrap ((ls.length:Int) - 1)=(ls.length:Int) - 1:=by
   simp[IntKind.wrap,IntKind.bits,IntKind.signed];omega
  rw[e,Bool.eq_iff_iff];simp;omega
 have FN:Hid (∀n lst,lst=decide (k+1=ls.length)->Calls prog 202 #[pV wb,iV (z:Int),.bool lst] (w.drewN n) λe w'=>e= .returned (.bool bb)/\w'=w.drewN n):=by
  intro n lst hl;rw[hbb,hl];exact B5c (h.still (Chg.drewN _ _ _)) z hzT _
 have FW:Hid (∀a bs',Wkp B wb w a->Wrt a B wb tv bn bs'->bs'.length+(wtx bn T z).length<=100000000000000->Calls prog 181 #[pV wb,iV (z:Int)] a (S4 w B wb tv bn (bs'++wtx bn T z))):=by
  intro a bs' ha hw hl;refine(IH z a bs' hzm hzT (h.kept ha hw) (kQ hBw ha.size) hl).mono ?_;rintro e w' ⟨rfl,h1,h2⟩;exact⟨rfl,ha.trans h1,h2⟩
 have FS:Hid (∀a bs' (c:UInt8),Wkp B wb w a->Wrt a B wb tv bn bs'->bs'.length+1<=100000000000000->Calls prog 187 #[pV wb,.slice (some (aD a.heap.size 0)) 1 1] (a.alloc (.cells #[.string ⟨#[c]⟩] 9)) (S4 w B wb tv bn (bs'++[c]))):=by
  intro a bs' c ha hw hl;refine(B9b (hw.still (Chg.alloc _ _ _)) [⟨#[c]⟩] a.heap.size (0,0) (heap_alloc_new a _) (by simp) (by simp[C7a];omega) (by simp;have:=ha.size;omega)).mono ?_;rintro e w' ⟨rfl,h1,h2⟩;exact⟨rfl,(ha.trans (Wkp.still (Chg.alloc _ _ _))).trans h1,by simpa[C7a]using h2⟩
 have FC:Hid (∀a,Wkp B wb w a->a.cell? (aD qx 0)=some (pV wb)/\a.cell? (aD ql 0)=some (.slice la ls.length lc)/\qx<a.heap.size/\ql<a.heap.size/\∀g,la=some (aD g 0)->g<a.heap.size/\a.cell? (aD g k)=some (iV (z:Int))):=by
  intro a ha;have hx2:=ha.other h.wrt hx (by decide) (by decide);have ht2:=ha.other h.wrt ht (by decide) (by decide);refine⟨cr hx2 rfl,cr ht2 rfl,(ltG hx2),(ltG ht2),λg hg=> ?_⟩;obtain⟨g',e,hg1,_,_,y⟩:=D5 (ha.own h.wrt ho (by decide) (by decide)) hk;rw[hg]at e;cases e;rw[hz]at y;exact⟨hg1,y⟩
 obtain⟨g,rfl,hg,hl1,hl2,y0⟩:=D5 ho hk;have HW:=A0 h.wrt;unfold maxLen at hl2;have hk1:decide ((k:Int)<0)=false:=by simp
 have hk':(k:Int)<(ls.length:Int):=by omega
 obtain⟨c1,c2,-,-,c3⟩:=FC.out w (Wkp.refl _ _ _);have y1:=(c3 g rfl).2;clear h hx ht ho hz y0 c3 hbb;have hwu:Hid (wup bn T z bb=if bb then [40]++wtx bn T z++[41] else wtx bn T z):=rfl;generalize wup bn T z bb=tx at *;generalize wtx bn T z=tz at *;go_enter func201,ntmps201;go_wp2_with fail
 go_quiet ((go_at_call 202;refine Calls.quiet_of_same (FN.out _ _ ?_);rfl))
 cases bb
 · have e:=hwu.out;simp only[Bool.false_eq_true,if_false]at e;subst e;obtain⟨c1,c2,l1,l2,c3⟩:=FC.out _ (Wkp.still (Chg.drewN No w nq));obtain⟨hg1,y1⟩:=c3 g rfl;go_wp2_with fail
   go_region_with ((go_at_call 181;refine(FW.out _ bs ?_ ?_ hlen).mono ?_;exact Wkp.still (Chg.drewN No w _);exact HW.out.still (Chg.drewN No w _);rintro e w1 ⟨rfl,h1,h2⟩))
   all_goals
    go_wp2;go_end0;exact⟨rfl,h1,h2⟩
 · have e:=hwu.out;simp only[if_true]at e;subst e;simp only[qQ,jQ,xQ]at hlen;have hw0:Wkp B wb w (w.drewN nq):=Wkp.still (Chg.drewN No w nq);obtain⟨c1,c2,l1,l2,c3⟩:=FC.out _ hw0;have HS1:=A0 (FS.out (w.drewN nq) bs 40 hw0 (HW.out.still (Chg.drewN No w nq)) (by omega));clear c3 hw0;go_wp2_with fail
   refine HS1.out.mono ?_;rintro e w1 ⟨rfl,h1,h2⟩;obtain⟨d1,d2,m1,m2,d3⟩:=FC.out w1 h1;obtain⟨hg1,y2⟩:=d3 g rfl;have H1:=A0 h1;have H2:=A0 h2;clear h1 h2 d3 HS1;go_wp2_with fail
   go_region_with ((go_at_call 181;refine(FW.out _ (bs++[40]) (H1.out.trans (Wkp.still (Chg.drewN No w1 1))) (H2.out.still (Chg.drewN No w1 1)) (by simp;omega)).mono ?_;rintro e w2 ⟨rfl,h3,h4⟩))
   all_goals
    obtain⟨d4,-,m4,-,-⟩:=FC.out w2 h3;have HS2:=A0 (FS.out w2 _ 41 h3 h4 (by simp;omega));clear h3 h4;go_wp2_with fail
    refine HS2.out.mono ?_;rintro e w3 ⟨rfl,h5,h6⟩;go_wp2;go_end0;exact⟨rfl,h5,by simpa using h6⟩
end
def S5(sep:List UInt8)(f:Nat->List UInt8):Nat->List UInt8
 |0=>[]
 |n+1=>S5 sep f n++((if n=0 then [] else sep)++f n)
theorem V3c(sep:List UInt8)(f:Nat->List UInt8){j n:Nat}(h:j<=n):(S5 sep f j).length<=(S5 sep f n).length:=by
  induction n with
  | zero => have : j = 0 := by omega
            subst this;exact vQ _
  | succ n ih =>
    by_cases hj:j=n+1
    · subst hj;exact vQ _
    · have:=ih (by omega)
      simp only[S5,qQ]
      omega
theorem Y9a(sep:List UInt8)(f:Nat->List UInt8)(j:Nat):S5 sep f (j+1)=S5 sep f j++((if j=0 then [] else sep)++f j):=rfl
section
variable{B wb:Nat}{tv:Value}{bn:Bool}
theorem V7b(kf:Nat)(cf:∀(args:Array Value) (W:World),(callFunc kf args).run prog W= .ok (.enter kf args) W)(w:World)(bs:List UInt8)(h:Wrt w B wb tv bn bs)(hBw:B<=w.heap.size)(n:Nat)(hn:n<=1000000000)(sep:ByteArray)(c1 c2:Value)(f:Nat->List UInt8)(hlen:bs.length+(S5 sep.data.toList f n).length<=100000000000000)
 (HP:∀(a:World) (j:Nat) (bs':List UInt8),Wkp B wb w a->Wrt a B wb tv bn bs'->j<n->bs'.length+(f j).length<=100000000000000->Calls prog kf #[iV (j:Int),c1,c2] a (S4 w B wb tv bn (bs'++f j))):
 Calls prog 188 #[pV wb,iV (n:Int),.string sep,.func (.func kf) #[] #[c1,c2]] w (S4 w B wb tv bn (bs++S5 sep.data.toList f n)):=by
 have H0:=A0 h;have HPP:=A0 HP;have HSZ:Hid (sep.data.toList.length=sep.size):=bl sep;clear h HP;go_enter func188,ntmps188;go_wp2_with fail
 go_loopw [10] (λv wr=>∃(j:Nat),j<=n/\v=iV (j:Int)/\Hid (Wrt wr B wb tv bn (bs++S5 sep.data.toList f j))/\Hid (Wkp B wb w wr)) (λv _=>n - (intOf v).toNat)
 case atStart=>exact⟨0,wQ _,rfl,by simpa[S5]using H0,Wkp.refl _ _ _⟩
 case round=>
  obtain⟨j,hj,rfl,WR,CR⟩:=hrel;by_cases hjl:j<n
  · have hl:=V3c sep.data.toList f (show j+1<=n from hjl);have HE:=A0 (Y9a sep.data.toList f j);rw[Y9a]at hl;simp only[qQ]at hl;have hwl:wb<wr.heap.size:=WR.out.tys.2.2;by_cases hj0:j=0
    · have HC:=A0 (HPP.out wr j _ CR.out WR.out hjl (by simp only[qQ];omega));simp only[hj0,if_true,List.nil_append]at HE;subst hj0;have CR2:=A0 CR.out;clear CR WR hl;go_wp2_with fail
      refine HC.out.mono ?_;rintro e w1 ⟨rfl,hk,hw⟩;have HK:=A0 hk;have HWr:=A0 hw;clear hk hw;go_wp2;go_roundw
      case rel=>exact⟨0+1,by omega,by go_num,by rw[HE.out,<-List.append_assoc];exact HWr.out,HK.out⟩
      case measure=>simp[intOf];omega
    · simp only[hj0,if_false]at HE hl;have hpos:(0:Int)<(j:Int):=by omega
      have HW:=A0 (D6a WR.out sep (by have:=HSZ.out;simp only[qQ];omega) (kQ hBw CR.out.size));have CR2:=A0 CR.out;have HL:=A0 hl;clear CR WR hl;go_wp2_with fail
      refine HW.out.mono ?_;rintro e w1 ⟨rfl,hk,hw⟩;have HC:=A0 (HPP.out w1 j _ (CR2.out.trans hk) hw hjl (by have:=HL.out;simp only[qQ];omega));clear hk hw HW;go_wp2_with fail
      refine HC.out.mono ?_;rintro e w2 ⟨rfl,hk,hw⟩;have HK:=A0 hk;have HWr:=A0 hw;clear hk hw;go_wp2;go_roundw
      case rel=>exact⟨j+1,by omega,by go_num,by rw[HE.out];simpa using HWr,HK.out⟩
      case measure=>simp[intOf];omega
  · have hje:j=n:=by omega
    subst hje;go_wp2_with fail
    go_end0;exact⟨rfl,CR.out,WR.out⟩
end
section
variable{B wb:Nat}{tv:Value}{bn:Bool}{T:List M.Ty}{m:Nat}
def wus(bn:Bool)(T:List M.Ty)(ls:List Int)(j:Nat):List UInt8:=wup bn T (ls.getD j 0).toNat (brk (T.getD (ls.getD j 0).toNat M.ty0).kind (decide (j+1=ls.length)))
theorem N1b(IH:E6c B wb tv bn T m)(w:World)(bs:List UInt8)(h:Wsp w B wb tv bn T bs)(hBw:B<=w.heap.size)(la:Option Addr)(lc:Nat)(ls:List Int)(hn:ls.length<=100000000)(hin:∀x∈ls,0<=x/\x<T.length/\x+1<=m)(ho:w.ownsRow 0 3 1 (.slice la ls.length lc) ls.length (B8 ls))(hlen:bs.length+(S5 [32,124,32] (wus bn T ls) ls.length).length<=100000000000000):
 Calls prog 190 #[pV wb,.slice la ls.length lc] w (S4 w B wb tv bn (bs++S5 [32,124,32] (wus bn T ls) ls.length)):=by
 have HR:Hid (∀a,a=(w.alloc (.cells #[pV wb] 177)).alloc (.cells #[.slice la ls.length lc] 43)->Calls prog 188 #[pV wb,iV (ls.length:Int),.string ⟨#[32,124,32]⟩,.func (.func 201) #[] #[pV w.heap.size,pV (w.heap.size+1)]] a (S4 w B wb tv bn (bs++S5 [32,124,32] (wus bn T ls) ls.length))):=by
  intro a ha;have hc:Chg No w a:=by subst ha;exact(Chg.alloc No _ _).trans (Chg.alloc No _ _) (λ_ _ x=>x)
  have hs:=h.still hc;have hx:a.heap[w.heap.size]? =some (.cells #[pV wb] 177 (0,0)):=by
   subst ha;rw[Below.heap_alloc _ _ _ (by simp)];exact heap_alloc_new w _
  have ht:a.heap[w.heap.size+1]? =some (.cells #[.slice la ls.length lc] 43 (0,0)):=by
   subst ha;have:=heap_alloc_new (w.alloc (.cells #[pV wb] 177)) (.cells #[.slice la ls.length lc] 43);simpa using this
  have ho2:a.ownsRow 0 3 1 (.slice la ls.length lc) ls.length (B8 ls):=A3 ho hc (λ_ _ x=>x);refine(V7b 201 (λ_ _=>by go_simp) a bs hs.wrt (kQ hBw hc.size) ls.length (by omega) ⟨#[32,124,32]⟩ _ _ (wus bn T ls) hlen ?_).mono ?_
  · intro a2 j bs' hk hw hj hl;have hxx:=hin ls[j] (mQ hj);obtain⟨z,hz⟩:∃z:Nat,ls[j]=(z:Int):=⟨ls[j].toNat,by omega⟩;have hzT:z<T.length:=by omega
    have e:wus bn T ls j=wup bn T z (brk T[z].kind (decide (j+1=ls.length))):=by
     unfold wus;rw[show ls.getD j 0=(z:Int) from by simp[hj,hz],tQ,M.getD_at hzT]
    rw[e]at hl⊢;refine(N2b IH a2 bs' (hs.kept hk hw) (kQ hBw (kQ hc.size hk.size)) j w.heap.size (w.heap.size+1) la lc ls hj z hz (by omega) hzT _ rfl hl (hk.other hs.wrt hx (by decide) (by decide)) (hk.other hs.wrt ht (by decide) (by decide)) (hk.own hs.wrt ho2 (by decide) (by decide))).mono ?_;rintro e w' ⟨rfl,h1,h2⟩;exact⟨rfl,hk.trans h1,h2⟩
  · rintro e w' ⟨rfl,h1,h2⟩;exact⟨rfl,(Wkp.still hc).trans h1,h2⟩
 clear h ho hin hlen;generalize S5 [32,124,32] (wus bn T ls) ls.length=tx at *;go_enter func190,ntmps190;go_wp2_with fail
 refine(HR.out _ rfl).mono ?_;rintro e w1 ⟨rfl,h1,h2⟩;go_wp2;go_end0;exact⟨rfl,h1,h2⟩
end
def E6a(sep:List UInt8)(f:Nat->List UInt8):Nat->List UInt8
 |0=>[]
 |n+1=>E6a sep f n++(sep++f n)
theorem M6a(sep:List UInt8)(f:Nat->List UInt8):∀n,E6a sep f (n+1)=sep++f 0++E6a sep (λj=>f (j+1)) n
 |0=>by simp[E6a]
 |n+1=>by
  rw[E6a,M6a sep f n,E6a];simp
theorem M7a(sep:List UInt8)(f:Nat->List UInt8):∀n,S5 sep f (n+1)=f 0++E6a sep (λj=>f (j+1)) n
 |0=>by simp[S5,E6a]
 |n+1=>by
  rw[S5,M7a sep f n,E6a];simp
theorem O9b(sep:List UInt8){f g:Nat->List UInt8}:∀n,(∀j,j<n->f j=g j)->E6a sep f n=E6a sep g n
 |0,_=>rfl
 |n+1,h=>by rw[E6a,E6a,O9b sep n (λj hj=>h j (by omega)),h n (by omega)]
theorem H9a(sep:List UInt8){f g:Nat->List UInt8}:∀n,(∀j,j<n->f j=g j)->S5 sep f n=S5 sep g n
 |0,_=>rfl
 |n+1,h=>by rw[S5,S5,H9a sep n (λj hj=>h j (by omega)),h n (by omega)]
def tr0:M.Tr:= .nd 0 [] []
theorem R5a:∀r:List M.Tr,M.P5a false r=E6a [44,32] (λj=>M.txt' (r.getD j tr0)) r.length
 |[]=>by simp[M.P5a,E6a]
 |t::r=>by
  rw[M.P5a,R5a r,jQ,M6a];simp
theorem Z9b:∀r:List M.Tr,M.P5a true r=S5 [44,32] (λj=>M.txt' (r.getD j tr0)) r.length
 |[]=>by simp[M.P5a,S5]
 |t::r=>by
  rw[M.P5a,R5a r,jQ,M7a];simp
def upt(t:M.Tr)(last:Bool):List UInt8:=if brk t.k last then [40]++M.txt' t++[41] else M.txt' t
theorem F9c(t:M.Tr)(r:List M.Tr):(if t.k=10\/t.k=9/\r.length≠0 then [40]++M.txt' t++[41] else M.txt' t)=upt t (decide (0+1=(t::r).length)):=by
 unfold upt brk;have e:decide (0+1=(t::r).length)=decide (r.length=0):=by
  rw[Bool.eq_iff_iff];simp
 rw[e];by_cases h10:t.k=10
 · simp[h10]
 · by_cases h9:t.k=9
   · by_cases hr:r.length=0<;>simp[h9,hr]
   · simp[h10,h9]
theorem R4a:∀r:List M.Tr,M.M0a false r=E6a [32,124,32] (λj=>upt (r.getD j tr0) (decide (j+1=r.length))) r.length
 |[]=>by simp[M.M0a,E6a]
 |t::r=>by
  rw[M.M0a,R4a r,F9c,jQ,M6a];simp
theorem Z8b:∀r:List M.Tr,M.M0a true r=S5 [32,124,32] (λj=>upt (r.getD j tr0) (decide (j+1=r.length))) r.length
 |[]=>by simp[M.M0a,S5]
 |t::r=>by
  rw[M.M0a,R4a r,F9c,jQ,M7a];simp
theorem J6d(bn:Bool)(t:M.Tr):(wtr bn t).k=t.k:=by
 unfold wtr;split
 · exact M.K9d t
 · rfl
theorem A9b(bn:Bool){k:Int}{ns:List (List UInt8)}{ks:List M.Tr}(h:k≠7):wtr bn (.nd k ns ks)= .nd k ns (ks.map (wtr bn)):=by
 cases bn
 · have e:wtr false=id:=by funext t;simp[wtr]
   rw[e];simp
 · have e:wtr true=M.srt:=by funext t;simp[wtr]
   rw[e];exact M.M4a h
section
variable{bn:Bool}{T:List M.Ty}{i:Nat}
theorem Z5b(hT:M.TsOk T)(hi:i<T.length)(h1:1<=T[i].kind)(h2:T[i].kind<=6):wtx bn T i=M.P4a T[i].kind:=by
 unfold wtx;rw[M.R9 hT hi,A9b bn (by omega),M.txt',if_neg (by omega),if_neg (by omega),if_neg (by omega),if_neg (by omega)]
theorem T7c(hT:M.TsOk T)(hi:i<T.length)(h:T[i].kind=8):wtx bn T i=[91]++wtx bn T T[i].of'.toNat++[93]:=by
 unfold wtx;rw[M.R9 hT hi,A9b bn (by omega),M.txt',if_neg (by omega),if_pos h,if_pos (.inl h)];simp[M.U2c]
theorem G4a(hT:M.TsOk T)(hi:i<T.length)(h:T[i].kind=9\/T[i].kind=10):T[i].fields=[]:=by
 rcases hT i hi with ht|ht|ht|ht|ht
 · omega
 · omega
 · omega
 · exact ht.2.1
 · exact ht.2.1
theorem D2d(hT:M.TsOk T)(hi:i<T.length)(h:T[i].kind=9):wtx bn T i=[40]++S5 [44,32] (λj=>wtx bn T (T[i].list.getD j 0).toNat) T[i].list.length++[41,32,61,62,32]++wtx bn T T[i].of'.toNat:=by
 have e:S5 [44,32] (λj=>wtx bn T (T[i].list.getD j 0).toNat) T[i].list.length=M.P5a true ((T[i].list.map λx=>M.tr T x.toNat).map (wtr bn)):=by
  rw[Z9b,List.length_map,List.length_map];refine H9a _ _ λj hj=> ?_;unfold wtx;simp[hj]
 rw[e];unfold wtx;rw[M.R9 hT hi,A9b bn (by omega),M.txt',if_neg (by omega),if_neg (by omega),if_pos h,if_pos (.inr h),G4a hT hi (.inl h)];simp[M.G2c]
theorem T5c(hT:M.TsOk T)(hi:i<T.length)(h:T[i].kind=10):wtx bn T i=S5 [32,124,32] (wus bn T T[i].list) T[i].list.length:=by
 have e:S5 [32,124,32] (wus bn T T[i].list) T[i].list.length=M.M0a true ((T[i].list.map λx=>M.tr T x.toNat).map (wtr bn)):=by
  rw[Z8b,List.length_map,List.length_map];refine H9a _ _ λj hj=> ?_;have hx:=(hT i hi).lst T[i].list[j] (mQ hj);have hz:T[i].list[j].toNat<T.length:=by omega
  unfold wus wup upt wtx;have e1:(M.tr T T[i].list[j].toNat).k=T[T[i].list[j].toNat].kind:=by rw[M.R9 hT hz];rfl
  simp[hj,J6d,e1,hz]
 rw[e];unfold wtx;rw[M.R9 hT hi,A9b bn (by omega),M.txt',if_neg (by omega),if_neg (by omega),if_neg (by omega),if_pos h,if_neg (by omega),G4a hT hi (.inr h)];simp
end
section
variable{B wb:Nat}{tv:Value}{bn:Bool}{T:List M.Ty}{m:Nat}
def O8d(B wb:Nat)(tv:Value)(bn:Bool)(T:List M.Ty)(i:Nat):Prop:=∀(hi:i<T.length) (w:World) (bs:List UInt8) (fa:Option Addr) (fc:Nat),T[i].kind=7->Wsp w B wb tv bn T bs->B<=w.heap.size->w.ownsRow 0 121 2 (.slice fa T[i].fields.length fc) T[i].fields.length (F5 T[i].fields)->bs.length+(wtx bn T i).length<=100000000000000->
 Calls prog 186 #[pV wb,.slice fa T[i].fields.length fc] w (S4 w B wb tv bn (bs++wtx bn T i))
theorem L0d{a0:World}(hB:B<=a0.heap.size)(a:World)(q:Nat)(bs:List UInt8)(s:ByteArray)(hq:q=a.heap.size)(hk:Wkp B wb a0 a)(hw:Wrt a B wb tv bn bs)(hl:bs.length+s.size<=100000000000000):
 Calls prog 187 #[pV wb,.slice (some (aD q 0)) 1 1] (a.alloc (.cells #[.string s] 9)) (S4 a0 B wb tv bn (bs++s.data.toList)):=by
 subst hq;have e:s.data.toList.length=s.size:=bl s;refine(B9b (hw.still (Chg.alloc _ _ _)) [s] a.heap.size (0,0) (heap_alloc_new a _) (by simp) (by simp[C7a];omega) (by simp;have:=hk.size;omega)).mono ?_;rintro e w' ⟨rfl,h1,h2⟩;exact⟨rfl,(hk.trans (Wkp.still (Chg.alloc _ _ _))).trans h1,by simpa[C7a]using h2⟩
theorem Z4b(IH:E6c B wb tv bn T m)(i:Nat)(him:i<=m)(HOB:O8d B wb tv bn T i)(hi:i<T.length)(w:World)(bs:List UInt8)(h:Wsp w B wb tv bn T bs)(hBw:B<=w.heap.size)(hlen:bs.length+(wtx bn T i).length<=100000000000000)(hls:T[i].list.length<=100000000):
 Calls prog 181 #[pV wb,iV (i:Int)] w (S4 w B wb tv bn (bs++wtx bn T i)):=by
 have hT:=h.ok;obtain⟨ad,c,etv,c2,c3,hlt,hcell⟩:=h.cell;obtain⟨g,fa,fc,la,lc,rfl,hg,hc1,hc2,x0,x1,x2,x3,of1,ol1⟩:=hcell i hi;unfold maxLen at hc2;clear hcell;have HW8:=A0 (λe=>T7c (bn:=bn) hT hi e);have HW9:=A0 (λe=>D2d (bn:=bn) hT hi e);have HW10:=A0 (λe=>T5c (bn:=bn) hT hi e);have HWp:=A0 (λe1 e2=>Z5b (bn:=bn) hT hi e1 e2);have HOb:=A0 (λe w' bs'=>HOB hi w' bs' fa fc e);have hty:=hT i hi;have hls2:=hty.lst;have hof:=hty.of;have hkinds:T[i].kind=7\/T[i].kind=8\/T[i].kind=9\/T[i].kind=10\/(1<=T[i].kind/\T[i].kind<=6):=by
  rcases hty with ht|ht|ht|ht|ht
  · exact .inr (.inr (.inr (.inr ⟨ht.1,ht.2.1⟩)))
  · exact .inl ht.1
  · exact .inr (.inl ht.1)
  · exact .inr (.inr (.inl ht.1))
  · exact .inr (.inr (.inr (.inl ht.1)))
 clear hty HOB;generalize wtx bn T i=tx at *;generalize T[i].kind=k at *;generalize T[i].of'=o at *;generalize T[i].fields=fs at *;generalize T[i].list=ls at *;have hc0:Chg No w ((w.alloc (.cells #[pV wb] 177)).alloc (.cells #[iV k,.slice fa fs.length fc,.slice la ls.length lc,iV o] 66)):=(Chg.alloc No _ _).trans (Chg.alloc No _ _) (λ_ _ x=>x);have hs0:=h.still hc0;have hB0:B<=((w.alloc (.cells #[pV wb] 177)).alloc (.cells #[iV k,.slice fa fs.length fc,.slice la ls.length lc,iV o] 66)).heap.size:=kQ hBw hc0.size;have HEND:Hid (∀e w' bs',S4 ((w.alloc (.cells #[pV wb] 177)).alloc (.cells #[iV k,.slice fa fs.length fc,.slice la ls.length lc,iV o] 66)) B wb tv bn bs' e w'->S4 w B wb tv bn bs' e w'):=by
  rintro e w' bs' ⟨rfl,h1,h2⟩;exact⟨rfl,(Wkp.still hc0).trans h1,h2⟩
 have hx:((w.alloc (.cells #[pV wb] 177)).alloc (.cells #[iV k,.slice fa fs.length fc,.slice la ls.length lc,iV o] 66)).heap[w.heap.size]? =some (.cells #[pV wb] 177 (0,0)):=by
  rw[Below.heap_alloc _ _ _ (by simp)];exact heap_alloc_new w _
 have ht:((w.alloc (.cells #[pV wb] 177)).alloc (.cells #[iV k,.slice fa fs.length fc,.slice la ls.length lc,iV o] 66)).heap[w.heap.size+1]? =some (.cells #[iV k,.slice fa fs.length fc,.slice la ls.length lc,iV o] 66 (0,0)):=by
  have:=heap_alloc_new (w.alloc (.cells #[pV wb] 177)) (.cells #[iV k,.slice fa fs.length fc,.slice la ls.length lc,iV o] 66);simpa using this
 have hol:((w.alloc (.cells #[pV wb] 177)).alloc (.cells #[iV k,.slice fa fs.length fc,.slice la ls.length lc,iV o] 66)).ownsRow 0 3 1 (.slice la ls.length lc) ls.length (B8 ls):=A3 ol1 hc0 (λ_ _ x=>x);have hofl:((w.alloc (.cells #[pV wb] 177)).alloc (.cells #[iV k,.slice fa fs.length fc,.slice la ls.length lc,iV o] 66)).ownsRow 0 121 2 (.slice fa fs.length fc) fs.length (F5 fs):=A3 of1 hc0 (λ_ _ x=>x);have FC:Hid (∀a,Wkp B wb ((w.alloc (.cells #[pV wb] 177)).alloc (.cells #[iV k,.slice fa fs.length fc,.slice la ls.length lc,iV o] 66)) a->a.cell? (aD w.heap.size 0)=some (pV wb)/\a.cell? (aD (w.heap.size+1) 2)=some (.slice la ls.length lc)/\a.cell? (aD (w.heap.size+1) 3)=some (iV o)/\w.heap.size<a.heap.size/\w.heap.size+1<a.heap.size):=by
  intro a ha;have hx2:=ha.other hs0.wrt hx (by decide) (by decide);have ht2:=ha.other hs0.wrt ht (by decide) (by decide);exact⟨cr hx2 rfl,cr ht2 rfl,cr ht2 rfl,(ltG hx2),(ltG ht2)⟩
 have FS:=A0 (λa q bs' s=>L0d (wb:=wb) (tv:=tv) (bn:=bn) (a0:=((w.alloc (.cells #[pV wb] 177)).alloc (.cells #[iV k,.slice fa fs.length fc,.slice la ls.length lc,iV o] 66))) hB0 a q bs' s);have FW:Hid (∀a z bs',Wkp B wb ((w.alloc (.cells #[pV wb] 177)).alloc (.cells #[iV k,.slice fa fs.length fc,.slice la ls.length lc,iV o] 66)) a->Wrt a B wb tv bn bs'->z<i->bs'.length+(wtx bn T z).length<=100000000000000->Calls prog 181 #[pV wb,iV (z:Int)] a (S4 ((w.alloc (.cells #[pV wb] 177)).alloc (.cells #[iV k,.slice fa fs.length fc,.slice la ls.length lc,iV o] 66)) B wb tv bn (bs'++wtx bn T z))):=by
  intro a z bs' ha hw hz hl;refine(IH z a bs' (by omega) (by omega) (hs0.kept ha hw) (kQ hB0 ha.size) hl).mono ?_;rintro e w' ⟨rfl,h1,h2⟩;exact⟨rfl,ha.trans h1,h2⟩
 have FR:Hid (∀a bs',Wkp B wb ((w.alloc (.cells #[pV wb] 177)).alloc (.cells #[iV k,.slice fa fs.length fc,.slice la ls.length lc,iV o] 66)) a->Wrt a B wb tv bn bs'->bs'.length+(S5 [44,32] (λj=>wtx bn T (ls.getD j 0).toNat) ls.length).length<=100000000000000->Calls prog 188 #[pV wb,iV (ls.length:Int),.string ⟨#[44,32]⟩,.func (.func 189) #[] #[pV w.heap.size,pV (w.heap.size+1)]] a (S4 ((w.alloc (.cells #[pV wb] 177)).alloc (.cells #[iV k,.slice fa fs.length fc,.slice la ls.length lc,iV o] 66)) B wb tv bn (bs'++S5 [44,32] (λj=>wtx bn T (ls.getD j 0).toNat) ls.length))):=by
  intro a bs' ha hw hl;have hsa:=hs0.kept ha hw;have hxa:=ha.other hs0.wrt hx (by decide) (by decide);have hta:=ha.other hs0.wrt ht (by decide) (by decide);have hola:=ha.own hs0.wrt hol (by decide) (by decide);refine(V7b 189 (λ_ _=>by go_simp) a bs' hw (kQ hB0 ha.size) ls.length (by omega) ⟨#[44,32]⟩ _ _ (λj=>wtx bn T (ls.getD j 0).toNat) hl ?_).mono ?_
  · intro a2 j bs2 hk2 hw2 hj hl2;have hxx:=hls2 ls[j] (mQ hj);obtain⟨z,hz⟩:∃z:Nat,ls[j]=(z:Int):=⟨ls[j].toNat,by omega⟩;have e:wtx bn T (ls.getD j 0).toNat=wtx bn T z:=by
     rw[show ls.getD j 0=(z:Int) from by simp[hj,hz],tQ]
    rw[e]at hl2⊢;refine(Z7b IH a2 bs2 (hsa.kept hk2 hw2) (kQ hB0 (kQ ha.size hk2.size)) j w.heap.size (w.heap.size+1) _ _ _ la lc ls hj z hz (by omega) (by omega) hl2 (hk2.other hsa.wrt hxa (by decide) (by decide)) (hk2.other hsa.wrt hta (by decide) (by decide)) (hk2.own hsa.wrt hola (by decide) (by decide))).mono ?_;rintro e w' ⟨rfl,h1,h2⟩;exact⟨rfl,hk2.trans h1,h2⟩
  · rintro e w' ⟨rfl,h1,h2⟩;exact⟨rfl,ha.trans h1,h2⟩
 have HR0:=A0 hs0;have hk0:=A0 (Wkp.refl B wb ((w.alloc (.cells #[pV wb] 177)).alloc (.cells #[iV k,.slice fa fs.length fc,.slice la ls.length lc,iV o] 66)));rcases hkinds with rfl|rfl|rfl|rfl|⟨hk1,hk2⟩
 · have HC:=A0 (HOb.out rfl _ bs hs0 hB0 hofl hlen);clear h hs0 hx ht hol hofl of1 ol1 FW FS FC HW8 HW9 HW10 HWp HOb hc0 hB0;go_enter func181,ntmps181;go_wp2_with fail
   refine HC.out.mono ?_;rintro e w1 hp;have hp2:=HEND.out _ _ _ hp;obtain⟨rfl,h1,h2⟩:=hp2;go_wp2;go_end0;exact⟨rfl,h1,h2⟩
 · have e:=HW8.out rfl;obtain⟨z,rfl⟩:∃z:Nat,o=(z:Int):=⟨o.toNat,by have:=hof (.inl rfl);omega⟩;have hzi:z<i:=by have:=hof (.inl rfl);omega
   rw[tQ]at e;subst e;simp only[qQ,jQ,xQ]at hlen;have HS1:=A0 (FS.out _ (w.heap.size+1+1) bs ⟨#[91]⟩ (by simp) hk0.out HR0.out.wrt (by simp[ByteArray.size];omega));clear h hs0 hx ht hol hofl of1 ol1 HW8 HW9 HW10 HWp HOb hc0 hB0 hof;go_enter func181,ntmps181;go_wp2_with fail
   refine HS1.out.mono ?_;rintro e w1 ⟨rfl,h1,h2⟩;obtain⟨d1,d2,d3,l1,l2⟩:=FC.out w1 h1;have HS2:=A0 (FW.out w1 z _ h1 h2 hzi (by simp;omega));clear h1 h2 HS1;go_wp2_with fail
   refine HS2.out.mono ?_;rintro e w2 ⟨rfl,h3,h4⟩;obtain⟨d4,-,-,l4,-⟩:=FC.out w2 h3;have HS3:=A0 (FS.out w2 w2.heap.size _ ⟨#[93]⟩ rfl h3 h4 (by simp[ByteArray.size];omega));clear h3 h4 HS2;go_wp2_with fail
   refine HS3.out.mono ?_;rintro e w3 hp;obtain⟨rfl,h5,h6⟩:=HEND.out _ _ _ hp;go_wp2;go_end0;exact⟨rfl,h5,by simpa using h6⟩
 · have e:=HW9.out rfl;obtain⟨z,rfl⟩:∃z:Nat,o=(z:Int):=⟨o.toNat,by have:=hof (.inr rfl);omega⟩;have hzi:z<i:=by have:=hof (.inr rfl);omega
   rw[tQ]at e;subst e;generalize S5 [44,32] (λj=>wtx bn T (ls.getD j 0).toNat) ls.length=rb at *;simp only[qQ,jQ,xQ]at hlen;have HS1:=A0 (FS.out _ (w.heap.size+1+1) bs ⟨#[40]⟩ (by simp) hk0.out HR0.out.wrt (by simp[ByteArray.size];omega));clear h hs0 hx ht hol hofl of1 ol1 HW8 HW9 HW10 HWp HOb hc0 hB0 hof;go_enter func181,ntmps181;go_wp2_with fail
   refine HS1.out.mono ?_;rintro e w1 ⟨rfl,h1,h2⟩;obtain⟨d1,d2,d3,l1,l2⟩:=FC.out w1 h1;have HS2:=A0 (FR.out w1 _ h1 h2 (by simp;omega));clear h1 h2 HS1;go_wp2_with fail
   refine HS2.out.mono ?_;rintro e w2 ⟨rfl,h3,h4⟩;obtain⟨d4,d5,d6,l4,l5⟩:=FC.out w2 h3;have HS3:=A0 (FS.out w2 w2.heap.size _ ⟨#[41,32,61,62,32]⟩ rfl h3 h4 (by simp[ByteArray.size];omega));clear h3 h4 HS2;go_wp2_with fail
   refine HS3.out.mono ?_;rintro e w3 ⟨rfl,h5,h6⟩;obtain⟨d7,-,d8,l7,l8⟩:=FC.out w3 h5;have HS4:=A0 (FW.out w3 z _ h5 h6 hzi (by simp;omega));clear h5 h6 HS3;go_wp2_with fail
   refine HS4.out.mono ?_;rintro e w4 hp;obtain⟨rfl,h7,h8⟩:=HEND.out _ _ _ hp;go_wp2;go_end0;exact⟨rfl,h7,by simpa using h8⟩
 · have e:=HW10.out rfl;subst e;have HC:=A0 (N1b IH _ bs hs0 hB0 la lc ls hls (λx hxm=>by have:=hls2 x hxm;omega) hol hlen);clear h hs0 hx ht hol hofl of1 ol1 FW FS FC FR HW8 HW9 HW10 HWp HOb hc0 hB0 hof;go_enter func181,ntmps181;go_wp2_with fail
   refine HC.out.mono ?_;rintro e w1 hp;obtain⟨rfl,h1,h2⟩:=HEND.out _ _ _ hp;go_wp2;go_end0;exact⟨rfl,h1,h2⟩
 · have e:=HWp.out hk1 hk2;subst e;obtain⟨d1,-,-,l1,l2⟩:=FC.out _ hk0.out;have d0:(((w.alloc (.cells #[pV wb] 177)).alloc (.cells #[iV k,.slice fa fs.length fc,.slice la ls.length lc,iV o] 66))).cell? (aD (w.heap.size+1) 0)=some (iV k):=cr ht rfl;have HWt:=A0 HR0.out.wrt;have hwl:(M.P4a k).length<=7:=by
    have hk:k=1\/k=2\/k=3\/k=4\/k=5\/k=6:=by omega
    rcases hk with rfl|rfl|rfl|rfl|rfl|rfl<;>decide
   have FP:Hid (∀n q,q=w.heap.size+1+1->Calls prog 187 #[pV wb,.slice (some (aD q 0)) 1 1] (((((w.alloc (.cells #[pV wb] 177)).alloc (.cells #[iV k,.slice fa fs.length fc,.slice la ls.length lc,iV o] 66))).drewN n).alloc (.cells #[.string ⟨(M.P4a k).toArray⟩] 9)) (S4 w B wb tv bn (bs++M.P4a k))):=by
    intro n q hq;have hd:=Chg.drewN No ((w.alloc (.cells #[pV wb] 177)).alloc (.cells #[iV k,.slice fa fs.length fc,.slice la ls.length lc,iV o] 66)) n;refine(FS.out (World.drewN ((w.alloc (.cells #[pV wb] 177)).alloc (.cells #[iV k,.slice fa fs.length fc,.slice la ls.length lc,iV o] 66)) n) q bs ⟨(M.P4a k).toArray⟩ (by rw[hq];simp) (Wkp.still hd) (HWt.out.still hd) (by simp[ByteArray.size];omega)).mono ?_;intro e w' hp;exact HEND.out _ _ _ hp
   clear h hs0 hx ht hol hofl of1 ol1 FW FS FC FR HW8 HW9 HW10 HWp HOb hc0 hB0 hof;have e7:(k==7)=false:=by simp;omega
   have e8:(k==8)=false:=by simp;omega
   have e9:(k==9)=false:=by simp;omega
   have e10:(k==10)=false:=by simp;omega
   have HWD:=A0 (λa=>F1c k hk1 hk2 a);generalize M.P4a k=wk at *;go_enter func181,ntmps181;go_wp2_with fail
   go_region_with (first
    |(go_at_call 191;refine(HWD.out _).mono ?_;rintro e w' ⟨rfl,rfl⟩)
    |(go_at_call 187;refine(FP.out 1 _ (by simp)).mono ?_;rintro e w1 ⟨rfl,h1,h2⟩))
   all_goals
    go_wp2;go_end0;exact⟨rfl,h1,h2⟩
end
section
variable{α:Type}
theorem F4a(enc:α->List Value)(hk:∀x,(enc x).length=2):∀(l:List α) (i c:Nat) (hi:i<l.length),c<2->(l.flatMap enc)[i * 2+c]? =(enc l[i])[c]?
 |[],_,_,hi,_=>by simp at hi
 |x::r,0,c,_,hc=>by
  rw[List.flatMap_cons,List.getElem?_append_left (by rw[hk];omega)];simp
 |x::r,i+1,c,hi,hc=>by
  rw[List.flatMap_cons,List.getElem?_append_right (by rw[hk];omega),hk,show (i+1) * 2+c - 2=i * 2+c by omega,F4a enc hk r i c (by simpa using hi) hc];rfl
theorem U1a(enc:α->List Value)(hk:∀x,(enc x).length=2):∀l:List α,(l.flatMap enc).length=l.length * 2
 |[]=>rfl
 |x::r=>by
  rw[List.flatMap_cons,qQ,hk,U1a enc hk r,jQ];omega
end
theorem C5c[Inhabited (List UInt8×Int)](d:Array (List UInt8×Int))(cur:Array Value)(h:d.size * 2<=cur.size):(Sort.putCells id 0 (Sort.flatK J1 2 d) cur).toList.take (d.size * 2)=F5 d.toList:=by
 have hf:(F5 d.toList).length=d.size * 2:=by
  unfold F5;rw[U1a J1 (λ_=>rfl)];simp
 refine List.ext_getElem? λt=> ?_;by_cases ht:t<d.size * 2
 · have e:=F4a J1 (λ_=>rfl) d.toList (t / 2) (t % 2) (by simp;omega) (by omega);rw[show t / 2 * 2+t % 2=t by omega]at e;unfold F5;rw[e,List.getElem?_take_of_lt ht];have hc:t<cur.size:=by omega
   have e2:(Sort.putCells id 0 (Sort.flatK J1 2 d) cur).toList[t]? =some ((J1 d[t / 2]!)[t % 2]!):=by
    unfold Sort.putCells;rw[Array.getElem?_toList,Array.getElem?_mapIdx];simp only[hc,Array.getElem?_eq_getElem,Option.map_some];rw[if_pos (by simp;omega)];simp only[Nat.sub_zero,id];rw[Sort.get_flatK _ _ _ _ ht]
   rw[e2];have hd:t / 2<d.size:=by omega
   have e3:d[t / 2]! =d.toList[t / 2]'(by simpa using hd):=by simp[hd]
   rw[e3];have h2:t % 2<(J1 (d.toList[t / 2]'(by simpa using hd))).length:=by
    show t % 2<2;omega
   rw[gQ h2,getElem!_pos (J1 (d.toList[t / 2]'(by simpa using hd))) (t % 2) h2]
 · rw[List.getElem?_eq_none (by simp;omega),List.getElem?_eq_none (by rw[hf];omega)]
theorem K1c(x y:List UInt8×Int)(W:World):Calls prog 198 #[.agg #[.string ⟨x.1.toArray⟩,iV x.2],.agg #[.string ⟨y.1.toArray⟩,iV y.2]] W λe w'=>e= .returned (iV (Lib.compareBytes x.1 y.1))/\∃q os',w'=Sort.grow (W.drewN q) os':=by
 have hcon:=λW'=>Tryz.strings_Compare ⟨x.1.toArray⟩ ⟨y.1.toArray⟩ W';generalize hr:Lib.compareBytes x.1 y.1=r;simp only[hr]at hcon;go_enter func198,ntmps198;go_wp2_with (go_at_call 199;refine(hcon _).mono ?_;rintro e w' ⟨rfl,rfl⟩)
 go_ret;exact⟨rfl,0,_,by rw[Sort.alloc_eq_grow,Sort.alloc_eq_grow,Sort.grow_grow];rfl⟩
def T4b(x y:List UInt8×Int):Int:=Lib.compareBytes x.1 y.1
theorem swoN:Sort.SWO (ltOf T4b) where
 irrefl x:=by simp[ltOf,T4b,M.A5b]
 trans x y z h1 h2:=by
  have a1:=of_decide_eq_true h1;have a2:=of_decide_eq_true h2;unfold T4b at a1 a2;exact decide_eq_true ((M.D4a x.1 y.1 z.1 (by omega) (by omega)).2 (.inl a1))
 ntrans x y z h1 h2:=by
  have a1:=of_decide_eq_false h1;have a2:=of_decide_eq_false h2;unfold T4b at a1 a2;have e1:=M.R5 x.1 y.1;have e2:=M.R5 y.1 z.1;have e3:=M.R5 x.1 z.1;have:=(M.D4a z.1 y.1 x.1 (by omega) (by omega)).1;refine decide_eq_false ?_;unfold T4b;omega
theorem I0c(w:World)(n0:Nat)(fs:List (List UInt8×Int))(hn:(fs.map (·.1)).Nodup)(v:Value)(ho:w.ownsRow n0 121 2 v fs.length (F5 fs))(hle:fs.length<=100000000):
 Calls prog 197 #[v,.func (.func 198) #[] #[]] w λe w'=>e=rT/\Chg (λk=>some k=v.ownBlock) w w'/\w'.ownsRow n0 121 2 v fs.length (F5 (M.J8a fs)):=by
 rcases ho.2 with ⟨rfl,h0⟩|⟨g,cap,cur,rfl,hb,hg,hn2,hm,hcs,htk⟩
 · have hcon:=AnyF.slices_SortFunc_none Tryz.sortF none 0 (.func (.func 198) #[] #[]) w;refine Calls.mono (show Calls prog 197 _ _ _ from hcon) ?_;rintro e w' ⟨rfl,rfl⟩;have:fs=[]:=List.length_eq_zero_iff.1 h0;subst this;have e:M.J8a ([]:List (List UInt8×Int))=[]:=List.length_eq_zero_iff.1 (M.B0a _);rw[e];exact⟨rfl,Chg.refl _ _,ho⟩
 · have hlt:=(ltG hg);have eg:∀args w,(callFunc 198 args).run prog w= .ok (.enter 198 args) w:=enters_of func198 (by kernel_rfl) rfl;have hH:Sort.HoldsK J1 2 w g 0 fs.toArray:=by
    intro j hj;rw[Sort.size_flatK]at hj;simp only[List.size_toArray]at hj;refine⟨?_,by rw[Nat.zero_add];exact frozen_of_row w g j _ _ hg⟩;rw[Nat.zero_add,cell_of_row w g j _ _ _ hg,Sort.get_flatK _ _ _ _ (by simpa using hj)];have e:=F4a J1 (λ_=>rfl) fs (j / 2) (j % 2) (by omega) (by omega);rw[show j / 2 * 2+j % 2=j by omega]at e;have e2:cur[j]? =(F5 fs)[j]? :=by
     rw[<-htk,List.getElem?_take_of_lt hj,Array.getElem?_toList]
    have hd:j / 2<fs.length:=by omega
    have h2:j % 2<(J1 fs[j / 2]).length:=by
     show j % 2<2;omega
    rw[e2];unfold F5;rw[e,gQ h2];simp[hd,h2]
   have hcon:=AnyQ.slices_SortFunc Tryz.sortF 2 Tryz.isAgg121 Tryz.sizeOf121 J1 (λ_=>rfl) (λx v hv=>by simp[J1]at hv;rcases hv with rfl|rfl<;>rfl) T4b swoN 198 #[] g 0 cap fs.toArray w eg (λ_ _ _ _ x y=>K1c x y _) hH hlt (by simp;omega);simp only[List.size_toArray]at hcon;refine Calls.mono (show Calls prog 197 _ _ _ from hcon) ?_;rintro e w' ⟨rfl,d',n,os,hp,hs,rfl⟩;have hsz:d'.size=fs.length:=by have:=hp.1;simpa using this
   have hd:d'.toList=M.J8a fs:=by
    have hpp:=hp.2.2;have e1:(d'.extract 0 fs.length).toList=d'.toList:=by rw[<-hsz];simp
    have e2:(fs.toArray.extract 0 fs.length).toList=fs:=by simp
    rw[e1,e2]at hpp;refine M.H8a _ _ (hpp.trans (M.T2 fs).symm) ((hpp.map _).nodup_iff.2 hn) ?_ (M.E4a fs);rw[List.pairwise_iff_getElem];intro i j hi hj hij;have:=hs i j (wQ _) hij (by rw[<-hsz];simpa using hj);simp only[Array.length_toList]at hi hj;have this:=of_decide_eq_false this;unfold T4b at this;rw[getElem!_pos d' i hi,getElem!_pos d' j hj]at this;simp only[M.leN,M.ltN,Bool.not_eq_true',decide_eq_false_iff_not,Array.getElem_toList];exact this
   have hw:(sortWorldK J1 2 w g 0 n d' os).heap[g]? =some (.cells (Sort.putCells id 0 (Sort.flatK J1 2 d') cur) 121 (0,0)):=by
    unfold sortWorldK Sort.grow Sort.putRowK Sort.putRow Sort.mapBlock Sort.ahead;rw[Array.getElem?_append_left (by simpa using hlt),Array.getElem?_modify,if_pos rfl,hg];rfl
   refine⟨rfl, ?_, ?_⟩
   · refine⟨rfl,rfl,rfl,by simp[sortWorldK,Sort.grow,Sort.putRowK,Sort.putRow,Sort.mapBlock,Sort.ahead],λk hk hne=> ?_⟩;have hne2:¬g=k:=λe=>hne (by subst e;rfl);unfold sortWorldK Sort.grow Sort.putRowK Sort.putRow Sort.mapBlock Sort.ahead;rw[Array.getElem?_append_left (by simpa using hk),Array.getElem?_modify,if_neg hne2]
   · refine⟨?_,.inr ⟨g,cap,_,rfl,hb,hw,hn2,hm, ?_, ?_⟩⟩
     · unfold F5;rw[U1a J1 (λ_=>rfl),M.B0a]
     · simp[Sort.putCells,hcs]
     · rw[<-hd,<-hsz];exact C5c d' cur (by rw[hcs,hsz];omega)
theorem S6b(w:World)(fs:List (List UInt8×Int))(fa:Option Addr)(fc:Nat)(ho:w.ownsRow 0 121 2 (.slice fa fs.length fc) fs.length (F5 fs))(hn:fs.length<=100000000):
 Calls prog 196 #[.slice fa fs.length fc] w λe w'=>∃ga gc,e= .returned (.slice ga fs.length gc)/\Chg No w w'/\w'.ownsRow w.heap.size 121 2 (.slice ga fs.length gc) fs.length (F5 fs):=by
 obtain⟨i0,hi,hz0,hz1,hz2⟩:=info_parts Tryz.infoField;have q50:∀(w:World) (a:Option Addr) (n c n' c':Nat),(binOp .eql 64 (.slice a n c) (.slice none n' c')).run prog w= .ok (.bool a.isNone) w:=λw a n c n' c'=>Lib.run_eql_slice_nil w _ _ a n c n' c' underlying64;rcases ho.2 with ⟨hv,h0⟩|⟨g,cap,cur,hv,hb,hg,hn2,hm,hcs,htk⟩
 · have:fs=[]:=List.length_eq_zero_iff.1 h0;subst this;simp only[Value.slice.injEq]at hv;obtain⟨rfl,-,rfl⟩:=hv;go_enter func196,ntmps196;go_wp2;go_ret;exact⟨none,0,rfl,Chg.refl _ _,rfl,.inl ⟨rfl,rfl⟩⟩
 · simp only[Value.slice.injEq]at hv;obtain⟨rfl,-,rfl⟩:=hv;have hlt:=(ltG hg);have HO:Hid ((w.alloc (.cells #[] 121)).ownsRow w.heap.size 121 2 (.slice (some (aD w.heap.size 0)) 0 0) 0 []):=
    ⟨rfl,.inr ⟨w.heap.size,0,#[],rfl,vQ _,heap_alloc_new w _,vQ _,wQ _,rfl,rfl⟩⟩
   have HL:=A0 (J8c ho);have HN:Hid (∀j u,(F5 fs)[j]? =some u->(w.alloc (.cells #[] 121)).cell? (((aD g 0):Addr).add j)=some u):=by
    intro j u hj;have e:=ho.cells (g:=g) rfl j u hj;have hadd:((aD g 0):Addr).add j=(aD g j):=by unfold Addr.add;split<;>simp_all
    rw[hadd]at e⊢;exact F9 hlt e
   have H1:Hid (∀u∈F5 fs,u.oneCell'=true):=by
    intro u hu;unfold F5 at hu;obtain⟨x,-,hx⟩:=List.mem_flatMap.1 hu;simp[J1]at hx;rcases hx with rfl|rfl<;>rfl
   clear ho htk hg;go_enter func196,ntmps196;go_wp2_with (at_builtin;refine wpList_append_own _ rfl _ _ 64 rfl w.heap.size 121 i0 (.agg #[.string ⟨#[]⟩,iV 0]) 2 24 underlying64 hi hz0 hz1 hz2 rfl (by decide) _ 0 [] rfl HO.out (aD g 0) fs.length fc (F5 fs) rfl HL.out HN.out H1.out ?c3 ?c4 ?c5 ?_)
   case c3=>simp only[maxLen];omega
   case c4=>omega
   case c5=>simp
   intro v' w2 hown2 hg2 _;obtain⟨ad2,c2,rfl⟩:=B7 hown2;have HO2:=A0 hown2;have HC:Hid (Chg No w w2):=by
    refine((Chg.alloc (λk=>w.heap.size<=k) w _).trans (Chg.grown hg2) (λk hk x=> ?_)).mono (λk hk x=>by omega);have x':some k=some w.heap.size:=x;simp only[zQ]at x';omega
   clear hown2 hg2;go_wp2;go_ret;exact⟨ad2,c2,rfl,HC.out,HO2.out⟩
def S0b(bn:Bool)(T:List M.Ty)(p:List UInt8×Int):List UInt8:=[32]++p.1++[58,32]++wtx bn T p.2.toNat++[59]
def U8(bn:Bool)(T:List M.Ty)(l:List (List UInt8×Int)):List UInt8:=l.flatMap (S0b bn T)
def A2a(bn:Bool)(l:List (List UInt8×Int)):List (List UInt8×Int):=if bn then M.J8a l else l
theorem I8a{bn:Bool}{T:List M.Ty}(l:List (List UInt8×Int)){j:Nat}(hj:j<l.length):U8 bn T (l.take (j+1))=U8 bn T (l.take j)++S0b bn T l[j]:=by
 unfold U8;rw[nQ hj,List.flatMap_append];simp
theorem K6b{bn:Bool}{T:List M.Ty}(l:List (List UInt8×Int)){j:Nat}(hj:j<l.length):(U8 bn T (l.take j)).length+(S0b bn T l[j]).length<=(U8 bn T l).length:=by
 have h1:=I8a (bn:=bn) (T:=T) l hj;have h2:U8 bn T l=U8 bn T (l.take (j+1))++U8 bn T (l.drop (j+1)):=by
  unfold U8;rw[<-List.flatMap_append,List.take_append_drop]
 rw[h2,h1];simp only[qQ];omega
theorem P7b(bn:Bool)(l:List (List UInt8×Int)):(A2a bn l).length=l.length:=by
 unfold A2a;split
 · exact M.B0a l
 · rfl
theorem P6b{bn:Bool}{l:List (List UInt8×Int)}{p:List UInt8×Int}(h:p∈A2a bn l):p∈l:=by
 unfold A2a at h;split at h
 · exact(M.T2 l).subset h
 · exact h
section
variable{bn:Bool}{T:List M.Ty}{i:Nat}
theorem Z6a(hT:M.TsOk T)(hi:i<T.length)(h:T[i].kind=7):T[i].list=[]/\(T[i].fields.map (·.1)).Nodup:=by
 rcases hT i hi with ht|ht|ht|ht|ht
 · omega
 · exact⟨ht.2.1,ht.2.2.1⟩
 · omega
 · omega
 · omega
theorem T6c(hT:M.TsOk T)(hi:i<T.length)(h:T[i].kind=7):wtx bn T i=[123]++U8 bn T (A2a bn T[i].fields)++(if T[i].fields.length=0 then [] else [32])++[125]:=by
 obtain⟨hl,hn⟩:=Z6a hT hi h;have e:M.tr T i= .nd 7 (T[i].fields.map (·.1)) (T[i].fields.map λp=>(λz:Int=>M.tr T z.toNat) p.2):=by
  rw[M.R9 hT hi,if_neg (by omega),hl,h];simp
 unfold wtx;rw[e];cases bn with
 |false=>
  have e2:∀t,wtr false t=t:=λt=>by simp[wtr]
  rw[e2,M.V3b T[i].fields (λz:Int=>M.tr T z.toNat)];unfold U8 S0b A2a wtx;simp only[e2];rfl
 |true=>
  have e2:∀t,wtr true t=M.srt t:=λt=>by simp[wtr]
  rw[e2,M.U7c _ (λz:Int=>M.tr T z.toNat) hn,M.V3b _ (λz:Int=>M.srt (M.tr T z.toNat)),M.B0a];unfold U8 S0b A2a wtx;simp only[e2];rfl
end
section
variable{B wb:Nat}{tv:Value}{bn:Bool}{T:List M.Ty}{m:Nat}
theorem E0d{a0:World}(hB:B<=a0.heap.size)(a:World)(q:Nat)(bs:List UInt8)(s1 s2 s3:ByteArray)(hq:q=a.heap.size)(hk:Wkp B wb a0 a)(hw:Wrt a B wb tv bn bs)(hl:bs.length+s1.size+s2.size+s3.size<=100000000000000):
 Calls prog 187 #[pV wb,.slice (some (aD q 0)) 3 3] (a.alloc (.cells #[.string s1,.string s2,.string s3] 9)) (S4 a0 B wb tv bn (bs++(s1.data.toList++s2.data.toList++s3.data.toList))):=by
 subst hq;have e1:s1.data.toList.length=s1.size:=bl s1;have e2:s2.data.toList.length=s2.size:=bl s2;have e3:s3.data.toList.length=s3.size:=bl s3;refine(B9b (hw.still (Chg.alloc _ _ _)) [s1,s2,s3] a.heap.size (0,0) (heap_alloc_new a _) (by simp) (by simp[C7a];omega) (by simp;have:=hk.size;omega)).mono ?_;rintro e w' ⟨rfl,h1,h2⟩;exact⟨rfl,(hk.trans (Wkp.still (Chg.alloc _ _ _))).trans h1,by simpa[C7a]using h2⟩
theorem Z5a{w:World}{base:Nat}{ga:Option Addr}{gc:Nat}{gs:List (List UInt8×Int)}(ho:w.ownsRow base 121 2 (.slice ga gs.length gc) gs.length (F5 gs)){j:Nat}(hj:j<gs.length):
 ∃g,ga=some (aD g 0)/\g<w.heap.size/\gs.length<=gc/\gc<=maxLen/\w.cell? (aD g (j * 2))=some (.string ⟨gs[j].1.toArray⟩)/\w.cell? (aD g (j * 2+1))=some (iV gs[j].2):=by
 obtain⟨g,rfl,-,hg,h1,h2,hc⟩:=D8 ho (by omega);have a0:=F4a J1 (λ_=>rfl) gs j 0 hj (by omega);have a1:=F4a J1 (λ_=>rfl) gs j 1 hj (by omega);exact⟨g,rfl,hg,h1,h2,hc _ _ a0,hc _ _ a1⟩
theorem Q0b(IH:E6c B wb tv bn T m)(i:Nat)(him:i<=m)(hi:i<T.length)(hfs:T[i].fields.length<=2001):O8d B wb tv bn T i:=by
 intro _ w bs fa fc hk7 h hBw ho hlen;have hT:=h.ok;have hE:=T6c (bn:=bn) hT hi hk7;have hnd:=(Z6a hT hi hk7).2;have hfld:=(hT i hi).fld;have hol:=P7b bn T[i].fields;have hmem:∀p∈A2a bn T[i].fields,0<=p.2/\p.2<(i:Int):=λp hp=>hfld p (P6b hp);have hlen2:bs.length+(U8 bn T (A2a bn T[i].fields)).length+2<=100000000000000:=by
  rw[hE]at hlen;simp only[qQ,jQ,xQ]at hlen;omega
 have hlen3:T[i].fields.length≠0->bs.length+(U8 bn T (A2a bn T[i].fields)).length+3<=100000000000000:=by
  intro h0;rw[hE,if_neg h0]at hlen;simp only[qQ,jQ,xQ]at hlen;omega
 have HE:=A0 hE;clear hE hfld hk7 hlen;generalize wtx bn T i=tx at *;obtain⟨c2,c3,hwl⟩:=h.wrt.tys;generalize hfe:T[i].fields=fs at *;generalize hge:A2a bn fs=gs at *
 /- what follows,whatever was done ahead of it -/
 have FS1:Hid (∀a0:World,Chg No w a0->∀a q bs' s,q=a.heap.size->Wkp B wb a0 a->Wrt a B wb tv bn bs'->bs'.length+s.size<=100000000000000->Calls prog 187 #[pV wb,.slice (some (aD q 0)) 1 1] (a.alloc (.cells #[.string s] 9)) (S4 a0 B wb tv bn (bs'++s.data.toList))):=
  λa0 hc a q bs' s=>L0d (kQ hBw hc.size) a q bs' s
 have FS3:Hid (∀a0:World,Chg No w a0->∀a q bs' s1 s2 s3,q=a.heap.size->Wkp B wb a0 a->Wrt a B wb tv bn bs'->bs'.length+s1.size+s2.size+s3.size<=100000000000000->Calls prog 187 #[pV wb,.slice (some (aD q 0)) 3 3] (a.alloc (.cells #[.string s1,.string s2,.string s3] 9)) (S4 a0 B wb tv bn (bs'++(s1.data.toList++s2.data.toList++s3.data.toList)))):=
  λa0 hc a q bs' s1 s2 s3=>E0d (kQ hBw hc.size) a q bs' s1 s2 s3
 have FW:Hid (∀a0:World,Chg No w a0->∀a z bs',Wkp B wb a0 a->Wrt a B wb tv bn bs'->z<i->bs'.length+(wtx bn T z).length<=100000000000000->Calls prog 181 #[pV wb,iV (z:Int)] a (S4 a0 B wb tv bn (bs'++wtx bn T z))):=by
  intro a0 hc a z bs' ha hw hz hl;refine(IH z a bs' (by omega) (by omega) ((h.still hc).kept ha hw) (kQ hBw (kQ hc.size ha.size)) hl).mono ?_;rintro e w' ⟨rfl,h1,h2⟩;exact⟨rfl,ha.trans h1,h2⟩
 have FWR:Hid (∀a0:World,Chg No w a0->Wrt a0 B wb tv bn bs):=λa0 hc=>h.wrt.still hc;have FR:Hid (∀a0:World,Chg No w a0->∀ga gc,a0.ownsRow 0 121 2 (.slice ga gs.length gc) gs.length (F5 gs)->∀a,Wkp B wb a0 a->a.ownsRow 0 121 2 (.slice ga gs.length gc) gs.length (F5 gs)):=
  λa0 hc ga gc hr a ha=>ha.own (h.wrt.still hc) hr (by decide) (by decide)
 have hnn:=A0 hnd;clear hnd;cases bn with
 |false=>
  have hgs:gs=fs:=by rw[<-hge];rfl
  subst hgs;clear hge hol;have hc0:Chg No w w:=Chg.refl _ _;have hr0:=A0 ho;clear h ho;go_enter func186,ntmps186;go_wp2_with fail
  have HS1:=A0 (FS1.out w hc0 w w.heap.size bs ⟨#[123]⟩ rfl (Wkp.refl _ _ _) (FWR.out w hc0) (by simp[ByteArray.size];omega));refine HS1.out.mono ?_;rintro e u1 ⟨rfl,h1,h2⟩;have K1:=A0 h1;have R1:=A0 h2;clear h1 h2 HS1;go_wp2_with fail
  go_loopw [19] (λv wr=>∃j:Nat,j<=gs.length/\v=iV (j:Int)/\Hid (Wrt wr B wb tv false (bs++[123]++U8 false T (gs.take j)))/\Hid (Wkp B wb w wr)) (λv _=>gs.length - (intOf v).toNat)
  case atStart=>exact⟨0,wQ _,rfl,by simpa[U8]using R1,K1.out⟩
  case round=>
   obtain⟨j,hj,rfl,WR,CR⟩:=hrel;have hBr:B<=wr.heap.size:=kQ hBw (kQ hc0.size CR.out.size);by_cases hjl:j<gs.length
   · have hl:=K6b (bn:=false) (T:=T) gs hjl;have HT:=A0 (I8a (bn:=false) (T:=T) gs hjl);obtain⟨g,hga,hg,hg1,hg2,x0,x1⟩:=Z5a (FR.out w hc0 _ _ hr0.out wr CR.out) hjl;subst hga;unfold maxLen at hg2;have hzm:=hmem gs[j] (mQ hjl);unfold S0b at hl HT;generalize gs[j]=p at *;obtain⟨nm,zz⟩:=p;obtain⟨z,rfl⟩:∃z:Nat,zz=(z:Int):=⟨zz.toNat,by have:=hzm.1;simp only at this;omega⟩;have hzi:z<i:=by have:=hzm.2;simp only at this;omega
     simp only[tQ,qQ,jQ,xQ]at hl HT x0 x1;clear hzm;have ha1:Chg No wr (wr.alloc (.cells #[.string ⟨nm.toArray⟩,iV (z:Int)] 121)):=Chg.alloc _ _ _;have HW3:=A0 (E0d (B:=B) (wb:=wb) (tv:=tv) (bn:=false) (a0:=wr.alloc (.cells #[.string ⟨nm.toArray⟩,iV (z:Int)] 121)) (kQ hBr ha1.size) _ (wr.heap.size+1) _ ⟨#[32]⟩ ⟨nm.toArray⟩ ⟨#[58,32]⟩ (by simp) (Wkp.refl _ _ _) (WR.out.still ha1) (by simp[ByteArray.size];omega));have WA:=A0 (WR.out.still ha1);have CR2:=A0 (CR.out.trans (Wkp.still ha1));have hwr:wr.heap.size<(wr.alloc (.cells #[.string ⟨nm.toArray⟩,iV (z:Int)] 121)).heap.size:=by simp
     clear CR WR ha1;go_wp2_with fail
     refine HW3.out.mono ?_;rintro e w3 ⟨rfl,h3,h4⟩;have hq:=h3.other WA.out (heap_alloc_new wr _) (by decide) (by decide);have d1:w3.cell? (aD wr.heap.size 1)=some (iV (z:Int)):=cr hq rfl;have d2:wr.heap.size<w3.heap.size:=yQ hwr h3.size;have HWT:=A0 (FW.out w hc0 w3 z _ (CR2.out.trans h3) h4 hzi (by simp only[qQ,jQ,xQ];omega));clear h3 h4 hq WA CR2 HW3 hwr;go_wp2_with fail
     refine HWT.out.mono ?_;rintro e w4 ⟨rfl,h5,h6⟩;have HS4:=A0 (FS1.out w hc0 w4 w4.heap.size _ ⟨#[59]⟩ rfl h5 h6 (by simp[ByteArray.size];omega));clear h5 h6 HWT;go_wp2_with fail
     refine HS4.out.mono ?_;rintro e w5 ⟨rfl,h7,h8⟩;have K7:=A0 h7;have R8:=A0 h8;clear h7 h8 HS4;go_wp2;go_roundw
     case rel=>exact⟨j+1,by omega,by go_num,by rw[HT.out];simpa using R8,K7.out⟩
     case measure=>simp[intOf];omega
   · have hje:j=gs.length:=by omega
     subst hje;rw[List.take_length]at WR;have hcw:Wkp B wb w w:=Wkp.still hc0;by_cases hz:gs.length=0
     · have HS5:=A0 (FS1.out w hc0 wr wr.heap.size _ ⟨#[125]⟩ rfl CR.out WR.out (by simp[ByteArray.size];omega));have HE2:=HE.out;rw[if_pos hz]at HE2;have HE3:=A0 HE2;clear HE2 HE;clear CR WR;have hz0:(gs.length:Int)=0:=by omega
       simp only[hz0]at *;go_wp2_with fail
       refine HS5.out.mono ?_;rintro e w6 ⟨rfl,h9,h10⟩;go_wp2;go_end0;exact⟨rfl,hcw.trans h9,by rw[HE3.out];simpa using h10⟩
     · have hpos:(0:Int)<(gs.length:Int):=by omega
       have hlen4:=hlen3 hz;have HE2:=HE.out;rw[if_neg hz]at HE2;have HE3:=A0 HE2;clear HE2 HE;have HS5:=A0 (FS1.out w hc0 wr wr.heap.size _ ⟨#[32]⟩ rfl CR.out WR.out (by simp[ByteArray.size];omega));clear CR WR;go_wp2_with fail
       refine HS5.out.mono ?_;rintro e w6 ⟨rfl,h9,h10⟩;have HS6:=A0 (FS1.out w hc0 w6 w6.heap.size _ ⟨#[125]⟩ rfl h9 h10 (by simp[ByteArray.size];omega));clear h9 h10 HS5;go_wp2_with fail
       refine HS6.out.mono ?_;rintro e w7 ⟨rfl,h11,h12⟩;go_wp2;go_end0;exact⟨rfl,hcw.trans h11,by rw[HE3.out];simpa using h12⟩
 |true=>
  have hgs:gs=M.J8a fs:=by rw[<-hge];rfl
  have HC:=A0 (S6b w fs fa fc ho (by omega));clear h ho;go_enter func186,ntmps186;go_wp2_with fail
  refine HC.out.mono ?_;rintro e w1 ⟨ga,gc,rfl,k1,o1⟩;have HC2:=A0 (I0c w1 w.heap.size fs hnn.out _ o1 (by omega));have K1:=A0 k1;have O1:=A0 o1;clear k1 o1 HC;go_wp2_with fail
  refine HC2.out.mono ?_;rintro e w2 ⟨rfl,k2,o2⟩;have hc0:Chg No w w2:=K1.out.trans k2 (λk hk x=>by have:=(A9 O1.out k x.symm).1;omega);rw[<-hgs]at o2;have hr0:=A0 (C7 o2 (wQ _));clear K1 O1 HC2 k2 o2 hgs hnn hge;generalize fs.length=n at *;subst hol;go_wp2_with fail
  have HS1:=A0 (FS1.out w2 hc0 w2 w2.heap.size bs ⟨#[123]⟩ rfl (Wkp.refl _ _ _) (FWR.out w2 hc0) (by simp[ByteArray.size];omega));refine HS1.out.mono ?_;rintro e u1 ⟨rfl,h1,h2⟩;have K1:=A0 h1;have R1:=A0 h2;clear h1 h2 HS1;go_wp2_with fail
  go_loopw [19] (λv wr=>∃j:Nat,j<=gs.length/\v=iV (j:Int)/\Hid (Wrt wr B wb tv true (bs++[123]++U8 true T (gs.take j)))/\Hid (Wkp B wb w2 wr)) (λv _=>gs.length - (intOf v).toNat)
  case atStart=>exact⟨0,wQ _,rfl,by simpa[U8]using R1,K1.out⟩
  case round=>
   obtain⟨j,hj,rfl,WR,CR⟩:=hrel;have hBr:B<=wr.heap.size:=kQ hBw (kQ hc0.size CR.out.size);by_cases hjl:j<gs.length
   · have hl:=K6b (bn:=true) (T:=T) gs hjl;have HT:=A0 (I8a (bn:=true) (T:=T) gs hjl);obtain⟨g,hga,hg,hg1,hg2,x0,x1⟩:=Z5a (FR.out w2 hc0 _ _ hr0.out wr CR.out) hjl;subst hga;unfold maxLen at hg2;have hzm:=hmem gs[j] (mQ hjl);unfold S0b at hl HT;generalize gs[j]=p at *;obtain⟨nm,zz⟩:=p;obtain⟨z,rfl⟩:∃z:Nat,zz=(z:Int):=⟨zz.toNat,by have:=hzm.1;simp only at this;omega⟩;have hzi:z<i:=by have:=hzm.2;simp only at this;omega
     simp only[tQ,qQ,jQ,xQ]at hl HT x0 x1;clear hzm;have ha1:Chg No wr (wr.alloc (.cells #[.string ⟨nm.toArray⟩,iV (z:Int)] 121)):=Chg.alloc _ _ _;have HW3:=A0 (E0d (B:=B) (wb:=wb) (tv:=tv) (bn:=true) (a0:=wr.alloc (.cells #[.string ⟨nm.toArray⟩,iV (z:Int)] 121)) (kQ hBr ha1.size) _ (wr.heap.size+1) _ ⟨#[32]⟩ ⟨nm.toArray⟩ ⟨#[58,32]⟩ (by simp) (Wkp.refl _ _ _) (WR.out.still ha1) (by simp[ByteArray.size];omega));have WA:=A0 (WR.out.still ha1);have CR2:=A0 (CR.out.trans (Wkp.still ha1));have hwr:wr.heap.size<(wr.alloc (.cells #[.string ⟨nm.toArray⟩,iV (z:Int)] 121)).heap.size:=by simp
     clear CR WR ha1;go_wp2_with fail
     refine HW3.out.mono ?_;rintro e w3 ⟨rfl,h3,h4⟩;have hq:=h3.other WA.out (heap_alloc_new wr _) (by decide) (by decide);have d1:w3.cell? (aD wr.heap.size 1)=some (iV (z:Int)):=cr hq rfl;have d2:wr.heap.size<w3.heap.size:=yQ hwr h3.size;have HWT:=A0 (FW.out w2 hc0 w3 z _ (CR2.out.trans h3) h4 hzi (by simp only[qQ,jQ,xQ];omega));clear h3 h4 hq WA CR2 HW3 hwr;go_wp2_with fail
     refine HWT.out.mono ?_;rintro e w4 ⟨rfl,h5,h6⟩;have HS4:=A0 (FS1.out w2 hc0 w4 w4.heap.size _ ⟨#[59]⟩ rfl h5 h6 (by simp[ByteArray.size];omega));clear h5 h6 HWT;go_wp2_with fail
     refine HS4.out.mono ?_;rintro e w5 ⟨rfl,h7,h8⟩;have K7:=A0 h7;have R8:=A0 h8;clear h7 h8 HS4;go_wp2;go_roundw
     case rel=>exact⟨j+1,by omega,by go_num,by rw[HT.out];simpa using R8,K7.out⟩
     case measure=>simp[intOf];omega
   · have hje:j=gs.length:=by omega
     subst hje;rw[List.take_length]at WR;have hcw:Wkp B wb w w2:=Wkp.still hc0;by_cases hz:gs.length=0
     · have HS5:=A0 (FS1.out w2 hc0 wr wr.heap.size _ ⟨#[125]⟩ rfl CR.out WR.out (by simp[ByteArray.size];omega));have HE2:=HE.out;rw[if_pos hz]at HE2;have HE3:=A0 HE2;clear HE2 HE;clear CR WR;have hz0:(gs.length:Int)=0:=by omega
       simp only[hz0]at *;go_wp2_with fail
       refine HS5.out.mono ?_;rintro e w6 ⟨rfl,h9,h10⟩;go_wp2;go_end0;exact⟨rfl,hcw.trans h9,by rw[HE3.out];simpa using h10⟩
     · have hpos:(0:Int)<(gs.length:Int):=by omega
       have hlen4:=hlen3 hz;have HE2:=HE.out;rw[if_neg hz]at HE2;have HE3:=A0 HE2;clear HE2 HE;have HS5:=A0 (FS1.out w2 hc0 wr wr.heap.size _ ⟨#[32]⟩ rfl CR.out WR.out (by simp[ByteArray.size];omega));clear CR WR;go_wp2_with fail
       refine HS5.out.mono ?_;rintro e w6 ⟨rfl,h9,h10⟩;have HS6:=A0 (FS1.out w2 hc0 w6 w6.heap.size _ ⟨#[125]⟩ rfl h9 h10 (by simp[ByteArray.size];omega));clear h9 h10 HS5;go_wp2_with fail
       refine HS6.out.mono ?_;rintro e w7 ⟨rfl,h11,h12⟩;go_wp2;go_end0;exact⟨rfl,hcw.trans h11,by rw[HE3.out];simpa using h12⟩
theorem R3a(hls:∀i (hi:i<T.length),T[i].list.length<=100000000/\T[i].fields.length<=2001):∀m,E6c B wb tv bn T m
 |0=>λi w bs hm=>by omega
 |m+1=>λi w bs him hi h hBw hlen=>Z4b (R3a hls m) i (by omega) (Q0b (R3a hls m) i (by omega) hi (hls i hi).2) hi w bs h hBw hlen (hls i hi).1
end
theorem M0b{w:World}{B wb:Nat}{tv:Value}{bn:Bool}{l:List UInt8}(h:Wrt w B wb tv bn l)(h0:l≠[]):
 Calls prog 182 #[pV wb] w λe w'=>e= .returned (.string ⟨l.toArray⟩)/\Below B w w':=by
 obtain⟨hB,p,v,hbk,_,hown⟩:=h;have hl0:l.length≠0:=by simpa using h0
 obtain⟨g,cap,cur,rfl,hbg,hg,hnc,hcm,hcs,htake⟩:∃g cap cur,v= .slice (some (aD g 0)) l.length cap/\B<=g/\w.heap[g]? =some (.cells cur 5 (0,0))/\l.length<=cap/\cap<=maxLen/\cur.size=cap * 1/\cur.toList.take (l.length * 1)=Lib.byteCells l:=by
  rcases hown.2 with ⟨_,hz⟩|⟨g,cap,cur,hv,r⟩
  · exact absurd hz hl0
  · exact⟨g,cap,cur,hv,r⟩
 have c1:w.drew.cell? (aD wb 1)=some (.slice (some (aD g 0)) l.length cap):=by
  have:w.drew.heap[wb]? =some (.cells #[p,.slice (some (aD g 0)) l.length cap,tv,.bool bn] 183 (0,0)):=hbk;rw[cell_of_row w.drew wb 1 _ _ _ this];rfl
 have hSD:(Builtin.unsafeSliceData_ #[179] 192 #[.slice (some (aD g 0)) l.length cap]).run prog w.drew= .ok (pV g) w.drew:=
  Lib.run_unsafeSliceData_row _ _ _ _ _ _ (by omega)
 have hUS:(Builtin.unsafeString_ #[192,3] 9 #[pV g,iV l.length]).run prog w.drew= .ok (.string ⟨l.toArray⟩) (w.drew.freeze (aD g 0) l.length):=by
  refine Lib.run_unsafeString_row w.drew 192 3 9 5 underlying192 Tryz.cellsByte g cur.size (by have hg':w.drew.heap[g]? =some (.cells cur 5 (0,0)):=hg;simp[World.shape?,hg']) l h0 (by omega) (by unfold maxLen at hcm;omega) ?_;intro j x hx;have:=hown.cells (g:=g) rfl j (.int .u8 x.toNat) (by simp[Lib.byteCells,hx]);exact this
 clear hown hbk htake hg hcs;go_enter func182,ntmps182;go_wp2;go_region
 all_goals (go_wp2;go_ret;exact⟨rfl,Lib.below_freeze (Below.drew (Below.refl B w)) (p:=(aD g 0)) hbg _⟩)
def Few(T:List M.Ty):Prop:=∀i (hi:i<T.length),T[i].list.length<=100000000/\T[i].fields.length<=2001
theorem D1d{bn:Bool}{T:List M.Ty}{i:Nat}(hT:M.TsOk T)(hi:i<T.length):wtx bn T i≠[]:=by
 unfold wtx wtr;split
 · exact M.G1c _ (M.D4d _ (M.X9a hT i hi))
 · exact M.G1c _ (M.X9a hT i hi)
theorem U2b{bn:Bool}{T:List M.Ty}{i:Nat}:(wtx bn T i).length<=M.wg (M.tr T i):=by
 unfold wtx wtr;split
 · exact kQ (M.J4b _) (M.D3d _)
 · exact M.J4b _
section
variable{lb mb N:Nat}{T:List M.Ty}{D:Dt}
theorem X5c(w:World)(h:Shp w lb mb N T D)(hf:Few T)(bn:Bool)(wb:Nat)(hwb:w.heap[wb]? =some (.cells #[.pointer none,sN,sN,.bool bn] 183 (0,0)))(i:Nat)(hi:i<T.length)(hl:M.wg (M.tr T i)<=1000000000):
 Calls prog 169 #[pV lb,pV wb,iV (i:Int)] w λe w'=>e= .returned (.string ⟨(wtx bn T i).toArray⟩)/\Below wb w w':=by
 have hT:=h.ok;obtain⟨_,_,yv,yx,hb,ho,hr⟩:=h;obtain⟨ad,c,rfl⟩:=B7 ho;have hlt:=(ltG hwb);have hlb:=(ltG hb);have c0:w.cell? (aD lb 0)=some (.slice ad T.length c):=cr hb rfl;have c2:w.cell? (aD wb 2)=some (sN):=cr hwb rfl;have f2:w.frozen? (aD wb 2)=false:=frozen_of_row w wb 2 _ _ hwb;have hc1:=Chg.set w (aD wb 2) (.slice ad T.length c);have ne:∀g cur e,w.heap[g]? =some (.cells cur e (0,0))->e≠183->¬g=wb:=by
  rintro g cur e hg he rfl;rw[hwb]at hg;simp only[zQ,xW]at hg;exact he hg.2.1.symm
 have hw1:Wrt (w.setCell (aD wb 2) (.slice ad T.length c)) wb wb (.slice ad T.length c) bn []:=⟨vQ _,.pointer none,sN,by rw[heap_setCell_same w wb 2 _ _ _ hwb];rfl,.inl rfl,kW _ _ _ _⟩;have hs1:Wsp (w.setCell (aD wb 2) (.slice ad T.length c)) wb wb (.slice ad T.length c) bn T []:=by
  refine⟨hw1,hT,yx,A3 (C7 ho (wQ _)) hc1 λg hg x=> ?_,hr.imp (TyV.chg hc1 (λg _ _ hx hh=> ?_) (λ_ _ _=>trivial))⟩
  · obtain⟨_,cur,hh⟩:=A9 ho g hg;exact ne g cur _ hh (by decide) x
  · obtain⟨cur,e,hh,he⟩:=hh;exact ne g cur _ hh (by rcases he with rfl|rfl<;>decide) hx
 have hlen:=U2b (bn:=bn) (T:=T) (i:=i);have HT:=A0 (R3a (B:=wb) (wb:=wb) (tv:=(.slice ad T.length c)) (bn:=bn) hf (i+1) i _ [] (vQ _) hi hs1 (by simp;omega) (by simp;omega));have HN:=A0 (D1d (bn:=bn) hT hi);have HC1:=A0 (hc1.toBelow (B:=wb) (λk _ x=>by have x':k=wb:=x;omega) (by omega));clear hs1 hw1 hc1 ho hr hb hwb ne;go_enter func169,ntmps169;go_wp2_with fail
 refine HT.out.mono ?_;rintro e w2 ⟨rfl,h2,h3⟩;have hw2:wb<w2.heap.size:=h3.tys.2.2;rw[List.nil_append]at h3;have HS:=A0 (M0b h3 HN.out);have HC2:=A0 (HC1.out.trans (h2.below (by simp;omega)));clear h2 h3 HT;go_wp2_with fail
 refine HS.out.mono ?_;rintro e w3 ⟨rfl,h4⟩;have HC3:=A0 (HC2.out.trans h4);clear h4;go_wp2;go_ret;exact⟨rfl,HC3.out⟩
theorem X9c(w:World)(h:Shp w lb mb N T D)(hf:Few T)(i:Nat)(hi:i<T.length)(hl:M.wg (M.tr T i)<=1000000000):
 Calls prog 146 #[pV lb,iV (i:Int)] w λe w'=>e= .returned (.string ⟨(wtx true T i).toArray⟩)/\Chg No w w':=by
 have HT:=A0 (X5c _ (h.alloc (.cells #[.pointer none,sN,sN,.bool true] 183)) hf true w.heap.size (heap_alloc_new w _) i hi hl);clear h;go_enter func146,ntmps146;go_wp2_with fail
 refine HT.out.mono ?_;rintro e w2 ⟨rfl,h2⟩;have HC:=A0 (((Chg.alloc (λk=>w.heap.size<=k) w _).trans (Chg.below h2) (λ_ _ x=>x)).mono (S':=λ_=>False) (λk hk x=>by omega));clear h2;go_wp2;go_ret;exact⟨rfl,HC.out⟩
end
end Go.Proofs.YtfhhipefecekkaaGreatDoor
