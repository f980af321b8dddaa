/-
  A part of the proof.
-/
import Derived.Test.YtgdnpemiiageaaaGreatDoorScanB
import Derived.Test.YtgdnpemiiageaaaGreatDoorWho
set_option maxHeartbeats 16000000
set_option maxRecDepth 100000
namespace Go.Proofs.YtgdnpemiiageaaaGreatDoor
open Go.RowKit
theorem Tryz.info119:(Tryz.prog.info? 119).map (fun i=>(i.zero,i.size,i.bytes))=some (some (.agg #[iV 0,.string ⟨#[]⟩,iV 0]),3,32):=by kernel_rfl
def Ans (R:List M.Tk×Int×Nat) (w:World) (e:Ending) (w':World):Prop:=
 ∃ad c,e= .returned (.tuple #[.slice ad R.1.length c,.agg #[iV R.2.1,iV (R.2.2:Int)]])/\w'.ownsRow w.heap.size 119 3 (.slice ad R.1.length c) R.1.length (B0a R.1)/\Below w.heap.size w w'
theorem C5b {w:World} {base base':Nat} {e:TypeId} {size:Nat} {v:Value} {n:Nat} {xs:List Value} (h:w.ownsRow base e size v n xs) (hb:base'<=base):w.ownsRow base' e size v n xs:=by
 obtain⟨h1,h2⟩:=h;refine⟨h1, ?_⟩;rcases h2 with h2|⟨g,cap,cur,hv,hg,r⟩
 · exact .inl h2
 · exact .inr ⟨g,cap,cur,hv,Nat.le_trans hb hg,r⟩
theorem K6a {w:World} {base:Nat} {e:TypeId} {size:Nat} {v:Value} {n:Nat} {xs:List Value} (h:w.ownsRow base e size v n xs):∃ad c,v= .slice ad n c:=by
 rcases h.2 with ⟨rfl,rfl⟩|⟨g,cap,cur,hv,_⟩
 · exact⟨_,_,rfl⟩
 · exact⟨_,_,hv⟩
theorem O0a {w w':World} (e:Int) (a:Nat) (hb:Below w.heap.size w w'):Ans ([],e,a) w (.returned (.tuple #[sN,.agg #[iV e,iV (a:Int)]])) w':=
 ⟨none,0,rfl,World.ownsRow_nil _ _ _ _,hb⟩
theorem J0b {w wr:World} {cs:Array Value} {t:TypeId} (h:Below (w.heap.size+1) (w.alloc (.cells cs t)) wr):
 (∀o v,cs[o]? =some v->wr.cell? (aD w.heap.size o)=some v)/\(∀o,wr.frozen? (aD w.heap.size o)=false)/\w.heap.size<wr.heap.size:=by
 refine⟨fun o v hv=> ?_,fun o=> ?_, ?_⟩
 · rw[h.cell (p:=(aD w.heap.size o)) (by simp),World.cell?_alloc_new,hv]
 · rw[h.frozen (p:=(aD w.heap.size o)) (by simp)];simp
 · have:=h.size;simp at this;omega
theorem O9a {w wr w1:World} {o o2:Obj} (hnx:Below (w.heap.size+1) (w.alloc o) wr) (hb:Below wr.heap.size wr w1) (v0 v1:Value):
 Below w.heap.size w (((w1.setCell (aD w.heap.size 0) v0).setCell (aD w.heap.size 1) v1).alloc o2):=by
 have h1:Below w.heap.size w wr:=((Below.refl _ _).alloc (Nat.le_refl _) o).trans (hnx.mono (by omega));have h2:=((h1.trans (hb.mono h1.size)).setCell (p:=(aD w.heap.size 0)) (by simp) v0).setCell (p:=(aD w.heap.size 1)) (by simp) v1;exact h2.alloc h2.size _
theorem X1a {w w':World} {base:Nat} {e:TypeId} {size:Nat} {v:Value} {n:Nat} {xs:List Value} (h:w.ownsRow base e size v n xs) (hb:Below w.heap.size w w'):w'.ownsRow base e size v n xs:=
 h.kept (row:=none) ⟨hb.os,hb.tape,hb.output,hb.size,fun k hk _=>hb.block k hk⟩ (by cases hv:v.ownBlock<;>simp)
theorem V5a (w:World) (o:Obj) (x y z:Value) (t:TypeId):∀j u,[x,y,z][j]? =some u->((w.alloc o).alloc (.cells #[x,y,z] t)).cell? (((aD (w.heap.size+1) 0):Addr).add j)=some u:=by
 intro j u hj;have hadd:((aD (w.heap.size+1) 0):Addr).add j=(aD (w.heap.size+1) j):=by unfold Addr.add;split<;>simp_all
 rw[hadd,World.cell?_alloc_at _ _ _ _ (by simp)];rw[<-hj];simp
theorem V4a (w:World) (x y z:Value) (t:TypeId):∀j u,[x,y,z][j]? =some u->(w.alloc (.cells #[x,y,z] t)).cell? (((aD w.heap.size 0):Addr).add j)=some u:=by
 intro j u hj;have hadd:((aD w.heap.size 0):Addr).add j=(aD w.heap.size j):=by unfold Addr.add;split<;>simp_all
 rw[hadd,World.cell?_alloc_at _ _ _ _ rfl];rw[<-hj];simp
theorem I2b {w2:World} {base n:Nat} {ad:Option Addr} {c:Nat} {acc:List M.Tk} {t:M.Tk} (h:w2.ownsRow base 119 3 (.slice ad n c) n (B0a acc++[iV t.kind,.string ⟨t.text.toArray⟩,iV (t.at':Int)])):
 w2.ownsRow base 119 3 (.slice ad n c) n (B0a (acc++[t])):=by rw[Z6b];exact h
theorem rel_below' {w wr w2:World} {o o2:Obj} {v:Value} {n:Nat} {xs:List Value} (hnx:Below (w.heap.size+1) (w.alloc o) wr) (hown:wr.ownsRow (w.heap.size+1) 119 3 v n xs)
 (hg:(wr.alloc o2).grownBy w2 v.ownBlock):Below (w.heap.size+1) (w.alloc o) w2:=by
 have hsz:w.heap.size+1<=wr.heap.size:=by have:=hnx.size;simpa using this
 exact(hnx.alloc hsz o2).grown hg (by simp;omega) (fun k hk=>(hown.lt k hk).1)
theorem Z8b {w wr w1 w2:World} {o o2 o3:Obj} {v:Value} {n:Nat} {xs:List Value} (hnx:Below (w.heap.size+1) (w.alloc o) wr) (hb:Below wr.heap.size wr w1) (hown:wr.ownsRow (w.heap.size+1) 119 3 v n xs)
 (hg:((w1.alloc o2).alloc o3).grownBy w2 v.ownBlock):Below (w.heap.size+1) (w.alloc o) w2:=by
 have hsz:w.heap.size+1<=wr.heap.size:=by have:=hnx.size;simpa using this
 have h1:=hnx.trans (hb.mono hsz);have hsz1:w.heap.size+1<=w1.heap.size:=Nat.le_trans hsz hb.size;exact((h1.alloc hsz1 o2).alloc (by simp;omega) o3).grown hg (by simp;omega) (fun k hk=>(hown.lt k hk).1)
theorem H8d {w w2:World} {o:Obj} {ad:Option Addr} {c n:Nat} {acc:List M.Tk} {L:Nat} (ho:w2.ownsRow (w.heap.size+1) 119 3 (.slice ad (acc.length+1) c) (acc.length+1) (B0a (acc++[⟨6,[],L⟩])))
 (hb:Below (w.heap.size+1) (w.alloc o) w2) (v0 v1:Value):Ans (acc++[⟨6,[],L⟩],0,n) w (.returned (.tuple #[.slice ad (acc.length+1) c,.agg #[iV 0,iV (n:Int)]])) ((w2.setCell (aD w.heap.size 0) v0).setCell (aD w.heap.size 1) v1):=by
 refine⟨ad,c,by simp, ?_,((((Below.refl _ _).alloc (Nat.le_refl _) o).trans (hb.mono (by omega))).setCell (by simp) _).setCell (by simp) _⟩;have:=C5b (ownsRow_setCell_below (ownsRow_setCell_below ho (a:=(aD w.heap.size 0)) (by simp) v0) (a:=(aD w.heap.size 1)) (by simp) v1) (Nat.le_succ _);simpa using this
theorem H3c (s:ByteArray) (w:World) (hs:s.size<=maxLen):Calls Tryz.prog 26 #[.string s] w (Ans (M.I6 s.data.toList) w):=by
 have hR:Hid (M.I6 s.data.toList=if 4000<s.size then ([],2,0) else M.O0 (s.size+1) s.data.toList 0 []):=by show _=_;unfold M.I6;rw[bl]
 generalize M.I6 s.data.toList=R at *;unfold maxLen at hs;by_cases hbig:(4000:Int)<s.size
 · go_enter Tryz.func26,Tryz.ntmps26;go_wp2;rw[hR.out,if_pos (by omega)];exact bodyPost_ret (v:= .tuple #[sN,.agg #[iV 2,iV ((0:Nat):Int)]]) (by simp[results,Tryz.results26,go_sem]) rfl (O0a 2 0 ((Below.refl _ _).alloc (Nat.le_refl _) _))
 · rw[if_neg (by omega)]at hR;go_enter Tryz.func26,Tryz.ntmps26;go_wp2_with fail
   refine(H4b s 0 _ (by omega) (by omega)).mono ?_;rintro e w1 ⟨rfl,rfl⟩;have hle:=M.C5a M.blank (s.data.toList.drop 0);rw[List.length_drop,bl]at hle;have hle2:0+M.sp M.blank (s.data.toList.drop 0)<=s.size:=by omega
   clear hle;rw[M.S4a]at hR;have h0:Hid (M.sp M.blank (s.data.toList.drop (0+M.sp M.blank (s.data.toList.drop 0)))=0):=by
    have h:=M.Q3a M.blank (s.data.toList.drop 0);rw[List.drop_drop]at h;exact h
   generalize 0+M.sp M.blank (s.data.toList.drop 0)=a at *;go_wp2_with fail
   go_loopw [4,5] (fun v i wr=>∃(a f:Nat) (acc:List M.Tk) (ad:Option Addr) (c:Nat),a<=s.size/\i=iV a/\Hid (M.sp M.blank (s.data.toList.drop a)=0)/\s.size - a<f+1/\Hid (R=M.O0 (f+1) s.data.toList a acc)/\acc.length<=1000/\v= .slice ad acc.length c/\
    Hid (wr.ownsRow (w.heap.size+1) 119 3 (.slice ad acc.length c) acc.length (B0a acc))/\Hid (Below (w.heap.size+1) (w.alloc (Obj.cells #[Value.int IntKind.i64 0,Value.int IntKind.i64 0] 26)) wr)) (fun _ i _=>s.size - (intOf i).toNat)
   case atStart=>exact⟨a,s.size,[],none,0,by omega,rfl,h0,by omega,hR,by simp,rfl,World.ownsRow_nil _ _ _ _,Below.refl _ _⟩
   case round=>
    clear hR h0 hle2;obtain⟨a,f,acc,ad,c,ha,rfl,hbl,hf,hR,hacc,rfl,hown,hnx⟩:=hrel;have HR:=hR.out;rw[M.I0b _ _ _ _ hbl.out,bl]at HR;clear hR hbl;obtain⟨hwc,hwf,hwz⟩:=J0b hnx.out;by_cases hlt:a<s.size
    · rw[if_neg (by omega)]at HR;go_wp2_with fail
      refine(D0c _ _ (Nat.le_trans (D0a _ _ _) (by omega)) (by rw[ByteArray.size_extract];omega)).mono ?_;rintro e w1 ⟨rfl,hb⟩;rw[Q9a];have hfl:=M.L0b (s.data.toList.drop a);rw[List.length_drop,bl]at hfl;generalize M.first (s.data.toList.drop a)=r at *;obtain⟨k,t,n⟩:=r;simp only at HR hfl;unfold res;have HRR:=A0 HR;clear HR;obtain⟨hc,hfz⟩:=I1a hb;have q0:w1.cell? (aD w.heap.size 0)=some (iV 0):=(hc _ _ hwz).trans (hwc 0 _ rfl);have q1:w1.cell? (aD w.heap.size 1)=some (iV 0):=(hc _ _ hwz).trans (hwc 1 _ rfl);have z0:∀o,w1.frozen? (aD w.heap.size o)=false:=fun o=>(hfz _ _ hwz).trans (hwf o);have hz:w.heap.size<w1.heap.size:=Nat.lt_of_lt_of_le hwz hb.size;have HB:=A0 hb;clear hc hfz hb hwc hwf;by_cases hn:n=0
      · subst hn;go_wp2_with fail
        rw[HRR.out,if_pos (by trivial)];exact bodyPost_ret (v:= .tuple #[sN,.agg #[iV 1,iV (a:Int)]]) (by simp[results,Tryz.results26,go_sem,q0,q1,hz]) rfl (O0a 1 a (O9a hnx.out HB.out _ _))
      · have hn':((n:Int)==0)=false:=by simp;omega
        have HRR2:=HRR.out;rw[if_neg hn]at HRR2;have HR3:=A0 HRR2;clear HRR2 HRR;by_cases hm:acc.length=1000
        · have hm':((acc.length:Int)==1000)=true:=by simp;omega
          rw[if_pos hm]at HR3;clear hm;go_wp2_with fail
          rw[HR3.out];exact bodyPost_ret (v:= .tuple #[sN,.agg #[iV 2,iV (a:Int)]]) (by simp[results,Tryz.results26,go_sem,q0,q1,hz]) rfl (O0a 2 a (O9a hnx.out HB.out _ _))
        · have hm':((acc.length:Int)==1000)=false:=by simp;omega
          rw[if_neg hm]at HR3;have hm2:acc.length<1000:=by omega
          clear hm;obtain⟨i0,hi,hz0,hz1,hz2⟩:=info_parts Tryz.info119;have hw2:=(X1a hown.out HB.out).alloc (.cells #[Value.int IntKind.i64 k,Value.string { data:=t.toArray },Value.int IntKind.i64 (a:Int)] 119);have hw3:=A0 (hw2.alloc (.cells #[Value.int IntKind.i64 k,Value.string { data:=t.toArray },Value.int IntKind.i64 (a:Int)] 119));clear hw2;go_wp2_with (at_builtin;refine wpList_append_own _ rfl _ _ 91 rfl (w.heap.size+1) 119 i0 (.agg #[iV 0,.string ⟨#[]⟩,iV 0]) 3 32 Tryz.underlying91 hi hz0 hz1 hz2 rfl (by decide) _ _ _ rfl hw3.out (aD (w1.heap.size+1) 0) 1 1 [iV k,.string ⟨t.toArray⟩,iV (a:Int)] rfl rfl ?c1 ?c2 ?c3 ?c4 ?c5 ?_)
          case c1=>exact V5a _ _ _ _ _ _
          case c2=>intro u hu;simp at hu;rcases hu with rfl|rfl|rfl<;>rfl
          case c3=>simp only[maxLen];omega
          case c4=>omega
          case c5=>simp;omega
          · intro v' w2 hown2 hg2 _;obtain⟨ad2,c2,hv2⟩:=K6a hown2;rw[hv2]at hown2⊢;obtain⟨f',rfl⟩:∃f',f=f'+1:=⟨f - 1,by omega⟩;rw[M.S4a]at HR3;have hsk:=M.C5a M.blank (s.data.toList.drop (a+n));rw[List.length_drop,bl]at hsk;have hbl:=A0 (M.Q3a M.blank (s.data.toList.drop (a+n)));rw[List.drop_drop]at hbl;have HO:=A0 (I2b (t:=⟨k,t,a⟩) hown2);have HBB:=A0 (Z8b hnx.out HB.out hown.out hg2);clear hown2 hg2 hown hnx HB hw3;go_wp2_with fail
            rw[show ((a:Int)+(n:Int))=((a+n:Nat):Int) from by omega];refine(H4b s (a+n) _ (by omega) (by omega)).mono ?_;rintro e w3 ⟨rfl,rfl⟩;generalize hsp:M.sp M.blank (s.data.toList.drop (a+n))=b at *;clear hsp;go_wp2_with fail
            go_roundw
            case rel=>exact⟨a+n+b,f',_,ad2,c2,by omega,rfl,hbl,by omega,HR3,by simp;omega,by simp,by have:=HO.out;show World.ownsRow _ _ _ _ _ _ _;simpa using this,HBB⟩
            case measure=>simp[intOf];omega
    · rw[if_pos (by omega)]at HR;have HR3:=A0 HR;clear HR;have hz:w.heap.size<wr.heap.size:=hwz;obtain⟨i0,hi,hz0,hz1,hz2⟩:=info_parts Tryz.info119;have hw3:=A0 (hown.out.alloc (.cells #[Value.int IntKind.i64 6,Value.string { data:=#[] },Value.int IntKind.i64 (s.size:Int)] 119));go_wp2_with (at_builtin;refine wpList_append_own _ rfl _ _ 91 rfl (w.heap.size+1) 119 i0 (.agg #[iV 0,.string ⟨#[]⟩,iV 0]) 3 32 Tryz.underlying91 hi hz0 hz1 hz2 rfl (by decide) _ _ _ rfl hw3.out (aD wr.heap.size 0) 1 1 [iV 6,.string ⟨#[]⟩,iV (s.size:Int)] rfl rfl ?c1 ?c2 ?c3 ?c4 ?c5 ?_)
      case c1=>exact V4a _ _ _ _ _
      case c2=>intro u hu;simp at hu;rcases hu with rfl|rfl|rfl<;>rfl
      case c3=>simp only[maxLen];omega
      case c4=>omega
      case c5=>simp;omega
      · intro v' w2 hown2 hg2 _;obtain⟨ad2,c2,hv2⟩:=K6a hown2;rw[hv2]at hown2⊢;have HO:=A0 (I2b (t:=⟨6,[],s.size⟩) hown2);have HBB:=A0 (rel_below' hnx.out hown.out hg2);clear hown2 hg2 hown hnx hw3 hwc hwf hwz hv2;obtain⟨hwc,hwf,hwz⟩:=J0b HBB.out;have q0:w2.cell? (aD w.heap.size 0)=some (iV 0):=hwc 0 _ rfl;have q1:w2.cell? (aD w.heap.size 1)=some (iV 0):=hwc 1 _ rfl;clear hwc;go_wp2_with fail
        rw[HR3.out];exact bodyPost_ret (v:= .tuple #[.slice ad2 (acc.length+1) c2,.agg #[iV 0,iV ((0:Nat):Int)]]) (by simp[results,Tryz.results26,go_sem,q0,q1]) rfl (H8d HO.out HBB.out _ _)
open Go.RowKit
def TyOwn (w:World) (lo:Nat) (v:Value) (T:List M.Ty):Prop:=∃yx,w.ownsRow lo 68 4 v T.length yx/\Rws (TyV w (fun g=>lo<=g)) T yx
theorem T7c {w:World} {B c pb:Nat} (hpb:pb=w.heap.size) {ad:Option Addr} {L:List M.Tk} {ok:Nat->Prop} (hB:B<=w.heap.size) (hok:∀g,w.heap.size<=g->ok g) (hL:0<L.length) (ho:w.ownsRow B 119 3 (.slice ad L.length c) L.length (B0a L)):
 Pst (w.alloc (.cells #[.slice ad L.length c,iV 0,iV 0,sN,sN] 96)) B pb (.slice ad L.length c) L ok 0 ⟨0,[],[]⟩:=by
 subst hpb;exact⟨hB,hL,⟨by simp,by simp⟩,C9 (ho.alloc _) (Nat.zero_le _),⟨hok _ (Nat.le_refl _),fun v g hv hg=>by rw[World.cell?_alloc_new]at hv;cases hv;simp[Value.ownBlock]at hg,fun v g hv hg=>by rw[World.cell?_alloc_new]at hv;cases hv;simp[Value.ownBlock]at hg⟩,_,_,[],[],heap_alloc_new w _,World.ownsRow_nil _ _ _ _,World.ownsRow_nil _ _ _ _,rfl,rfl⟩
end Go.Proofs.YtgdnpemiiageaaaGreatDoor
