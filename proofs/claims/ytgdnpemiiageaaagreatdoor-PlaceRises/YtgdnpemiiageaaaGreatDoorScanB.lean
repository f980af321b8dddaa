/-
  A part of the proof.
-/
import Derived.Test.YtgdnpemiiageaaaGreatDoorScanA
import Derived.Test.YtgdnpemiiageaaaGreatDoorShelf
set_option maxHeartbeats 16000000
set_option maxRecDepth 100000
namespace Go.Proofs.YtgdnpemiiageaaaGreatDoor
open Go.RowKit
theorem I1a {W w1:World} (hb:Below W.heap.size W w1):(∀b o,b<W.heap.size->w1.cell? (aD b o)=W.cell? (aD b o))/\(∀b o,b<W.heap.size->w1.frozen? (aD b o)=W.frozen? (aD b o)):=
 ⟨fun b o h=>hb.cell (p:=(aD b o)) h,fun b o h=>hb.frozen (p:=(aD b o)) h⟩
theorem E2a {w w1:World} {o:Obj} (hb:Below (w.alloc o).heap.size (w.alloc o) w1) (v0 v1 v2:Value):
 Below w.heap.size w (((w1.setCell (aD w.heap.size 0) v0).setCell (aD w.heap.size 1) v1).setCell (aD w.heap.size 2) v2):=
 (((((Below.refl _ _).alloc (Nat.le_refl _) o).trans (hb.mono (by simp))).setCell (by simp) _).setCell (by simp) _).setCell (by simp) _
theorem Q9a (s:ByteArray) (a:Nat):(s.extract a s.size).data.toList=s.data.toList.drop a:=by
 rw[ByteArray.data_extract,Array.toList_extract,List.extract_eq_take_drop];have:s.data.toList.length=s.size:=bl s;rw[List.take_of_length_le (by rw[List.length_drop];omega)]
theorem D5c (s:ByteArray) (w:World) (hs:s.size<=4000):Calls Tryz.prog 137 #[.string s] w fun e w'=>e= .returned (.string s)/\Below w.heap.size w w':=by
 go_enter Tryz.func137,Tryz.ntmps137;go_wp2_with (go_at_call 164;refine(Tryz.stringslite_Clone _ _ (by omega)).mono ?_;rintro e w' ⟨rfl,hb⟩)
 go_ret;exact⟨rfl,hb⟩
theorem K7a (k:Int) (s:ByteArray) (w:World) (hs:s.size<=4000):Calls Tryz.prog 112 #[iV k,.string s] w fun e w'=>e= .returned (.agg #[iV k,.string s,iV 0])/\Below w.heap.size w w':=by
 go_enter Tryz.func112,Tryz.ntmps112;go_wp2_with fail
 refine(D5c _ _ hs).mono ?_;rintro e w1 ⟨rfl,hb⟩;obtain⟨hc,hf⟩:=I1a hb;have hz:w.heap.size<w1.heap.size:=by have:=hb.size;simp at this;omega
 go_wp2;exact bodyPost_ret (v:= .agg #[iV k,.string s,iV 0]) (by simp[results,Tryz.results112,go_sem,hc]) rfl ⟨rfl,E2a hb _ _ _⟩
theorem H4b (s:ByteArray) (a:Nat) (w:World) (hs:s.size<=4000) (ha:a<=s.size):Calls Tryz.prog 50 #[.string s,iV a] w fun e w'=>e= .returned (iV (a+M.sp M.blank (s.data.toList.drop a):Nat))/\w'=w:=by
 go_enter Tryz.func50,Tryz.ntmps50;go_wp2_with fail
 refine(O1b _ _ ?_).mono ?_
 · simp[maxLen];omega
 · rintro e w' ⟨rfl,rfl⟩;have hle:=M.C5a M.blank (s.data.toList.drop a);rw[List.length_drop,bl]at hle;rw[Q9a s a];go_wp2;go_ret;exact⟨J0 (by omega),rfl⟩
open Go.RowKit
theorem Q8b (s:ByteArray) (w:World):Calls Tryz.prog 114 #[.string s] w fun e w'=>e= .returned (.bool (M.Y1 s.data.toList))/\w'=w:=by
 go_enter Tryz.func114,Tryz.ntmps114;go_wp2;all_goals first|(exfalso;simp_all;done)|skip
 all_goals go_ret
 all_goals refine⟨F2 ?_,rfl⟩
 all_goals simp[M.Y1,M.has,M.Z9c,<-ByteArray.toList_eq]
 all_goals simp_all
theorem D0b (l:List UInt8) (gs:List (List UInt8)) (k:Nat) (h:k<gs.length):M.I9 l (gs.take (k+1))=if gs[k].isPrefixOf l then max (M.I9 l (gs.take k)) gs[k].length else M.I9 l (gs.take k):=by
 rw[List.take_succ_eq_append_getElem h,M.I9,List.foldl_append];rfl
theorem I6a (l:List UInt8):∀(gs:List (List UInt8)) (m:Nat),(∀g∈gs,g.length<=2)->m<=2->gs.foldl (fun m g=>if g.isPrefixOf l then max m g.length else m) m<=2
 |[],m,_,hm=>hm
 |g::r,m,h,hm=>by
  simp only[List.foldl_cons];refine I6a l r _ (fun x hx=>h x (List.mem_cons_of_mem _ hx)) ?_;have:=h g List.mem_cons_self;split
  · exact Nat.max_le.2 ⟨hm,this⟩
  · exact hm
theorem J7b (s:ByteArray) (g c:Nat) (gs:List (List UInt8)) (w:World) (hn:gs.length<=100) (hg:∀x∈gs,x.length<=2)
 (hcell:∀i (h:i<gs.length),w.cell? (aD g i)=some (.string ⟨gs[i].toArray⟩)):
 Calls Tryz.prog 117 #[.string s,.slice (some (aD g 0)) gs.length c] w fun e w'=>e= .returned (iV (M.I9 s.data.toList gs))/\w'=w:=by
 go_enter Tryz.func117,Tryz.ntmps117;go_wp2;go_loop [5,10] (fun z i=>∃k:Nat,k<=gs.length/\i=iV k/\z=iV (M.I9 s.data.toList (gs.take k))) (fun _ i=>gs.length - (intOf i).toNat)
 case atStart=>exact⟨0,Nat.zero_le _,rfl,rfl⟩
 case round=>
  obtain⟨k,hk,rfl,rfl⟩:=hrel;by_cases hlt:k<gs.length
  · have hc:=hcell k hlt;have hl:=hg gs[k] (List.getElem_mem _);have hm:M.I9 s.data.toList (gs.take k)<=2:=I6a _ _ _ (fun x hx=>hg x (List.mem_of_mem_take hx)) (by omega);have HS:Hid (M.I9 s.data.toList (gs.take (k+1))=if gs[k].isPrefixOf s.data.toList then max (M.I9 s.data.toList (gs.take k)) gs[k].length else M.I9 s.data.toList (gs.take k)):=D0b _ _ _ hlt;clear hcell hg;generalize M.I9 s.data.toList (gs.take k)=m at *;generalize gs[k]=x at *;cases hp:Lib.hasPrefix s.data.toList x
    · go_wp2_with (go_at_call 116;refine(Tryz.strings_HasPrefix _ _ _).mono ?_;rintro e w' ⟨rfl,rfl⟩)
      go_round
      case rel=>exact⟨k+1,by omega,by go_num,by rw[HS.out,if_neg (by have:=hp;unfold Lib.hasPrefix at this;simp[this])]⟩
      case measure=>simp[intOf];omega
    · go_wp2_with (go_at_call 116;refine(Tryz.strings_HasPrefix _ _ _).mono ?_;rintro e w' ⟨rfl,rfl⟩)
      go_round
      case rel=>exact⟨k+1,by omega,by go_num,by rw[HS.out,if_pos (by have:=hp;unfold Lib.hasPrefix at this;simp[this])];congr 1;omega⟩
      case measure=>simp[intOf];omega
  · go_wp2;go_ret;exact⟨J0 (by rw[List.take_of_length_le (by omega)]),rfl⟩
open Go.RowKit
def res (r:Int×List UInt8×Nat):Value:= .tuple #[.agg #[iV r.1,.string ⟨r.2.1.toArray⟩,iV 0],iV r.2.2]
theorem K4b (s:ByteArray) (h:0<s.size):s.data.toList.head? =some s[0]:=by
 rw[List.head?_eq_getElem?,List.getElem?_eq_getElem (by rw[bl];exact h)];rfl
theorem K3a {r:Int×List UInt8×Nat} {k:Int} {t:List UInt8} {n:Nat} {x:ByteArray} (h:r=(k,t,n)) (hx:x=⟨t.toArray⟩):
 Ending.returned (.tuple #[.agg #[iV k,.string x,iV 0],iV n])= .returned (res r):=by subst h;subst hx;rfl
theorem M9a {r:Int×List UInt8×Nat} (h:r=(0,[],0)):
 Ending.returned (.tuple #[.agg #[iV 0,.string ⟨#[]⟩,iV 0],iV 0])= .returned (res r):=by subst h;rfl
theorem F9a (s:ByteArray) (n:Nat):s.extract 0 n=⟨(s.data.toList.take n).toArray⟩:=by rw[Lib.extract_eq];simp
theorem X1c (s:ByteArray) (n:Nat):s.extract 1 (1+n)=⟨(s.data.toList.tail.take n).toArray⟩:=by rw[Lib.extract_eq,List.drop_one];simp
theorem D0a (s:ByteArray) (a b:Nat):(s.extract a b).size<=s.size:=by rw[ByteArray.size_extract];omega
theorem Y6c (c:UInt8) (n:Nat) (h:n<256):c=UInt8.ofNat n ↔ c.toNat=n:=by
 constructor
 · rintro rfl;simp;omega
 · intro e;apply UInt8.toNat_inj.1;simp;omega
theorem P9b (s:ByteArray) (w:World) (hs:s.size<=4000) (h0:0<s.size):Calls Tryz.prog 81 #[.string s] w fun e w'=>e= .returned (res (M.A4a s.data.toList))/\Below w.heap.size w w':=by
 have hle:=M.C5a M.dig s.data.toList;rw[bl]at hle;have hr:Hid (M.A4a s.data.toList=if 9<M.sp M.dig s.data.toList\/s[0].toNat=48/\1<M.sp M.dig s.data.toList then (0,[],0) else (3,s.data.toList.take (M.sp M.dig s.data.toList),M.sp M.dig s.data.toList)):=by
  show _=_;rw[M.A4a,K4b s h0];simp only[Option.some.injEq];simp only[show (s[0]=48 ↔ s[0].toNat=48) from Y6c _ 48 (by omega)]
 generalize M.A4a s.data.toList=r at *;go_enter Tryz.func81,Tryz.ntmps81;go_wp2_with fail
 refine(O0b _ _ (by simp only[maxLen];omega)).mono ?_;rintro e w1 ⟨rfl,rfl⟩;generalize M.sp M.dig s.data.toList=n at *;go_wp2_with fail
 · exact bodyPost_ret (v:= .tuple #[.agg #[iV 0,.string ⟨#[]⟩,iV 0],iV 0]) (by simp[results,Tryz.results81,go_sem]) rfl ⟨M9a (by rw[hr.out,if_pos (by omega)]),(Below.refl _ _).alloc (Nat.le_refl _) _⟩
 all_goals first|exact bodyPost_ret (v:= .tuple #[.agg #[iV 0,.string ⟨#[]⟩,iV 0],iV 0]) (by simp[results,Tryz.results81,go_sem]) rfl ⟨M9a (by rw[hr.out,if_pos (by omega)]),(Below.refl _ _).alloc (Nat.le_refl _) _⟩|skip
 all_goals
  refine(K7a _ _ _ (Nat.le_trans (D0a _ _ _) hs)).mono ?_;rintro e w1 ⟨rfl,hb⟩;obtain⟨hc,hf⟩:=I1a hb;have hz:w.heap.size<w1.heap.size:=by have:=hb.size;simp at this;omega
  go_wp2;exact bodyPost_ret (v:= .tuple #[.agg #[iV 3,.string (s.extract 0 n),iV 0],iV n]) (by simp[results,Tryz.results81,go_sem,hc]) rfl ⟨K3a (by rw[hr.out,if_neg (by omega)]) (F9a _ _),E2a hb _ _ _⟩
theorem K8c (s:ByteArray) (w:World) (hs:s.size<=4000):Calls Tryz.prog 83 #[.string s] w fun e w'=>e= .returned (res (M.name s.data.toList))/\Below w.heap.size w w':=by
 have hle:=M.C5a M.nam s.data.toList;rw[bl]at hle;have hr:Hid (M.name s.data.toList=if 20<M.sp M.nam s.data.toList then (0,[],0) else (if M.Y1 (s.data.toList.take (M.sp M.nam s.data.toList)) then 2 else 1,s.data.toList.take (M.sp M.nam s.data.toList),M.sp M.nam s.data.toList)):=rfl;generalize M.name s.data.toList=r at *;go_enter Tryz.func83,Tryz.ntmps83;go_wp2_with fail
 refine(N9b _ _ (by simp only[maxLen];omega)).mono ?_;rintro e w1 ⟨rfl,rfl⟩;generalize M.sp M.nam s.data.toList=n at *;by_cases hn:(20:Int)<n
 · go_wp2_with fail
   exact bodyPost_ret (v:= .tuple #[.agg #[iV 0,.string ⟨#[]⟩,iV 0],iV 0]) (by simp[results,Tryz.results83,go_sem]) rfl ⟨M9a (by rw[hr.out,if_pos (by omega)]),(Below.refl _ _).alloc (Nat.le_refl _) _⟩
 · go_wp2_with fail
   refine(Q8b _ _).mono ?_;rintro e w1 ⟨rfl,rfl⟩;have hx:Hid (M.Y1 (s.extract 0 n).data.toList=M.Y1 (s.data.toList.take n)):=by show _=_;rw[F9a]
   cases hw:M.Y1 (s.extract 0 n).data.toList;all_goals
    go_wp2_with fail
    refine(K7a _ _ _ (Nat.le_trans (D0a _ _ _) hs)).mono ?_;rintro e w1 ⟨rfl,hb⟩;obtain⟨hc,hf⟩:=I1a hb;have hz:w.heap.size<w1.heap.size:=by have:=hb.size;simp at this;omega
    go_wp2
   · exact bodyPost_ret (v:= .tuple #[.agg #[iV 1,.string (s.extract 0 n),iV 0],iV n]) (by simp[results,Tryz.results83,go_sem,hc]) rfl ⟨K3a (by rw[hr.out,if_neg (by omega),<-hx.out,hw];rfl) (F9a _ _),E2a hb _ _ _⟩
   · exact bodyPost_ret (v:= .tuple #[.agg #[iV 2,.string (s.extract 0 n),iV 0],iV n]) (by simp[results,Tryz.results83,go_sem,hc]) rfl ⟨K3a (by rw[hr.out,if_neg (by omega),<-hx.out,hw];rfl) (F9a _ _),E2a hb _ _ _⟩
theorem T9c (l:List UInt8):Lib.hasPrefix l [34]=true ↔ l.head? =some 34:=by
 cases l with
 |nil=>simp[Lib.hasPrefix]
 |cons c r=>simp only[Lib.hasPrefix,List.isPrefixOf,List.head?_cons,Option.some.injEq,Bool.and_true,beq_iff_eq];exact eq_comm
theorem F7c (s:ByteArray) (w:World) (hs:s.size<=4000) (h0:0<s.size):Calls Tryz.prog 84 #[.string s] w fun e w'=>e= .returned (res (M.text s.data.toList))/\Below w.heap.size w w':=by
 have hle:=M.C5a M.txt s.data.toList.tail;rw[List.length_tail,bl]at hle;have hr:Hid (M.text s.data.toList=if 30<M.sp M.txt s.data.toList.tail\/(s.data.toList.tail.drop (M.sp M.txt s.data.toList.tail)).head? ≠some 34 then (0,[],0) else (4,s.data.toList.tail.take (M.sp M.txt s.data.toList.tail),M.sp M.txt s.data.toList.tail+2)):=rfl;have he:Hid ((s.extract 1 s.size).data.toList=s.data.toList.tail):=by show _=_;rw[Q9a,List.drop_one]
 generalize M.text s.data.toList=r at *;go_enter Tryz.func84,Tryz.ntmps84;go_wp2_with fail
 refine(N8b _ _ (by simp only[maxLen];have:=D0a s 1 s.size;omega)).mono ?_;rintro e w1 ⟨rfl,rfl⟩;rw[he.out];generalize hn0:M.sp M.txt s.data.toList.tail=n at *;clear hn0;by_cases hn:(30:Int)<n
 · go_wp2_with fail
   exact bodyPost_ret (v:= .tuple #[.agg #[iV 0,.string ⟨#[]⟩,iV 0],iV 0]) (by simp[results,Tryz.results84,go_sem]) rfl ⟨M9a (by rw[hr.out,if_pos (by omega)]),(Below.refl _ _).alloc (Nat.le_refl _) _⟩
 · go_wp2_with fail
   refine(Tryz.strings_HasPrefix _ _ _).mono ?_;rintro e w1 ⟨rfl,rfl⟩;have hx:Hid (Lib.hasPrefix (s.extract (1+n) s.size).data.toList (ByteArray.mk #[34]).data.toList=true ↔ (s.data.toList.tail.drop n).head? =some 34):=by
    show _ ↔ _;rw[Q9a,<-List.drop_one,List.drop_drop];exact T9c _
   cases hp:Lib.hasPrefix (s.extract (1+n) s.size).data.toList (ByteArray.mk #[34]).data.toList
   · go_wp2_with fail
     exact bodyPost_ret (v:= .tuple #[.agg #[iV 0,.string ⟨#[]⟩,iV 0],iV 0]) (by simp[results,Tryz.results84,go_sem]) rfl ⟨M9a (by rw[hr.out,if_pos (Or.inr (fun h=>by have:=hx.out.2 h;rw[hp]at this;cases this))]),(Below.refl _ _).alloc (Nat.le_refl _) _⟩
   · go_wp2_with fail
     refine(K7a _ _ _ (Nat.le_trans (D0a _ _ _) hs)).mono ?_;rintro e w1 ⟨rfl,hb⟩;obtain⟨hc,hf⟩:=I1a hb;have hz:w.heap.size<w1.heap.size:=by have:=hb.size;simp at this;omega
     go_wp2;exact bodyPost_ret (v:= .tuple #[.agg #[iV 4,.string (s.extract 1 (1+n)),iV 0],iV ((n+2:Nat):Int)]) (by simp[results,Tryz.results84,go_sem,hc]) rfl ⟨K3a (by rw[hr.out,if_neg (fun h=>h.elim (fun h=>by omega) (fun h=>h (hx.out.1 hp)))]) (X1c _ _),E2a hb _ _ _⟩
theorem longest_len (l:List UInt8):∀(gs:List (List UInt8)) (m:Nat),m<=l.length->gs.foldl (fun m g=>if g.isPrefixOf l then max m g.length else m) m<=l.length
 |[],m,hm=>hm
 |g::r,m,hm=>by
  simp only[List.foldl_cons];refine longest_len l r _ ?_;split
  · rename_i h;exact Nat.max_le.2 ⟨hm,(List.isPrefixOf_iff_prefix.1 h).length_le⟩
  · exact hm
theorem M4b {w:World} (a b:Obj):Below w.heap.size w ((w.alloc a).alloc b):=((Below.refl _ _).alloc (Nat.le_refl _) a).alloc (by simp) b
theorem Z1c {w w1:World} {o o2:Obj} (hb:Below ((w.alloc o).alloc o2).heap.size ((w.alloc o).alloc o2) w1) (v0 v1 v2:Value):
 Below w.heap.size w (((w1.setCell (aD w.heap.size 0) v0).setCell (aD w.heap.size 1) v1).setCell (aD w.heap.size 2) v2):=
 ((((M4b o o2).trans (hb.mono (by simp;omega))).setCell (by simp) _).setCell (by simp) _).setCell (by simp) _
theorem O4b (w:World) (i:Nat) (h:i<M.Z8.length):(w.alloc (.cells #[.string ⟨#[61,61]⟩,.string ⟨#[61,62]⟩,.string ⟨#[40]⟩,.string ⟨#[41]⟩,.string ⟨#[123]⟩,.string ⟨#[125]⟩,.string ⟨#[91]⟩,.string ⟨#[93]⟩,.string ⟨#[44]⟩,.string ⟨#[59]⟩,.string ⟨#[58]⟩,.string ⟨#[46]⟩,.string ⟨#[61]⟩,.string ⟨#[60]⟩,.string ⟨#[43]⟩,.string ⟨#[45]⟩,.string ⟨#[42]⟩,.string ⟨#[33]⟩,.string ⟨#[124]⟩] 9)).cell? (aD w.heap.size i)=some (.string ⟨M.Z8[i].toArray⟩):=by
 rw[cell_of_row _ _ _ _ _ _ (heap_alloc_new w _)];have h':i<19:=h;have:i=0\/i=1\/i=2\/i=3\/i=4\/i=5\/i=6\/i=7\/i=8\/i=9\/i=10\/i=11\/i=12\/i=13\/i=14\/i=15\/i=16\/i=17\/i=18:=by omega
 rcases this with rfl|rfl|rfl|rfl|rfl|rfl|rfl|rfl|rfl|rfl|rfl|rfl|rfl|rfl|rfl|rfl|rfl|rfl|rfl<;>rfl
theorem H2c (s:ByteArray) (w:World) (hs:s.size<=4000):Calls Tryz.prog 85 #[.string s] w fun e w'=>e= .returned (res (M.W5a s.data.toList))/\Below w.heap.size w w':=by
 have h2:M.I9 s.data.toList M.Z8<=2:=I6a _ _ _ (by decide) (by omega);have hle:M.I9 s.data.toList M.Z8<=s.size:=by have:=longest_len s.data.toList M.Z8 0 (by omega);rw[bl]at this;exact this
 have hr:Hid (M.W5a s.data.toList=if M.I9 s.data.toList M.Z8=0 then (0,[],0) else (5,s.data.toList.take (M.I9 s.data.toList M.Z8),M.I9 s.data.toList M.Z8)):=rfl;generalize M.W5a s.data.toList=r at *;go_enter Tryz.func85,Tryz.ntmps85;go_wp2_with fail
 refine(J7b s (w.heap.size+1) 19 M.Z8 _ (by decide) (by decide) (fun i h=>by have:=O4b (w.alloc (Obj.cells #[Value.int IntKind.i64 0,Value.string { data:=#[] },Value.int IntKind.i64 0] 119)) i h;rw[World.size_alloc]at this;exact this)).mono ?_;rintro e w1 ⟨rfl,rfl⟩;generalize M.I9 s.data.toList M.Z8=n at *;by_cases hn:n=0
 · subst hn;go_wp2_with fail
   exact bodyPost_ret (v:= .tuple #[.agg #[iV 0,.string ⟨#[]⟩,iV 0],iV 0]) (by simp[results,Tryz.results85,go_sem]) rfl ⟨M9a (by rw[hr.out];simp),M4b _ _⟩
 · have hn':((n:Int)==0)=false:=by simp;omega
   go_wp2_with fail
   refine(K7a _ _ _ (Nat.le_trans (D0a _ _ _) hs)).mono ?_;rintro e w1 ⟨rfl,hb⟩;obtain⟨hc,hf⟩:=I1a hb;have hz:w.heap.size+1<w1.heap.size:=by have:=hb.size;simp at this;omega
   go_wp2;have hc0:=fun o=>hc w.heap.size o (by simp;omega);exact bodyPost_ret (v:= .tuple #[.agg #[iV 5,.string (s.extract 0 n),iV 0],iV n]) (by simp[results,Tryz.results85,go_sem,hc0]) rfl ⟨K3a (by rw[hr.out,if_neg hn]) (F9a _ _),Z1c hb _ _ _⟩
theorem D0c (s:ByteArray) (w:World) (hs:s.size<=4000) (h0:0<s.size):Calls Tryz.prog 51 #[.string s] w fun e w'=>e= .returned (res (M.first s.data.toList))/\Below w.heap.size w w':=by
 have hr:Hid (M.first s.data.toList=if M.dig s[0].toNat then M.A4a s.data.toList else if M.let' s[0].toNat then M.name s.data.toList else if s[0].toNat=34 then M.text s.data.toList else M.W5a s.data.toList):=by
  show _=_;rw[M.first,K4b s h0]
 have hp:(0:Int)<s.size:=by omega
 generalize M.first s.data.toList=r at *;cases hd:M.dig s[0].toNat
 · cases hl:M.let' s[0].toNat
   · by_cases h34:s[0].toNat=34
     · rw[hd,hl,if_neg (by simp),if_neg (by simp),if_pos h34]at hr;have hq:(((s[0].toNat:Nat):Int)==34)=true:=by rw[h34];rfl
       clear h34;go_enter Tryz.func51,Tryz.ntmps51;go_wp2_with (first|(go_at_call 80;refine(T6 _ _).mono ?_;rintro e w' ⟨rfl,rfl⟩)|(go_at_call 82;refine(Y6 _ _).mono ?_;rintro e w' ⟨rfl,rfl⟩))
       refine(F7c _ _ hs h0).mono ?_;rintro e w1 ⟨rfl,hb⟩;rw[<-hr.out];unfold res;obtain⟨k,t,n⟩:=r;obtain⟨hc,hf⟩:=I1a hb;have hz:w.heap.size<w1.heap.size:=by have:=hb.size;simp at this;omega
       go_wp2;exact bodyPost_ret (v:=res (k,t,n)) (by simp[results,Tryz.results51,go_sem,hc,res]) rfl ⟨rfl,E2a hb _ _ _⟩
     · rw[hd,hl,if_neg (by simp),if_neg (by simp),if_neg h34]at hr;have hq:(((s[0].toNat:Nat):Int)==34)=false:=by simp;omega
       clear h34;go_enter Tryz.func51,Tryz.ntmps51;go_wp2_with (first|(go_at_call 80;refine(T6 _ _).mono ?_;rintro e w' ⟨rfl,rfl⟩)|(go_at_call 82;refine(Y6 _ _).mono ?_;rintro e w' ⟨rfl,rfl⟩))
       refine(H2c _ _ hs).mono ?_;rintro e w1 ⟨rfl,hb⟩;rw[<-hr.out];unfold res;obtain⟨k,t,n⟩:=r;obtain⟨hc,hf⟩:=I1a hb;have hz:w.heap.size<w1.heap.size:=by have:=hb.size;simp at this;omega
       go_wp2;exact bodyPost_ret (v:=res (k,t,n)) (by simp[results,Tryz.results51,go_sem,hc,res]) rfl ⟨rfl,E2a hb _ _ _⟩
   · rw[hd,hl,if_neg (by simp),if_pos rfl]at hr;go_enter Tryz.func51,Tryz.ntmps51;go_wp2_with (first|(go_at_call 80;refine(T6 _ _).mono ?_;rintro e w' ⟨rfl,rfl⟩)|(go_at_call 82;refine(Y6 _ _).mono ?_;rintro e w' ⟨rfl,rfl⟩))
     refine(K8c _ _ hs).mono ?_;rintro e w1 ⟨rfl,hb⟩;rw[<-hr.out];unfold res;obtain⟨k,t,n⟩:=r;obtain⟨hc,hf⟩:=I1a hb;have hz:w.heap.size<w1.heap.size:=by have:=hb.size;simp at this;omega
     go_wp2;exact bodyPost_ret (v:=res (k,t,n)) (by simp[results,Tryz.results51,go_sem,hc,res]) rfl ⟨rfl,E2a hb _ _ _⟩
 · rw[hd,if_pos rfl]at hr;go_enter Tryz.func51,Tryz.ntmps51;go_wp2_with (go_at_call 80;refine(T6 _ _).mono ?_;rintro e w' ⟨rfl,rfl⟩)
   refine(P9b _ _ hs h0).mono ?_;rintro e w1 ⟨rfl,hb⟩;rw[<-hr.out];unfold res;obtain⟨k,t,n⟩:=r;obtain⟨hc,hf⟩:=I1a hb;have hz:w.heap.size<w1.heap.size:=by have:=hb.size;simp at this;omega
   go_wp2;exact bodyPost_ret (v:=res (k,t,n)) (by simp[results,Tryz.results51,go_sem,hc,res]) rfl ⟨rfl,E2a hb _ _ _⟩
end Go.Proofs.YtgdnpemiiageaaaGreatDoor
