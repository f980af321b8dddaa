/-
  A part of the proof.
-/
import Derived.Test.YtfhhipefecekkaaGreatDoorShelf
import Derived.Test.YtfhhipefecekkaaGreatDoorWho
set_option maxHeartbeats 16000000
set_option maxRecDepth 100000
namespace Go.Proofs.YtfhhipefecekkaaGreatDoor
open Go.Proofs.Tryz
open Go.RowKit
theorem H5a{W w1:World}(hb:Below W.heap.size W w1):(∀b o,b<W.heap.size->w1.cell? (aD b o)=W.cell? (aD b o))/\(∀b o,b<W.heap.size->w1.frozen? (aD b o)=W.frozen? (aD b o)):=
 ⟨λb o h=>hb.cell (p:=(aD b o)) h,λb o h=>hb.frozen (p:=(aD b o)) h⟩
theorem D5a{w w1:World}{o:Obj}(hb:Below (w.alloc o).heap.size (w.alloc o) w1)(v0 v1 v2:Value):
 Below w.heap.size w (((w1.setCell (aD w.heap.size 0) v0).setCell (aD w.heap.size 1) v1).setCell (aD w.heap.size 2) v2):=
 (((((Below.refl _ _).alloc (vQ _) o).trans (hb.mono (by simp))).setCell (by simp) _).setCell (by simp) _).setCell (by simp) _
theorem Q8a(s:ByteArray)(a:Nat):(s.extract a s.size).data.toList=s.data.toList.drop a:=by
 rw[ByteArray.data_extract,Array.toList_extract,List.extract_eq_take_drop];have:s.data.toList.length=s.size:=bl s;rw[List.take_of_length_le (by rw[List.length_drop];omega)]
theorem E1c(s:ByteArray)(w:World)(hs:s.size<=4000):Calls prog 159 #[.string s] w λe w'=>e= .returned (.string s)/\Below w.heap.size w w':=by
 go_enter func159,ntmps159;go_wp2_with (go_at_call 176;refine(Tryz.stringslite_Clone _ _ (by omega)).mono ?_;rintro e w' ⟨rfl,hb⟩)
 go_ret;exact⟨rfl,hb⟩
theorem K5a(k:Int)(s:ByteArray)(w:World)(hs:s.size<=4000):Calls prog 132 #[iV k,.string s] w λe w'=>e= .returned (.agg #[iV k,.string s,iV 0])/\Below w.heap.size w w':=by
 go_enter func132,ntmps132;go_wp2_with fail
 refine(E1c _ _ hs).mono ?_;rintro e w1 ⟨rfl,hb⟩;obtain⟨hc,hf⟩:=H5a hb;have hz:w.heap.size<w1.heap.size:=by have:=hb.size;simp at this;omega
 go_wp2;exact bodyPost_ret (v:= .agg #[iV k,.string s,iV 0]) (by simp[results,results132,go_sem,hc]) rfl ⟨rfl,D5a hb _ _ _⟩
theorem H0b(s:ByteArray)(a:Nat)(w:World)(hs:s.size<=4000)(ha:a<=s.size):Calls prog 67 #[.string s,iV a] w λe w'=>e= .returned (iV (a+M.sp M.blank (s.data.toList.drop a):Nat))/\w'=w:=by
 go_enter func67,ntmps67;go_wp2_with fail
 refine(O1b _ _ ?_).mono ?_
 · simp[maxLen];omega
 · rintro e w' ⟨rfl,rfl⟩;have hle:=M.B8a M.blank (s.data.toList.drop a);rw[List.length_drop,bl]at hle;rw[Q8a s a];go_wp2;go_ret;exact⟨J3 (by omega),rfl⟩
theorem R0b(s:ByteArray)(w:World):Calls prog 134 #[.string s] w λe w'=>e= .returned (.bool (M.Y3 s.data.toList))/\w'=w:=by
 go_enter func134,ntmps134;go_wp2;all_goals first|(exfalso;simp_all;done)|skip
 all_goals go_ret
 all_goals refine⟨F1 ?_,rfl⟩
 all_goals simp[M.Y3,M.has,M.B4d,<-ByteArray.toList_eq]
 all_goals simp_all
theorem C7b(l:List UInt8)(gs:List (List UInt8))(k:Nat)(h:k<gs.length):M.I8 l (gs.take (k+1))=if gs[k].isPrefixOf l then max (M.I8 l (gs.take k)) gs[k].length else M.I8 l (gs.take k):=by
 rw[nQ h,M.I8,List.foldl_append];rfl
theorem I4a(l:List UInt8):∀(gs:List (List UInt8)) (m:Nat),(∀g∈gs,g.length<=2)->m<=2->gs.foldl (λm g=>if g.isPrefixOf l then max m g.length else m) m<=2
 |[],m,_,hm=>hm
 |g::r,m,h,hm=>by
  simp only[List.foldl_cons];refine I4a l r _ (λx hx=>h x (List.mem_cons_of_mem _ hx)) ?_;have:=h g List.mem_cons_self;split
  · exact Nat.max_le.2 ⟨hm,this⟩
  · exact hm
theorem J3b(s:ByteArray)(g c:Nat)(gs:List (List UInt8))(w:World)(hn:gs.length<=100)(hg:∀x∈gs,x.length<=2)
 (hcell:∀i (h:i<gs.length),w.cell? (aD g i)=some (.string ⟨gs[i].toArray⟩)):
 Calls prog 137 #[.string s,.slice (some (aD g 0)) gs.length c] w λe w'=>e= .returned (iV (M.I8 s.data.toList gs))/\w'=w:=by
 go_enter func137,ntmps137;go_wp2;go_loop [5,10] (λz i=>∃k:Nat,k<=gs.length/\i=iV k/\z=iV (M.I8 s.data.toList (gs.take k))) (λ_ i=>gs.length - (intOf i).toNat)
 case atStart=>exact⟨0,wQ _,rfl,rfl⟩
 case round=>
  obtain⟨k,hk,rfl,rfl⟩:=hrel;by_cases hlt:k<gs.length
  · have hc:=hcell k hlt;have hl:=hg gs[k] (mQ _);have hm:M.I8 s.data.toList (gs.take k)<=2:=I4a _ _ _ (λx hx=>hg x (List.mem_of_mem_take hx)) (by omega);have HS:Hid (M.I8 s.data.toList (gs.take (k+1))=if gs[k].isPrefixOf s.data.toList then max (M.I8 s.data.toList (gs.take k)) gs[k].length else M.I8 s.data.toList (gs.take k)):=C7b _ _ _ hlt;clear hcell hg;generalize M.I8 s.data.toList (gs.take k)=m at *;generalize gs[k]=x at *;cases hp:Lib.hasPrefix s.data.toList x
    · go_wp2_with (go_at_call 136;refine(Tryz.strings_HasPrefix _ _ _).mono ?_;rintro e w' ⟨rfl,rfl⟩)
      go_round
      case rel=>exact⟨k+1,by omega,by go_num,by rw[HS.out,if_neg (by have:=hp;unfold Lib.hasPrefix at this;simp[this])]⟩
      case measure=>simp[intOf];omega
    · go_wp2_with (go_at_call 136;refine(Tryz.strings_HasPrefix _ _ _).mono ?_;rintro e w' ⟨rfl,rfl⟩)
      go_round
      case rel=>exact⟨k+1,by omega,by go_num,by rw[HS.out,if_pos (by have:=hp;unfold Lib.hasPrefix at this;simp[this])];congr 1;omega⟩
      case measure=>simp[intOf];omega
  · go_wp2;go_ret;exact⟨J3 (by rw[List.take_of_length_le (by omega)]),rfl⟩
def res(r:Int×List UInt8×Nat):Value:= .tuple #[.agg #[iV r.1,.string ⟨r.2.1.toArray⟩,iV 0],iV r.2.2]
theorem K0b(s:ByteArray)(h:0<s.size):s.data.toList.head? =some s[0]:=by
 rw[List.head?_eq_getElem?,gQ (by rw[bl];exact h)];rfl
theorem K0a{r:Int×List UInt8×Nat}{k:Int}{t:List UInt8}{n:Nat}{x:ByteArray}(h:r=(k,t,n))(hx:x=⟨t.toArray⟩):
 Ending.returned (.tuple #[.agg #[iV k,.string x,iV 0],iV n])= .returned (res r):=by subst h;subst hx;rfl
theorem M8a{r:Int×List UInt8×Nat}(h:r=(0,[],0)):
 Ending.returned (.tuple #[.agg #[iV 0,.string ⟨#[]⟩,iV 0],iV 0])= .returned (res r):=by subst h;rfl
theorem F6a(s:ByteArray)(n:Nat):s.extract 0 n=⟨(s.data.toList.take n).toArray⟩:=by rw[Lib.extract_eq];simp
theorem Z1c(s:ByteArray)(n:Nat):s.extract 1 (1+n)=⟨(s.data.toList.tail.take n).toArray⟩:=by rw[Lib.extract_eq,List.drop_one];simp
theorem C2a(s:ByteArray)(a b:Nat):(s.extract a b).size<=s.size:=by rw[ByteArray.size_extract];omega
theorem A2d(c:UInt8)(n:Nat)(h:n<256):c=UInt8.ofNat n ↔ c.toNat=n:=by
 constructor
 · rintro rfl;simp;omega
 · intro e;apply UInt8.toNat_inj.1;simp;omega
theorem Q1b(s:ByteArray)(w:World)(hs:s.size<=4000)(h0:0<s.size):Calls prog 96 #[.string s] w λe w'=>e= .returned (res (M.A3a s.data.toList))/\Below w.heap.size w w':=by
 have hle:=M.B8a M.dig s.data.toList;rw[bl]at hle;have hr:Hid (M.A3a s.data.toList=if 9<M.sp M.dig s.data.toList\/s[0].toNat=48/\1<M.sp M.dig s.data.toList then (0,[],0) else (3,s.data.toList.take (M.sp M.dig s.data.toList),M.sp M.dig s.data.toList)):=by
  show _=_;rw[M.A3a,K0b s h0];simp only[zQ];simp only[show (s[0]=48 ↔ s[0].toNat=48) from A2d _ 48 (by omega)]
 generalize M.A3a s.data.toList=r at *;go_enter func96,ntmps96;go_wp2_with fail
 refine(O0b _ _ (by simp only[maxLen];omega)).mono ?_;rintro e w1 ⟨rfl,rfl⟩;generalize M.sp M.dig s.data.toList=n at *;go_wp2_with fail
 · exact bodyPost_ret (v:= .tuple #[.agg #[iV 0,.string ⟨#[]⟩,iV 0],iV 0]) (by simp[results,results96,go_sem]) rfl ⟨M8a (by rw[hr.out,if_pos (by omega)]),(Below.refl _ _).alloc (vQ _) _⟩
 all_goals first|exact bodyPost_ret (v:= .tuple #[.agg #[iV 0,.string ⟨#[]⟩,iV 0],iV 0]) (by simp[results,results96,go_sem]) rfl ⟨M8a (by rw[hr.out,if_pos (by omega)]),(Below.refl _ _).alloc (vQ _) _⟩|skip
 all_goals
  refine(K5a _ _ _ (kQ (C2a _ _ _) hs)).mono ?_;rintro e w1 ⟨rfl,hb⟩;obtain⟨hc,hf⟩:=H5a hb;have hz:w.heap.size<w1.heap.size:=by have:=hb.size;simp at this;omega
  go_wp2;exact bodyPost_ret (v:= .tuple #[.agg #[iV 3,.string (s.extract 0 n),iV 0],iV n]) (by simp[results,results96,go_sem,hc]) rfl ⟨K0a (by rw[hr.out,if_neg (by omega)]) (F6a _ _),D5a hb _ _ _⟩
theorem M2c(s:ByteArray)(w:World)(hs:s.size<=4000):Calls prog 98 #[.string s] w λe w'=>e= .returned (res (M.name s.data.toList))/\Below w.heap.size w w':=by
 have hle:=M.B8a M.nam s.data.toList;rw[bl]at hle;have hr:Hid (M.name s.data.toList=if 20<M.sp M.nam s.data.toList then (0,[],0) else (if M.Y3 (s.data.toList.take (M.sp M.nam s.data.toList)) then 2 else 1,s.data.toList.take (M.sp M.nam s.data.toList),M.sp M.nam s.data.toList)):=rfl;generalize M.name s.data.toList=r at *;go_enter func98,ntmps98;go_wp2_with fail
 refine(N9b _ _ (by simp only[maxLen];omega)).mono ?_;rintro e w1 ⟨rfl,rfl⟩;generalize M.sp M.nam s.data.toList=n at *;by_cases hn:(20:Int)<n
 · go_wp2_with fail
   exact bodyPost_ret (v:= .tuple #[.agg #[iV 0,.string ⟨#[]⟩,iV 0],iV 0]) (by simp[results,results98,go_sem]) rfl ⟨M8a (by rw[hr.out,if_pos (by omega)]),(Below.refl _ _).alloc (vQ _) _⟩
 · go_wp2_with fail
   refine(R0b _ _).mono ?_;rintro e w1 ⟨rfl,rfl⟩;have hx:Hid (M.Y3 (s.extract 0 n).data.toList=M.Y3 (s.data.toList.take n)):=by show _=_;rw[F6a]
   cases hw:M.Y3 (s.extract 0 n).data.toList;all_goals
    go_wp2_with fail
    refine(K5a _ _ _ (kQ (C2a _ _ _) hs)).mono ?_;rintro e w1 ⟨rfl,hb⟩;obtain⟨hc,hf⟩:=H5a hb;have hz:w.heap.size<w1.heap.size:=by have:=hb.size;simp at this;omega
    go_wp2
   · exact bodyPost_ret (v:= .tuple #[.agg #[iV 1,.string (s.extract 0 n),iV 0],iV n]) (by simp[results,results98,go_sem,hc]) rfl ⟨K0a (by rw[hr.out,if_neg (by omega),<-hx.out,hw];rfl) (F6a _ _),D5a hb _ _ _⟩
   · exact bodyPost_ret (v:= .tuple #[.agg #[iV 2,.string (s.extract 0 n),iV 0],iV n]) (by simp[results,results98,go_sem,hc]) rfl ⟨K0a (by rw[hr.out,if_neg (by omega),<-hx.out,hw];rfl) (F6a _ _),D5a hb _ _ _⟩
theorem W0c(l:List UInt8):Lib.hasPrefix l [34]=true ↔ l.head? =some 34:=by
 cases l with
 |nil=>simp[Lib.hasPrefix]
 |cons c r=>simp only[Lib.hasPrefix,List.isPrefixOf,List.head?_cons,zQ,Bool.and_true,beq_iff_eq];exact eq_comm
theorem G6c(s:ByteArray)(w:World)(hs:s.size<=4000)(h0:0<s.size):Calls prog 99 #[.string s] w λe w'=>e= .returned (res (M.text s.data.toList))/\Below w.heap.size w w':=by
 have hle:=M.B8a M.txt s.data.toList.tail;rw[List.length_tail,bl]at hle;have hr:Hid (M.text s.data.toList=if 30<M.sp M.txt s.data.toList.tail\/(s.data.toList.tail.drop (M.sp M.txt s.data.toList.tail)).head? ≠some 34 then (0,[],0) else (4,s.data.toList.tail.take (M.sp M.txt s.data.toList.tail),M.sp M.txt s.data.toList.tail+2)):=rfl;have he:Hid ((s.extract 1 s.size).data.toList=s.data.toList.tail):=by show _=_;rw[Q8a,List.drop_one]
 generalize M.text s.data.toList=r at *;go_enter func99,ntmps99;go_wp2_with fail
 refine(N8b _ _ (by simp only[maxLen];have:=C2a s 1 s.size;omega)).mono ?_;rintro e w1 ⟨rfl,rfl⟩;rw[he.out];generalize hn0:M.sp M.txt s.data.toList.tail=n at *;clear hn0;by_cases hn:(30:Int)<n
 · go_wp2_with fail
   exact bodyPost_ret (v:= .tuple #[.agg #[iV 0,.string ⟨#[]⟩,iV 0],iV 0]) (by simp[results,results99,go_sem]) rfl ⟨M8a (by rw[hr.out,if_pos (by omega)]),(Below.refl _ _).alloc (vQ _) _⟩
 · go_wp2_with fail
   refine(Tryz.strings_HasPrefix _ _ _).mono ?_;rintro e w1 ⟨rfl,rfl⟩;have hx:Hid (Lib.hasPrefix (s.extract (1+n) s.size).data.toList (ByteArray.mk #[34]).data.toList=true ↔ (s.data.toList.tail.drop n).head? =some 34):=by
    show _ ↔ _;rw[Q8a,<-List.drop_one,List.drop_drop];exact W0c _
   cases hp:Lib.hasPrefix (s.extract (1+n) s.size).data.toList (ByteArray.mk #[34]).data.toList
   · go_wp2_with fail
     exact bodyPost_ret (v:= .tuple #[.agg #[iV 0,.string ⟨#[]⟩,iV 0],iV 0]) (by simp[results,results99,go_sem]) rfl ⟨M8a (by rw[hr.out,if_pos (Or.inr (λh=>by have:=hx.out.2 h;rw[hp]at this;cases this))]),(Below.refl _ _).alloc (vQ _) _⟩
   · go_wp2_with fail
     refine(K5a _ _ _ (kQ (C2a _ _ _) hs)).mono ?_;rintro e w1 ⟨rfl,hb⟩;obtain⟨hc,hf⟩:=H5a hb;have hz:w.heap.size<w1.heap.size:=by have:=hb.size;simp at this;omega
     go_wp2;exact bodyPost_ret (v:= .tuple #[.agg #[iV 4,.string (s.extract 1 (1+n)),iV 0],iV ((n+2:Nat):Int)]) (by simp[results,results99,go_sem,hc]) rfl ⟨K0a (by rw[hr.out,if_neg (λh=>h.elim (λh=>by omega) (λh=>h (hx.out.1 hp)))]) (Z1c _ _),D5a hb _ _ _⟩
theorem longest_len(l:List UInt8):∀(gs:List (List UInt8)) (m:Nat),m<=l.length->gs.foldl (λm g=>if g.isPrefixOf l then max m g.length else m) m<=l.length
 |[],m,hm=>hm
 |g::r,m,hm=>by
  simp only[List.foldl_cons];refine longest_len l r _ ?_;split
  · rename_i h;exact Nat.max_le.2 ⟨hm,(List.isPrefixOf_iff_prefix.1 h).length_le⟩
  · exact hm
theorem M3b{w:World}(a b:Obj):Below w.heap.size w ((w.alloc a).alloc b):=((Below.refl _ _).alloc (vQ _) a).alloc (by simp) b
theorem A7d{w w1:World}{o o2:Obj}(hb:Below ((w.alloc o).alloc o2).heap.size ((w.alloc o).alloc o2) w1)(v0 v1 v2:Value):
 Below w.heap.size w (((w1.setCell (aD w.heap.size 0) v0).setCell (aD w.heap.size 1) v1).setCell (aD w.heap.size 2) v2):=
 ((((M3b o o2).trans (hb.mono (by simp;omega))).setCell (by simp) _).setCell (by simp) _).setCell (by simp) _
theorem O4b(w:World)(i:Nat)(h:i<M.Z8.length):(w.alloc (.cells #[.string ⟨#[61,61]⟩,.string ⟨#[61,62]⟩,.string ⟨#[40]⟩,.string ⟨#[41]⟩,.string ⟨#[123]⟩,.string ⟨#[125]⟩,.string ⟨#[91]⟩,.string ⟨#[93]⟩,.string ⟨#[44]⟩,.string ⟨#[59]⟩,.string ⟨#[58]⟩,.string ⟨#[46]⟩,.string ⟨#[61]⟩,.string ⟨#[60]⟩,.string ⟨#[43]⟩,.string ⟨#[45]⟩,.string ⟨#[42]⟩,.string ⟨#[33]⟩,.string ⟨#[124]⟩] 9)).cell? (aD w.heap.size i)=some (.string ⟨M.Z8[i].toArray⟩):=by
 rw[cell_of_row _ _ _ _ _ _ (heap_alloc_new w _)];have h':i<19:=h;have:i=0\/i=1\/i=2\/i=3\/i=4\/i=5\/i=6\/i=7\/i=8\/i=9\/i=10\/i=11\/i=12\/i=13\/i=14\/i=15\/i=16\/i=17\/i=18:=by omega
 rcases this with rfl|rfl|rfl|rfl|rfl|rfl|rfl|rfl|rfl|rfl|rfl|rfl|rfl|rfl|rfl|rfl|rfl|rfl|rfl<;>rfl
theorem I2c(s:ByteArray)(w:World)(hs:s.size<=4000):Calls prog 100 #[.string s] w λe w'=>e= .returned (res (M.W4a s.data.toList))/\Below w.heap.size w w':=by
 have h2:M.I8 s.data.toList M.Z8<=2:=I4a _ _ _ (by decide) (by omega);have hle:M.I8 s.data.toList M.Z8<=s.size:=by have:=longest_len s.data.toList M.Z8 0 (by omega);rw[bl]at this;exact this
 have hr:Hid (M.W4a s.data.toList=if M.I8 s.data.toList M.Z8=0 then (0,[],0) else (5,s.data.toList.take (M.I8 s.data.toList M.Z8),M.I8 s.data.toList M.Z8)):=rfl;generalize M.W4a s.data.toList=r at *;go_enter func100,ntmps100;go_wp2_with fail
 refine(J3b s (w.heap.size+1) 19 M.Z8 _ (by decide) (by decide) (λi h=>by have:=O4b (w.alloc (Obj.cells #[Value.int IntKind.i64 0,Value.string { data:=#[] },Value.int IntKind.i64 0] 115)) i h;rw[World.size_alloc]at this;exact this)).mono ?_;rintro e w1 ⟨rfl,rfl⟩;generalize M.I8 s.data.toList M.Z8=n at *;by_cases hn:n=0
 · subst hn;go_wp2_with fail
   exact bodyPost_ret (v:= .tuple #[.agg #[iV 0,.string ⟨#[]⟩,iV 0],iV 0]) (by simp[results,results100,go_sem]) rfl ⟨M8a (by rw[hr.out];simp),M3b _ _⟩
 · have hn':((n:Int)==0)=false:=by simp;omega
   go_wp2_with fail
   refine(K5a _ _ _ (kQ (C2a _ _ _) hs)).mono ?_;rintro e w1 ⟨rfl,hb⟩;obtain⟨hc,hf⟩:=H5a hb;have hz:w.heap.size+1<w1.heap.size:=by have:=hb.size;simp at this;omega
   go_wp2;have hc0:=λo=>hc w.heap.size o (by simp;omega);exact bodyPost_ret (v:= .tuple #[.agg #[iV 5,.string (s.extract 0 n),iV 0],iV n]) (by simp[results,results100,go_sem,hc0]) rfl ⟨K0a (by rw[hr.out,if_neg hn]) (F6a _ _),A7d hb _ _ _⟩
theorem D6c(s:ByteArray)(w:World)(hs:s.size<=4000)(h0:0<s.size):Calls prog 68 #[.string s] w λe w'=>e= .returned (res (M.first s.data.toList))/\Below w.heap.size w w':=by
 have hr:Hid (M.first s.data.toList=if M.dig s[0].toNat then M.A3a s.data.toList else if M.let' s[0].toNat then M.name s.data.toList else if s[0].toNat=34 then M.text s.data.toList else M.W4a s.data.toList):=by
  show _=_;rw[M.first,K0b s h0]
 have hp:(0:Int)<s.size:=by omega
 generalize M.first s.data.toList=r at *;cases hd:M.dig s[0].toNat
 · cases hl:M.let' s[0].toNat
   · by_cases h34:s[0].toNat=34
     · rw[hd,hl,if_neg (by simp),if_neg (by simp),if_pos h34]at hr;have hq:(((s[0].toNat:Nat):Int)==34)=true:=by rw[h34];rfl
       clear h34;go_enter func68,ntmps68;go_wp2_with (first|(go_at_call 95;refine(T5 _ _).mono ?_;rintro e w' ⟨rfl,rfl⟩)|(go_at_call 97;refine(Y6 _ _).mono ?_;rintro e w' ⟨rfl,rfl⟩))
       refine(G6c _ _ hs h0).mono ?_;rintro e w1 ⟨rfl,hb⟩;rw[<-hr.out];unfold res;obtain⟨k,t,n⟩:=r;obtain⟨hc,hf⟩:=H5a hb;have hz:w.heap.size<w1.heap.size:=by have:=hb.size;simp at this;omega
       go_wp2;exact bodyPost_ret (v:=res (k,t,n)) (by simp[results,results68,go_sem,hc,res]) rfl ⟨rfl,D5a hb _ _ _⟩
     · rw[hd,hl,if_neg (by simp),if_neg (by simp),if_neg h34]at hr;have hq:(((s[0].toNat:Nat):Int)==34)=false:=by simp;omega
       clear h34;go_enter func68,ntmps68;go_wp2_with (first|(go_at_call 95;refine(T5 _ _).mono ?_;rintro e w' ⟨rfl,rfl⟩)|(go_at_call 97;refine(Y6 _ _).mono ?_;rintro e w' ⟨rfl,rfl⟩))
       refine(I2c _ _ hs).mono ?_;rintro e w1 ⟨rfl,hb⟩;rw[<-hr.out];unfold res;obtain⟨k,t,n⟩:=r;obtain⟨hc,hf⟩:=H5a hb;have hz:w.heap.size<w1.heap.size:=by have:=hb.size;simp at this;omega
       go_wp2;exact bodyPost_ret (v:=res (k,t,n)) (by simp[results,results68,go_sem,hc,res]) rfl ⟨rfl,D5a hb _ _ _⟩
   · rw[hd,hl,if_neg (by simp),if_pos rfl]at hr;go_enter func68,ntmps68;go_wp2_with (first|(go_at_call 95;refine(T5 _ _).mono ?_;rintro e w' ⟨rfl,rfl⟩)|(go_at_call 97;refine(Y6 _ _).mono ?_;rintro e w' ⟨rfl,rfl⟩))
     refine(M2c _ _ hs).mono ?_;rintro e w1 ⟨rfl,hb⟩;rw[<-hr.out];unfold res;obtain⟨k,t,n⟩:=r;obtain⟨hc,hf⟩:=H5a hb;have hz:w.heap.size<w1.heap.size:=by have:=hb.size;simp at this;omega
     go_wp2;exact bodyPost_ret (v:=res (k,t,n)) (by simp[results,results68,go_sem,hc,res]) rfl ⟨rfl,D5a hb _ _ _⟩
 · rw[hd,if_pos rfl]at hr;go_enter func68,ntmps68;go_wp2_with (go_at_call 95;refine(T5 _ _).mono ?_;rintro e w' ⟨rfl,rfl⟩)
   refine(Q1b _ _ hs h0).mono ?_;rintro e w1 ⟨rfl,hb⟩;rw[<-hr.out];unfold res;obtain⟨k,t,n⟩:=r;obtain⟨hc,hf⟩:=H5a hb;have hz:w.heap.size<w1.heap.size:=by have:=hb.size;simp at this;omega
   go_wp2;exact bodyPost_ret (v:=res (k,t,n)) (by simp[results,results68,go_sem,hc,res]) rfl ⟨rfl,D5a hb _ _ _⟩
theorem Tryz.info115:(prog.info? 115).map (λi=>(i.zero,i.size,i.bytes))=some (some (.agg #[iV 0,.string ⟨#[]⟩,iV 0]),3,32):=by kernel_rfl
def Ans(R:List M.Tk×Int×Nat)(w:World)(e:Ending)(w':World):Prop:=
 ∃ad c,e= .returned (.tuple #[.slice ad R.1.length c,.agg #[iV R.2.1,iV (R.2.2:Int)]])/\w'.ownsRow w.heap.size 115 3 (.slice ad R.1.length c) R.1.length (B5a R.1)/\Below w.heap.size w w'
theorem C3b{w:World}{base base':Nat}{e:TypeId}{size:Nat}{v:Value}{n:Nat}{xs:List Value}(h:w.ownsRow base e size v n xs)(hb:base'<=base):w.ownsRow base' e size v n xs:=by
 obtain⟨h1,h2⟩:=h;refine⟨h1, ?_⟩;rcases h2 with h2|⟨g,cap,cur,hv,hg,r⟩
 · exact .inl h2
 · exact .inr ⟨g,cap,cur,hv,kQ hb hg,r⟩
theorem K4a{w:World}{base:Nat}{e:TypeId}{size:Nat}{v:Value}{n:Nat}{xs:List Value}(h:w.ownsRow base e size v n xs):∃ad c,v= .slice ad n c:=by
 rcases h.2 with ⟨rfl,rfl⟩|⟨g,cap,cur,hv,_⟩
 · exact⟨_,_,rfl⟩
 · exact⟨_,_,hv⟩
theorem O0a{w w':World}(e:Int)(a:Nat)(hb:Below w.heap.size w w'):Ans ([],e,a) w (.returned (.tuple #[sN,.agg #[iV e,iV (a:Int)]])) w':=
 ⟨none,0,rfl,kW _ _ _ _,hb⟩
theorem I5b{w wr:World}{cs:Array Value}{t:TypeId}(h:Below (w.heap.size+1) (w.alloc (.cells cs t)) wr):
 (∀o v,cs[o]? =some v->wr.cell? (aD w.heap.size o)=some v)/\(∀o,wr.frozen? (aD w.heap.size o)=false)/\w.heap.size<wr.heap.size:=by
 refine⟨λo v hv=> ?_,λo=> ?_, ?_⟩
 · rw[h.cell (p:=(aD w.heap.size o)) (by simp),World.cell?_alloc_new,hv]
 · rw[h.frozen (p:=(aD w.heap.size o)) (by simp)];simp
 · have:=h.size;simp at this;omega
theorem P2a{w wr w1:World}{o o2:Obj}(hnx:Below (w.heap.size+1) (w.alloc o) wr)(hb:Below wr.heap.size wr w1)(v0 v1:Value):
 Below w.heap.size w (((w1.setCell (aD w.heap.size 0) v0).setCell (aD w.heap.size 1) v1).alloc o2):=by
 have h1:Below w.heap.size w wr:=((Below.refl _ _).alloc (vQ _) o).trans (hnx.mono (by omega));have h2:=((h1.trans (hb.mono h1.size)).setCell (p:=(aD w.heap.size 0)) (by simp) v0).setCell (p:=(aD w.heap.size 1)) (by simp) v1;exact h2.alloc h2.size _
theorem W9a{w w':World}{base:Nat}{e:TypeId}{size:Nat}{v:Value}{n:Nat}{xs:List Value}(h:w.ownsRow base e size v n xs)(hb:Below w.heap.size w w'):w'.ownsRow base e size v n xs:=
 h.kept (row:=none) ⟨hb.os,hb.tape,hb.output,hb.size,λk hk _=>hb.block k hk⟩ (by cases hv:v.ownBlock<;>simp)
theorem V5a(w:World)(o:Obj)(x y z:Value)(t:TypeId):∀j u,[x,y,z][j]? =some u->((w.alloc o).alloc (.cells #[x,y,z] t)).cell? (((aD (w.heap.size+1) 0):Addr).add j)=some u:=by
 intro j u hj;have hadd:((aD (w.heap.size+1) 0):Addr).add j=(aD (w.heap.size+1) j):=by unfold Addr.add;split<;>simp_all
 rw[hadd,World.cell?_alloc_at _ _ _ _ (by simp)];rw[<-hj];simp
theorem V4a(w:World)(x y z:Value)(t:TypeId):∀j u,[x,y,z][j]? =some u->(w.alloc (.cells #[x,y,z] t)).cell? (((aD w.heap.size 0):Addr).add j)=some u:=by
 intro j u hj;have hadd:((aD w.heap.size 0):Addr).add j=(aD w.heap.size j):=by unfold Addr.add;split<;>simp_all
 rw[hadd,World.cell?_alloc_at _ _ _ _ rfl];rw[<-hj];simp
theorem H8b{w2:World}{base n:Nat}{ad:Option Addr}{c:Nat}{acc:List M.Tk}{t:M.Tk}(h:w2.ownsRow base 115 3 (.slice ad n c) n (B5a acc++[iV t.kind,.string ⟨t.text.toArray⟩,iV (t.at':Int)])):
 w2.ownsRow base 115 3 (.slice ad n c) n (B5a (acc++[t])):=by rw[A5c];exact h
theorem rel_below'{w wr w2:World}{o o2:Obj}{v:Value}{n:Nat}{xs:List Value}(hnx:Below (w.heap.size+1) (w.alloc o) wr)(hown:wr.ownsRow (w.heap.size+1) 115 3 v n xs)
 (hg:(wr.alloc o2).grownBy w2 v.ownBlock):Below (w.heap.size+1) (w.alloc o) w2:=by
 have hsz:w.heap.size+1<=wr.heap.size:=by have:=hnx.size;simpa using this
 exact(hnx.alloc hsz o2).grown hg (by simp;omega) (λk hk=>(hown.lt k hk).1)
theorem A6c{w wr w1 w2:World}{o o2 o3:Obj}{v:Value}{n:Nat}{xs:List Value}(hnx:Below (w.heap.size+1) (w.alloc o) wr)(hb:Below wr.heap.size wr w1)(hown:wr.ownsRow (w.heap.size+1) 115 3 v n xs)
 (hg:((w1.alloc o2).alloc o3).grownBy w2 v.ownBlock):Below (w.heap.size+1) (w.alloc o) w2:=by
 have hsz:w.heap.size+1<=wr.heap.size:=by have:=hnx.size;simpa using this
 have h1:=hnx.trans (hb.mono hsz);have hsz1:w.heap.size+1<=w1.heap.size:=kQ hsz hb.size;exact((h1.alloc hsz1 o2).alloc (by simp;omega) o3).grown hg (by simp;omega) (λk hk=>(hown.lt k hk).1)
theorem J0d{w w2:World}{o:Obj}{ad:Option Addr}{c n:Nat}{acc:List M.Tk}{L:Nat}(ho:w2.ownsRow (w.heap.size+1) 115 3 (.slice ad (acc.length+1) c) (acc.length+1) (B5a (acc++[⟨6,[],L⟩])))
 (hb:Below (w.heap.size+1) (w.alloc o) w2) (v0 v1:Value):Ans (acc++[⟨6,[],L⟩],0,n) w (.returned (.tuple #[.slice ad (acc.length+1) c,.agg #[iV 0,iV (n:Int)]])) ((w2.setCell (aD w.heap.size 0) v0).setCell (aD w.heap.size 1) v1):=by
 refine⟨ad,c,by simp, ?_,((((Below.refl _ _).alloc (vQ _) o).trans (hb.mono (by omega))).setCell (by simp) _).setCell (by simp) _⟩;have:=C3b (ownsRow_setCell_below (ownsRow_setCell_below ho (a:=(aD w.heap.size 0)) (by simp) v0) (a:=(aD w.heap.size 1)) (by simp) v1) (Nat.le_succ _);simpa using this
theorem I3c(s:ByteArray)(w:World)(hs:s.size<=maxLen):Calls prog 34 #[.string s] w (Ans (M.I5 s.data.toList) w):=by
 have hR:Hid (M.I5 s.data.toList=if 4000<s.size then ([],2,0) else M.O0 (s.size+1) s.data.toList 0 []):=by show _=_;unfold M.I5;rw[bl]
 generalize M.I5 s.data.toList=R at *;unfold maxLen at hs;by_cases hbig:(4000:Int)<s.size
 · go_enter func34,ntmps34;go_wp2;rw[hR.out,if_pos (by omega)];exact bodyPost_ret (v:= .tuple #[sN,.agg #[iV 2,iV ((0:Nat):Int)]]) (by simp[results,results34,go_sem]) rfl (O0a 2 0 ((Below.refl _ _).alloc (vQ _) _))
 · rw[if_neg (by omega)]at hR;go_enter func34,ntmps34;go_wp2_with fail
   refine(H0b s 0 _ (by omega) (by omega)).mono ?_;rintro e w1 ⟨rfl,rfl⟩;have hle:=M.B8a M.blank (s.data.toList.drop 0);rw[List.length_drop,bl]at hle;have hle2:0+M.sp M.blank (s.data.toList.drop 0)<=s.size:=by omega
   clear hle;rw[M.S3a]at hR;have h0:Hid (M.sp M.blank (s.data.toList.drop (0+M.sp M.blank (s.data.toList.drop 0)))=0):=by
    have h:=M.Q3a M.blank (s.data.toList.drop 0);rw[List.drop_drop]at h;exact h
   generalize 0+M.sp M.blank (s.data.toList.drop 0)=a at *;go_wp2_with fail
   go_loopw [4,5] (λv i wr=>∃(a f:Nat) (acc:List M.Tk) (ad:Option Addr) (c:Nat),a<=s.size/\i=iV a/\Hid (M.sp M.blank (s.data.toList.drop a)=0)/\s.size - a<f+1/\Hid (R=M.O0 (f+1) s.data.toList a acc)/\acc.length<=1000/\v= .slice ad acc.length c/\
    Hid (wr.ownsRow (w.heap.size+1) 115 3 (.slice ad acc.length c) acc.length (B5a acc))/\Hid (Below (w.heap.size+1) (w.alloc (Obj.cells #[Value.int IntKind.i64 0,Value.int IntKind.i64 0] 26)) wr)) (λ_ i _=>s.size - (intOf i).toNat)
   case atStart=>exact⟨a,s.size,[],none,0,by omega,rfl,h0,by omega,hR,by simp,rfl,kW _ _ _ _,Below.refl _ _⟩
   case round=>
    clear hR h0 hle2;obtain⟨a,f,acc,ad,c,ha,rfl,hbl,hf,hR,hacc,rfl,hown,hnx⟩:=hrel;have HR:=hR.out;rw[M.H6b _ _ _ _ hbl.out,bl]at HR;clear hR hbl;obtain⟨hwc,hwf,hwz⟩:=I5b hnx.out;by_cases hlt:a<s.size
    · rw[if_neg (by omega)]at HR;go_wp2_with fail
      refine(D6c _ _ (kQ (C2a _ _ _) (by omega)) (by rw[ByteArray.size_extract];omega)).mono ?_;rintro e w1 ⟨rfl,hb⟩;rw[Q8a];have hfl:=M.K8b (s.data.toList.drop a);rw[List.length_drop,bl]at hfl;generalize M.first (s.data.toList.drop a)=r at *;obtain⟨k,t,n⟩:=r;simp only at HR hfl;unfold res;have HRR:=A0 HR;clear HR;obtain⟨hc,hfz⟩:=H5a hb;have q0:w1.cell? (aD w.heap.size 0)=some (iV 0):=(hc _ _ hwz).trans (hwc 0 _ rfl);have q1:w1.cell? (aD w.heap.size 1)=some (iV 0):=(hc _ _ hwz).trans (hwc 1 _ rfl);have z0:∀o,w1.frozen? (aD w.heap.size o)=false:=λo=>(hfz _ _ hwz).trans (hwf o);have hz:w.heap.size<w1.heap.size:=yQ hwz hb.size;have HB:=A0 hb;clear hc hfz hb hwc hwf;by_cases hn:n=0
      · subst hn;go_wp2_with fail
        rw[HRR.out,if_pos (by trivial)];exact bodyPost_ret (v:= .tuple #[sN,.agg #[iV 1,iV (a:Int)]]) (by simp[results,results34,go_sem,q0,q1,hz]) rfl (O0a 1 a (P2a hnx.out HB.out _ _))
      · have hn':((n:Int)==0)=false:=by simp;omega
        have HRR2:=HRR.out;rw[if_neg hn]at HRR2;have HR3:=A0 HRR2;clear HRR2 HRR;by_cases hm:acc.length=1000
        · have hm':((acc.length:Int)==1000)=true:=by simp;omega
          rw[if_pos hm]at HR3;clear hm;go_wp2_with fail
          rw[HR3.out];exact bodyPost_ret (v:= .tuple #[sN,.agg #[iV 2,iV (a:Int)]]) (by simp[results,results34,go_sem,q0,q1,hz]) rfl (O0a 2 a (P2a hnx.out HB.out _ _))
        · have hm':((acc.length:Int)==1000)=false:=by simp;omega
          rw[if_neg hm]at HR3;have hm2:acc.length<1000:=by omega
          clear hm;obtain⟨i0,hi,hz0,hz1,hz2⟩:=info_parts Tryz.info115;have hw2:=(W9a hown.out HB.out).alloc (.cells #[Value.int IntKind.i64 k,Value.string { data:=t.toArray },Value.int IntKind.i64 (a:Int)] 115);have hw3:=A0 (hw2.alloc (.cells #[Value.int IntKind.i64 k,Value.string { data:=t.toArray },Value.int IntKind.i64 (a:Int)] 115));clear hw2;go_wp2_with (at_builtin;refine wpList_append_own _ rfl _ _ 87 rfl (w.heap.size+1) 115 i0 (.agg #[iV 0,.string ⟨#[]⟩,iV 0]) 3 32 underlying87 hi hz0 hz1 hz2 rfl (by decide) _ _ _ rfl hw3.out (aD (w1.heap.size+1) 0) 1 1 [iV k,.string ⟨t.toArray⟩,iV (a:Int)] rfl rfl ?c1 ?c2 ?c3 ?c4 ?c5 ?_)
          case c1=>exact V5a _ _ _ _ _ _
          case c2=>intro u hu;simp at hu;rcases hu with rfl|rfl|rfl<;>rfl
          case c3=>simp only[maxLen];omega
          case c4=>omega
          case c5=>simp;omega
          · intro v' w2 hown2 hg2 _;obtain⟨ad2,c2,hv2⟩:=K4a hown2;rw[hv2]at hown2⊢;obtain⟨f',rfl⟩:∃f',f=f'+1:=⟨f - 1,by omega⟩;rw[M.S3a]at HR3;have hsk:=M.B8a M.blank (s.data.toList.drop (a+n));rw[List.length_drop,bl]at hsk;have hbl:=A0 (M.Q3a M.blank (s.data.toList.drop (a+n)));rw[List.drop_drop]at hbl;have HO:=A0 (H8b (t:=⟨k,t,a⟩) hown2);have HBB:=A0 (A6c hnx.out HB.out hown.out hg2);clear hown2 hg2 hown hnx HB hw3;go_wp2_with fail
            rw[show ((a:Int)+(n:Int))=((a+n:Nat):Int) from by omega];refine(H0b s (a+n) _ (by omega) (by omega)).mono ?_;rintro e w3 ⟨rfl,rfl⟩;generalize hsp:M.sp M.blank (s.data.toList.drop (a+n))=b at *;clear hsp;go_wp2_with fail
            go_roundw
            case rel=>exact⟨a+n+b,f',_,ad2,c2,by omega,rfl,hbl,by omega,HR3,by simp;omega,by simp,by have:=HO.out;show World.ownsRow _ _ _ _ _ _ _;simpa using this,HBB⟩
            case measure=>simp[intOf];omega
    · rw[if_pos (by omega)]at HR;have HR3:=A0 HR;clear HR;have hz:w.heap.size<wr.heap.size:=hwz;obtain⟨i0,hi,hz0,hz1,hz2⟩:=info_parts Tryz.info115;have hw3:=A0 (hown.out.alloc (.cells #[Value.int IntKind.i64 6,Value.string { data:=#[] },Value.int IntKind.i64 (s.size:Int)] 115));go_wp2_with (at_builtin;refine wpList_append_own _ rfl _ _ 87 rfl (w.heap.size+1) 115 i0 (.agg #[iV 0,.string ⟨#[]⟩,iV 0]) 3 32 underlying87 hi hz0 hz1 hz2 rfl (by decide) _ _ _ rfl hw3.out (aD wr.heap.size 0) 1 1 [iV 6,.string ⟨#[]⟩,iV (s.size:Int)] rfl rfl ?c1 ?c2 ?c3 ?c4 ?c5 ?_)
      case c1=>exact V4a _ _ _ _ _
      case c2=>intro u hu;simp at hu;rcases hu with rfl|rfl|rfl<;>rfl
      case c3=>simp only[maxLen];omega
      case c4=>omega
      case c5=>simp;omega
      · intro v' w2 hown2 hg2 _;obtain⟨ad2,c2,hv2⟩:=K4a hown2;rw[hv2]at hown2⊢;have HO:=A0 (H8b (t:=⟨6,[],s.size⟩) hown2);have HBB:=A0 (rel_below' hnx.out hown.out hg2);clear hown2 hg2 hown hnx hw3 hwc hwf hwz hv2;obtain⟨hwc,hwf,hwz⟩:=I5b HBB.out;have q0:w2.cell? (aD w.heap.size 0)=some (iV 0):=hwc 0 _ rfl;have q1:w2.cell? (aD w.heap.size 1)=some (iV 0):=hwc 1 _ rfl;clear hwc;go_wp2_with fail
        rw[HR3.out];exact bodyPost_ret (v:= .tuple #[.slice ad2 (acc.length+1) c2,.agg #[iV 0,iV ((0:Nat):Int)]]) (by simp[results,results34,go_sem,q0,q1]) rfl (J0d HO.out HBB.out _ _)
def TyOwn(w:World)(lo:Nat)(v:Value)(T:List M.Ty):Prop:=∃yx,w.ownsRow lo 66 4 v T.length yx/\Rws (TyV w (λg=>lo<=g)) T yx
theorem V7c{w:World}{B c pb:Nat}(hpb:pb=w.heap.size){ad:Option Addr}{L:List M.Tk}{ok:Nat->Prop}(hB:B<=w.heap.size)(hok:∀g,w.heap.size<=g->ok g)(hL:0<L.length)(ho:w.ownsRow B 115 3 (.slice ad L.length c) L.length (B5a L)):
 Pst (w.alloc (.cells #[.slice ad L.length c,iV 0,iV 0,sN,sN] 92)) B pb (.slice ad L.length c) L ok 0 ⟨0,[],[]⟩:=by
 subst hpb;exact⟨hB,hL,⟨by simp,by simp⟩,C7 (ho.alloc _) (wQ _),⟨hok _ (vQ _),λv g hv hg=>by rw[World.cell?_alloc_new]at hv;cases hv;simp[Value.ownBlock]at hg,λv g hv hg=>by rw[World.cell?_alloc_new]at hv;cases hv;simp[Value.ownBlock]at hg⟩,_,_,[],[],heap_alloc_new w _,kW _ _ _ _,kW _ _ _ _,rfl,rfl⟩
end Go.Proofs.YtfhhipefecekkaaGreatDoor
