/-
  A part of the proof.
-/
import Derived.Test.YtgdnpemiiageaaaGreatDoorProg
import Derived.Test.YtgdnpemiiageaaaGreatDoorPlainA
import Derived.WalkKit
import Derived.WalkSpells
import Derived.WalkLawsBesides
import Derived.Laws.Rows
set_option maxHeartbeats 16000000
set_option maxRecDepth 100000
namespace Go.Proofs.YtgdnpemiiageaaaGreatDoor
abbrev iV (n:Int):Value:= .int .i64 n
abbrev pV (b:Nat):Value:= .pointer (some ⟨b,0,none⟩)
abbrev ndC (k a b c:Int) (l:Value) (t:List UInt8) (n y p:Int):Obj:= .cells #[iV k,iV a,iV b,iV c,l,.string ⟨t.toArray⟩,iV n,iV y,iV p] 72
abbrev No:Nat->Prop:=fun _=>False
abbrev aD (b o:Nat):Addr:=⟨b,o,none⟩
abbrev sN:Value:= .slice none 0 0
abbrev sV (l:List UInt8):Value:= .string ⟨l.toArray⟩
abbrev rT:Ending:= .returned (.tuple #[])
abbrev _root_.Go.World.z (w:World):Nat:=w.heap.size
theorem ltG {α:Type} {xs:Array α} {i:Nat} {a:α} (h:xs[i]? =some a):i<xs.size:=(Array.getElem?_eq_some_iff.1 h).1
theorem blt {w:World} {a:Addr} {v:Value} (h:w.cell? a=some v):a.block<w.heap.size:=World.block_lt_of_cell? w a h
theorem mkf (fn:Fn) (first cap:Array Value) (w:World):(Instr.makeFunc fn first cap).run Tryz.prog w= .ok (.func fn first cap) w:=rfl
open Go.RowKit in
theorem cr {w:World} {b o:Nat} {cs:Array Value} {e:TypeId} {fz:Nat×Nat} {v:Value} (h:w.heap[b]? =some (.cells cs e fz)) (hv:cs[o]? =some v):w.cell? ⟨b,o,none⟩=some v:=(cell_of_row _ _ o _ _ _ h).trans hv
open Go.RowKit
theorem F2 {a b:Bool} (h:a=b):Ending.returned (.bool a)= .returned (.bool b):=by rw[h]
theorem T6 (n:Nat) (w:World):Calls Tryz.prog 80 #[.int .u8 (n:Int)] w fun e w'=>e= .returned (.bool (M.dig n))/\w'=w:=by
 go_enter Tryz.func80,Tryz.ntmps80;go_wp2;all_goals go_ret
 all_goals exact⟨F2 (by rw[Bool.eq_iff_iff];simp[M.dig];omega),rfl⟩
theorem Y6 (n:Nat) (w:World):Calls Tryz.prog 82 #[.int .u8 (n:Int)] w fun e w'=>e= .returned (.bool (M.let' n))/\w'=w:=by
 go_enter Tryz.func82,Tryz.ntmps82;go_wp2;all_goals go_ret
 all_goals exact⟨F2 (by rw[Bool.eq_iff_iff];simp[M.let'];omega),rfl⟩
theorem Y9a (n:Nat) (w:World):Calls Tryz.prog 79 #[.int .u8 (n:Int)] w fun e w'=>e= .returned (.bool (M.blank n))/\w'=w:=by
 go_enter Tryz.func79,Tryz.ntmps79;go_wp2;all_goals go_ret
 all_goals exact⟨F2 (by rw[Bool.eq_iff_iff];simp[M.blank];omega),rfl⟩
theorem Y7a (n:Nat) (w:World):Calls Tryz.prog 115 #[.int .u8 (n:Int)] w fun e w'=>e= .returned (.bool (M.txt n))/\w'=w:=by
 go_enter Tryz.func115,Tryz.ntmps115;go_wp2;all_goals go_ret
 all_goals exact⟨F2 (by rw[Bool.eq_iff_iff];simp[M.txt];omega),rfl⟩
theorem O6a (n:Nat) (w:World):Calls Tryz.prog 111 #[.int .u8 (n:Int)] w fun e w'=>e= .returned (.bool (M.dig n))/\w'=w:=by
 go_enter Tryz.func111,Tryz.ntmps111;go_wp2_with (go_at_call 80;refine(T6 _ _).mono ?_;rintro e w' ⟨rfl,rfl⟩)
 go_ret;exact⟨rfl,rfl⟩
theorem Z9a (n:Nat) (w:World):Calls Tryz.prog 113 #[.int .u8 (n:Int)] w fun e w'=>e= .returned (.bool (M.nam n))/\w'=w:=by
 cases h:M.let' n;all_goals
  go_enter Tryz.func113,Tryz.ntmps113;go_wp2_with (first|(go_at_call 80;refine(T6 _ _).mono ?_;rintro e w' ⟨rfl,rfl⟩)|(go_at_call 82;refine(Y6 _ _).mono ?_;rintro e w' ⟨rfl,rfl⟩))
  go_ret;exact⟨F2 (by simp[M.nam,h]),rfl⟩
open Go.RowKit
theorem J0 {k:IntKind} {a b:Int} (h:a=b):Ending.returned (.int k a)= .returned (.int k b):=by rw[h]
theorem bl (s:ByteArray):s.data.toList.length=s.size:=by rw[Array.length_toList];rfl
theorem O1b (s:ByteArray) (w:World) (hs:s.size<=maxLen):Calls Tryz.prog 78 #[.string s,.func (.func 79) #[] #[]] w fun e w'=>e= .returned (iV (M.sp M.blank s.data.toList))/\w'=w:=by
 unfold maxLen at hs;go_enter Tryz.func78,Tryz.ntmps78;go_wp2;go_loop [5] (fun i=>∃k:Nat,k<=s.size/\i=iV k/\k<=M.sp M.blank s.data.toList) (fun i=>s.size - (intOf i).toNat)
 case atStart=>exact⟨0,Nat.zero_le _,rfl,Nat.zero_le _⟩
 case round=>
  obtain⟨k,hk,rfl,hq⟩:=hrel;by_cases hlt:k<s.size
  · cases hp:M.blank s[k].toNat
    · go_wp2_with (go_at_call 79;refine(Y9a _ _).mono ?_;rintro e w' ⟨rfl,rfl⟩)
      go_ret;exact⟨J0 (by rw[M.H3b M.blank s.data.toList k (by rw[bl];exact hlt) hq hp]),rfl⟩
    · go_wp2_with (go_at_call 79;refine(Y9a _ _).mono ?_;rintro e w' ⟨rfl,rfl⟩)
      go_round
      case rel=>exact⟨k+1,by omega,by go_num,M.M6a M.blank s.data.toList k (by rw[bl];exact hlt) hq hp⟩
      case measure=>simp[intOf];omega
  · go_wp2;go_ret;exact⟨J0 (by have:=M.C5a M.blank s.data.toList;rw[bl]at this;omega),rfl⟩
theorem O0b (s:ByteArray) (w:World) (hs:s.size<=maxLen):Calls Tryz.prog 78 #[.string s,.func (.func 111) #[] #[]] w fun e w'=>e= .returned (iV (M.sp M.dig s.data.toList))/\w'=w:=by
 unfold maxLen at hs;go_enter Tryz.func78,Tryz.ntmps78;go_wp2;go_loop [5] (fun i=>∃k:Nat,k<=s.size/\i=iV k/\k<=M.sp M.dig s.data.toList) (fun i=>s.size - (intOf i).toNat)
 case atStart=>exact⟨0,Nat.zero_le _,rfl,Nat.zero_le _⟩
 case round=>
  obtain⟨k,hk,rfl,hq⟩:=hrel;by_cases hlt:k<s.size
  · cases hp:M.dig s[k].toNat
    · go_wp2_with (go_at_call 111;refine(O6a _ _).mono ?_;rintro e w' ⟨rfl,rfl⟩)
      go_ret;exact⟨J0 (by rw[M.H3b M.dig s.data.toList k (by rw[bl];exact hlt) hq hp]),rfl⟩
    · go_wp2_with (go_at_call 111;refine(O6a _ _).mono ?_;rintro e w' ⟨rfl,rfl⟩)
      go_round
      case rel=>exact⟨k+1,by omega,by go_num,M.M6a M.dig s.data.toList k (by rw[bl];exact hlt) hq hp⟩
      case measure=>simp[intOf];omega
  · go_wp2;go_ret;exact⟨J0 (by have:=M.C5a M.dig s.data.toList;rw[bl]at this;omega),rfl⟩
theorem N9b (s:ByteArray) (w:World) (hs:s.size<=maxLen):Calls Tryz.prog 78 #[.string s,.func (.func 113) #[] #[]] w fun e w'=>e= .returned (iV (M.sp M.nam s.data.toList))/\w'=w:=by
 unfold maxLen at hs;go_enter Tryz.func78,Tryz.ntmps78;go_wp2;go_loop [5] (fun i=>∃k:Nat,k<=s.size/\i=iV k/\k<=M.sp M.nam s.data.toList) (fun i=>s.size - (intOf i).toNat)
 case atStart=>exact⟨0,Nat.zero_le _,rfl,Nat.zero_le _⟩
 case round=>
  obtain⟨k,hk,rfl,hq⟩:=hrel;by_cases hlt:k<s.size
  · cases hp:M.nam s[k].toNat
    · go_wp2_with (go_at_call 113;refine(Z9a _ _).mono ?_;rintro e w' ⟨rfl,rfl⟩)
      go_ret;exact⟨J0 (by rw[M.H3b M.nam s.data.toList k (by rw[bl];exact hlt) hq hp]),rfl⟩
    · go_wp2_with (go_at_call 113;refine(Z9a _ _).mono ?_;rintro e w' ⟨rfl,rfl⟩)
      go_round
      case rel=>exact⟨k+1,by omega,by go_num,M.M6a M.nam s.data.toList k (by rw[bl];exact hlt) hq hp⟩
      case measure=>simp[intOf];omega
  · go_wp2;go_ret;exact⟨J0 (by have:=M.C5a M.nam s.data.toList;rw[bl]at this;omega),rfl⟩
theorem N8b (s:ByteArray) (w:World) (hs:s.size<=maxLen):Calls Tryz.prog 78 #[.string s,.func (.func 115) #[] #[]] w fun e w'=>e= .returned (iV (M.sp M.txt s.data.toList))/\w'=w:=by
 unfold maxLen at hs;go_enter Tryz.func78,Tryz.ntmps78;go_wp2;go_loop [5] (fun i=>∃k:Nat,k<=s.size/\i=iV k/\k<=M.sp M.txt s.data.toList) (fun i=>s.size - (intOf i).toNat)
 case atStart=>exact⟨0,Nat.zero_le _,rfl,Nat.zero_le _⟩
 case round=>
  obtain⟨k,hk,rfl,hq⟩:=hrel;by_cases hlt:k<s.size
  · cases hp:M.txt s[k].toNat
    · go_wp2_with (go_at_call 115;refine(Y7a _ _).mono ?_;rintro e w' ⟨rfl,rfl⟩)
      go_ret;exact⟨J0 (by rw[M.H3b M.txt s.data.toList k (by rw[bl];exact hlt) hq hp]),rfl⟩
    · go_wp2_with (go_at_call 115;refine(Y7a _ _).mono ?_;rintro e w' ⟨rfl,rfl⟩)
      go_round
      case rel=>exact⟨k+1,by omega,by go_num,M.M6a M.txt s.data.toList k (by rw[bl];exact hlt) hq hp⟩
      case measure=>simp[intOf];omega
  · go_wp2;go_ret;exact⟨J0 (by have:=M.C5a M.txt s.data.toList;rw[bl]at this;omega),rfl⟩
end Go.Proofs.YtgdnpemiiageaaaGreatDoor
