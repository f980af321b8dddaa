/-
  A part of the proof.
-/
import Derived.Test.YtgdnpemiiageaaaGreatDoorNodeB
import Derived.Test.YtgdnpemiiageaaaGreatDoorPlainC
import Derived.Test.YtgdnpemiiageaaaGreatDoorWho
set_option maxHeartbeats 16000000
set_option maxRecDepth 100000
namespace Go.Proofs.YtgdnpemiiageaaaGreatDoor
open Go.RowKit
structure PstL (w:World) (B pb:Nat) (tv:Value) (L:List M.Tk) (ok:Nat->Prop) (d:Nat) (s:M.St):Prop where
 low:B<=pb
 at':s.i<L.length
 few:s.N.length<=s.i+1/\s.T.length<=s.i
 toks:w.ownsRow 0 119 3 tv L.length (B0a L)
 oks:ok pb/\(∀v g,w.cell? (aD pb 3)=some v->v.ownBlock=some g->ok g)/\∀v g,w.cell? (aD pb 4)=some v->v.ownBlock=some g->ok g
 blk:∃nv yv nx yx,w.heap[pb]? =some (.cells #[tv,iV (s.i:Int),iV (d:Int),nv,yv] 96 (0,0))/\w.ownsRow B 72 9 nv s.N.length nx/\w.ownsRow B 68 4 yv s.T.length yx/\
  Rws (NdV w ok) s.N nx/\Rws (TyV w ok) s.T yx
theorem PstL.chg {S:Nat->Prop} {w w':World} {B pb:Nat} {tv:Value} {L:List M.Tk} {ok ok':Nat->Prop} {d:Nat} {s:M.St} (h:PstL w B pb tv L ok d s) (hc:Chg S w w')
 (hs:∀k cur e,w.heap[k]? =some (.cells cur e (0,0))->S k->e≠96/\e≠72/\e≠68/\tv.ownBlock≠some k/\((e=126\/e=3)->¬ok k))
 (ho:∀g,ok g->g<w.heap.size->ok' g):PstL w' B pb tv L ok' d s:=by
 obtain⟨h1,h2,h3,h4,h5,nv,yv,nx,yx,hb,hn,hy,hrn,hry⟩:=h;have hlt:=(ltG hb);have key:∀g,ok g->g<w.heap.size->S g->(∃cur e,w.heap[g]? =some (.cells cur e (0,0))/\(e=126\/e=3))->False:=by
  rintro g hg _ hx ⟨cur,e,hh,he⟩;exact(hs g cur e hh hx).2.2.2.2 he hg
 have hbw:w'.heap[pb]? =w.heap[pb]? :=hc.block pb hlt (fun x=>(hs pb _ _ hb x).1 rfl);have hok5:ok' pb/\(∀v g,w'.cell? (aD pb 3)=some v->v.ownBlock=some g->ok' g)/\∀v g,w'.cell? (aD pb 4)=some v->v.ownBlock=some g->ok' g:=by
  have c3:w.cell? (aD pb 3)=some nv:=cr hb rfl;have c4:w.cell? (aD pb 4)=some yv:=cr hb rfl;refine⟨ho _ h5.1 hlt,fun v g hv hg=> ?_,fun v g hv hg=> ?_⟩
  · rw[World.cell?_of_block (a:=(aD pb 3)) hbw,c3]at hv;cases hv;exact ho g (h5.2.1 _ g c3 hg) (hn.lt g hg).2
  · rw[World.cell?_of_block (a:=(aD pb 4)) hbw,c4]at hv;cases hv;exact ho g (h5.2.2 _ g c4 hg) (hy.lt g hg).2
 refine⟨h1,h2,h3,A8 h4 hc fun g hg x=> ?_,hok5,nv,yv,nx,yx, ?_,A8 hn hc fun g hg x=> ?_,A8 hy hc fun g hg x=> ?_,hrn.imp (NdV.chg hc key ho),hry.imp (TyV.chg hc key ho)⟩
 · obtain⟨_,cur,hh⟩:=A9 h4 g hg;exact(hs g cur _ hh x).2.2.2.1 hg
 · rw[hc.block pb hlt (fun x=>(hs pb _ _ hb x).1 rfl)];exact hb
 · obtain⟨_,cur,hh⟩:=A9 hn g hg;exact(hs g cur _ hh x).2.1 rfl
 · obtain⟨_,cur,hh⟩:=A9 hy g hg;exact(hs g cur _ hh x).2.2.1 rfl
theorem PstL.still {w w':World} {B pb:Nat} {tv:Value} {L:List M.Tk} {ok:Nat->Prop} {d:Nat} {s:M.St} (h:PstL w B pb tv L ok d s) (hc:Chg No w w'):PstL w' B pb tv L ok d s:=
 h.chg hc (fun _ _ _ _ x=>x.elim) (fun _ x _=>x)
theorem PstL.setOwn {w:World} {B pb:Nat} {tv:Value} {L:List M.Tk} {ok:Nat->Prop} {d:Nat} {s:M.St} (h:PstL w B pb tv L ok d s) {q o:Nat} {cs:Array Value} {e:TypeId} {fz:Nat×Nat} (v:Value) (hq:w.heap[q]? =some (.cells cs e fz)) (ht:tv.ownBlock≠some q)
 (he:e≠96/\e≠72/\e≠68/\e≠126/\e≠3):PstL (w.setCell (aD q o) v) B pb tv L ok d s:=by
 refine h.chg (Chg.set w (aD q o) v) (fun k cur e' hk hs=> ?_) (fun _ x _=>x);have hs':k=q:=hs;subst hs';rw[hq]at hk;simp only[Option.some.injEq,Obj.cells.injEq]at hk;obtain⟨_,rfl,_⟩:=hk;exact⟨he.1,he.2.1,he.2.2.1,ht,fun x=>by rcases x with x|x;exact absurd x he.2.2.2.1;exact absurd x he.2.2.2.2⟩
section
variable {w:World} {B pb:Nat} {tv:Value} {L:List M.Tk} {ok:Nat->Prop} {d:Nat} {s:M.St}
theorem PstL.pushN {w w1 w2:World} {B pb:Nat} {tv:Value} {L:List M.Tk} {ok:Nat->Prop} {d:Nat} {s:M.St} {yv:Value} {nx yx:List Value} {ad:Option Addr} {c g cap:Nat} {t:M.Nd} {lv:Value} (hlow:B<=pb) (hat:s.i<L.length) (hfew:s.T.length<=s.i) (hf:s.N.length+1<=s.i+1)
 (htoks:w.ownsRow 0 119 3 tv L.length (B0a L)) (hb:w.heap[pb]? =some (.cells #[tv,iV (s.i:Int),iV (d:Int),.slice ad s.N.length c,yv] 96 (0,0)))
 (hn:w.ownsRow B 72 9 (.slice ad s.N.length c) s.N.length nx) (hy:w.ownsRow B 68 4 yv s.T.length yx) (hrn:Rws (NdV w ok) s.N nx) (hry:Rws (TyV w ok) s.T yx) (ht:NdV w ok t [iV t.kind,iV t.a,iV t.b,iV t.c,lv,.string ⟨t.text.toArray⟩,iV t.n,iV t.ty,iV t.at']) (hok:ok pb/\(∀g,Value.ownBlock (.slice ad s.N.length c)=some g->ok g)/\(∀g,yv.ownBlock=some g->ok g)) (hgok:ok g)
 (h1:Chg No w w1) (hg:w1.grownBy w2 (Value.ownBlock (.slice ad s.N.length c))) (ho:w2.ownsRow B 72 9 (.slice (some (aD g 0)) (s.N.length+1) cap) (s.N.length+1) (nx++[iV t.kind,iV t.a,iV t.b,iV t.c,lv,.string ⟨t.text.toArray⟩,iV t.n,iV t.ty,iV t.at'])):
 Kept B ok w (w2.setCell (aD pb 3) (.slice (some (aD g 0)) (s.N.length+1) cap))/\PstL (w2.setCell (aD pb 3) (.slice (some (aD g 0)) (s.N.length+1) cap)) B pb tv L ok d ⟨s.i,s.N++[t],s.T⟩:=by
 have hlt:=(ltG hb);have hb1:w1.heap[pb]? =w.heap[pb]? :=h1.block pb hlt (fun x=>x);have hy1:w1.ownsRow B 72 9 (.slice ad s.N.length c) s.N.length nx:=A8 hn h1 (fun _ _ x=>x);have hne:some pb≠Value.ownBlock (.slice ad s.N.length c):=by
  intro hx;obtain⟨_,cur,hh⟩:=A9 hy1 pb hx.symm;rw[hb1,hb]at hh;simp only[Option.some.injEq,Obj.cells.injEq]at hh;exact absurd hh.2.1 (by decide)
 have hb2:w2.heap[pb]? =some (.cells #[tv,iV (s.i:Int),iV (d:Int),.slice ad s.N.length c,yv] 96 (0,0)):=by rw[hg.block pb (Nat.lt_of_lt_of_le hlt h1.size) hne,hb1,hb]
 have hc2:Chg (fun k=>some k=Value.ownBlock (.slice ad s.N.length c)) w w2:=(h1.mono fun _ _ x=>x.elim).trans (Chg.grown hg) (fun _ _ x=>x);have hc3:Chg (fun k=>some k=Value.ownBlock (.slice ad s.N.length c)\/k=pb) w (w2.setCell (aD pb 3) (.slice (some (aD g 0)) (s.N.length+1) cap)):=(hc2.mono fun _ _ x=> .inl x).trans (Chg.set _ _ _) (fun _ _ x=> .inr x);have hno:∀{base:Nat} {e:TypeId} {size:Nat} {v:Value} {n:Nat} {xs:List Value},w.ownsRow base e size v n xs->e≠96->e≠72->∀k,v.ownBlock=some k->¬(some k=Value.ownBlock (.slice ad s.N.length c)\/k=pb):=by
  intro base e size v n xs hw he he2 k hk hx;obtain⟨_,cur,hh⟩:=A9 hw k hk;rcases hx with hx|rfl
  · obtain⟨_,cur2,hh2⟩:=A9 hn k hx.symm;rw[hh]at hh2;simp only[Option.some.injEq,Obj.cells.injEq]at hh2;exact he2 hh2.2.1
  · rw[hb]at hh;simp only[Option.some.injEq,Obj.cells.injEq]at hh;exact he hh.2.1.symm
 have key:∀k,ok k->k<w.heap.size->(some k=Value.ownBlock (.slice ad s.N.length c)\/k=pb)->(∃cur e,w.heap[k]? =some (.cells cur e (0,0))/\(e=126\/e=3))->False:=by
  rintro k _ _ hx ⟨cur,e,hh,he⟩;rcases hx with hx|rfl
  · obtain⟨_,cur2,hh2⟩:=A9 hn k hx.symm;rw[hh]at hh2;simp only[Option.some.injEq,Obj.cells.injEq]at hh2;rcases he with rfl|rfl<;>exact absurd hh2.2.1 (by decide)
  · rw[hb]at hh;simp only[Option.some.injEq,Obj.cells.injEq]at hh;rcases he with rfl|rfl<;>exact absurd hh.2.1 (by decide)
 have hb3:(w2.setCell (aD pb 3) (.slice (some (aD g 0)) (s.N.length+1) cap)).heap[pb]? =some (.cells #[tv,iV (s.i:Int),iV (d:Int),.slice (some (aD g 0)) (s.N.length+1) cap,yv] 96 (0,0)):=by rw[heap_setCell_same w2 pb 3 _ _ _ hb2];rfl
 refine⟨hc3.mono fun k hk hx=> ?_,hlow,hat,⟨by simp;omega,hfew⟩,A8 htoks hc3 (hno htoks (by decide) (by decide)),⟨hok.1,fun u g' hu hg'=> ?_,fun u g' hu hg'=> ?_⟩,_,yv,_,yx,hb3, ?_,A8 hy hc3 (hno hy (by decide) (by decide)),(hrn.imp (NdV.chg hc3 key (fun _ x _=>x))).snoc (NdV.chg hc3 key (fun _ x _=>x) _ _ ht),hry.imp (TyV.chg hc3 key (fun _ x _=>x))⟩
 · rcases hx with hx|rfl
   · obtain⟨hk1,cur2,hh2⟩:=A9 hn k hx.symm;exact⟨hk1,⟨_,_,_,hh2,.inr (.inl rfl)⟩,hok.2.1 _ hx.symm⟩
   · exact⟨hlow,⟨_,_,_,hb,.inl rfl⟩,hok.1⟩
 · rw[cell_of_row _ pb 3 _ _ _ hb3]at hu;cases hu;have hg2:some g=some g':=hg';cases hg2;exact hgok
 · rw[cell_of_row _ pb 4 _ _ _ hb3]at hu;cases hu;exact hok.2.2 _ hg'
 · have:=A8 ho (Chg.set w2 (aD pb 3) (.slice (some (aD g 0)) (s.N.length+1) cap)) (fun k hk hx=>by
    have hx':k=pb:=hx;subst hx';obtain⟨_,cur2,hh2⟩:=A9 ho k hk;rw[hb2]at hh2;simp only[Option.some.injEq,Obj.cells.injEq]at hh2;exact absurd hh2.2.1 (by decide))
   simpa using this
theorem Y2a (hL : LOk L) (h : Pst w B pb tv L ok d s) (t : M.Nd) (la : Option Addr) (ln lc : Nat) (ht : NdV w ok t [iV t.kind, iV t.a, iV t.b, iV t.c, .slice la ln lc, .string ⟨t.text.toArray⟩, iV t.n, iV t.ty, iV t.at']) (hf : s.N.length + 1 <= s.i + 1) (hB : B <= w.heap.size) (hok : ∀ g, w.heap.size <= g -> ok g) :
    Calls Tryz.prog 92 #[pV pb,.agg #[iV t.kind,iV t.a,iV t.b,iV t.c,.slice la ln lc,.string ⟨t.text.toArray⟩,iV t.n,iV t.ty,iV t.at']] w fun e w'=>e= .returned (iV (s.N.length:Int))/\Kept B ok w w'/\PstL w' B pb tv L ok d ⟨s.i,s.N++[t],s.T⟩:=by
  obtain⟨hlow,hat,hfew,htoks,hoks,nv,yv,nx,yx,hb,hn,hy,hrn,hry⟩:=h
  obtain⟨ad,c,rfl⟩:=B6 hn
  have hs:=hL.short
  have hlt:=(ltG hb)
  have c4:w.cell? (aD pb 3)=some (.slice ad s.N.length c):=cr hb rfl
  have fz:∀o,w.frozen? (aD pb o)=false:=fun o=>frozen_of_row w pb o _ _ hb
  have hoks2:ok pb/\(∀g,Value.ownBlock (.slice ad s.N.length c)=some g->ok g)/\(∀g,yv.ownBlock=some g->ok g):=⟨hoks.1,fun g hg=>hoks.2.1 _ g c4 hg,fun g hg=>hoks.2.2 _ g (cr hb rfl) hg⟩
  have HP:=A0 (fun (w1 w2:World) (g cap:Nat)=>PstL.pushN (w1:=w1) (w2:=w2) (g:=g) (cap:=cap) hlow hat hfew.2 hf htoks hb hn hy hrn hry ht hoks2)
  have HG:=A0 (fun (g:Nat) (hg:Value.ownBlock (.slice ad s.N.length c)=some g\/g=w.heap.size+2)=>show ok g from by rcases hg with hg|hg;exact hoks2.2.1 g hg;exact hok g (by omega))
  clear hoks hoks2
  have hne:Value.ownBlock (.slice ad s.N.length c)≠some pb:=by
    intro hx
    obtain⟨_,cur,hh⟩:=A9 hn pb hx
    rw[hb]at hh
    simp only[Option.some.injEq,Obj.cells.injEq]at hh
    exact absurd hh.2.1 (by decide)
  have hne2:Value.ownBlock (.slice ad s.N.length c)≠some w.heap.size:=by
    intro hx
    have:=(hn.lt _ hx).2
    omega
  have HY:=A0 hn
  obtain⟨i0,hi,hz0,hz1,hz2⟩:=info_parts Tryz.infoNd
  clear ht htoks hb hn hy hrn hry
  go_enter Tryz.func92,Tryz.ntmps92
  go_wp2_with fail
  go_region_law ((refine step_append_lies _ (by rfl) _ _ _ (by rfl) B 72 i0 _ 9 96 Tryz.underlying43 hi hz0 hz1 hz2 rfl (by omega) (.slice ad s.N.length c) s.N.length nx (by rfl) (((HY.out.alloc _).alloc _).drew) (aD (w.heap.size + 1) 0) 1 1 [iV t.kind, iV t.a, iV t.b, iV t.c, .slice la ln lc, .string ⟨t.text.toArray⟩, iV t.n, iV t.ty, iV t.at'] (by rfl) (by rfl) (World.news_of_block (cs := #[iV t.kind, iV t.a, iV t.b, iV t.c, .slice la ln lc, .string ⟨t.text.toArray⟩, iV t.n, iV t.ty, iV t.at']) (t := 72) (fr := (0, 0)) (B6a w _ _)) (by simp [Value.oneCell']) (by omega) (by simp only [maxLen]; omega) (by omega) (by simp; omega) (w.heap.size + 2) (by simp) ?_
                  intro gg cap w1 hown1 hgrow hat1 hlt1
                  have z4:w1.cell? (aD pb 3)=some (.slice ad s.N.length c):=by rw[hgrow.cell_far _ (by simp;omega) (Ne.symm hne)];exact F9 (by simp;omega) (F9 hlt c4)
                  have y4:w1.frozen? (aD pb 3)=false:=by rw[hgrow.frozen_far _ (by simp;omega) (Ne.symm hne)];exact P8 (by simp;omega) (P8 hlt (fz 3))))
  all_goals
    have HQ:=A0 (HP.out _ _ gg cap (HG.out gg hat1) (((Chg.alloc No w _).trans (Chg.alloc No _ _) (fun _ _ x=>x)).trans (Chg.drewN No _ 1) (fun _ _ x=>x)) hgrow hown1)
    clear hgrow hown1 HP HY
    go_wp2
    go_ret
    exact⟨J0 (by omega),HQ.out.1,HQ.out.2⟩
theorem Q7c (hL:LOk L) (h:Pst w B pb tv L ok d s) (t:M.Nd) (y:Int) (la:Option Addr) (ln lc:Nat) (ht:NdV w ok t [iV t.kind,iV t.a,iV t.b,iV t.c,.slice la ln lc,.string ⟨t.text.toArray⟩,iV t.n,iV t.ty,iV t.at']) (hy:t.ty= -1) (hf:s.N.length+1<=s.i+1) (hB:B<=w.heap.size) (hok:∀g,w.heap.size<=g->ok g):
 Calls Tryz.prog 56 #[pV pb,.agg #[iV t.kind,iV t.a,iV t.b,iV t.c,.slice la ln lc,.string ⟨t.text.toArray⟩,iV t.n,iV y,iV t.at']] w fun e w'=>e= .returned (iV (s.N.length:Int))/\Kept B ok w w'/\PstL w' B pb tv L ok d ⟨s.i,s.N++[t],s.T⟩:=by
 have HA:=Y2a hL (h.alloc (.cells #[iV t.kind,iV t.a,iV t.b,iV t.c,.slice la ln lc,.string ⟨t.text.toArray⟩,iV t.n,iV (-1),iV t.at'] 72)) t la ln lc (NdV.chg (Chg.alloc No _ _) (fun _ _ _ x _=>x) (fun _ x _=>x) _ _ ht) hf (by simp;omega) (fun g hg=>hok g (by simp at hg;omega));rw[hy]at HA;clear h ht;go_enter Tryz.func56,Tryz.ntmps56;go_wp2_with fail
 refine HA.mono ?_;clear HA;rintro e w1 ⟨rfl,hk,hp⟩;have HK:=A0 (((Kept.refl B ok w).alloc _).trans hk);have HP:=A0 hp;clear hk hp;go_wp2_with fail
 go_ret;exact⟨rfl,HK.out,HP.out⟩
theorem PstL.cell {w:World} {B pb:Nat} {tv:Value} {L:List M.Tk} {ok:Nat->Prop} {d:Nat} {s:M.St} (h:PstL w B pb tv L ok d s):
 ∃g c nv yv,tv= .slice (some (aD g 0)) L.length c/\L.length<=c/\c<=maxLen/\g<w.heap.size/\pb<w.heap.size/\w.cell? (aD pb 0)=some (.slice (some (aD g 0)) L.length c)/\w.cell? (aD pb 1)=some (iV (s.i:Int))/\w.cell? (aD pb 2)=some (iV (d:Int))/\
  w.cell? (aD pb 3)=some nv/\w.cell? (aD pb 4)=some yv/\(∀o,w.frozen? (aD pb o)=false)/\∀j u,(B0a L)[j]? =some u->w.cell? (aD g j)=some u:=by
 obtain⟨ad,c,rfl⟩:=B6 h.toks;obtain⟨g,rfl,_,hg,hc1,hc2,hcell⟩:=E7 h.toks (by have:=h.at';omega);obtain⟨nv,yv,nx,yx,hb,_⟩:=h.blk;have hlt:=(ltG hb);have hc:=fun o=>cell_of_row w pb o _ _ _ hb;refine⟨g,c,nv,yv,rfl,hc1,hc2,hg,hlt,by rw[hc];rfl,by rw[hc];rfl,by rw[hc];rfl,by rw[hc];rfl,by rw[hc];rfl,fun o=> ?_,hcell⟩;simp[World.frozen?,hb]
theorem N3b (hL:LOk L) (h:PstL w B pb tv L ok d s):
 Calls Tryz.prog 86 #[pV pb] w fun e w'=>e= .returned (tkv (M.tk L s.i))/\Chg No w w':=by
 obtain⟨g,c,nv,yv,rfl,hc1,hc2,hg,hlt,c0,c1,_,_,_,fz,hcell⟩:=h.cell;have hi:=h.at';have hs:=hL.short;obtain⟨x0,x1,x2⟩:=G9b hi hcell;clear h hcell;generalize M.tk L s.i=tk at *;obtain⟨kd,tx,pl⟩:=tk;simp only[tkv]at x0 x1 x2⊢;generalize (⟨tx.toArray⟩:ByteArray)=bx at *;generalize s.i=i at *;unfold maxLen at hc2;go_enter Tryz.func86,Tryz.ntmps86;go_wp2;go_region
 go_wp2;exact bodyPost_ret (v:= .agg #[iV kd,.string bx,iV pl]) (by simp[results,Tryz.results86,go_sem]) rfl ⟨rfl,(Chg.alloc _ _ _).trans (Chg.drewN _ _ 1) (fun _ _ x=>x)⟩
theorem S5b (hL:LOk L) (h:PstL w B pb tv L ok d s):
 Calls Tryz.prog 53 #[pV pb] w fun e w'=>e= .returned (.bool (decide ((M.tk L s.i).kind=6)))/\Chg No w w':=by
 have H:=N3b hL h;have hf0:=T9;have hf2:=B5b;generalize M.tk L s.i=tk at *;obtain⟨kd,tx,pl⟩:=tk;simp only[tkv]at H⊢;clear h hL;go_enter Tryz.func53,Tryz.ntmps53;go_wp2_with fail
 refine H.mono ?_;clear H;rintro e w1 ⟨rfl,hc⟩;go_wp2;go_ret;exact⟨F2 (by rw[Bool.eq_iff_iff];simp),hc⟩
def N1d (w:World) (B pb:Nat) (tv:Value) (L:List M.Tk) (ok:Nat->Prop) (d:Nat) (φ:M.Sp->Option (M.Out Int)) (e:Ending) (w':World):Prop:=
 Kept B ok w w'/\∃o,M.Ev L φ o/\match o with
  | .ok s' x=>e= .returned (iV x)/\(M.tk L s'.i).kind=6/\PstL w' B pb tv L ok d s'
  | .fail er p=>e=gu er p/\er≠0
theorem E0b {acc:List Int} (hq:(M.tk L s.i).kind=6):M.Ev L (fun r=>r.progL d s acc) (.ok s acc):=
 M.Ev.step (M.Ev.pure.eq fun r=>by show (if (M.tk L s.i).kind=6 then _ else _)=_;rw[if_pos hq])
theorem X4a {acc:List Int} {o:M.Out (List Int)} (hq:¬(M.tk L s.i).kind=6) (h:M.Ev L (fun r=>M.A3 (r.stmt d s) fun s x=>r.progL d s (acc++[x])) o):M.Ev L (fun r=>r.progL d s acc) o:=
 M.Ev.step (h.eq fun r=>by show (if (M.tk L s.i).kind=6 then _ else _)=_;rw[if_neg hq])
theorem I4b (hL:LOk L) (hS:∀m',I7 B pb tv L 55 (fun d s r=>r.stmt d s) m') (hok:∀g,w.heap.size<=g->ok g) (hB:B<=w.heap.size) (h:Pst w B pb tv L ok d s):
 Calls Tryz.prog 28 #[pV pb] w (N1d w B pb tv L ok d (M.E3a d s)):=by
 have hi:=h.at';have hs:=hL.short;have hfw:=h.few;have V:Hid (∀o,M.Ev L (fun r=>M.A3 (r.progL d s []) fun s2 l=>M.addN s2 (M.Nd.mk 26 0 0 0 l [] 0 (-1) 0)) o->M.Ev L (M.E3a d s) o):=fun o ho=>ho;obtain⟨i0,hi0,hz0,hz1,hz2⟩:=info_parts Tryz.infoInt;have P2:=A0 h;clear h;go_enter Tryz.func28,Tryz.ntmps28;go_wp2_with fail
 go_loopw [3] (fun v wr=>∃(acc:List Int) (s':M.St) (ad:Option Addr) (c:Nat),v= .slice ad acc.length c/\acc.length<=s'.i/\Hid (Kept B ok w wr)/\Hid (G0 s s')/\Hid (wr.ownsRow w.heap.size 3 1 (.slice ad acc.length c) acc.length (C7 acc))/\
  Hid (Pst wr B pb tv L (fun g=>ok g/\some g≠Value.ownBlock (.slice ad acc.length c)) d s')/\Hid (∀o,M.Ev L (fun r=>M.A3 (r.progL d s' acc) fun s2 l=>M.addN s2 (M.Nd.mk 26 0 0 0 l [] 0 (-1) 0)) o->M.Ev L (M.E3a d s) o)) (fun _ wr=>L.length - nxt wr pb)
 case atStart=>exact⟨[],s,none,0,rfl,by simp,Kept.refl _ _ _,⟨Nat.le_refl _,by omega,by omega,by omega⟩,World.ownsRow_nil _ _ _ _,P2.out.mono (fun g hg _=>⟨hg,by simp[Value.ownBlock]⟩),V.out⟩
 case round=>
  clear P2 V;obtain⟨acc,s',ad,c,rfl,hacc,KR,GR,OR,PR,VR⟩:=hrel;have HT:=D4c hL PR.out;have hi':=PR.out.at';have hnx:=PR.out.nxt;have hfw':=PR.out.few;have hge:=GR.out;simp only[G0]at hge;generalize hq:decide ((M.tk L s'.i).kind=6)=q at *;have Q1:=A0 hq;clear hq;go_wp2_with fail
  refine HT.mono ?_;clear HT;rintro e w3 ⟨rfl,hc⟩;have K3:=A0 (KR.out.trans (B8 hc));have O3:=A0 (A8 OR.out hc (fun _ _ x=>x));have P3:=A0 (PR.out.still hc);clear hc OR PR KR;cases q
  · have Q2:¬(M.tk L s'.i).kind=6:=by simpa using Q1.out
    have PX:Hid (Pst w3 B pb tv L (fun g=>ok g/\some g≠Value.ownBlock (.slice ad acc.length c)) d s'):=P3.out;clear P3;have HM:=A0 (hS (L.length - s'.i) w3 _ d s' (Nat.le_refl _) (fun g hg=>⟨hok g (Nat.le_trans K3.out.size hg),fun hx=>by have:=(O3.out.lt g hx.symm).2;omega⟩) (Nat.le_trans hB K3.out.size) PX.out);clear PX;go_wp2_with fail
    refine HM.out.mono ?_;rintro e w4 ⟨hk,o,hev,hpost⟩;have K4:=A0 (K3.out.trans (hk.mono fun _ h=>h.1));have O4:=A0 (D9 O3.out hk (by decide));have E4:=A0 hev;clear hk hev K3 O3 HM;cases o with
    |fail er p=>
     obtain⟨rfl,he⟩:=hpost;exact⟨rfl,K4.out,_,VR.out _ (M.Ev.bad (X4a Q2 (M.Ev.bad (k:=fun r s x=>r.progL d s (acc++[x])) E4.out))),rfl,he⟩
    |ok s4 y=>
     obtain⟨rfl,hp,hg,_⟩:=hpost;have P4:=A0 hp;have hg4:_/\_/\_/\_:=hg;have hi4:=hp.at';clear hp hg;have VN:=A0 (fun o (ho:M.Ev L (fun r=>M.A3 (r.progL d s4 (acc++[y])) fun s2 l=>M.addN s2 (M.Nd.mk 26 0 0 0 l [] 0 (-1) 0)) o)=>VR.out o (by
      obtain⟨f1,h1⟩:=E4.out;obtain⟨f2,h2⟩:=ho;refine⟨f1+f2+1,fun f hf=> ?_⟩;obtain⟨g,rfl⟩:∃g,f=g+1:=⟨f - 1,by omega⟩;have a1:(M.sp' L g).stmt d s'=some (.ok s4 y):=h1 g (by omega);have a2:=h2 g (by omega);have a3:=h2 (g+1) (by omega);show M.A3 (if (M.tk L s'.i).kind=6 then some (.ok s' acc) else M.A3 ((M.sp' L g).stmt d s') fun s x=>(M.sp' L g).progL d s (acc++[x])) _=some o;rw[if_neg Q2,a1];exact a2))
     clear VR;have hw3:=A0 (O4.out.alloc (.cells #[iV y] 3));go_wp2_with (at_builtin;refine wpList_append_own_at _ rfl _ _ 48 rfl w.heap.size 3 i0 (iV 0) 1 8 Tryz.underlying48 hi0 hz0 hz1 hz2 rfl (by decide) _ _ _ rfl hw3.out (aD w4.heap.size 0) 1 1 [iV y] rfl rfl ?c1 ?c2 ?c3 ?c4 ?c5 ?_)
     case c1=>exact cell_one_new _ _ _
     case c2=>intro u hu;simp at hu;rcases hu with rfl;rfl
     case c3=>simp only[maxLen];omega
     case c4=>omega
     case c5=>have:=K4.out.size;simp;omega
     intro v' w5 hown2 hg2 _ hat;obtain⟨ad2,c2,hv2⟩:=B6 hown2;rw[hv2]at hown2 hat⊢;have PG:=A0 ((P4.out.alloc (.cells #[iV y] 3)).grown (v:= .slice ad acc.length c) (v':= .slice ad2 (acc.length+1) c2) (O4.out.alloc _) (.inl rfl) hg2 (by simpa using hat));have KG:=A0 ((K4.out.alloc (.cells #[iV y] 3)).grown (O4.out.alloc _) hg2);have OG:=A0 hown2;clear hown2 hg2 hat hw3 P4 O4 K4 hv2;go_wp2_with fail
     go_roundw
     case rel=>
      refine⟨acc++[y],s4,ad2,c2,by simp,by simp;omega,KG.out,(show G0 s s4 from by simp only[G0];omega), ?_, ?_,VN.out⟩
      · have:=OG.out;show World.ownsRow _ _ _ _ _ _ _;rw[J9];simpa using this
      · have:=PG.out;show Pst _ _ _ _ _ _ _ _;simpa using this
     case measure=>
      have h3:=PG.out.nxt;rw[h3,hnx];omega
  · have Q2:(M.tk L s'.i).kind=6:=by simpa using Q1.out
    have PY:=A0 (P3.out.mono (ok':=ok) (fun g hg _=>hg.1));clear P3;have HAd:=A0 (Q7c hL PY.out (M.Nd.mk 26 0 0 0 acc [] 0 (-1) 0) 0 ad acc.length c ⟨_,rfl,C9 O3.out (Nat.zero_le _),fun g hg=>hok g (A9 O3.out g hg).1⟩ rfl (by omega) (Nat.le_trans hB K3.out.size) (fun g hg=>hok g (Nat.le_trans K3.out.size hg)));have EV:=A0 (VR.out _ (M.Ev.bind (k:=fun _ s2 l=>M.addN s2 (M.Nd.mk 26 0 0 0 l [] 0 (-1) 0)) (E0b Q2) M.Ev.pure));have Q3:=A0 Q2;clear PY VR O3 Q2 Q1;go_wp2_with fail
    refine HAd.out.mono ?_;rintro e w9 ⟨rfl,k9,p9⟩;have K9:=A0 (K3.out.trans k9);have P9:=A0 p9;clear k9 p9 HAd;go_wp2_with fail
    go_ret;exact⟨K9.out,_,EV.out,rfl,Q3.out,P9.out⟩
end
open Go.RowKit
section
variable {w:World} {B pb:Nat} {tv:Value} {L:List M.Tk} {ok:Nat->Prop} {d:Nat} {s:M.St}
def I0d (w:World) (B pb:Nat) (tv:Value) (L:List M.Tk) (ok:Nat->Prop) (d:Nat) (φ:M.Sp->Option (M.Out Int)) (e:Ending) (w':World):Prop:=
 Kept B ok w w'/\∃o,M.Ev L φ o/\match o with
  | .ok s' _=>if (M.tk L s'.i).kind=6 then e=rT/\PstL w' B pb tv L ok d s' else e=gu 1 ((M.tk L s'.i).at':Int)
  | .fail er p=>e=gu er p/\er≠0
def F6b (w:World) (B pb:Nat) (tv:Value) (L:List M.Tk) (ok:Nat->Prop) (d:Nat) (φ:M.Sp->Option (M.Out Int)) (e:Ending) (w':World):Prop:=
 Kept B ok w w'/\∃o,M.Ev L φ o/\match o with
  | .ok s' _=>if (M.tk L s'.i).kind=6 then e= .returned (.agg #[iV 0,iV 0])/\PstL w' B pb tv L ok d s' else e= .returned (.agg #[iV 1,iV ((M.tk L s'.i).at':Int)])
  | .fail er p=>e= .returned (.agg #[iV er,iV p])/\er≠0
def Q9c (w:World) (B pb:Nat) (tv:Value) (L:List M.Tk) (ok:Nat->Prop) (d:Nat) (φ:M.Sp->Option (M.Out Int)) (e:Ending) (w':World):Prop:=
 Kept B ok w w'/\∃o,M.Ev L φ o/\match o with
  | .ok s' _=>if (M.tk L s'.i).kind=6 then (if 1200<s'.N.length\/300<s'.T.length then e= .returned (.agg #[iV 2,iV 0]) else e= .returned (.agg #[iV 0,iV 0])/\PstL w' B pb tv L ok d s') else e= .returned (.agg #[iV 1,iV ((M.tk L s'.i).at':Int)])
  | .fail er p=>e= .returned (.agg #[iV er,iV p])/\er≠0
theorem G0b (hL:LOk L) (hS:∀m',I7 B pb tv L 55 (fun d s r=>r.stmt d s) m') (hok:∀g,w.heap.size<=g->ok g) (hB:B<=w.heap.size) (h:Pst w B pb tv L ok d s) (qf qp:Nat) (hf:w.heap[qf]? =some (.cells #[.func (.func 28) #[pV pb] #[]] 98 (0,0)))
 (hp:w.heap[qp]? =some (.cells #[pV pb] 94 (0,0))):
 Calls Tryz.prog 52 #[pV qf,pV qp] w (I0d w B pb tv L ok d (M.E3a d s)):=by
 have HM:=I4b hL hS hok hB h;have f0:w.cell? (aD qf 0)=some (.func (.func 28) #[pV pb] #[]):=cr hf rfl;have HQ:=A0 hp;clear hf hp h;go_enter Tryz.func52,Tryz.ntmps52;go_wp2_with fail
 refine HM.mono ?_;clear HM;rintro e w1 ⟨hk,o,hev,hpost⟩;have K1:=A0 hk;have E1:=A0 hev;have p0:w1.cell? (aD qp 0)=some (pV pb):=(W4 hk HQ.out (by decide) rfl).2;clear hk hev f0;cases o with
 |fail er p=>
  obtain⟨rfl,he⟩:=hpost;exact⟨rfl,K1.out,_,E1.out,rfl,he⟩
 |ok s1 x=>
  obtain⟨rfl,h6,hp⟩:=hpost;have HE:=S5b hL hp;have P1:=A0 hp;clear hp;have h6':decide ((M.tk L s1.i).kind=6)=true:=by simp[h6]
  rw[h6']at HE;go_wp2_with fail
  refine HE.mono ?_;clear HE;rintro e w2 ⟨rfl,hc⟩;have P2:=A0 (P1.out.still hc);have K2:=A0 (K1.out.trans (B8 hc));clear hc;go_wp2_with fail
  go_end0;exact⟨K2.out,_,E1.out,by simp[h6];exact P2.out⟩
theorem U5a {w0 w w6:World} {q:Nat} {a b:Value} {cs:Array Value} (hq:w.heap[q]? =some (.cells cs 26 (0,0))) (h:PstL w B pb tv L ok d s) (ht:tv.ownBlock≠some q) (hk:Kept B ok w0 w) (hq0:w0.heap.size<=q) (hcs:cs.size=2)
 (hc:Chg No ((w.setCell (aD q 0) a).setCell (aD q 1) b) w6):w6.cell? (aD q 0)=some a/\w6.cell? (aD q 1)=some b/\Kept B ok w0 w6/\PstL w6 B pb tv L ok d s:=by
 have h1:=heap_setCell_same w q 0 cs _ a hq;have h2:=heap_setCell_same (w.setCell (aD q 0) a) q 1 _ _ b h1;have hlt:=(ltG h2);have h3:=hc.block q hlt (fun x=>x);rw[h2]at h3;refine⟨?_, ?_,((hk.setOwn a hq0).setOwn b hq0).trans (B8 hc),((h.setOwn a hq ht (by decide)).setOwn b h1 ht (by decide)).still hc⟩
 · rw[cell_of_row w6 q 0 _ _ _ h3];simp[hcs]
 · rw[cell_of_row w6 q 1 _ _ _ h3];simp[hcs]
theorem U6a (hL:LOk L) (hS:∀m',I7 B pb tv L 55 (fun d s r=>r.stmt d s) m') (hok:∀g,w.heap.size<=g->ok g) (hB:B<=w.heap.size) (h:Pst w B pb tv L ok d s) (qf qp:Nat) (hf:w.heap[qf]? =some (.cells #[.func (.func 28) #[pV pb] #[]] 98 (0,0)))
 (hp:w.heap[qp]? =some (.cells #[pV pb] 94 (0,0))):
 Calls Tryz.prog 18 #[.func (.func 52) #[] #[pV qf,pV qp]] w (F6b w B pb tv L ok d (M.E3a d s)):=by
 have hmf:=mkf;have hlf:=(ltG hf);have hlp:=(ltG hp);have HM:=G0b hL hS (w:=w.alloc (.cells #[iV 0,iV 0] 26)) (ok:=ok) (fun g hg=>hok g (by simp at hg;omega)) (by simp;omega) (h.alloc _) qf qp (by rw[Below.heap_alloc _ _ _ hlf];exact hf) (by rw[Below.heap_alloc _ _ _ hlp];exact hp);have ht2:tv.ownBlock≠some w.heap.size:=h.tokLt (Nat.le_refl _);clear hf hp h;go_enter_defers Tryz.func18,Tryz.ntmps18
 go_wp2_with fail
 refine HM.mono ?_;clear HM;rintro e w1 ⟨hk,o,hev,hpost⟩;obtain⟨hb1,q0⟩:=W4 hk (heap_alloc_new w _) (by decide) (o:=0) rfl;have q1:=(W4 hk (heap_alloc_new w _) (by decide) (o:=1) rfl).2;have hz:=(ltG hb1);have qf':∀o,w1.frozen? (aD w.heap.size o)=false:=fun o=>frozen_of_row w1 _ o _ _ hb1;have HB1:=A0 hb1;have K1:=A0 (((Kept.refl B ok w).alloc _).trans hk);have E1:=A0 hev;clear hk hev hb1;cases o with
 |fail er p=>
  obtain⟨rfl,he⟩:=hpost;unfold gu;refine leaves_cons (f:=32) (args:=#[pV w.heap.size]) (by simp) (by simp[go_sem]) ?_;refine(L3a w.heap.size er p 0 0 [] _ q0 q1 qf').mono ?_;rintro e u' w2 ⟨rfl,rfl,hc,z0,z1⟩;have KX:F6b w B pb tv L ok d (M.E3a d s) (.returned (.agg #[iV er,iV p])) w2:=⟨K1.out.trans' hc (fun i hi hx=>by omega),_,E1.out,rfl,he⟩;simp[Leaves,settle,results,Tryz.results18,go_sem,z0,z1];exact KX
 |ok s1 x=>
  by_cases h6:(M.tk L s1.i).kind=6
  · simp only[h6,if_true]at hpost;obtain⟨rfl,hp⟩:=hpost;have P1:=A0 hp;clear hp;go_wp2_with fail
    refine leaves_cons (f:=32) (args:=#[pV w.heap.size]) (by simp) (by simp[go_sem]) ?_;refine(J6a w.heap.size _).mono ?_;rintro e u' w6 ⟨rfl,rfl,hc6⟩;obtain⟨z0,z1,k6,p6⟩:=U5a HB1.out P1.out ht2 K1.out (Nat.le_refl _) rfl hc6;have KX:F6b w B pb tv L ok d (M.E3a d s) (.returned (.agg #[iV 0,iV 0])) w6:=⟨k6,_,E1.out,by simp[h6,p6]⟩;simp[Leaves,settle,results,Tryz.results18,go_sem,z0,z1];exact KX
  · simp only[h6,if_false]at hpost;subst hpost;unfold gu;refine leaves_cons (f:=32) (args:=#[pV w.heap.size]) (by simp) (by simp[go_sem]) ?_;refine(L3a w.heap.size 1 ((M.tk L s1.i).at':Int) 0 0 [] _ q0 q1 qf').mono ?_;rintro e u' w4 ⟨rfl,rfl,hc4,z0,z1⟩;have KX:F6b w B pb tv L ok d (M.E3a d s) (.returned (.agg #[iV 1,iV ((M.tk L s1.i).at':Int)])) w4:=⟨K1.out.trans' hc4 (fun i hi hx=>by omega),_,E1.out,by simp[h6]⟩;generalize ((M.tk L s1.i).at':Int)=pa at *;simp[Leaves,settle,results,Tryz.results18,go_sem,z0,z1];exact KX
theorem R2a (hL:LOk L) (hS:∀m',I7 B pb tv L 55 (fun d s r=>r.stmt d s) m') (hok:∀g,w.heap.size<=g->ok g) (hB:B<=w.heap.size) (h:Pst w B pb tv L ok d s):
 Calls Tryz.prog 27 #[pV pb,.func (.func 28) #[pV pb] #[]] w (Q9c w B pb tv L ok d (M.E3a d s)):=by
 have hmf:=mkf;obtain⟨b0,b1,b2⟩:=I9a w (.cells #[pV pb] 94) (.cells #[.func (.func 28) #[pV pb] #[]] 98) (.cells #[iV 0,iV 0] 26);have HM:=U6a hL hS (ok:=ok) (fun g hg=>hok g (by simp at hg;omega)) (by simp;omega) (((h.alloc _).alloc _).alloc _) (w.heap.size+1) w.heap.size b1 b0;have ht2:tv.ownBlock≠some (w.heap.size+2):=h.tokLt (by omega);have B0:=A0 b0;have B2:=A0 b2;clear h b0 b1 b2;go_enter Tryz.func27,Tryz.ntmps27;go_wp2_with fail
 refine HM.mono ?_;clear HM;rintro e w1 ⟨hk,o,hev,hpost⟩;have K1:=A0 (((((Kept.refl B ok w).alloc _).alloc _).alloc _).trans hk);have E1:=A0 hev;have p0:w1.cell? (aD w.heap.size 0)=some (pV pb):=(W4 hk B0.out (by decide) rfl).2;obtain⟨hb2,-⟩:=W4 hk B2.out (by decide) (o:=0) rfl;have r0:w1.cell? (aD (w.heap.size+2) 0)=some (iV 0):=(W4 hk B2.out (by decide) (o:=0) rfl).2;have r1:w1.cell? (aD (w.heap.size+2) 1)=some (iV 0):=(W4 hk B2.out (by decide) (o:=1) rfl).2;have hz:=(ltG hb2);have rf:∀o,w1.frozen? (aD (w.heap.size+2) o)=false:=fun o=>frozen_of_row w1 _ o _ _ hb2;have HB2:=A0 hb2;clear hk hev hb2 B0 B2;have hz':w.heap.size<w1.heap.size:=by omega
 cases o with
 |fail er p=>
  obtain⟨rfl,he⟩:=hpost;have he':(er==0)=false:=by simp[he]
  go_wp2_with fail
  exact bodyPost_ret (v:= .agg #[iV er,iV p]) (by simp[results,Tryz.results27,go_sem,r0,r1,hz]) rfl ⟨((K1.out.setOwn _ (by omega)).setOwn _ (by omega)).alloc _,_,E1.out,rfl,he⟩
 |ok s1 x=>
  by_cases h6:(M.tk L s1.i).kind=6
  · simp only[h6,if_true]at hpost;obtain⟨rfl,hp⟩:=hpost;have P1:=A0 hp;obtain⟨nv,yv,nx,yx,hb,hn,hy,_⟩:=hp.blk;have hlt:=(ltG hb);obtain⟨na,nc,rfl⟩:=B6 hn;obtain⟨ya,yc,rfl⟩:=B6 hy;have c3:w1.cell? (aD pb 3)=some (.slice na s1.N.length nc):=cr hb rfl;have c4:w1.cell? (aD pb 4)=some (.slice ya s1.T.length yc):=cr hb rfl;clear hp hb hn hy;by_cases hN:(1200:Int)<(s1.N.length:Int)
    · have hN':1200<s1.N.length:=by omega
      go_wp2_with fail
      exact bodyPost_ret (v:= .agg #[iV 2,iV 0]) (by simp[results,Tryz.results27,go_sem,r0,r1,hz]) rfl ⟨((K1.out.setOwn _ (by omega)).setOwn _ (by omega)).alloc _,_,E1.out,by simp[h6,hN']⟩
    · have hN':¬1200<s1.N.length:=by omega
      by_cases hT:(300:Int)<(s1.T.length:Int)
      · have hT':300<s1.T.length:=by omega
        go_wp2_with fail
        exact bodyPost_ret (v:= .agg #[iV 2,iV 0]) (by simp[results,Tryz.results27,go_sem,r0,r1,hz]) rfl ⟨((K1.out.setOwn _ (by omega)).setOwn _ (by omega)).alloc _,_,E1.out,by simp[h6,hT']⟩
      · have hT':¬300<s1.T.length:=by omega
        go_wp2_with fail
        obtain⟨_,_,k6,p6⟩:=U5a (a:=iV 0) (b:=iV 0) HB2.out P1.out ht2 K1.out (by omega) rfl (Chg.alloc No _ (.cells #[iV 0,iV 0] 26));exact bodyPost_ret (v:= .agg #[iV 0,iV 0]) (by simp[results,Tryz.results27,go_sem,r0,r1,hz]) rfl ⟨k6,_,E1.out,by simp[h6,hN',hT',p6]⟩
  · simp only[h6,if_false]at hpost;subst hpost;have XP:Q9c w B pb tv L ok d (M.E3a d s) (.returned (.agg #[iV 1,iV ((M.tk L s1.i).at':Int)])) (((w1.setCell (aD (w.heap.size+2) 0) (iV 1)).setCell (aD (w.heap.size+2) 1) (iV ((M.tk L s1.i).at':Int))).alloc (.cells #[iV 1,iV ((M.tk L s1.i).at':Int)] 26)):=
     ⟨((K1.out.setOwn _ (by omega)).setOwn _ (by omega)).alloc _,_,E1.out,by simp[h6]⟩
    have XH:=A0 XP;clear XP h6 E1;go_wp2_with fail
    exact bodyPost_ret (v:= .agg #[iV 1,iV ((M.tk L s1.i).at':Int)]) (by simp[results,Tryz.results27,go_sem,r0,r1,hz]) rfl XH.out
end
end Go.Proofs.YtgdnpemiiageaaaGreatDoor
