/-
  A part of the proof.
-/
import Derived.Test.YtgdnpemiiageaaaGreatDoorParseC
set_option maxHeartbeats 16000000
set_option maxRecDepth 100000
namespace Go.Proofs.YtgdnpemiiageaaaGreatDoor
open Go.RowKit
theorem Tryz.infoNd:(Tryz.prog.info? 72).map (fun i=>(i.zero,i.size,i.bytes))=some (some (.agg #[iV 0,iV 0,iV 0,iV 0,sN,.string ⟨#[]⟩,iV 0,iV 0,iV 0]),9,96):=by kernel_rfl
section
variable {w:World} {B pb:Nat} {tv:Value} {L:List M.Tk} {ok:Nat->Prop} {d:Nat} {s:M.St}
theorem Pst.pushN {w w1 w2:World} {B pb:Nat} {tv:Value} {L:List M.Tk} {ok:Nat->Prop} {d:Nat} {s:M.St} {yv:Value} {nx yx:List Value} {ad:Option Addr} {c g cap:Nat} {t:M.Nd} {lv:Value} (hlow:B<=pb) (hat:s.i<L.length) (hfew:s.T.length<=s.i) (hf:s.N.length+1<=s.i)
 (htoks:w.ownsRow 0 119 3 tv L.length (B0a L)) (hb:w.heap[pb]? =some (.cells #[tv,iV (s.i:Int),iV (d:Int),.slice ad s.N.length c,yv] 96 (0,0)))
 (hn:w.ownsRow B 72 9 (.slice ad s.N.length c) s.N.length nx) (hy:w.ownsRow B 68 4 yv s.T.length yx) (hrn:Rws (NdV w ok) s.N nx) (hry:Rws (TyV w ok) s.T yx) (ht:NdV w ok t [iV t.kind,iV t.a,iV t.b,iV t.c,lv,.string ⟨t.text.toArray⟩,iV t.n,iV t.ty,iV t.at']) (hok:ok pb/\(∀g,Value.ownBlock (.slice ad s.N.length c)=some g->ok g)/\(∀g,yv.ownBlock=some g->ok g)) (hgok:ok g)
 (h1:Chg No w w1) (hg:w1.grownBy w2 (Value.ownBlock (.slice ad s.N.length c))) (ho:w2.ownsRow B 72 9 (.slice (some (aD g 0)) (s.N.length+1) cap) (s.N.length+1) (nx++[iV t.kind,iV t.a,iV t.b,iV t.c,lv,.string ⟨t.text.toArray⟩,iV t.n,iV t.ty,iV t.at'])):
 Kept B ok w (w2.setCell (aD pb 3) (.slice (some (aD g 0)) (s.N.length+1) cap))/\Pst (w2.setCell (aD pb 3) (.slice (some (aD g 0)) (s.N.length+1) cap)) B pb tv L ok d ⟨s.i,s.N++[t],s.T⟩:=by
 have hlt:=(ltG hb);have hb1:w1.heap[pb]? =w.heap[pb]? :=h1.block pb hlt (fun x=>x);have hy1:w1.ownsRow B 72 9 (.slice ad s.N.length c) s.N.length nx:=A8 hn h1 (fun _ _ x=>x);have hne:some pb≠Value.ownBlock (.slice ad s.N.length c):=by
  intro hx;obtain⟨_,cur,hh⟩:=A9 hy1 pb hx.symm;rw[hb1,hb]at hh;simp only[Option.some.injEq,Obj.cells.injEq]at hh;exact absurd hh.2.1 (by decide)
 have hb2:w2.heap[pb]? =some (.cells #[tv,iV (s.i:Int),iV (d:Int),.slice ad s.N.length c,yv] 96 (0,0)):=by rw[hg.block pb (Nat.lt_of_lt_of_le hlt h1.size) hne,hb1,hb]
 have hc2:Chg (fun k=>some k=Value.ownBlock (.slice ad s.N.length c)) w w2:=(h1.mono fun _ _ x=>x.elim).trans (Chg.grown hg) (fun _ _ x=>x);have hc3:Chg (fun k=>some k=Value.ownBlock (.slice ad s.N.length c)\/k=pb) w (w2.setCell (aD pb 3) (.slice (some (aD g 0)) (s.N.length+1) cap)):=(hc2.mono fun _ _ x=> .inl x).trans (Chg.set _ _ _) (fun _ _ x=> .inr x);have hno:∀{base:Nat} {e:TypeId} {size:Nat} {v:Value} {n:Nat} {xs:List Value},w.ownsRow base e size v n xs->e≠96->e≠72->∀k,v.ownBlock=some k->¬(some k=Value.ownBlock (.slice ad s.N.length c)\/k=pb):=by
  intro base e size v n xs hw he he2 k hk hx;obtain⟨_,cur,hh⟩:=A9 hw k hk;rcases hx with hx|rfl
  · obtain⟨_,cur2,hh2⟩:=A9 hn k hx.symm;rw[hh]at hh2;simp only[Option.some.injEq,Obj.cells.injEq]at hh2;exact he2 hh2.2.1
  · rw[hb]at hh;simp only[Option.some.injEq,Obj.cells.injEq]at hh;exact he hh.2.1.symm
 have key:∀k,ok k->k<w.heap.size->(some k=Value.ownBlock (.slice ad s.N.length c)\/k=pb)->(∃cur e,w.heap[k]? =some (.cells cur e (0,0))/\(e=126\/e=3))->False:=by
  rintro k _ _ hx ⟨cur,e,hh,he⟩;rcases hx with hx|rfl
  · obtain⟨_,cur2,hh2⟩:=A9 hn k hx.symm;rw[hh]at hh2;simp only[Option.some.injEq,Obj.cells.injEq]at hh2;rcases he with rfl|rfl<;>exact absurd hh2.2.1 (by decide)
  · rw[hb]at hh;simp only[Option.some.injEq,Obj.cells.injEq]at hh;rcases he with rfl|rfl<;>exact absurd hh.2.1 (by decide)
 have hb3:(w2.setCell (aD pb 3) (.slice (some (aD g 0)) (s.N.length+1) cap)).heap[pb]? =some (.cells #[tv,iV (s.i:Int),iV (d:Int),.slice (some (aD g 0)) (s.N.length+1) cap,yv] 96 (0,0)):=by rw[heap_setCell_same w2 pb 3 _ _ _ hb2];rfl
 refine⟨hc3.mono fun k hk hx=> ?_,hlow,hat,⟨by simp;omega,hfew⟩,A8 htoks hc3 (hno htoks (by decide) (by decide)),⟨hok.1,fun u g' hu hg'=> ?_,fun u g' hu hg'=> ?_⟩,_,yv,_,yx,hb3, ?_,A8 hy hc3 (hno hy (by decide) (by decide)),(hrn.imp (NdV.chg hc3 key (fun _ x _=>x))).snoc (NdV.chg hc3 key (fun _ x _=>x) _ _ ht),hry.imp (TyV.chg hc3 key (fun _ x _=>x))⟩
 · rcases hx with hx|rfl
   · obtain⟨hk1,cur2,hh2⟩:=A9 hn k hx.symm;exact⟨hk1,⟨_,_,_,hh2,.inr (.inl rfl)⟩,hok.2.1 _ hx.symm⟩
   · exact⟨hlow,⟨_,_,_,hb,.inl rfl⟩,hok.1⟩
 · rw[cell_of_row _ pb 3 _ _ _ hb3]at hu;cases hu;have hg2:some g=some g':=hg';cases hg2;exact hgok
 · rw[cell_of_row _ pb 4 _ _ _ hb3]at hu;cases hu;exact hok.2.2 _ hg'
 · have:=A8 ho (Chg.set w2 (aD pb 3) (.slice (some (aD g 0)) (s.N.length+1) cap)) (fun k hk hx=>by
    have hx':k=pb:=hx;subst hx';obtain⟨_,cur2,hh2⟩:=A9 ho k hk;rw[hb2]at hh2;simp only[Option.some.injEq,Obj.cells.injEq]at hh2;exact absurd hh2.2.1 (by decide))
   simpa using this
theorem L9 (hL : LOk L) (h : Pst w B pb tv L ok d s) (t : M.Nd) (la : Option Addr) (ln lc : Nat) (ht : NdV w ok t [iV t.kind, iV t.a, iV t.b, iV t.c, .slice la ln lc, .string ⟨t.text.toArray⟩, iV t.n, iV t.ty, iV t.at']) (hf : s.N.length + 1 <= s.i) (hB : B <= w.heap.size) (hok : ∀ g, w.heap.size <= g -> ok g) :
    Calls Tryz.prog 92 #[pV pb,.agg #[iV t.kind,iV t.a,iV t.b,iV t.c,.slice la ln lc,.string ⟨t.text.toArray⟩,iV t.n,iV t.ty,iV t.at']] w fun e w'=>e= .returned (iV (s.N.length:Int))/\Kept B ok w w'/\Pst w' B pb tv L ok d ⟨s.i,s.N++[t],s.T⟩:=by
  obtain⟨hlow,hat,hfew,htoks,hoks,nv,yv,nx,yx,hb,hn,hy,hrn,hry⟩:=h
  obtain⟨ad,c,rfl⟩:=B6 hn
  have hs:=hL.short
  have hlt:=(ltG hb)
  have c4:w.cell? (aD pb 3)=some (.slice ad s.N.length c):=cr hb rfl
  have fz:∀o,w.frozen? (aD pb o)=false:=fun o=>frozen_of_row w pb o _ _ hb
  have hoks2:ok pb/\(∀g,Value.ownBlock (.slice ad s.N.length c)=some g->ok g)/\(∀g,yv.ownBlock=some g->ok g):=⟨hoks.1,fun g hg=>hoks.2.1 _ g c4 hg,fun g hg=>hoks.2.2 _ g (cr hb rfl) hg⟩
  have HP:=A0 (fun (w1 w2:World) (g cap:Nat)=>Pst.pushN (w1:=w1) (w2:=w2) (g:=g) (cap:=cap) hlow hat hfew.2 hf htoks hb hn hy hrn hry ht hoks2)
  have HG:=A0 (fun (g:Nat) (hg:Value.ownBlock (.slice ad s.N.length c)=some g\/g=w.heap.size+2)=>show ok g from by rcases hg with hg|hg;exact hoks2.2.1 g hg;exact hok g (by omega))
  clear hoks hoks2
  have hne:Value.ownBlock (.slice ad s.N.length c)≠some pb:=by
    intro hx
    obtain⟨_,cur,hh⟩:=A9 hn pb hx
    rw[hb]at hh
    simp only[Option.some.injEq,Obj.cells.injEq]at hh
    exact absurd hh.2.1 (by decide)
  have hne2:Value.ownBlock (.slice ad s.N.length c)≠some w.heap.size:=by
    intro hx
    have:=(hn.lt _ hx).2
    omega
  have HY:=A0 hn
  obtain⟨i0,hi,hz0,hz1,hz2⟩:=info_parts Tryz.infoNd
  clear ht htoks hb hn hy hrn hry
  go_enter Tryz.func92,Tryz.ntmps92
  go_wp2_with fail
  go_region_law ((refine step_append_lies _ (by rfl) _ _ _ (by rfl) B 72 i0 _ 9 96 Tryz.underlying43 hi hz0 hz1 hz2 rfl (by omega) (.slice ad s.N.length c) s.N.length nx (by rfl) (((HY.out.alloc _).alloc _).drew) (aD (w.heap.size + 1) 0) 1 1 [iV t.kind, iV t.a, iV t.b, iV t.c, .slice la ln lc, .string ⟨t.text.toArray⟩, iV t.n, iV t.ty, iV t.at'] (by rfl) (by rfl) (World.news_of_block (cs := #[iV t.kind, iV t.a, iV t.b, iV t.c, .slice la ln lc, .string ⟨t.text.toArray⟩, iV t.n, iV t.ty, iV t.at']) (t := 72) (fr := (0, 0)) (B6a w _ _)) (by simp [Value.oneCell']) (by omega) (by simp only [maxLen]; omega) (by omega) (by simp; omega) (w.heap.size + 2) (by simp) ?_
                  intro gg cap w1 hown1 hgrow hat1 hlt1
                  have z4:w1.cell? (aD pb 3)=some (.slice ad s.N.length c):=by rw[hgrow.cell_far _ (by simp;omega) (Ne.symm hne)];exact F9 (by simp;omega) (F9 hlt c4)
                  have y4:w1.frozen? (aD pb 3)=false:=by rw[hgrow.frozen_far _ (by simp;omega) (Ne.symm hne)];exact P8 (by simp;omega) (P8 hlt (fz 3))))
  all_goals
    have HQ:=A0 (HP.out _ _ gg cap (HG.out gg hat1) (((Chg.alloc No w _).trans (Chg.alloc No _ _) (fun _ _ x=>x)).trans (Chg.drewN No _ 1) (fun _ _ x=>x)) hgrow hown1)
    clear hgrow hown1 HP HY
    go_wp2
    go_ret
    exact⟨J0 (by omega),HQ.out.1,HQ.out.2⟩
end
open Go.RowKit
theorem C8 {w a b:World} (h:Chg No w a) (k:Chg No a b):Chg No w b:=h.trans k (fun _ _ x=>x)
theorem A4 {w w':World} (hc:Chg No w w') {a:Addr} {v:Value} (h:w.cell? a=some v):w'.cell? a=some v:=by
 have hq:=World.block_lt_of_cell? w a h;have hb:=hc.block a.block hq (fun x=>x);unfold World.cell? at *;rw[hb];exact h
open Go.RowKit
def O8 (w:World) (B pb:Nat) (tv:Value) (L:List M.Tk) (ok:Nat->Prop) (d:Nat) (s:M.St) (φ:M.Sp->Option (M.Out Int)) (e:Ending) (w':World):Prop:=
 Kept B ok w w'/\∃o,M.Ev L φ o/\match o with
  | .ok s' x=>e= .returned (iV x)/\Pst w' B pb tv L ok d s'/\D6 s s'/\0<=x/\x<s'.N.length
  | .fail er p=>e=gu er p/\er≠0
def I7 (B pb:Nat) (tv:Value) (L:List M.Tk) (K:Nat) (φ:Nat->M.St->M.Sp->Option (M.Out Int)) (m:Nat):Prop:=
 ∀(w:World) (ok:Nat->Prop) (d:Nat) (s:M.St),L.length - s.i<=m->(∀g,w.heap.size<=g->ok g)->B<=w.heap.size->Pst w B pb tv L ok d s->
  Calls Tryz.prog K #[pV pb] w (O8 w B pb tv L ok d s (φ d s))
section
variable {w:World} {B pb:Nat} {tv:Value} {L:List M.Tk} {ok:Nat->Prop} {d:Nat} {s:M.St}
theorem B9 {φ:M.Sp->Option (M.Out Int)} {w':World} {er p:Int} (hk:Kept B ok w w') (hev:M.Ev L φ (.fail er p)) (he:er≠0):O8 w B pb tv L ok d s φ (gu er p) w':=⟨hk,_,hev,rfl,he⟩
theorem D8 {φ:M.Sp->Option (M.Out Int)} {w':World} {s':M.St} {x:Int} (hk:Kept B ok w w') (hev:M.Ev L φ (.ok s' x)) (hp:Pst w' B pb tv L ok d s') (hg:D6 s s') (hx:0<=x/\x<s'.N.length):O8 w B pb tv L ok d s φ (.returned (iV x)) w':=⟨hk,_,hev,rfl,hp,hg,hx⟩
theorem V9a (hL:LOk L) (h:Pst w B pb tv L ok d s):
 Calls Tryz.prog 89 #[pV pb] w fun e w'=>e= .returned (.bool (M.H6a L s.i))/\Chg No w w':=by
 have H:=R6 hL h;have HI:=fun w1 (h1:Pst w1 B pb tv L ok d s)=>C3a hL (h1.alloc (.cells (M4a M.A8a) 9)) w1.heap.size 10 M.A8a (U6 _ _ _) (by decide);have HS:=A0 (fun w1 (hc:Chg No w w1)=>h.still hc);have hf0:=T9;unfold M.H6a;generalize M.isM L s.i M.A8a=b at *;generalize M.tk L s.i=tk at *;obtain⟨kd,tx,pl⟩:=tk;simp only[tkv]at H⊢;generalize (⟨tx.toArray⟩:ByteArray)=bx at *;clear h;go_enter Tryz.func89,Tryz.ntmps89;go_wp2_with fail
 refine H.mono ?_;clear H;rintro e w1 ⟨rfl,hc⟩;have HP:=A0 (HS.out w1 hc);have HC:=A0 hc;clear hc HS;by_cases h1:kd=1
 · subst h1;go_wp2_with fail
   go_ret;exact⟨F2 (by simp),HC.out⟩
 · have h1':(kd==1)=false:=by simp[h1]
   by_cases h3:kd=3
   · subst h3;go_wp2_with fail
     go_ret;exact⟨F2 (by simp),HC.out⟩
   · have h3':(kd==3)=false:=by simp[h3]
     by_cases h4:kd=4
     · subst h4;go_wp2_with fail
       go_ret;exact⟨F2 (by simp),HC.out⟩
     · have h4':(kd==4)=false:=by simp[h4]
       go_wp2_with fail
       refine(HI _ HP.out).mono ?_;clear HI;rintro e w2 ⟨rfl,hc⟩;have HC2:=A0 (HC.out.trans ((Chg.alloc No w1 _).trans hc (fun _ _ x=>x)) (fun _ _ x=>x));clear hc;go_wp2_with fail
       go_ret;exact⟨F2 (by simp[h1,h3,h4]),HC2.out⟩
theorem E4a (hL:LOk L) (m:Nat) (φ:Nat->M.St->M.Sp->Option (M.Out Int)) (hU:I7 B pb tv L 167 φ m) (b:Bool) (hm:L.length - s.i<=m) (hok:∀g,w.heap.size<=g->ok g) (hB:B<=w.heap.size) (h:Pst w B pb tv L ok d s):
 Calls Tryz.prog 90 #[pV pb,.bool b,.func (.func 167) #[pV pb] #[]] w (O8 w B pb tv L ok d s (fun r=>M.inside L b d s (fun d s=>φ d s r))):=by
 obtain⟨g,c,nv,yv,-,-,-,-,hlt,-,c1,c2,-,-,fz,-⟩:=h.cell;have HF:=fun er=>S8 hL h er;have HP:=A0 h;clear h;cases b
 · go_enter Tryz.func90,Tryz.ntmps90;go_wp2_with fail
   refine(HF 1).mono ?_;rintro e w2 ⟨rfl,hc⟩;exact⟨rfl,B9 (B8 hc) (G0a (e:=1) (i:=s.i) (fun r=>by simp[M.inside])) (by decide)⟩
 · by_cases hd:20<=d
   · have hd':(20:Int)<=(d:Int):=by omega
     go_enter Tryz.func90,Tryz.ntmps90;go_wp2_with fail
     refine(HF 8).mono ?_;rintro e w2 ⟨rfl,hc⟩;exact⟨rfl,B9 (B8 hc) (G0a (e:=8) (i:=s.i) (fun r=>by simp[M.inside,hd])) (by decide)⟩
   · have hd':¬(20:Int)<=(d:Int):=by omega
     have HD:=A0 hd;clear hd;go_enter Tryz.func90,Tryz.ntmps90;go_wp2_with fail
     refine(hU _ ok (d+1) s hm (by simpa using hok) (by simpa using hB) (by simpa using HP.out.deeper (d+1))).mono ?_;rintro e w2 ⟨hk,o,hev,hpost⟩;have HK:=A0 ((HP.out.keptSet 2 _).trans hk);have HE:=A0 (hev.eq (ψ:=fun r=>M.inside L true d s (fun d s=>φ d s r)) (fun r=>by simp[M.inside,HD.out]));cases o with
     |fail er p=>
      obtain⟨rfl,he⟩:=hpost;exact⟨rfl,B9 HK.out HE.out he⟩
     |ok s' x=>
      obtain⟨rfl,hp,hg,hx⟩:=hpost;have HP2:=A0 hp;have HG:=A0 hg;obtain⟨g',c',nv',yv',-,-,-,-,hlt',-,-,c2',-,-,fz',-⟩:=hp.cell;clear hp hg hev hk HF hU;go_wp2_with fail
      go_ret;exact D8 (HK.out.trans (HP2.out.keptSet _ _)) HE.out (HP2.out.deeper d) HG.out hx
theorem I8a (hL:LOk L) (m:Nat) (φ:Nat->M.St->M.Sp->Option (M.Out Int)) (hU:I7 B pb tv L 185 φ m) (b:Bool) (hm:L.length - s.i<=m) (hok:∀g,w.heap.size<=g->ok g) (hB:B<=w.heap.size) (h:Pst w B pb tv L ok d s):
 Calls Tryz.prog 90 #[pV pb,.bool b,.func (.func 185) #[pV pb] #[]] w (O8 w B pb tv L ok d s (fun r=>M.inside L b d s (fun d s=>φ d s r))):=by
 obtain⟨g,c,nv,yv,-,-,-,-,hlt,-,c1,c2,-,-,fz,-⟩:=h.cell;have HF:=fun er=>S8 hL h er;have HP:=A0 h;clear h;cases b
 · go_enter Tryz.func90,Tryz.ntmps90;go_wp2_with fail
   refine(HF 1).mono ?_;rintro e w2 ⟨rfl,hc⟩;exact⟨rfl,B9 (B8 hc) (G0a (e:=1) (i:=s.i) (fun r=>by simp[M.inside])) (by decide)⟩
 · by_cases hd:20<=d
   · have hd':(20:Int)<=(d:Int):=by omega
     go_enter Tryz.func90,Tryz.ntmps90;go_wp2_with fail
     refine(HF 8).mono ?_;rintro e w2 ⟨rfl,hc⟩;exact⟨rfl,B9 (B8 hc) (G0a (e:=8) (i:=s.i) (fun r=>by simp[M.inside,hd])) (by decide)⟩
   · have hd':¬(20:Int)<=(d:Int):=by omega
     have HD:=A0 hd;clear hd;go_enter Tryz.func90,Tryz.ntmps90;go_wp2_with fail
     refine(hU _ ok (d+1) s hm (by simpa using hok) (by simpa using hB) (by simpa using HP.out.deeper (d+1))).mono ?_;rintro e w2 ⟨hk,o,hev,hpost⟩;have HK:=A0 ((HP.out.keptSet 2 _).trans hk);have HE:=A0 (hev.eq (ψ:=fun r=>M.inside L true d s (fun d s=>φ d s r)) (fun r=>by simp[M.inside,HD.out]));cases o with
     |fail er p=>
      obtain⟨rfl,he⟩:=hpost;exact⟨rfl,B9 HK.out HE.out he⟩
     |ok s' x=>
      obtain⟨rfl,hp,hg,hx⟩:=hpost;have HP2:=A0 hp;have HG:=A0 hg;obtain⟨g',c',nv',yv',-,-,-,-,hlt',-,-,c2',-,-,fz',-⟩:=hp.cell;clear hp hg hev hk HF hU;go_wp2_with fail
      go_ret;exact D8 (HK.out.trans (HP2.out.keptSet _ _)) HE.out (HP2.out.deeper d) HG.out hx
theorem C9a (hL:LOk L) (m:Nat) (φ:Nat->M.St->M.Sp->Option (M.Out Int)) (hU:I7 B pb tv L 91 φ m) (b:Bool) (hm:L.length - s.i<=m) (hok:∀g,w.heap.size<=g->ok g) (hB:B<=w.heap.size) (h:Pst w B pb tv L ok d s):
 Calls Tryz.prog 90 #[pV pb,.bool b,.func (.func 91) #[pV pb] #[]] w (O8 w B pb tv L ok d s (fun r=>M.inside L b d s (fun d s=>φ d s r))):=by
 obtain⟨g,c,nv,yv,-,-,-,-,hlt,-,c1,c2,-,-,fz,-⟩:=h.cell;have HF:=fun er=>S8 hL h er;have HP:=A0 h;clear h;cases b
 · go_enter Tryz.func90,Tryz.ntmps90;go_wp2_with fail
   refine(HF 1).mono ?_;rintro e w2 ⟨rfl,hc⟩;exact⟨rfl,B9 (B8 hc) (G0a (e:=1) (i:=s.i) (fun r=>by simp[M.inside])) (by decide)⟩
 · by_cases hd:20<=d
   · have hd':(20:Int)<=(d:Int):=by omega
     go_enter Tryz.func90,Tryz.ntmps90;go_wp2_with fail
     refine(HF 8).mono ?_;rintro e w2 ⟨rfl,hc⟩;exact⟨rfl,B9 (B8 hc) (G0a (e:=8) (i:=s.i) (fun r=>by simp[M.inside,hd])) (by decide)⟩
   · have hd':¬(20:Int)<=(d:Int):=by omega
     have HD:=A0 hd;clear hd;go_enter Tryz.func90,Tryz.ntmps90;go_wp2_with fail
     refine(hU _ ok (d+1) s hm (by simpa using hok) (by simpa using hB) (by simpa using HP.out.deeper (d+1))).mono ?_;rintro e w2 ⟨hk,o,hev,hpost⟩;have HK:=A0 ((HP.out.keptSet 2 _).trans hk);have HE:=A0 (hev.eq (ψ:=fun r=>M.inside L true d s (fun d s=>φ d s r)) (fun r=>by simp[M.inside,HD.out]));cases o with
     |fail er p=>
      obtain⟨rfl,he⟩:=hpost;exact⟨rfl,B9 HK.out HE.out he⟩
     |ok s' x=>
      obtain⟨rfl,hp,hg,hx⟩:=hpost;have HP2:=A0 hp;have HG:=A0 hg;obtain⟨g',c',nv',yv',-,-,-,-,hlt',-,-,c2',-,-,fz',-⟩:=hp.cell;clear hp hg hev hk HF hU;go_wp2_with fail
      go_ret;exact D8 (HK.out.trans (HP2.out.keptSet _ _)) HE.out (HP2.out.deeper d) HG.out hx
theorem U7a (hL:LOk L) (m:Nat) (hU:I7 B pb tv L 167 (fun d s r=>r.comp d s) m):I7 B pb tv L 143 (fun d s r=>r.expr d s) m:=by
 intro w ok d s hm hok hB h;have HI:=fun w1 (hc:Chg No w w1) (b:Bool)=>E4a (w:=w1) (ok:=ok) hL m _ hU b hm (fun g hg=>hok g (Nat.le_trans hc.size hg)) (Nat.le_trans hB hc.size) (h.still hc);have HS:=V9a hL h;clear hU;have HE:=A0 (fun b (hb:b=M.H6a L s.i) o (ho:M.Ev L (fun r=>M.inside L b d s (fun d s=>r.comp d s)) o)=>(M.Ev.step (φ:=fun r=>r.expr d s) (ho.eq (fun r=>by rw[hb];rfl))));generalize M.H6a L s.i=b at *;go_enter Tryz.func143,Tryz.ntmps143;go_wp2_with fail
 refine HS.mono ?_;clear HS;rintro e w1 ⟨rfl,hc⟩;have HC:=A0 hc;clear hc;go_wp2_with fail
 refine(HI w1 HC.out b).mono ?_;clear HI;rintro e w2 ⟨hk,o,hev,hpost⟩;have HK:=A0 ((B8 HC.out).trans hk);have HV:=A0 (HE.out b rfl o hev);clear hk hev HE;cases o with
 |fail er p=>
  obtain⟨rfl,he⟩:=hpost;exact⟨rfl,B9 HK.out HV.out he⟩
 |ok s' x=>
  obtain⟨rfl,hp,hg,hx⟩:=hpost;have HP2:=A0 hp;have HG:=A0 hg;clear hp hg;go_wp2_with fail
  go_ret;exact D8 HK.out HV.out HP2.out HG.out hx
theorem J2 (hL:LOk L) (h:Pst w B pb tv L ok d s) (t:M.Nd) (y:Int) (la:Option Addr) (ln lc:Nat) (ht:NdV w ok t [iV t.kind,iV t.a,iV t.b,iV t.c,.slice la ln lc,.string ⟨t.text.toArray⟩,iV t.n,iV t.ty,iV t.at']) (hy:t.ty= -1) (hf:s.N.length+1<=s.i) (hB:B<=w.heap.size) (hok:∀g,w.heap.size<=g->ok g):
 Calls Tryz.prog 56 #[pV pb,.agg #[iV t.kind,iV t.a,iV t.b,iV t.c,.slice la ln lc,.string ⟨t.text.toArray⟩,iV t.n,iV y,iV t.at']] w fun e w'=>e= .returned (iV (s.N.length:Int))/\Kept B ok w w'/\Pst w' B pb tv L ok d ⟨s.i,s.N++[t],s.T⟩:=by
 have HA:=L9 hL (h.alloc (.cells #[iV t.kind,iV t.a,iV t.b,iV t.c,.slice la ln lc,.string ⟨t.text.toArray⟩,iV t.n,iV (-1),iV t.at'] 72)) t la ln lc (NdV.chg (Chg.alloc No _ _) (fun _ _ _ x _=>x) (fun _ x _=>x) _ _ ht) hf (by simp;omega) (fun g hg=>hok g (by simp at hg;omega));rw[hy]at HA;clear h ht;go_enter Tryz.func56,Tryz.ntmps56;go_wp2_with fail
 refine HA.mono ?_;clear HA;rintro e w1 ⟨rfl,hk,hp⟩;have HK:=A0 (((Kept.refl B ok w).alloc _).trans hk);have HP:=A0 hp;clear hk hp;go_wp2_with fail
 go_ret;exact⟨rfl,HK.out,HP.out⟩
end
end Go.Proofs.YtgdnpemiiageaaaGreatDoor
