/-
  A part of the proof.
-/
import Derived.Test.YtfhhipefecekkaaGreatDoorParseA
set_option maxHeartbeats 16000000
set_option maxRecDepth 100000
namespace Go.Proofs.YtfhhipefecekkaaGreatDoor
open Go.Proofs.Tryz
open Go.RowKit
theorem Tryz.infoNd:(prog.info? 70).map (λi=>(i.zero,i.size,i.bytes))=some (some (.agg #[iV 0,iV 0,iV 0,iV 0,sN,.string ⟨#[]⟩,iV 0,iV 0,iV 0]),9,96):=by kernel_rfl
section
variable{w:World}{B pb:Nat}{tv:Value}{L:List M.Tk}{ok:Nat->Prop}{d:Nat}{s:M.St}
theorem PstL.pushN{w w1 w2:World}{B pb:Nat}{tv:Value}{L:List M.Tk}{ok:Nat->Prop}{d:Nat}{s:M.St}{yv:Value}{nx yx:List Value}{ad:Option Addr}{c g cap:Nat}{t:M.Nd}{lv:Value}(hlow:B<=pb)(hat:s.i<L.length)(hfew:s.T.length<=s.i)(hf:s.N.length+1<=s.i+1)
 (htoks:w.ownsRow 0 115 3 tv L.length (B5a L)) (hb:w.heap[pb]? =some (.cells #[tv,iV (s.i:Int),iV (d:Int),.slice ad s.N.length c,yv] 92 (0,0)))
 (hn:w.ownsRow B 70 9 (.slice ad s.N.length c) s.N.length nx) (hy:w.ownsRow B 66 4 yv s.T.length yx) (hrn:Rws (NdV w ok) s.N nx) (hry:Rws (TyV w ok) s.T yx) (ht:NdV w ok t [iV t.kind,iV t.a,iV t.b,iV t.c,lv,.string ⟨t.text.toArray⟩,iV t.n,iV t.ty,iV t.at']) (hok:ok pb/\(∀g,Value.ownBlock (.slice ad s.N.length c)=some g->ok g)/\(∀g,yv.ownBlock=some g->ok g)) (hgok:ok g)
 (h1:Chg No w w1) (hg:w1.grownBy w2 (Value.ownBlock (.slice ad s.N.length c))) (ho:w2.ownsRow B 70 9 (.slice (some (aD g 0)) (s.N.length+1) cap) (s.N.length+1) (nx++[iV t.kind,iV t.a,iV t.b,iV t.c,lv,.string ⟨t.text.toArray⟩,iV t.n,iV t.ty,iV t.at'])):
 Kept B ok w (w2.setCell (aD pb 3) (.slice (some (aD g 0)) (s.N.length+1) cap))/\PstL (w2.setCell (aD pb 3) (.slice (some (aD g 0)) (s.N.length+1) cap)) B pb tv L ok d ⟨s.i,s.N++[t],s.T⟩:=by
 have hlt:=(ltG hb);have hb1:w1.heap[pb]? =w.heap[pb]? :=h1.block pb hlt (λx=>x);have hy1:w1.ownsRow B 70 9 (.slice ad s.N.length c) s.N.length nx:=A3 hn h1 (λ_ _ x=>x);have hne:some pb≠Value.ownBlock (.slice ad s.N.length c):=by
  intro hx;obtain⟨_,cur,hh⟩:=A9 hy1 pb hx.symm;rw[hb1,hb]at hh;simp only[zQ,xW]at hh;exact absurd hh.2.1 (by decide)
 have hb2:w2.heap[pb]? =some (.cells #[tv,iV (s.i:Int),iV (d:Int),.slice ad s.N.length c,yv] 92 (0,0)):=by rw[hg.block pb (yQ hlt h1.size) hne,hb1,hb]
 have hc2:Chg (λk=>some k=Value.ownBlock (.slice ad s.N.length c)) w w2:=(h1.mono λ_ _ x=>x.elim).trans (Chg.grown hg) (λ_ _ x=>x);have hc3:Chg (λk=>some k=Value.ownBlock (.slice ad s.N.length c)\/k=pb) w (w2.setCell (aD pb 3) (.slice (some (aD g 0)) (s.N.length+1) cap)):=(hc2.mono λ_ _ x=> .inl x).trans (Chg.set _ _ _) (λ_ _ x=> .inr x);have hno:∀{base:Nat} {e:TypeId} {size:Nat} {v:Value} {n:Nat} {xs:List Value},w.ownsRow base e size v n xs->e≠92->e≠70->∀k,v.ownBlock=some k->¬(some k=Value.ownBlock (.slice ad s.N.length c)\/k=pb):=by
  intro base e size v n xs hw he he2 k hk hx;obtain⟨_,cur,hh⟩:=A9 hw k hk;rcases hx with hx|rfl
  · obtain⟨_,cur2,hh2⟩:=A9 hn k hx.symm;rw[hh]at hh2;simp only[zQ,xW]at hh2;exact he2 hh2.2.1
  · rw[hb]at hh;simp only[zQ,xW]at hh;exact he hh.2.1.symm
 have key:∀k,ok k->k<w.heap.size->(some k=Value.ownBlock (.slice ad s.N.length c)\/k=pb)->(∃cur e,w.heap[k]? =some (.cells cur e (0,0))/\(e=121\/e=3))->False:=by
  rintro k _ _ hx ⟨cur,e,hh,he⟩;rcases hx with hx|rfl
  · obtain⟨_,cur2,hh2⟩:=A9 hn k hx.symm;rw[hh]at hh2;simp only[zQ,xW]at hh2;rcases he with rfl|rfl<;>exact absurd hh2.2.1 (by decide)
  · rw[hb]at hh;simp only[zQ,xW]at hh;rcases he with rfl|rfl<;>exact absurd hh.2.1 (by decide)
 have hb3:(w2.setCell (aD pb 3) (.slice (some (aD g 0)) (s.N.length+1) cap)).heap[pb]? =some (.cells #[tv,iV (s.i:Int),iV (d:Int),.slice (some (aD g 0)) (s.N.length+1) cap,yv] 92 (0,0)):=by rw[heap_setCell_same w2 pb 3 _ _ _ hb2];rfl
 refine⟨hc3.mono λk hk hx=> ?_,hlow,hat,⟨by simp;omega,hfew⟩,A3 htoks hc3 (hno htoks (by decide) (by decide)),⟨hok.1,λu g' hu hg'=> ?_,λu g' hu hg'=> ?_⟩,_,yv,_,yx,hb3, ?_,A3 hy hc3 (hno hy (by decide) (by decide)),(hrn.imp (NdV.chg hc3 key (λ_ x _=>x))).snoc (NdV.chg hc3 key (λ_ x _=>x) _ _ ht),hry.imp (TyV.chg hc3 key (λ_ x _=>x))⟩
 · rcases hx with hx|rfl
   · obtain⟨hk1,cur2,hh2⟩:=A9 hn k hx.symm;exact⟨hk1,⟨_,_,_,hh2,.inr (.inl rfl)⟩,hok.2.1 _ hx.symm⟩
   · exact⟨hlow,⟨_,_,_,hb,.inl rfl⟩,hok.1⟩
 · rw[cell_of_row _ pb 3 _ _ _ hb3]at hu;cases hu;have hg2:some g=some g':=hg';cases hg2;exact hgok
 · rw[cell_of_row _ pb 4 _ _ _ hb3]at hu;cases hu;exact hok.2.2 _ hg'
 · have:=A3 ho (Chg.set w2 (aD pb 3) (.slice (some (aD g 0)) (s.N.length+1) cap)) (λk hk hx=>by
    have hx':k=pb:=hx;subst hx';obtain⟨_,cur2,hh2⟩:=A9 ho k hk;rw[hb2]at hh2;simp only[zQ,xW]at hh2;exact absurd hh2.2.1 (by decide))
   simpa using this
theorem H6a(hL : LOk L)(h : Pst w B pb tv L ok d s)(t : M.Nd)(la : Option Addr)(ln lc : Nat)(ht : NdV w ok t [iV t.kind, iV t.a, iV t.b, iV t.c, .slice la ln lc, .string ⟨t.text.toArray⟩, iV t.n, iV t.ty, iV t.at'])(hf : s.N.length + 1 <= s.i + 1)(hB : B <= w.heap.size)(hok : ∀ g, w.heap.size <= g -> ok g) :
    Calls prog 107 #[pV pb,.agg #[iV t.kind,iV t.a,iV t.b,iV t.c,.slice la ln lc,.string ⟨t.text.toArray⟩,iV t.n,iV t.ty,iV t.at']] w λe w'=>e= .returned (iV (s.N.length:Int))/\Kept B ok w w'/\PstL w' B pb tv L ok d ⟨s.i,s.N++[t],s.T⟩:=by
  obtain⟨hlow,hat,hfew,htoks,hoks,nv,yv,nx,yx,hb,hn,hy,hrn,hry⟩:=h
  obtain⟨ad,c,rfl⟩:=B7 hn
  have hs:=hL.short
  have hlt:=(ltG hb)
  have c4:w.cell? (aD pb 3)=some (.slice ad s.N.length c):=cr hb rfl
  have fz:∀o,w.frozen? (aD pb o)=false:=λo=>frozen_of_row w pb o _ _ hb
  have hoks2:ok pb/\(∀g,Value.ownBlock (.slice ad s.N.length c)=some g->ok g)/\(∀g,yv.ownBlock=some g->ok g):=⟨hoks.1,λg hg=>hoks.2.1 _ g c4 hg,λg hg=>hoks.2.2 _ g (cr hb rfl) hg⟩
  have HP:=A0 (λ(w1 w2:World) (g cap:Nat)=>PstL.pushN (w1:=w1) (w2:=w2) (g:=g) (cap:=cap) hlow hat hfew.2 hf htoks hb hn hy hrn hry ht hoks2)
  have HG:=A0 (λ(g:Nat) (hg:Value.ownBlock (.slice ad s.N.length c)=some g\/g=w.heap.size+2)=>show ok g from by rcases hg with hg|hg;exact hoks2.2.1 g hg;exact hok g (by omega))
  clear hoks hoks2
  have hne:Value.ownBlock (.slice ad s.N.length c)≠some pb:=by
    intro hx
    obtain⟨_,cur,hh⟩:=A9 hn pb hx
    rw[hb]at hh
    simp only[zQ,xW]at hh
    exact absurd hh.2.1 (by decide)
  have hne2:Value.ownBlock (.slice ad s.N.length c)≠some w.heap.size:=by
    intro hx
    have:=(hn.lt _ hx).2
    omega
  have HY:=A0 hn
  obtain⟨i0,hi,hz0,hz1,hz2⟩:=info_parts Tryz.infoNd
  clear ht htoks hb hn hy hrn hry
  go_enter func107,ntmps107
  go_wp2_with fail
  go_region_law ((refine step_append_lies _ (by rfl) _ _ _ (by rfl) B 70 i0 _ 9 96 underlying38 hi hz0 hz1 hz2 rfl (by omega) (.slice ad s.N.length c) s.N.length nx (by rfl) (((HY.out.alloc _).alloc _).drew) (aD (w.heap.size + 1) 0) 1 1 [iV t.kind, iV t.a, iV t.b, iV t.c, .slice la ln lc, .string ⟨t.text.toArray⟩, iV t.n, iV t.ty, iV t.at'] (by rfl) (by rfl) (World.news_of_block (cs := #[iV t.kind, iV t.a, iV t.b, iV t.c, .slice la ln lc, .string ⟨t.text.toArray⟩, iV t.n, iV t.ty, iV t.at']) (t := 70) (fr := (0, 0)) (F3a w _ _)) (by simp [Value.oneCell']) (by omega) (by simp only [maxLen]; omega) (by omega) (by simp; omega) (w.heap.size + 2) (by simp) ?_
                  intro gg cap w1 hown1 hgrow hat1 hlt1
                  have z4:w1.cell? (aD pb 3)=some (.slice ad s.N.length c):=by rw[hgrow.cell_far _ (by simp;omega) (Ne.symm hne)];exact F9 (by simp;omega) (F9 hlt c4)
                  have y4:w1.frozen? (aD pb 3)=false:=by rw[hgrow.frozen_far _ (by simp;omega) (Ne.symm hne)];exact S7 (by simp;omega) (S7 hlt (fz 3))))
  all_goals
    have HQ:=A0 (HP.out _ _ gg cap (HG.out gg hat1) (((Chg.alloc No w _).trans (Chg.alloc No _ _) (λ_ _ x=>x)).trans (Chg.drewN No _ 1) (λ_ _ x=>x)) hgrow hown1)
    clear hgrow hown1 HP HY
    go_wp2
    go_ret
    exact⟨J3 (by omega),HQ.out.1,HQ.out.2⟩
theorem N9(hL:LOk L)(h:Pst w B pb tv L ok d s)(t:M.Nd)(la:Option Addr)(ln lc:Nat)(ht:NdV w ok t [iV t.kind,iV t.a,iV t.b,iV t.c,.slice la ln lc,.string ⟨t.text.toArray⟩,iV t.n,iV t.ty,iV t.at'])(hf:s.N.length+1<=s.i)(hB:B<=w.heap.size)(hok:∀g,w.heap.size<=g->ok g):
 Calls prog 107 #[pV pb,.agg #[iV t.kind,iV t.a,iV t.b,iV t.c,.slice la ln lc,.string ⟨t.text.toArray⟩,iV t.n,iV t.ty,iV t.at']] w λe w'=>e= .returned (iV (s.N.length:Int))/\Kept B ok w w'/\Pst w' B pb tv L ok d ⟨s.i,s.N++[t],s.T⟩:=
 (H6a hL h t la ln lc ht (by omega) hB hok).mono λe w' ⟨h1,h2,h3⟩=>⟨h1,h2,h3.pst (by simp;omega)⟩
end
theorem B9{w a b:World}(h:Chg No w a)(k:Chg No a b):Chg No w b:=h.trans k (λ_ _ x=>x)
theorem A8{w w':World}(hc:Chg No w w'){a:Addr}{v:Value}(h:w.cell? a=some v):w'.cell? a=some v:=by
 have hq:=World.block_lt_of_cell? w a h;have hb:=hc.block a.block hq (λx=>x);unfold World.cell? at *;rw[hb];exact h
def T7(w:World)(B pb:Nat)(tv:Value)(L:List M.Tk)(ok:Nat->Prop)(d:Nat)(s:M.St)(φ:M.Sp->Option (M.Out Int))(e:Ending)(w':World):Prop:=
 Kept B ok w w'/\∃o,M.Ev L φ o/\match o with
  | .ok s' x=>e= .returned (iV x)/\Pst w' B pb tv L ok d s'/\E7 s s'/\0<=x/\x<s'.N.length
  | .fail er p=>e=gu er p/\er≠0
def ConN(B pb:Nat)(tv:Value)(L:List M.Tk)(K:Nat)(φ:Nat->M.St->M.Sp->Option (M.Out Int))(m:Nat):Prop:=
 ∀(w:World) (ok:Nat->Prop) (d:Nat) (s:M.St),L.length - s.i<=m->(∀g,w.heap.size<=g->ok g)->B<=w.heap.size->Pst w B pb tv L ok d s->
  Calls prog K #[pV pb] w (T7 w B pb tv L ok d s (φ d s))
theorem M.Ev.vb{α β:Type}{L:List M.Tk}{φ:M.Sp->Option (M.Out α)}{k:M.Sp->M.St->α->Option (M.Out β)}{F:M.Sp->Option (M.Out β)}(V:∀o,M.Ev L (λr=>M.A4 (φ r) (k r)) o->M.Ev L F o){s:M.St}{x:α}(h:M.Ev L φ (.ok s x)):∀o,M.Ev L (λr=>k r s x) o->M.Ev L F o:=λo ho=>V o (M.Ev.bind h ho)
theorem M.Ev.vf{α β:Type}{L:List M.Tk}{φ:M.Sp->Option (M.Out α)}{k:M.Sp->M.St->α->Option (M.Out β)}{F:M.Sp->Option (M.Out β)}(V:∀o,M.Ev L (λr=>M.A4 (φ r) (k r)) o->M.Ev L F o){e p:Int}(h:M.Ev L φ (.fail e p)):M.Ev L F (.fail e p):=V _ (M.Ev.bad h)
theorem ConN.con{B pb:Nat}{tv:Value}{L:List M.Tk}{K:Nat}{φ:Nat->M.St->M.Sp->Option (M.Out Int)}{m:Nat}(h:ConN B pb tv L K φ m):Con B pb tv L K φ m:=λw ok d s h1 h2 h3 h4=>(h w ok d s h1 h2 h3 h4).mono λe w' ⟨k,o,he,ho⟩=>⟨k,o,he,by
 cases o with
 |ok s' x=>exact⟨ho.1,ho.2.1,ho.2.2.1⟩
 |fail er p=>exact ho⟩
section
variable{w:World}{B pb:Nat}{tv:Value}{L:List M.Tk}{ok:Nat->Prop}{d:Nat}{s:M.St}
theorem C9{φ:M.Sp->Option (M.Out Int)}{w':World}{er p:Int}(hk:Kept B ok w w')(hev:M.Ev L φ (.fail er p))(he:er≠0):T7 w B pb tv L ok d s φ (gu er p) w':=⟨hk,_,hev,rfl,he⟩
theorem F2{φ:M.Sp->Option (M.Out Int)}{w':World}{s':M.St}{x:Int}(hk:Kept B ok w w')(hev:M.Ev L φ (.ok s' x))(hp:Pst w' B pb tv L ok d s')(hg:E7 s s')(hx:0<=x/\x<s'.N.length):T7 w B pb tv L ok d s φ (.returned (iV x)) w':=⟨hk,_,hev,rfl,hp,hg,hx⟩
theorem V8a(hL:LOk L)(h:Pst w B pb tv L ok d s):
 Calls prog 104 #[pV pb] w λe w'=>e= .returned (.bool (M.H0a L s.i))/\Chg No w w':=by
 have H:=R4 hL h;have HI:=λw1 (h1:Pst w1 B pb tv L ok d s)=>D0a hL (h1.alloc (.cells (M3a M.A6a) 9)) w1.heap.size 10 M.A6a (U9 _ _ _) (by decide);have HS:=A0 (λw1 (hc:Chg No w w1)=>h.still hc);have hf0:=T9;unfold M.H0a;generalize M.isM L s.i M.A6a=b at *;generalize M.tk L s.i=tk at *;obtain⟨kd,tx,pl⟩:=tk;simp only[tkv]at H⊢;generalize (⟨tx.toArray⟩:ByteArray)=bx at *;clear h;go_enter func104,ntmps104;go_wp2_with fail
 refine H.mono ?_;clear H;rintro e w1 ⟨rfl,hc⟩;have HP:=A0 (HS.out w1 hc);have HC:=A0 hc;clear hc HS;by_cases h1:kd=1
 · subst h1;go_wp2_with fail
   go_ret;exact⟨F1 (by simp),HC.out⟩
 · have h1':(kd==1)=false:=by simp[h1]
   by_cases h3:kd=3
   · subst h3;go_wp2_with fail
     go_ret;exact⟨F1 (by simp),HC.out⟩
   · have h3':(kd==3)=false:=by simp[h3]
     by_cases h4:kd=4
     · subst h4;go_wp2_with fail
       go_ret;exact⟨F1 (by simp),HC.out⟩
     · have h4':(kd==4)=false:=by simp[h4]
       go_wp2_with fail
       refine(HI _ HP.out).mono ?_;clear HI;rintro e w2 ⟨rfl,hc⟩;have HC2:=A0 (HC.out.trans ((Chg.alloc No w1 _).trans hc (λ_ _ x=>x)) (λ_ _ x=>x));clear hc;go_wp2_with fail
       go_ret;exact⟨F1 (by simp[h1,h3,h4]),HC2.out⟩
theorem D1a(kf:Nat)(cf:∀(args:Array Value) (W:World),(callFunc kf args).run prog W= .ok (.enter kf args) W)(hL:LOk L)(m:Nat)(φ:Nat->M.St->M.Sp->Option (M.Out Int))(hU:ConN B pb tv L kf φ m)(b:Bool)(hm:L.length - s.i<=m)(hok:∀g,w.heap.size<=g->ok g)(hB:B<=w.heap.size)(h:Pst w B pb tv L ok d s):
 Calls prog 105 #[pV pb,.bool b,.func (.func kf) #[pV pb] #[]] w (T7 w B pb tv L ok d s (λr=>M.inside L b d s (λd s=>φ d s r))):=by
 obtain⟨g,c,nv,yv,-,-,-,-,hlt,-,c1,c2,-,-,fz,-⟩:=h.cell;have HF:=λer=>Y1 hL h er;have HP:=A0 h;clear h;cases b
 · go_enter func105,ntmps105;go_wp2_with fail
   refine(HF 1).mono ?_;rintro e w2 ⟨rfl,hc⟩;exact⟨rfl,C9 (C8 hc) (D7b (e:=1) (i:=s.i) (λr=>by simp[M.inside])) (by decide)⟩
 · by_cases hd:20<=d
   · have hd':(20:Int)<=(d:Int):=by omega
     go_enter func105,ntmps105;go_wp2_with fail
     refine(HF 8).mono ?_;rintro e w2 ⟨rfl,hc⟩;exact⟨rfl,C9 (C8 hc) (D7b (e:=8) (i:=s.i) (λr=>by simp[M.inside,hd])) (by decide)⟩
   · have hd':¬(20:Int)<=(d:Int):=by omega
     have HD:=A0 hd;clear hd;go_enter func105,ntmps105;go_wp2_with fail
     refine(hU _ ok (d+1) s hm (by simpa using hok) (by simpa using hB) (by simpa using HP.out.deeper (d+1))).mono ?_;rintro e w2 ⟨hk,o,hev,hpost⟩;have HK:=A0 ((HP.out.keptSet 2 _).trans hk);have HE:=A0 (hev.eq (ψ:=λr=>M.inside L true d s (λd s=>φ d s r)) (λr=>by simp[M.inside,HD.out]));cases o with
     |fail er p=>
      obtain⟨rfl,he⟩:=hpost;exact⟨rfl,C9 HK.out HE.out he⟩
     |ok s' x=>
      obtain⟨rfl,hp,hg,hx⟩:=hpost;have HP2:=A0 hp;have HG:=A0 hg;obtain⟨g',c',nv',yv',-,-,-,-,hlt',-,-,c2',-,-,fz',-⟩:=hp.cell;clear hp hg hev hk HF hU;go_wp2_with fail
      go_ret;exact F2 (HK.out.trans (HP2.out.keptSet _ _)) HE.out (HP2.out.deeper d) HG.out hx
theorem U6a(hL:LOk L)(m:Nat)(hU:ConN B pb tv L 179 (λd s r=>r.comp d s) m):ConN B pb tv L 165 (λd s r=>r.expr d s) m:=by
 intro w ok d s hm hok hB h;have HI:=λw1 (hc:Chg No w w1) (b:Bool)=>D1a (w:=w1) (ok:=ok) 179 (λ_ _=>by go_simp) hL m _ hU b hm (λg hg=>hok g (kQ hc.size hg)) (kQ hB hc.size) (h.still hc);have HS:=V8a hL h;clear hU;have HE:=A0 (λb (hb:b=M.H0a L s.i) o (ho:M.Ev L (λr=>M.inside L b d s (λd s=>r.comp d s)) o)=>(M.Ev.step (φ:=λr=>r.expr d s) (ho.eq (λr=>by rw[hb];rfl))));generalize M.H0a L s.i=b at *;go_enter func165,ntmps165;go_wp2_with fail
 refine HS.mono ?_;clear HS;rintro e w1 ⟨rfl,hc⟩;have HC:=A0 hc;clear hc;go_wp2_with fail
 refine(HI w1 HC.out b).mono ?_;clear HI;rintro e w2 ⟨hk,o,hev,hpost⟩;have HK:=A0 ((C8 HC.out).trans hk);have HV:=A0 (HE.out b rfl o hev);clear hk hev HE;cases o with
 |fail er p=>
  obtain⟨rfl,he⟩:=hpost;exact⟨rfl,C9 HK.out HV.out he⟩
 |ok s' x=>
  obtain⟨rfl,hp,hg,hx⟩:=hpost;have HP2:=A0 hp;have HG:=A0 hg;clear hp hg;go_wp2_with fail
  go_ret;exact F2 HK.out HV.out HP2.out HG.out hx
theorem M9b(hL:LOk L)(h:Pst w B pb tv L ok d s)(t:M.Nd)(y:Int)(la:Option Addr)(ln lc:Nat)(ht:NdV w ok t [iV t.kind,iV t.a,iV t.b,iV t.c,.slice la ln lc,.string ⟨t.text.toArray⟩,iV t.n,iV t.ty,iV t.at'])(hy:t.ty= -1)(hf:s.N.length+1<=s.i+1)(hB:B<=w.heap.size)(hok:∀g,w.heap.size<=g->ok g):
 Calls prog 73 #[pV pb,.agg #[iV t.kind,iV t.a,iV t.b,iV t.c,.slice la ln lc,.string ⟨t.text.toArray⟩,iV t.n,iV y,iV t.at']] w λe w'=>e= .returned (iV (s.N.length:Int))/\Kept B ok w w'/\PstL w' B pb tv L ok d ⟨s.i,s.N++[t],s.T⟩:=by
 have HA:=H6a hL (h.alloc (.cells #[iV t.kind,iV t.a,iV t.b,iV t.c,.slice la ln lc,.string ⟨t.text.toArray⟩,iV t.n,iV (-1),iV t.at'] 70)) t la ln lc (NdV.chg (Chg.alloc No _ _) (λ_ _ _ x _=>x) (λ_ x _=>x) _ _ ht) hf (by simp;omega) (λg hg=>hok g (by simp at hg;omega));rw[hy]at HA;clear h ht;go_enter func73,ntmps73;go_wp2_with fail
 refine HA.mono ?_;clear HA;rintro e w1 ⟨rfl,hk,hp⟩;have HK:=A0 (((Kept.refl B ok w).alloc _).trans hk);have HP:=A0 hp;clear hk hp;go_wp2_with fail
 go_ret;exact⟨rfl,HK.out,HP.out⟩
theorem J6(hL:LOk L)(h:Pst w B pb tv L ok d s)(t:M.Nd)(y:Int)(la:Option Addr)(ln lc:Nat)(ht:NdV w ok t [iV t.kind,iV t.a,iV t.b,iV t.c,.slice la ln lc,.string ⟨t.text.toArray⟩,iV t.n,iV t.ty,iV t.at'])(hy:t.ty= -1)(hf:s.N.length+1<=s.i)(hB:B<=w.heap.size)(hok:∀g,w.heap.size<=g->ok g):
 Calls prog 73 #[pV pb,.agg #[iV t.kind,iV t.a,iV t.b,iV t.c,.slice la ln lc,.string ⟨t.text.toArray⟩,iV t.n,iV y,iV t.at']] w λe w'=>e= .returned (iV (s.N.length:Int))/\Kept B ok w w'/\Pst w' B pb tv L ok d ⟨s.i,s.N++[t],s.T⟩:=
 (M9b hL h t y la ln lc ht hy (by omega) hB hok).mono λe w' ⟨h1,h2,h3⟩=>⟨h1,h2,h3.pst (by simp;omega)⟩
def StrsB(w:World)(b:Nat)(ms:List (List UInt8)):Prop:=w.heap[b]? =some (.cells (M3a ms) 9 (0,0))
theorem StrsB.strs{b:Nat}{ms:List (List UInt8)}(h:StrsB w b ms):Strs w b ms:=
 ⟨(ltG h),λj hj=>by rw[cell_of_row w b j _ _ _ h];simp[M3a,hj]⟩
theorem StrsB.kept{ok:Nat->Prop}{w':World}{b:Nat}{ms:List (List UInt8)}(h:StrsB w b ms)(hk:Kept B ok w w'):StrsB w' b ms:=by
 unfold StrsB at h⊢;rw[hk.block b (ltG h) (λx=> ?_)]
 · exact h
 · obtain⟨cs,e,fz,hh,r⟩:=x.2.1;rw[h]at hh;simp only[zQ,xW]at hh;obtain⟨_,rfl,_⟩:=hh;rcases r with r|r|r<;>exact absurd r (by decide)
theorem T3a{i:Nat}{ms:List (List UInt8)}(h:M.isM L i ms=true):(M.tk L i).kind≠6:=by
 intro h6;simp[M.isM,h6]at h
theorem Y3a(kf:Nat)(cf:∀(args:Array Value) (W:World),(callFunc kf args).run prog W= .ok (.enter kf args) W)(hL:LOk L)(m:Nat)(φ:Nat->M.St->M.Sp->Option (M.Out Int))(hU:∀m',m'<m->ConN B pb tv L kf φ m')(left:Nat)(hl:left<s.N.length)(hk6:(M.tk L s.i).kind≠6)(hm:L.length - s.i<=m)(hok:∀g,w.heap.size<=g->ok g)(hB:B<=w.heap.size)(h:Pst w B pb tv L ok d s):
 Calls prog 185 #[pV pb,iV (left:Int),.func (.func kf) #[pV pb] #[]] w (T7 w B pb tv L ok d s (λr=>M.two L s (left:Int) (λs=>φ d s r))):=by
 have hi:=h.at';have hs:=hL.short;have hfw:=h.few;have HT:=E3a hL h hk6;have hf1:=X7;have HV:Hid (∀o,M.Ev L (λr=>M.A4 (φ d s.nx r) λs' x=>M.addN s' ⟨12,(left:Int),x,0,[],(M.tk L s.i).text,0,-1,M.atN s' (left:Int)⟩) o->M.Ev L (λr=>M.two L s (left:Int) (λs=>φ d s r)) o):=λo ho=>ho;clear h hk6;generalize M.tk L s.i=tk at *;obtain⟨kd,tx,pl⟩:=tk;simp only[tkv]at HT HV;go_enter func185,ntmps185;go_wp2_with fail
 refine HT.mono ?_;clear HT;rintro e w1 ⟨rfl,hk,hp⟩;have K1:=A0 hk;have hi1:=hp.at';have HM:=hU (L.length - s.nx.i) (by simp only[M.St.nx];omega) w1 ok d s.nx (vQ _) (λg hg=>hok g (kQ hk.size hg)) (kQ hB hk.size) hp;clear hk hp;go_wp2_with fail
 refine HM.mono ?_;clear HM;rintro e w2 ⟨hk,o,hev,hpost⟩;have K2:=A0 (K1.out.trans hk);have E2:=A0 hev;clear hk hev K1;cases o with
 |fail er p=>
  obtain⟨rfl,he⟩:=hpost;exact⟨rfl,C9 K2.out (HV.out _ (M.Ev.bad E2.out)) he⟩
 |ok s2 x=>
  obtain⟨rfl,hp,hg,hx⟩:=hpost;have hl2:left<s2.N.length:=by have:=hg.2.2.2;simp only[M.St.nx]at this;omega
  have P2:=A0 hp;have G2:=A0 hg;obtain⟨nv,yv,nx,yx,hb,hn,hy,hrn,hry⟩:=hp.blk;obtain⟨na,nc,rfl⟩:=B7 hn;obtain⟨g,rfl,_,hgl,hgc,hgm,hcell⟩:=D8 hn (by omega);obtain⟨nd,hnd,hat⟩:=Rws.at (λ_ _ h=>NdV.len h) left hl2 hrn;have hfew:=hp.few;have hi2:=hp.at';have hlt:=(ltG hb);have c3:w2.cell? (aD pb 3)=some (.slice (some (aD g 0)) s2.N.length nc):=cr hb rfl;have c8:w2.cell? (aD g (left * 9+8))=some (iV (s2.N[left].at')):=by
   obtain⟨lv,rfl,_⟩:=hnd;exact hcell _ _ ((hat 8 (by omega)).trans rfl)
  have hA:M.atN s2 (left:Int)=s2.N[left].at':=by simp[M.atN,List.getD,hl2]
  generalize s2.N[left].at'=pa at *;unfold maxLen at hgm;clear hp hg hb hn hy hrn hry hcell hnd hat;have HA:=λw3 (h3:Pst w3 B pb (tv) L ok d s2) (hz:w.heap.size<=w3.heap.size)=>J6 hL h3 ⟨12,(left:Int),x,0,[],tx,0,-1,pa⟩ 0 none 0 0 ⟨_,rfl,kW _ _ _ _,by simp[Value.ownBlock]⟩ rfl (by have:=G2.out;simp only[E7,M.St.nx]at this;omega) (kQ hB hz) (λg hg=>hok g (kQ hz hg));have EV:=A0 (HV.out _ (M.Ev.bind E2.out (k:=λ_ s' x=>M.addN s' ⟨12,(left:Int),x,0,[],tx,0,-1,M.atN s' (left:Int)⟩) (M.Ev.pure.eq (λ_=>by rw[hA];rfl))));have hz2:=K2.out.size;have GX:=A0 (show E7 s ⟨s2.i,s2.N++[⟨12,(left:Int),x,0,[],tx,0,-1,pa⟩],s2.T⟩ by
   have h2:=G2.out;simp only[E7,M.St.nx,qQ,jQ,xQ]at h2⊢
   omega)
  clear hA E2;go_wp2_with fail
  refine(HA w2 P2.out (by omega)).mono ?_;clear HA;rintro e w3 ⟨rfl,hk,hp⟩;have K3:=A0 (K2.out.trans hk);have P3:=A0 hp;clear hk hp;go_wp2_with fail
  go_ret;exact F2 K3.out EV.out P3.out GX.out (by simp;omega)
theorem Z0a(kf:Nat)(cf:∀(args:Array Value) (W:World),(callFunc kf args).run prog W= .ok (.enter kf args) W)(hL:LOk L)(m:Nat)(bb:Bool)(φ:Nat->M.St->M.Sp->Option (M.Out Int))(hφ:∀d s r,φ d s r=(if bb then r.prod d else r.oper d) s)(hU:∀m',m'<=m->ConN B pb tv L kf φ m')(b:Nat)(hsg:StrsB w b (M.J2 bb))(n:Nat)(hn:n=(M.J2 bb).length)(hm:L.length - s.i<=m)(hok:∀g,w.heap.size<=g->ok g)(hB:B<=w.heap.size)(h:Pst w B pb tv L ok d s):
 Calls prog 194 #[pV pb,.func (.func kf) #[pV pb] #[],.slice (some (aD b 0)) n n] w (T7 w B pb tv L ok d s (λr=>M.A4 (φ d s r) λs x=>r.row bb d s x)):=by
 have hi:=h.at';have hs:=hL.short;have HM:=hU m (vQ _) w ok d s hm hok hB h;clear h;go_enter func194,ntmps194;go_wp2_with fail
 refine HM.mono ?_;clear HM;rintro e w1 ⟨hk,o,hev,hpost⟩;have K1:=A0 hk;have S1:=A0 (hsg.kept hk);have E1:=A0 hev;clear hk hev;cases o with
 |fail er p=>
  obtain⟨rfl,he⟩:=hpost;exact⟨rfl,C9 K1.out (M.Ev.bad E1.out) he⟩
 |ok s1 x=>
  obtain⟨rfl,hp,hg,hx⟩:=hpost;have P1:=A0 hp;have G1:=A0 hg;clear hp hg;obtain⟨kx,rfl⟩:=Int.eq_ofNat_of_zero_le hx.1;have V1:=A0 (λo ho=>M.Ev.bind (k:=λr s x=>r.row bb d s x) E1.out ho (o:=o));clear E1 hsg;subst hn;go_wp2_with fail
  go_loopw [7] (λv wr=>∃(k:Nat) (s':M.St),v=iV (k:Int)/\k<s'.N.length/\Hid (Kept B ok w wr)/\Hid (StrsB wr b (M.J2 bb))/\Hid (E7 s s')/\Hid (Pst wr B pb tv L ok d s')/\
   Hid (∀o,M.Ev L (λr=>r.row bb d s' (k:Int)) o->M.Ev L (λr=>M.A4 (φ d s r) λs x=>r.row bb d s x) o)) (λ_ wr=>L.length - nxt wr pb)
  case atStart=>exact⟨kx,s1,rfl,by omega,K1.out,S1.out,G1.out,P1.out,V1.out⟩
  case round=>
   clear V1 P1 G1 S1 K1 hx;obtain⟨k,s',rfl,hk,KR,SR,GR,PR,VR⟩:=hrel;have HI:=D0a hL PR.out b (M.J2 bb).length (M.J2 bb) SR.out.strs (by cases bb<;>decide);have hi':=PR.out.at';have hj:s.i<s'.i:=GR.out.1;have hnx:=PR.out.nxt;generalize hq:M.isM L s'.i (M.J2 bb)=q at *;have Q1:=A0 hq;clear hq;go_wp2_with fail
   refine HI.mono ?_;clear HI;rintro e w2 ⟨rfl,hc⟩;have K2:=A0 (KR.out.trans (C8 hc));have P2:=A0 (PR.out.still hc);have S2:=A0 (SR.out.kept (C8 (B:=B) (ok:=ok) hc));clear hc KR PR SR;cases q
   · have EV:=A0 (VR.out _ (M.Ev.step (M.Ev.pure.eq (o:= .ok s' (k:Int)) (λr=>by show (if M.isM L s'.i (M.J2 bb) then _ else _)=_;rw[Q1.out];rfl))));clear VR;go_wp2_with fail
     go_ret;exact F2 K2.out EV.out P2.out GR.out (by omega)
   · have HT:=Y3a kf cf hL m φ (λm' h=>hU m' (by omega)) k hk (T3a Q1.out) (by omega) (λg hg=>hok g (kQ K2.out.size hg)) (kQ hB K2.out.size) P2.out;have VT:=A0 (λo (ho:M.Ev L (λr=>M.A4 (M.two L s' (k:Int) (λs=>φ d s r)) λs y=>r.row bb d s y) o)=>VR.out o (M.Ev.step (ho.eq (λr=>by
      show (if M.isM L s'.i (M.J2 bb) then M.A4 (M.two L s' (k:Int) (if bb then r.prod d else r.oper d)) _ else _)=_;rw[Q1.out,show (λs=>φ d s r)=(if bb then r.prod d else r.oper d) from funext λs=>hφ d s r]
      rfl))))
     clear VR P2;go_wp2_with fail
     refine HT.mono ?_;clear HT;rintro e w3 ⟨hk3,o,hev,hpost⟩;have K3:=A0 (K2.out.trans hk3);have S3:=A0 (S2.out.kept hk3);have E3:=A0 hev;clear hk3 hev K2 S2;cases o with
     |fail er p=>
      obtain⟨rfl,he⟩:=hpost;exact⟨rfl,C9 K3.out (VT.out _ (M.Ev.bad E3.out)) he⟩
     |ok s3 y=>
      obtain⟨rfl,hp,hg,hy⟩:=hpost;obtain⟨ky,rfl⟩:=Int.eq_ofNat_of_zero_le hy.1;have P3:=A0 hp;have G3:=A0 hg;have V3:=A0 (λo ho=>VT.out o (M.Ev.bind (k:=λr s x=>r.row bb d s x) E3.out ho));have hi3:=hp.at';clear hp hg VT;go_wp2_with fail
      go_roundw
      case rel=>
       have h1:=GR.out;have h2:=G3.out;simp only[E7]at h1 h2;exact⟨ky,s3,rfl,by omega,K3.out,S3.out,⟨by omega,by omega,by omega,by omega⟩,P3.out,V3.out⟩
      case measure=>
       have h2:=G3.out.1;have h3:=P3.out.nxt;rw[h3,hnx];omega
theorem I1b(hL:LOk L)(m:Nat)(hU:∀m',m'<=m->ConN B pb tv L 206 (λd s r=>r.oper d s) m'):ConN B pb tv L 195 (λd s r=>r.prod d s) m:=by
 intro w ok d s hm hok hB h;have HR:=Z0a 206 (λ_ _=>by go_simp) (w:=w.alloc (.cells (M3a (M.J2 false)) 9)) hL m false (λd s r=>r.oper d s) (λ_ _ _=>rfl) hU w.heap.size (heap_alloc_new w _) 1 rfl hm (λg hg=>hok g (by simp at hg;omega)) (by simp;omega) (h.alloc _);have HV:Hid (∀o,M.Ev L (λr=>M.A4 (r.oper d s) λs x=>r.row false d s x) o->M.Ev L (λr=>r.prod d s) o):=λo ho=>M.Ev.step (ho.eq λr=>rfl);clear h hU;go_enter func195,ntmps195;go_wp2_with fail
 refine HR.mono ?_;clear HR;rintro e w1 ⟨hk,o,hev,hpost⟩;have K1:=A0 (((Kept.refl B ok w).alloc _).trans hk);have E1:=A0 (HV.out o hev);clear hk hev HV;cases o with
 |fail er p=>
  obtain⟨rfl,he⟩:=hpost;exact⟨rfl,C9 K1.out E1.out he⟩
 |ok s1 x=>
  obtain⟨rfl,hp,hg,hx⟩:=hpost;have P1:=A0 hp;have G1:=A0 hg;clear hp hg;go_wp2_with fail
  go_ret;exact F2 K1.out E1.out P1.out G1.out hx
theorem U5c(hL:LOk L)(m:Nat)(hU:∀m',m'<=m->ConN B pb tv L 195 (λd s r=>r.prod d s) m'):ConN B pb tv L 184 (λd s r=>r.sum d s) m:=by
 intro w ok d s hm hok hB h;have HR:=Z0a 195 (λ_ _=>by go_simp) (w:=w.alloc (.cells (M3a (M.J2 true)) 9)) hL m true (λd s r=>r.prod d s) (λ_ _ _=>rfl) hU w.heap.size (heap_alloc_new w _) 2 rfl hm (λg hg=>hok g (by simp at hg;omega)) (by simp;omega) (h.alloc _);have HV:Hid (∀o,M.Ev L (λr=>M.A4 (r.prod d s) λs x=>r.row true d s x) o->M.Ev L (λr=>r.sum d s) o):=λo ho=>M.Ev.step (ho.eq λr=>rfl);clear h hU;go_enter func184,ntmps184;go_wp2_with fail
 refine HR.mono ?_;clear HR;rintro e w1 ⟨hk,o,hev,hpost⟩;have K1:=A0 (((Kept.refl B ok w).alloc _).trans hk);have E1:=A0 (HV.out o hev);clear hk hev HV;cases o with
 |fail er p=>
  obtain⟨rfl,he⟩:=hpost;exact⟨rfl,C9 K1.out E1.out he⟩
 |ok s1 x=>
  obtain⟨rfl,hp,hg,hx⟩:=hpost;have P1:=A0 hp;have G1:=A0 hg;clear hp hg;go_wp2_with fail
  go_ret;exact F2 K1.out E1.out P1.out G1.out hx
theorem V1a(hL:LOk L)(m:Nat)(hU:∀m',m'<=m->ConN B pb tv L 184 (λd s r=>r.sum d s) m'):ConN B pb tv L 179 (λd s r=>r.comp d s) m:=by
 intro w ok d s hm hok hB h;have hi:=h.at';have hs:=hL.short;have HM:=hU m (vQ _) w ok d s hm hok hB h;have HV:Hid (∀o,M.Ev L (λr=>M.A4 (r.sum d s) λs x=>if M.isM L s.i [[61,61],[60]] then M.two L s x (r.sum d) else some (.ok s x)) o->M.Ev L (λr=>r.comp d s) o):=λo ho=>M.Ev.step (ho.eq λr=>rfl);clear h;go_enter func179,ntmps179;go_wp2_with fail
 refine HM.mono ?_;clear HM;rintro e w1 ⟨hk,o,hev,hpost⟩;have K1:=A0 hk;have E1:=A0 hev;clear hk hev;cases o with
 |fail er p=>
  obtain⟨rfl,he⟩:=hpost;exact⟨rfl,C9 K1.out (HV.out _ (M.Ev.bad E1.out)) he⟩
 |ok s1 x=>
  obtain⟨rfl,hp,hg,hx⟩:=hpost;obtain⟨kx,rfl⟩:=Int.eq_ofNat_of_zero_le hx.1;have HI:=D0a hL (hp.alloc (.cells (M3a [[61,61],[60]]) 9)) w1.heap.size 2 [[61,61],[60]] (U9 _ _ _) (by decide);have P1:=A0 hp;have G1:=A0 hg;have hi1:=hp.at';have hj:=hg.1;have V1:=A0 (λo ho=>HV.out o (M.Ev.bind E1.out ho));clear hp hg HV E1;generalize hq:M.isM L s1.i [[61,61],[60]]=q at *;have Q1:=A0 hq;clear hq;go_wp2_with fail
  refine HI.mono ?_;clear HI;rintro e w2 ⟨rfl,hc⟩;have K2:=A0 (K1.out.trans (((Kept.refl B ok w1).alloc _).trans (C8 hc)));have P2:=A0 ((P1.out.alloc _).still hc);clear hc P1 K1;cases q
  · have EV:=A0 (V1.out _ (M.Ev.pure.eq (o:= .ok s1 (kx:Int)) (λr=>by simp)));go_wp2_with fail
    go_ret;exact F2 K2.out EV.out P2.out G1.out hx
  · have HT:=Y3a 184 (λ_ _=>by go_simp) hL m (λd s r=>r.sum d s) (λm' h=>hU m' (by omega)) kx (by omega) (T3a Q1.out) (by omega) (λg hg=>hok g (kQ K2.out.size hg)) (kQ hB K2.out.size) P2.out;clear P2;go_wp2_with fail
    refine HT.mono ?_;clear HT;rintro e w3 ⟨hk3,o,hev,hpost⟩;have K3:=A0 (K2.out.trans hk3);have E3:=A0 (V1.out _ (hev.eq (λr=>if_pos trivial)));clear hk3 hev K2 V1;cases o with
    |fail er p=>
     obtain⟨rfl,he⟩:=hpost;exact⟨rfl,C9 K3.out E3.out he⟩
    |ok s3 y=>
     obtain⟨rfl,hp,hg,hy⟩:=hpost;have P3:=A0 hp;have G3:=A0 (show E7 s s3 by
      have h1:=G1.out;have h2:=hg;simp only[E7]at h1 h2⊢
      omega)
     clear hp hg;go_wp2_with fail
     go_ret;exact F2 K3.out E3.out P3.out G3.out hy
def C5d(w:World)(B pb:Nat)(tv:Value)(L:List M.Tk)(ok:Nat->Prop)(d:Nat)(s:M.St)(φ:M.Sp->Option (M.Out Int))(e:Ending)(w':World):Prop:=
 Kept B ok w w'/\∃o,M.Ev L φ o/\match o with
  | .ok s' x=>e= .returned (iV x)/\Pst w' B pb tv L ok d s'/\I6 s s'/\0<=x/\x<s'.N.length
  | .fail er p=>e=gu er p/\er≠0
def P1d(B pb:Nat)(tv:Value)(L:List M.Tk)(m:Nat):Prop:=
 ∀(w:World) (ok:Nat->Prop) (d:Nat) (s:M.St) (k:Nat),k<s.N.length->L.length - s.i<=m->(∀g,w.heap.size<=g->ok g)->B<=w.heap.size->Pst w B pb tv L ok d s->
  Calls prog 213 #[pV pb,iV (k:Int)] w (C5d w B pb tv L ok d s (λr=>r.tail d s (k:Int)))
theorem F0b(hL:LOk L)(m:Nat)(hE:∀m',m'<m->ConN B pb tv L 165 (λd s r=>r.expr d s) m'):
 ConN B pb tv L 228 (λd s r=>M.A4 (M.need L s [40]) λs _=>M.A4 (r.expr d s) λs x=>M.A4 (M.need L s [41]) λs _=>some (.ok s x)) m:=by
 intro w ok d s hm hok hB h;have hi:=h.at';have hs:=hL.short;have H1:=G9 hL h [40];clear h;go_enter func228,ntmps228;go_wp2_with fail
 refine H1.mono ?_;clear H1;rintro e w1 ⟨hk,hr⟩;have K1:=A0 hk;clear hk;rcases hr with ⟨hb,rfl,hp⟩|⟨hb,rfl⟩
 · have V1:=A0 (λo ho=>M.Ev.bind (k:=λr s (_:Unit)=>M.A4 (r.expr d s) λs x=>M.A4 (M.need L s [41]) λs _=>some (M.Out.ok s x)) (J8 hb) ho (o:=o));have hi1:=hp.at';have HM:=hE (L.length - s.nx.i) (by simp only[M.St.nx];omega) w1 ok d s.nx (vQ _) (λg hg=>hok g (kQ K1.out.size hg)) (kQ hB K1.out.size) hp;clear hp hb;go_wp2_with fail
   refine HM.mono ?_;clear HM;rintro e w2 ⟨hk,o,hev,hpost⟩;have K2:=A0 (K1.out.trans hk);have E2:=A0 hev;clear hk hev K1;cases o with
   |fail er p=>
    obtain⟨rfl,he⟩:=hpost;exact⟨rfl,C9 K2.out (V1.out _ (M.Ev.bad E2.out)) he⟩
   |ok s2 x=>
    obtain⟨rfl,hp,hg,hx⟩:=hpost;have H3:=G9 hL hp [41];have G2:=A0 hg;have V2:=A0 (λo ho=>V1.out o (M.Ev.bind E2.out ho));clear hp hg V1 E2;go_wp2_with fail
    refine H3.mono ?_;clear H3;rintro e w3 ⟨hk,hr⟩;have K3:=A0 (K2.out.trans hk);clear hk K2;rcases hr with ⟨hb,rfl,hp⟩|⟨hb,rfl⟩
    · have EV:=A0 (V2.out _ (M.Ev.bind (J8 hb) M.Ev.pure));have P3:=A0 hp;have G3:=A0 (show E7 s s2.nx by
       have h2:=G2.out;simp only[E7,M.St.nx]at h2⊢
       omega)
      clear hp hb V2;go_wp2_with fail
      go_ret;exact F2 K3.out EV.out P3.out G3.out hx
    · exact⟨rfl,C9 K3.out (V2.out _ (M.Ev.bad (O9 hb))) (by decide)⟩
 · exact⟨rfl,C9 K1.out (M.Ev.bad (O9 hb)) (by decide)⟩
theorem B4a(hL:LOk L)(h:Pst w B pb tv L ok d s)(hok:∀g,w.heap.size<=g->ok g)(hB:B<=w.heap.size):
 Calls prog 163 #[pV pb] w λe w'=>Kept B ok w w'/\∃o,M.Ev L (λr=>M.typeIf L r d s) o/\match o with
  | .ok s' x=>e= .returned (iV x)/\Pst w' B pb tv L ok d s'/\I6 s s'
  | .fail er p=>e=gu er p/\er≠0:=by
 have H1:=F6 hL h [58];have HV:Hid (∀o,M.Ev L (λr=>if M.isM L s.i [[58]] then r.typ d s.nx else some (.ok s (-1))) o->M.Ev L (λr=>M.typeIf L r d s) o):=λo ho=>ho;clear h;generalize M.isM L s.i [[58]]=q at *;go_enter func163,ntmps163;go_wp2_with fail
 refine H1.mono ?_;clear H1;rintro e w1 ⟨rfl,hk,hp⟩;have K1:=A0 hk;cases q
 · have PX:Pst w1 B pb tv L ok d s:=by simpa using hp
   have P1:=A0 PX;clear PX hp hk;go_wp2_with fail
   go_ret;exact⟨K1.out,.ok s (-1),HV.out _ (M.Ev.pure.eq (λr=>by simp)),rfl,P1.out,⟨vQ _,by omega,by omega,by omega⟩⟩
 · have PX:Pst w1 B pb tv L ok d s.nx:=by simpa using hp
   have HM:=V1b hL (L.length - s.nx.i) w1 ok d s.nx (vQ _) (λg hg=>hok g (kQ hk.size hg)) (kQ hB hk.size) PX;clear PX hp hk;go_wp2_with fail
   refine HM.mono ?_;clear HM;rintro e w2 ⟨hk,o,hev,hpost⟩;have K2:=A0 (K1.out.trans hk);have E2:=A0 (HV.out o (hev.eq (λr=>by simp)));clear hk hev K1;cases o with
   |fail er p=>
    obtain⟨rfl,he⟩:=hpost;exact⟨rfl,K2.out,_,E2.out,rfl,he⟩
   |ok s2 x=>
    obtain⟨rfl,hp,hg⟩:=hpost;have P2:=A0 hp;have G2:=A0 (show I6 s s2 by
     have h2:=hg;simp only[E7,I6,M.St.nx]at h2⊢
     omega)
    clear hp hg;go_wp2_with fail
    go_ret;exact⟨K2.out,_,E2.out,rfl,P2.out,G2.out⟩
theorem V8{ok:Nat->Prop}{w w':World}{q:Nat}{cs:Array Value}{e:TypeId}(hk:Kept B ok w w')(h:w.heap[q]? =some (.cells cs e (0,0)))(he:e≠92/\e≠70/\e≠66):w'.heap[q]? =some (.cells cs e (0,0)):=by
 rw[hk.block q (ltG h) (λx=> ?_)]
 · exact h
 · obtain⟨cs',e',fz,hh,r⟩:=x.2.1;rw[h]at hh;simp only[zQ,xW]at hh;obtain⟨_,rfl,_⟩:=hh;rcases r with r|r|r
   · exact he.1 r
   · exact he.2.1 r
   · exact he.2.2 r
theorem I3b(hL:LOk L)(m:Nat)(hO:∀m',m'<m->ConN B pb tv L 206 (λd s r=>r.oper d s) m')(hS:ConN B pb tv L 214 (λd s r=>r.simple d s) m)(hT:∀m',m'<m->P1d B pb tv L m'):
 ConN B pb tv L 206 (λd s r=>r.oper d s) m:=by
 intro w ok d s hm hok hB h;have hi:=h.at';have hs:=hL.short;have hfw:=h.few;have HI:=D0a hL (h.alloc (.cells (M3a [[33],[45],[116,121,112,101,111,102]]) 9)) w.heap.size 3 [[33],[45],[116,121,112,101,111,102]] (U9 _ _ _) (by decide);have HK6:=A0 (λ(hq:M.isM L s.i [[33],[45],[116,121,112,101,111,102]]=true)=>T3a hq);have HV:Hid (∀o,M.Ev L (λr=>if M.isM L s.i [[33],[45],[116,121,112,101,111,102]] then M.A4 (M.inside L (M.H0a L (s.i+1)) d s.nx r.oper) λs' x=>M.addN s' ⟨13,x,0,0,[],(M.tk L s.i).text,0,-1,(M.tk L s.i).at'⟩
  else M.A4 (r.simple d s) λs x=>r.tail d s x) o->M.Ev L (λr=>r.oper d s) o):=λo ho=>M.Ev.step (ho.eq λr=>rfl)
 have HP:=A0 h;clear h;have hf1:=X7;have hf2:=B2b;have HTk:=A0 (λw1 (h1:Pst w1 B pb tv L ok d s)=>E3a hL h1);generalize M.isM L s.i [[33],[45],[116,121,112,101,111,102]]=q at *;generalize M.tk L s.i=tk at *;obtain⟨kd,tx,pl⟩:=tk;simp only[tkv]at HTk HV HK6;go_enter func206,ntmps206;go_wp2_with fail
 refine HI.mono ?_;clear HI;rintro e w1 ⟨rfl,hc⟩;have P1:=A0 ((HP.out.alloc _).still hc);have K1:=A0 (((Kept.refl B ok w).alloc _).trans (C8 hc));clear hc HP;cases q
 · have HM:=hS w1 ok d s hm (λg hg=>hok g (kQ K1.out.size hg)) (kQ hB K1.out.size) P1.out;clear P1;go_wp2_with fail
   refine HM.mono ?_;clear HM;rintro e w2 ⟨hk,o,hev,hpost⟩;have K2:=A0 (K1.out.trans hk);have E2:=A0 hev;clear hk hev K1;cases o with
   |fail er p=>
    obtain⟨rfl,he⟩:=hpost;exact⟨rfl,C9 K2.out (HV.out _ ((M.Ev.bad E2.out).eq (λr=>by simp;rfl))) he⟩
   |ok s2 x=>
    obtain⟨rfl,hp,hg,hx⟩:=hpost;obtain⟨kx,rfl⟩:=Int.eq_ofNat_of_zero_le hx.1;have hi2:=hp.at';have hj:=hg.1;have HM:=hT (L.length - s2.i) (by omega) w2 ok d s2 kx (by omega) (vQ _) (λg hg=>hok g (kQ K2.out.size hg)) (kQ hB K2.out.size) hp;have G2:=A0 hg;clear hp hg;go_wp2_with fail
    refine HM.mono ?_;clear HM;rintro e w3 ⟨hk,o,hev,hpost⟩;have K3:=A0 (K2.out.trans hk);have E3:=A0 (HV.out o ((M.Ev.bind (k:=λr s x=>r.tail d s x) E2.out hev).eq (λr=>by simp)));clear hk hev K2 E2;cases o with
    |fail er p=>
     obtain⟨rfl,he⟩:=hpost;exact⟨rfl,C9 K3.out E3.out he⟩
    |ok s3 y=>
     obtain⟨rfl,hp,hg,hy⟩:=hpost;have P3:=A0 hp;have G3:=A0 (show E7 s s3 by
      have h1:=G2.out;have h2:=hg;simp only[E7,I6]at h1 h2⊢
      omega)
     clear hp hg;go_wp2_with fail
     go_ret;exact F2 K3.out E3.out P3.out G3.out hy
 · have V1:=A0 (λo (ho:M.Ev L (λr=>M.A4 (M.inside L (M.H0a L (s.i+1)) d s.nx r.oper) λs' x=>M.addN s' ⟨13,x,0,0,[],tx,0,-1,(pl:Int)⟩) o)=>HV.out o (ho.eq (λr=>by simp)));clear HV;go_wp2_with fail
   refine(HTk.out _ P1.out (HK6.out trivial)).mono ?_;clear HTk;rintro e w2 ⟨rfl,hk,hp⟩;have K2:=A0 ((K1.out.trans hk).alloc (.cells #[iV kd,.string ⟨tx.toArray⟩,iV (pl:Int)] 115));have P2:=A0 (hp.alloc (.cells #[iV kd,.string ⟨tx.toArray⟩,iV (pl:Int)] 115));have Q2:=A0 (heap_alloc_new w2 (.cells #[iV kd,.string ⟨tx.toArray⟩,iV (pl:Int)] 115));have hi2:=hp.at';have HBg:=V8a hL P2.out;clear hk hp P1 K1;generalize hbg:M.H0a L s.nx.i=bg at *;have B2:=A0 hbg;clear hbg;go_wp2_with fail
   refine HBg.mono ?_;clear HBg;rintro e w3 ⟨rfl,hc⟩;have K3:=A0 (K2.out.trans (C8 hc));have P3:=A0 (P2.out.still hc);have Q3:=A0 (V8 (C8 (B:=B) (ok:=ok) hc) Q2.out (by decide));have hw3:w2.heap.size<w3.heap.size:=by have:=hc.size;simp at this;omega
   have HM:=D1a (w:=w3) (ok:=ok) 206 (λ_ _=>by go_simp) hL (L.length - s.nx.i) (λd s r=>r.oper d s) (hO _ (by simp only[M.St.nx];omega)) bg (vQ _) (λg hg=>hok g (kQ K3.out.size hg)) (kQ hB K3.out.size) P3.out;clear hc P2 K2 Q2 P3;go_wp2_with fail
   refine HM.mono ?_;clear HM;rintro e w4 ⟨hk,o,hev,hpost⟩;have K4:=A0 (K3.out.trans hk);have Q4:=A0 (V8 hk Q3.out (by decide));have hw4:w2.heap.size<w4.heap.size:=yQ hw3 hk.size;have E4:=A0 (hev.eq (ψ:=λr=>M.inside L (M.H0a L (s.i+1)) d s.nx r.oper) (λr=>by rw[show M.H0a L (s.i+1)=bg from B2.out]));clear hk hev K3 Q3;cases o with
   |fail er p=>
    obtain⟨rfl,he⟩:=hpost;exact⟨rfl,C9 K4.out (V1.out _ (M.Ev.bad E4.out)) he⟩
   |ok s4 y=>
    obtain⟨rfl,hp,hg,hy⟩:=hpost;have HA:=J6 hL hp ⟨13,y,0,0,[],tx,0,-1,(pl:Int)⟩ 0 none 0 0 ⟨_,rfl,kW _ _ _ _,by simp[Value.ownBlock]⟩ rfl (by have:=hg;simp only[E7,M.St.nx]at this;omega) (kQ hB K4.out.size) (λg hg=>hok g (kQ K4.out.size hg));have EV:=A0 (V1.out _ (M.Ev.bind E4.out (k:=λ_ s' x=>M.addN s' ⟨13,x,0,0,[],tx,0,-1,(pl:Int)⟩) M.Ev.pure));have GX:=A0 (show E7 s ⟨s4.i,s4.N++[⟨13,y,0,0,[],tx,0,-1,(pl:Int)⟩],s4.T⟩ by
     have h2:=hg;simp only[E7,M.St.nx,qQ,jQ,xQ]at h2⊢
     omega)
    have x1:w4.cell? (aD w2.heap.size 1)=some (.string ⟨tx.toArray⟩):=cr Q4.out rfl;have x2:w4.cell? (aD w2.heap.size 2)=some (iV (pl:Int)):=cr Q4.out rfl;clear hp hg;go_wp2_with fail
    refine HA.mono ?_;clear HA;rintro e w5 ⟨rfl,hk,hp⟩;have K5:=A0 (K4.out.trans hk);have P5:=A0 hp;clear hk hp;go_wp2_with fail
    go_ret;exact F2 K5.out EV.out P5.out GX.out (by simp;omega)
theorem Pst.free{S:Nat->Prop}{w':World}{ok':Nat->Prop}(h:Pst w B pb tv L ok d s)(hc:Chg S w w')(hs:∀k,S k->¬ok k/\tv.ownBlock≠some k)(ho:∀g,ok g->g<w.heap.size->ok' g):Pst w' B pb tv L ok' d s:=by
 obtain⟨h1,h2,h3,h4,h5,nv,yv,nx,yx,hb,hn,hy,hrn,hry⟩:=h;have hlt:=(ltG hb);have c3:w.cell? (aD pb 3)=some nv:=cr hb rfl;have c4:w.cell? (aD pb 4)=some yv:=cr hb rfl;have hbw:w'.heap[pb]? =w.heap[pb]? :=hc.block pb hlt (λx=>(hs pb x).1 h5.1);have key:∀g,ok g->g<w.heap.size->S g->(∃cur e,w.heap[g]? =some (.cells cur e (0,0))/\(e=121\/e=3))->False:=λg hg _ hx _=>(hs g hx).1 hg;refine⟨h1,h2,h3,A3 h4 hc λg hg x=>(hs g x).2 hg,⟨ho _ h5.1 hlt,λv g hv hg=> ?_,λv g hv hg=> ?_⟩,nv,yv,nx,yx,hbw.trans hb,A3 hn hc λg hg x=>(hs g x).1 (h5.2.1 _ g c3 hg),A3 hy hc λg hg x=>(hs g x).1 (h5.2.2 _ g c4 hg),hrn.imp (NdV.chg hc key ho),hry.imp (TyV.chg hc key ho)⟩
 · rw[World.cell?_of_block (a:=(aD pb 3)) hbw,c3]at hv;cases hv;exact ho g (h5.2.1 _ g c3 hg) (hn.lt g hg).2
 · rw[World.cell?_of_block (a:=(aD pb 4)) hbw,c4]at hv;cases hv;exact ho g (h5.2.2 _ g c4 hg) (hy.lt g hg).2
theorem I2{ok:Nat->Prop}{a b:World}{q:Nat}{o:Obj}(hk:Kept B ok a b)(h:a.heap[q]? =some o)(hn:¬ok q):b.heap[q]? =some o:=(hk.block q (ltG h) (λx=>hn x.2.2)).trans h
theorem Pst.nodeAt(h:Pst w B pb tv L ok d s){k:Nat}(hk:k<s.N.length):∃g c,w.cell? (aD pb 3)=some (.slice (some (aD g 0)) s.N.length c)/\s.N.length<=c/\c<=maxLen/\g<w.heap.size/\pb<w.heap.size/\w.cell? (aD g (k * 9+8))=some (iV (M.atN s (k:Int))):=by
 obtain⟨nv,yv,nx,yx,hb,hn,hy,hrn,hry⟩:=h.blk;obtain⟨na,nc,rfl⟩:=B7 hn;obtain⟨g,rfl,_,hgl,hgc,hgm,hcell⟩:=D8 hn (by omega);obtain⟨nd,hnd,hat⟩:=Rws.at (λ_ _ h=>NdV.len h) k hk hrn;refine⟨g,nc,cr hb rfl,hgc,hgm,hgl,(ltG hb), ?_⟩;obtain⟨lv,rfl,_⟩:=hnd;have hA:M.atN s (k:Int)=s.N[k].at':=by simp[M.atN,List.getD,hk]
 rw[hA];exact hcell _ _ ((hat 8 (by omega)).trans rfl)
theorem Z7c{hd:Int}{o:M.Out Int}(h:M.Ev L (λr=>if M.isM L s.i [[40]] then M.A4 (r.list .expr [41] d s.nx [] []) λs' l=>M.A4 (M.addN s' ⟨7,hd,0,0,l,[],0,-1,M.atN s hd⟩) λs x=>r.tail d s x
 else if M.isM L s.i [[46]] then
  if (M.tk L (s.i+1)).kind=1 then M.A4 (M.addN s.nx.nx ⟨8,hd,0,0,[],(M.tk L (s.i+1)).text,0,-1,M.atN s hd⟩) λs x=>r.tail d s x else M.flt L (s.i+1) 1
 else if M.isM L s.i [[91]] then M.A4 (r.expr d s.nx) λs' x=>M.A4 (M.need L s' [93]) λs' _=>M.A4 (M.addN s' ⟨9,hd,x,0,[],[],0,-1,M.atN s hd⟩) λs x=>r.tail d s x
 else if M.isM L s.i [[97,115]] then M.A4 (r.typ d s.nx) λs' t=>M.A4 (M.addN s' ⟨14,hd,0,0,[],[],0,t,M.atN s hd⟩) λs x=>r.tail d s x
 else some (.ok s hd)) o):M.Ev L (λr=>r.tail d s hd) o:=M.Ev.step h
theorem A1a{φ:M.Sp->Option (M.Out Int)}{w':World}{er p:Int}(hk:Kept B ok w w')(hev:M.Ev L φ (.fail er p))(he:er≠0):C5d w B pb tv L ok d s φ (gu er p) w':=⟨hk,_,hev,rfl,he⟩
theorem B0b(hL:LOk L)(m:Nat)(hE:∀m',m'<m->ConN B pb tv L 165 (λd s r=>r.expr d s) m'):P1d B pb tv L m:=by
 intro w ok d s k hk hm hok hB h;have hs:=hL.short;have H0:=A0 h;have HEG:=A0 hE;have hfw:=h.few;clear h hE;go_enter func213,ntmps213;go_wp2_with fail
 go_loopw [1] (λv wr=>∃(hd:Nat) (s':M.St),v=iV (hd:Int)/\hd<s'.N.length/\Hid (Kept B ok w wr)/\Hid (I6 s s')/\Hid (Pst wr B pb tv L ok d s')/\Hid (∀o,M.Ev L (λr=>r.tail d s' (hd:Int)) o->M.Ev L (λr=>r.tail d s (k:Int)) o)) (λ_ wr=>L.length - nxt wr pb)
 case atStart=>exact⟨k,s,rfl,hk,Kept.refl _ _ _,⟨vQ _,by omega,by omega,by omega⟩,H0.out,λ_ x=>x⟩
 case round=>
  clear H0 hfw hk;obtain⟨hd,s',rfl,hhd,KR,GR,PR,VR⟩:=hrel;obtain⟨g,nc,c3,hc1,hc2,hg,hpl,c8⟩:=PR.out.nodeAt hhd;unfold maxLen at hc2;have hi:=PR.out.at';have hfew:=PR.out.few;have hnx:=PR.out.nxt;have hgr:=GR.out;simp only[I6]at hgr;have hwr:w.heap.size<=wr.heap.size:=KR.out.size;have VT:=A0 (λo ho=>VR.out o (Z7c (s:=s') (hd:=(hd:Int)) ho));clear VR;generalize hpa:M.atN s' (hd:Int)=pa at *;clear hpa;have ha1:Chg No wr (wr.alloc (.cells #[iV 0,iV (hd:Int),iV 0,iV 0,sN,.string ⟨#[]⟩,iV 0,iV (-1),iV pa] 70)):=Chg.alloc _ _ _;have P1:=A0 (PR.out.chg (ok':=λg=>ok g/\g≠wr.heap.size) ha1 (λ_ _ _ _ x=>x.elim) (λg hg hl=>⟨hg,by omega⟩));have Q1:Hid ((wr.alloc (.cells #[iV 0,iV (hd:Int),iV 0,iV 0,sN,.string ⟨#[]⟩,iV 0,iV (-1),iV pa] 70)).heap[wr.heap.size]? =some (.cells #[iV 0,iV (hd:Int),iV 0,iV 0,sN,.string ⟨#[]⟩,iV 0,iV (-1),iV pa] 70 (0,0))):=heap_alloc_new wr _;have K1:=A0 (KR.out.alloc (.cells #[iV 0,iV (hd:Int),iV 0,iV 0,sN,.string ⟨#[]⟩,iV 0,iV (-1),iV pa] 70));have htok:tv.ownBlock≠some wr.heap.size:=PR.out.tokLt (vQ _);have HT1:=A0 (F6 hL P1.out [40]);have PR0:=A0 PR.out;clear KR PR ha1 P1;generalize hq1:M.isM L s'.i [[40]]=q1 at *;generalize hq2:M.isM L s'.i [[46]]=q2 at *;generalize hq3:M.isM L s'.i [[91]]=q3 at *;generalize hq4:M.isM L s'.i [[97,115]]=q4 at *;have W1:=A0 (⟨hq1,hq2,hq3,hq4⟩:_/\_/\_/\_);clear hq1 hq2 hq3 hq4;go_wp2_with fail
  refine HT1.out.mono ?_;rintro e w2 ⟨rfl,k2,p2⟩;have K2:=A0 (K1.out.trans (k2.mono λ_ x=>x.1));have Q2:=A0 (I2 k2 Q1.out (λx=>x.2 rfl));have hw2:wr.heap.size<w2.heap.size:=(ltG Q2.out);have P2:=A0 p2;clear k2 p2 HT1 K1 Q1;cases q1
  case true=>
   have P3:Hid (Pst w2 B pb tv L (λg=>ok g/\g≠wr.heap.size) d s'.nx):=P2.out;have hi3:=P3.out.at';clear P2;have HL1:=A0 (I5a (w:=w2) (ok:=(λg=>ok g/\g≠wr.heap.size)) 165 (λ_ _=>by go_simp) (pt:= .expr) (φ:=λd s r=>r.expr d s) (λ_ _ _=>rfl) hL (L.length - s'.nx.i) (λm' hm'=>(HEG.out m' (by simp only[M.St.nx]at *;omega)).con) [41] (vQ _) (λg hg=>⟨hok g (by omega),by omega⟩) (by omega) P3.out);clear P3;go_wp2_with fail
   refine HL1.out.mono ?_;rintro e w3 ⟨k3,o,hev,hpost⟩;have K3:=A0 (K2.out.trans (k3.mono λ_ x=>x.1));have QQ:=A0 (I2 k3 Q2.out (λx=>x.2 rfl));have E3:=A0 hev;have hw3:w2.heap.size<=w3.heap.size:=k3.size;clear k3 hev HL1 K2 Q2;cases o with
   |fail er p=>
    obtain⟨rfl,he⟩:=hpost;exact⟨rfl,A1a K3.out (VT.out _ ((M.Ev.bad (k:=λr s' l=>M.A4 (M.addN s' (M.Nd.mk 7 (hd:Int) 0 0 l [] 0 (-1) pa)) λs x=>r.tail d s x) E3.out).eq (λr=>by simp))) he⟩
   |ok s3 l=>
    obtain⟨la,lc,rfl,ho3,hl3,hp3,hg3⟩:=hpost;have h3:=hg3;simp only[E7,M.St.nx]at h3;have EV:=A0 (λo (ho:M.Ev L (λr=>r.tail d ⟨s3.i,s3.N++[(M.Nd.mk 7 (hd:Int) 0 0 l [] 0 (-1) pa)],s3.T⟩ (s3.N.length:Int)) o)=>VT.out o ((M.Ev.bind E3.out (k:=λr s' l=>M.A4 (M.addN s' (M.Nd.mk 7 (hd:Int) 0 0 l [] 0 (-1) pa)) λs x=>r.tail d s x) (ho.eq (λr=>rfl))).eq (λr=>by simp)));have hc5:Chg (λk=>k=wr.heap.size) w3 ((w3.setCell (aD wr.heap.size 0) (iV 7)).setCell (aD wr.heap.size 4) (.slice la l.length lc)):=((Chg.set w3 (aD wr.heap.size 0) (iV 7)).trans (Chg.set _ (aD wr.heap.size 4) (.slice la l.length lc)) (λ_ _ x=>x));have PP:=A0 (hp3.free (ok':=ok) hc5 (λk hk=>⟨λx=>x.2 hk,by rw[show k=wr.heap.size from hk];exact htok⟩) (λg hg _=>hg.1));have O5:=A0 (A3 ho3 hc5 (λg hg x=>by
     have x':g=wr.heap.size:=x;have:=(A9 ho3 g hg).1
     omega))
    have KK:=A0 (K3.out.trans' hc5 (λi hi x=>by have x':i=wr.heap.size:=x;omega));have q0':w3.cell? (aD wr.heap.size 0)=some (iV 0):=cr QQ.out rfl;have q1':w3.cell? (aD wr.heap.size 1)=some (iV (hd:Int)):=cr QQ.out rfl;have q2':w3.cell? (aD wr.heap.size 2)=some (iV 0):=cr QQ.out rfl;have q3':w3.cell? (aD wr.heap.size 3)=some (iV 0):=cr QQ.out rfl;have q4':w3.cell? (aD wr.heap.size 4)=some (sN):=cr QQ.out rfl;have q5':w3.cell? (aD wr.heap.size 5)=some (.string ⟨#[]⟩):=cr QQ.out rfl;have q6':w3.cell? (aD wr.heap.size 6)=some (iV 0):=cr QQ.out rfl;have q7':w3.cell? (aD wr.heap.size 7)=some (iV (-1)):=cr QQ.out rfl;have q8':w3.cell? (aD wr.heap.size 8)=some (iV pa):=cr QQ.out rfl;have z0':=frozen_of_row w3 wr.heap.size 0 _ _ QQ.out;have z4':=frozen_of_row w3 wr.heap.size 4 _ _ QQ.out;have zl':=(ltG QQ.out);clear hp3 hg3 ho3 hc5 E3 QQ K3;have HA:=A0 (N9 hL PP.out (M.Nd.mk 7 (hd:Int) 0 0 l [] 0 (-1) pa) la l.length lc ⟨_,rfl,C7 O5.out (wQ _),λg hg=>hok g (by have:=(A9 O5.out g hg).1;omega)⟩ (by omega) (by have:=KK.out.size;omega) (λg hg=>hok g (by have:=KK.out.size;omega)));clear PP;go_wp2_with fail
    refine HA.out.mono ?_;rintro e w6 ⟨rfl,k6,p6⟩;have K6:=A0 (KK.out.trans k6);have P6:=A0 p6;clear k6 p6 HA KK;go_wp2;go_roundw
    case rel=>exact⟨s3.N.length,⟨s3.i,s3.N++[(M.Nd.mk 7 (hd:Int) 0 0 l [] 0 (-1) pa)],s3.T⟩,rfl,by simp,K6.out,(show I6 s _ from by simp only[I6,qQ,jQ,xQ];omega),P6.out,EV.out⟩
    case measure=>
     have h4:=P6.out.nxt;rw[h4,hnx];simp only;omega
  case false=>
   have PXw2b:Hid (Pst w2 B pb tv L (λg=>ok g/\g≠wr.heap.size) d s'):=P2.out;clear P2;have HT2:=F6 hL PXw2b.out [46];rw[W1.out.2.1]at HT2;have HT3:=A0 HT2;clear HT2 PXw2b;go_wp2_with fail
   refine HT3.out.mono ?_;rintro e w2b ⟨rfl,k2,p2⟩;have hsw2b:w2.heap.size<=w2b.heap.size:=k2.size;have K2':=A0 (K2.out.trans (k2.mono λ_ x=>x.1));have Q2':=A0 (I2 k2 Q2.out (λx=>x.2 rfl));clear K2 Q2;have K2:=A0 K2'.out;have Q2:=A0 Q2'.out;have P2:=A0 p2;clear k2 p2 HT3 K2' Q2';cases q2
   case true=>
    have P3:Hid (Pst w2b B pb tv L (λg=>ok g/\g≠wr.heap.size) d s'.nx):=P2.out;have hi3:=P3.out.at';clear P2;have HN1:=A0 (M9a hL P3.out);have etk:M.tk L s'.nx.i=M.tk L (s'.i+1):=rfl;rw[etk]at HN1;clear P3 etk;have VT2:=A0 (λo (ho:M.Ev L (λr=>if (M.tk L (s'.i+1)).kind=1 then M.A4 (M.addN s'.nx.nx (M.Nd.mk 8 (hd:Int) 0 0 [] (M.tk L (s'.i+1)).text 0 (-1) pa)) λs x=>r.tail d s x else M.flt L (s'.i+1) 1) o)=>VT.out o (ho.eq (λr=>by simp)));clear VT;go_wp2_with fail
    refine HN1.out.mono ?_;rintro e w3 ⟨k3,hpost⟩;have K3:=A0 (K2.out.trans (k3.mono λ_ x=>x.1));have QQ:=A0 (I2 k3 Q2.out (λx=>x.2 rfl));have hw3:w2b.heap.size<=w3.heap.size:=k3.size;clear k3 HN1 K2 Q2;rcases hpost with ⟨hkd,rfl,hp3⟩|⟨hkd,rfl⟩
    · have EV0:=A0 (λo (ho:M.Ev L (λr=>r.tail d ⟨s'.nx.nx.i,s'.nx.nx.N++[M.Nd.mk 8 (hd:Int) 0 0 [] (M.tk L (s'.i+1)).text 0 (-1) pa],s'.nx.nx.T⟩ (s'.nx.nx.N.length:Int)) o)=>VT2.out o (ho.eq (λr=>by rw[if_pos hkd];rfl)));generalize (M.tk L (s'.i+1)).text=tx at *;have EV:=A0 EV0.out;clear EV0 VT2;have hi5:=hp3.at';simp only[M.St.nx]at hi5;have hc5:Chg (λk=>k=wr.heap.size) w3 ((w3.setCell (aD wr.heap.size 0) (iV 8)).setCell (aD wr.heap.size 5) (.string ⟨tx.toArray⟩)):=((Chg.set w3 (aD wr.heap.size 0) (iV 8)).trans (Chg.set _ (aD wr.heap.size 5) (.string ⟨tx.toArray⟩)) (λ_ _ x=>x));have PP:=A0 (hp3.free (ok':=ok) hc5 (λk hk=>⟨λx=>x.2 hk,by rw[show k=wr.heap.size from hk];exact htok⟩) (λg hg _=>hg.1));have KK:=A0 (K3.out.trans' hc5 (λi hi x=>by have x':i=wr.heap.size:=x;omega));have q0':w3.cell? (aD wr.heap.size 0)=some (iV 0):=cr QQ.out rfl;have q1':w3.cell? (aD wr.heap.size 1)=some (iV (hd:Int)):=cr QQ.out rfl;have q2':w3.cell? (aD wr.heap.size 2)=some (iV 0):=cr QQ.out rfl;have q3':w3.cell? (aD wr.heap.size 3)=some (iV 0):=cr QQ.out rfl;have q4':w3.cell? (aD wr.heap.size 4)=some (sN):=cr QQ.out rfl;have q5':w3.cell? (aD wr.heap.size 5)=some (.string ⟨#[]⟩):=cr QQ.out rfl;have q6':w3.cell? (aD wr.heap.size 6)=some (iV 0):=cr QQ.out rfl;have q7':w3.cell? (aD wr.heap.size 7)=some (iV (-1)):=cr QQ.out rfl;have q8':w3.cell? (aD wr.heap.size 8)=some (iV pa):=cr QQ.out rfl;have z0':=frozen_of_row w3 wr.heap.size 0 _ _ QQ.out;have z5':=frozen_of_row w3 wr.heap.size 5 _ _ QQ.out;have zl':=(ltG QQ.out);clear hp3 hc5 QQ K3;have HA:=A0 (N9 hL PP.out (M.Nd.mk 8 (hd:Int) 0 0 [] tx 0 (-1) pa) none 0 0 ⟨_,rfl,kW _ _ _ _,by simp[Value.ownBlock]⟩ (by simp only[M.St.nx];omega) (by have:=KK.out.size;omega) (λg hg=>hok g (by have:=KK.out.size;omega)));clear PP;go_wp2_with fail
      refine HA.out.mono ?_;rintro e w6 ⟨rfl,k6,p6⟩;have K6:=A0 (KK.out.trans k6);have P6:=A0 p6;clear k6 p6 HA KK;go_wp2;go_roundw
      case rel=>exact⟨s'.nx.nx.N.length,⟨s'.nx.nx.i,s'.nx.nx.N++[(M.Nd.mk 8 (hd:Int) 0 0 [] tx 0 (-1) pa)],s'.nx.nx.T⟩,rfl,by simp,K6.out,(show I6 s _ from by simp only[I6,M.St.nx,qQ,jQ,xQ];omega),P6.out,EV.out⟩
      case measure=>
       have h4:=P6.out.nxt;rw[h4,hnx];simp only[M.St.nx];omega
    · exact⟨rfl,A1a K3.out (VT2.out _ (M.Ev.pure.eq (λr=>by rw[if_neg hkd];rfl))) (by decide)⟩
   case false=>
    have PXw2c:Hid (Pst w2b B pb tv L (λg=>ok g/\g≠wr.heap.size) d s'):=P2.out;clear P2;have HT2:=F6 hL PXw2c.out [91];rw[W1.out.2.2.1]at HT2;have HT3:=A0 HT2;clear HT2 PXw2c;go_wp2_with fail
    refine HT3.out.mono ?_;rintro e w2c ⟨rfl,k2,p2⟩;have hsw2c:w2b.heap.size<=w2c.heap.size:=k2.size;have K2':=A0 (K2.out.trans (k2.mono λ_ x=>x.1));have Q2':=A0 (I2 k2 Q2.out (λx=>x.2 rfl));clear K2 Q2;have K2:=A0 K2'.out;have Q2:=A0 Q2'.out;have P2:=A0 p2;clear k2 p2 HT3 K2' Q2';cases q3
    case true=>
     have P3:Hid (Pst w2c B pb tv L (λg=>ok g/\g≠wr.heap.size) d s'.nx):=P2.out;have hi3:=P3.out.at';clear P2;have HX1:=A0 (HEG.out (L.length - s'.nx.i) (by simp only[M.St.nx]at *;omega) w2c (λg=>ok g/\g≠wr.heap.size) d s'.nx (vQ _) (λg hg=>⟨hok g (by omega),by omega⟩) (by omega) P3.out);clear P3;go_wp2_with fail
     refine HX1.out.mono ?_;rintro e w3 ⟨k3,o,hev,hpost⟩;have K3:=A0 (K2.out.trans (k3.mono λ_ x=>x.1));have QQ:=A0 (I2 k3 Q2.out (λx=>x.2 rfl));have E3:=A0 hev;have hw3:w2c.heap.size<=w3.heap.size:=k3.size;clear k3 hev HX1 K2 Q2;cases o with
     |fail er p=>
      obtain⟨rfl,he⟩:=hpost;exact⟨rfl,A1a K3.out (VT.out _ ((M.Ev.bad (k:=λr s' x=>M.A4 (M.need L s' [93]) λs' _=>M.A4 (M.addN s' (M.Nd.mk 9 (hd:Int) x 0 [] [] 0 (-1) pa)) λs x=>r.tail d s x) E3.out).eq (λr=>by simp))) he⟩
     |ok s3 x=>
      obtain⟨rfl,hp3,hg3,hx3⟩:=hpost;have h3:=hg3;simp only[E7,M.St.nx]at h3;have VN:=A0 (λo (ho:M.Ev L (λr=>(λr s' x=>M.A4 (M.need L s' [93]) λs' _=>M.A4 (M.addN s' (M.Nd.mk 9 (hd:Int) x 0 [] [] 0 (-1) pa)) λs x=>r.tail d s x) r s3 x) o)=>VT.out o ((M.Ev.bind E3.out (k:=λr s' x=>M.A4 (M.need L s' [93]) λs' _=>M.A4 (M.addN s' (M.Nd.mk 9 (hd:Int) x 0 [] [] 0 (-1) pa)) λs x=>r.tail d s x) ho).eq (λr=>by simp)));clear VT E3;have hc5:Chg (λk=>k=wr.heap.size) w3 ((w3.setCell (aD wr.heap.size 0) (iV 9)).setCell (aD wr.heap.size 2) (iV x)):=((Chg.set w3 (aD wr.heap.size 0) (iV 9)).trans (Chg.set _ (aD wr.heap.size 2) (iV x)) (λ_ _ x=>x));have PP1:=A0 (hp3.free (ok':=(λg=>ok g/\g≠wr.heap.size)) hc5 (λk hk=>⟨λx=>x.2 hk,by rw[show k=wr.heap.size from hk];exact htok⟩) (λg hg _=>hg));have KK1:=A0 (K3.out.trans' hc5 (λi hi x=>by have x':i=wr.heap.size:=x;omega));have QQ1:Hid (((w3.setCell (aD wr.heap.size 0) (iV 9)).setCell (aD wr.heap.size 2) (iV x)).heap[wr.heap.size]? =some (.cells #[iV 9,iV (hd:Int),iV x,iV 0,sN,.string ⟨#[]⟩,iV 0,iV (-1),iV pa] 70 (0,0))):=by
       show _=_;have h1:=heap_setCell_same w3 wr.heap.size 0 _ _ (iV 9) QQ.out;rw[heap_setCell_same _ wr.heap.size 2 _ _ (iV x) h1];rfl
      have q0':w3.cell? (aD wr.heap.size 0)=some (iV 0):=cr QQ.out rfl;have q1':w3.cell? (aD wr.heap.size 1)=some (iV (hd:Int)):=cr QQ.out rfl;have q2':w3.cell? (aD wr.heap.size 2)=some (iV 0):=cr QQ.out rfl;have q3':w3.cell? (aD wr.heap.size 3)=some (iV 0):=cr QQ.out rfl;have q4':w3.cell? (aD wr.heap.size 4)=some (sN):=cr QQ.out rfl;have q5':w3.cell? (aD wr.heap.size 5)=some (.string ⟨#[]⟩):=cr QQ.out rfl;have q6':w3.cell? (aD wr.heap.size 6)=some (iV 0):=cr QQ.out rfl;have q7':w3.cell? (aD wr.heap.size 7)=some (iV (-1)):=cr QQ.out rfl;have q8':w3.cell? (aD wr.heap.size 8)=some (iV pa):=cr QQ.out rfl;have z0':=frozen_of_row w3 wr.heap.size 0 _ _ QQ.out;have z2':=frozen_of_row w3 wr.heap.size 2 _ _ QQ.out;have zl':=(ltG QQ.out);have HN:=A0 (G9 hL PP1.out [93]);clear hp3 hc5 QQ K3 PP1;go_wp2_with fail
      refine HN.out.mono ?_;rintro e w4 ⟨k4,hpost⟩;have KK:=A0 (KK1.out.trans (k4.mono λ_ x=>x.1));have Q4:=A0 (I2 k4 QQ1.out (λx=>x.2 rfl));have hw4:w3.heap.size<=w4.heap.size:=by have:=k4.size;simpa using this
      clear k4 KK1 QQ1 HN;rcases hpost with ⟨hq,rfl,hp4⟩|⟨hq,rfl⟩
      · have hi4:=hp4.at';have PP:=A0 (hp4.mono (ok':=ok) (λg hg _=>hg.1));have EV:=A0 (λo (ho:M.Ev L (λr=>r.tail d ⟨s3.nx.i,s3.nx.N++[(M.Nd.mk 9 (hd:Int) x 0 [] [] 0 (-1) pa)],s3.nx.T⟩ (s3.nx.N.length:Int)) o)=>VN.out o (ho.eq (λr=>by simp only[M.need,hq,if_true];rfl)));clear VN hp4;simp only[M.St.nx]at hi4;have a0:w4.cell? (aD wr.heap.size 0)=some (iV 9):=cr Q4.out rfl;have a1:w4.cell? (aD wr.heap.size 1)=some (iV (hd:Int)):=cr Q4.out rfl;have a2:w4.cell? (aD wr.heap.size 2)=some (iV x):=cr Q4.out rfl;have a3:w4.cell? (aD wr.heap.size 3)=some (iV 0):=cr Q4.out rfl;have a4:w4.cell? (aD wr.heap.size 4)=some (sN):=cr Q4.out rfl;have a5:w4.cell? (aD wr.heap.size 5)=some (.string ⟨#[]⟩):=cr Q4.out rfl;have a6:w4.cell? (aD wr.heap.size 6)=some (iV 0):=cr Q4.out rfl;have a7:w4.cell? (aD wr.heap.size 7)=some (iV (-1)):=cr Q4.out rfl;have a8:w4.cell? (aD wr.heap.size 8)=some (iV pa):=cr Q4.out rfl;have a9:=(ltG Q4.out);have HA:=A0 (N9 hL PP.out (M.Nd.mk 9 (hd:Int) x 0 [] [] 0 (-1) pa) none 0 0 ⟨_,rfl,kW _ _ _ _,by simp[Value.ownBlock]⟩ (by simp only[M.St.nx];omega) (by have:=KK.out.size;omega) (λg hg=>hok g (by have:=KK.out.size;omega)));clear PP;go_wp2_with fail
        refine HA.out.mono ?_;rintro e w6 ⟨rfl,k6,p6⟩;have K6:=A0 (KK.out.trans k6);have P6:=A0 p6;clear k6 p6 HA KK;go_wp2;go_roundw
        case rel=>exact⟨s3.nx.N.length,⟨s3.nx.i,s3.nx.N++[(M.Nd.mk 9 (hd:Int) x 0 [] [] 0 (-1) pa)],s3.nx.T⟩,rfl,by simp,K6.out,(show I6 s _ from by simp only[I6,M.St.nx,qQ,jQ,xQ];omega),P6.out,EV.out⟩
        case measure=>
         have h4:=P6.out.nxt;rw[h4,hnx];simp only[M.St.nx];omega
      · exact⟨rfl,A1a KK.out (VN.out _ (M.Ev.pure.eq (λr=>by simp only[M.need,hq];rfl))) (by decide)⟩
    case false=>
     have PXw2d:Hid (Pst w2c B pb tv L (λg=>ok g/\g≠wr.heap.size) d s'):=P2.out;clear P2;have HT2:=F6 hL PXw2d.out [97,115];rw[W1.out.2.2.2]at HT2;have HT3:=A0 HT2;clear HT2 PXw2d;go_wp2_with fail
     refine HT3.out.mono ?_;rintro e w2d ⟨rfl,k2,p2⟩;have hsw2d:w2c.heap.size<=w2d.heap.size:=k2.size;have K2':=A0 (K2.out.trans (k2.mono λ_ x=>x.1));have Q2':=A0 (I2 k2 Q2.out (λx=>x.2 rfl));clear K2 Q2;have K2:=A0 K2'.out;have Q2:=A0 Q2'.out;have P2:=A0 p2;clear k2 p2 HT3 K2' Q2';cases q4
     case true=>
      have P3:Hid (Pst w2d B pb tv L (λg=>ok g/\g≠wr.heap.size) d s'.nx):=P2.out;have hi3:=P3.out.at';clear P2;have HX1:=A0 (V1b (B:=B) (pb:=pb) (tv:=tv) hL (L.length - s'.nx.i) w2d (λg=>ok g/\g≠wr.heap.size) d s'.nx (vQ _) (λg hg=>⟨hok g (by omega),by omega⟩) (by omega) P3.out);clear P3;go_wp2_with fail
      refine HX1.out.mono ?_;rintro e w3 ⟨k3,o,hev,hpost⟩;have K3:=A0 (K2.out.trans (k3.mono λ_ x=>x.1));have QQ:=A0 (I2 k3 Q2.out (λx=>x.2 rfl));have E3:=A0 hev;have hw3:w2d.heap.size<=w3.heap.size:=k3.size;clear k3 hev HX1 K2 Q2;cases o with
      |fail er p=>
       obtain⟨rfl,he⟩:=hpost;exact⟨rfl,A1a K3.out (VT.out _ ((M.Ev.bad (k:=λr s' t=>M.A4 (M.addN s' (M.Nd.mk 14 (hd:Int) 0 0 [] [] 0 t pa)) λs x=>r.tail d s x) E3.out).eq (λr=>by simp))) he⟩
      |ok s3 x=>
       obtain⟨rfl,hp3,hg3⟩:=hpost;have h3:=hg3;simp only[E7,M.St.nx]at h3;have EV:=A0 (λo (ho:M.Ev L (λr=>r.tail d ⟨s3.i,s3.N++[(M.Nd.mk 14 (hd:Int) 0 0 [] [] 0 x pa)],s3.T⟩ (s3.N.length:Int)) o)=>VT.out o ((M.Ev.bind E3.out (k:=λr s' t=>M.A4 (M.addN s' (M.Nd.mk 14 (hd:Int) 0 0 [] [] 0 t pa)) λs x=>r.tail d s x) (ho.eq (λr=>rfl))).eq (λr=>by simp)));have hc5:Chg (λk=>k=wr.heap.size) w3 ((w3.setCell (aD wr.heap.size 0) (iV 14)).setCell (aD wr.heap.size 7) (iV x)):=((Chg.set w3 (aD wr.heap.size 0) (iV 14)).trans (Chg.set _ (aD wr.heap.size 7) (iV x)) (λ_ _ x=>x));have PP:=A0 (hp3.free (ok':=ok) hc5 (λk hk=>⟨λx=>x.2 hk,by rw[show k=wr.heap.size from hk];exact htok⟩) (λg hg _=>hg.1));have KK:=A0 (K3.out.trans' hc5 (λi hi x=>by have x':i=wr.heap.size:=x;omega));have q0':w3.cell? (aD wr.heap.size 0)=some (iV 0):=cr QQ.out rfl;have q1':w3.cell? (aD wr.heap.size 1)=some (iV (hd:Int)):=cr QQ.out rfl;have q2':w3.cell? (aD wr.heap.size 2)=some (iV 0):=cr QQ.out rfl;have q3':w3.cell? (aD wr.heap.size 3)=some (iV 0):=cr QQ.out rfl;have q4':w3.cell? (aD wr.heap.size 4)=some (sN):=cr QQ.out rfl;have q5':w3.cell? (aD wr.heap.size 5)=some (.string ⟨#[]⟩):=cr QQ.out rfl;have q6':w3.cell? (aD wr.heap.size 6)=some (iV 0):=cr QQ.out rfl;have q7':w3.cell? (aD wr.heap.size 7)=some (iV (-1)):=cr QQ.out rfl;have q8':w3.cell? (aD wr.heap.size 8)=some (iV pa):=cr QQ.out rfl;have z0':=frozen_of_row w3 wr.heap.size 0 _ _ QQ.out;have z7':=frozen_of_row w3 wr.heap.size 7 _ _ QQ.out;have zl':=(ltG QQ.out);clear hp3 hg3 hc5 E3 QQ K3;have HA:=A0 (N9 hL PP.out (M.Nd.mk 14 (hd:Int) 0 0 [] [] 0 x pa) none 0 0 ⟨_,rfl,kW _ _ _ _,by simp[Value.ownBlock]⟩ (by omega) (by have:=KK.out.size;omega) (λg hg=>hok g (by have:=KK.out.size;omega)));clear PP;go_wp2_with fail
       refine HA.out.mono ?_;rintro e w6 ⟨rfl,k6,p6⟩;have K6:=A0 (KK.out.trans k6);have P6:=A0 p6;clear k6 p6 HA KK;go_wp2;go_roundw
       case rel=>exact⟨s3.N.length,⟨s3.i,s3.N++[(M.Nd.mk 14 (hd:Int) 0 0 [] [] 0 x pa)],s3.T⟩,rfl,by simp,K6.out,(show I6 s _ from by simp only[I6,qQ,jQ,xQ];omega),P6.out,EV.out⟩
       case measure=>
        have h4:=P6.out.nxt;rw[h4,hnx];simp only;omega
     case false=>
      have PE:Hid (Pst w2d B pb tv L (λg=>ok g/\g≠wr.heap.size) d s'):=P2.out;have PF:=A0 (PE.out.mono (ok':=ok) (λg hg _=>hg.1));have EE:=A0 (VT.out (.ok s' (hd:Int)) (M.Ev.pure.eq (λr=>by simp)));have GE:=A0 GR.out;clear P2 PE;go_wp2_with fail
      go_ret;exact⟨K2.out,_,EE.out,rfl,PF.out,GE.out,by omega,by omega⟩
end
def L6b(L:List M.Tk)(d:Nat)(s:M.St)(r:M.Sp):Option (M.Out Int):=M.A4 (M.need L s [40]) λs _=>M.A4 (r.expr d s) λs x=>M.A4 (M.need L s [41]) λs _=>some (.ok s x)
theorem I8b{α β γ:Type}(x:Option (M.Out α))(f:M.St->α->Option (M.Out β))(g:M.St->β->Option (M.Out γ)):M.A4 (M.A4 x f) g=M.A4 x λs a=>M.A4 (f s a) g:=by
 rcases x with _|⟨s,a⟩|⟨e,p⟩<;>rfl
theorem L5b(L:List M.Tk)(d:Nat)(s:M.St)(r:M.Sp){β:Type}(k:M.St->Int->Option (M.Out β)):M.A4 (L6b L d s r) k=M.A4 (M.need L s [40]) λs _=>M.A4 (r.expr d s) λs x=>M.A4 (M.need L s [41]) λs _=>k s x:=by
 unfold L6b;simp only[I8b];rfl
section
variable{B pb:Nat}{tv:Value}{L:List M.Tk}
def C6d(w:World)(B pb:Nat)(tv:Value)(L:List M.Tk)(ok:Nat->Prop)(d:Nat)(s:M.St)(φ:M.Sp->Option (M.Out Int))(e:Ending)(w':World):Prop:=
 Kept B ok w w'/\∃o,M.Ev L φ o/\match o with
  | .ok s' x=>e= .returned (iV x)/\Pst w' B pb tv L ok d s'/\(s.i<s'.i/\s'.N.length+s.i+2<=s.N.length+s'.i/\s'.T.length+s.i<=s.T.length+s'.i/\s.N.length<=s'.N.length)/\0<=x/\x<s'.N.length
  | .fail er p=>e=gu er p/\er≠0
theorem I2a{w w':World}{ok:Nat->Prop}{d:Nat}{s:M.St}{φ:M.Sp->Option (M.Out Int)}{er p:Int}(hk:Kept B ok w w')(hev:M.Ev L φ (.fail er p))(he:er≠0):C6d w B pb tv L ok d s φ (gu er p) w':=⟨hk,_,hev,rfl,he⟩
theorem H4a(hL:LOk L)(m:Nat)(hE:∀m',m'<=m->ConN B pb tv L 165 (λd s r=>r.expr d s) m')(w:World)(ok:Nat->Prop)(d:Nat)(s:M.St)(hm:L.length - s.i<=m)(hok:∀g,w.heap.size<=g->ok g)(hB:B<=w.heap.size)(h:Pst w B pb tv L ok d s):
 Calls prog 166 #[pV pb] w (C6d w B pb tv L ok d s (λr=>M.A4 (M.need L s [40]) λt0 (_:Unit)=>M.A4 (r.expr d t0) λt1 x=>M.A4 (M.need L t1 [41]) λt2 (_:Unit)=>some (M.Out.ok t2 x))):=by
 have hi0:=h.at';have hs:=hL.short;have hfw:=h.few;have K:=A0 (Kept.refl B ok w);generalize hFF:(λ(r:M.Sp)=>M.A4 (M.need L s [40]) λt0 (_:Unit)=>M.A4 (r.expr d t0) λt1 x=>M.A4 (M.need L t1 [41]) λt2 (_:Unit)=>some (M.Out.ok t2 x))=FF;have V:Hid (∀o,M.Ev L (λr=>M.A4 (M.need L s [40]) λt0 (_:Unit)=>M.A4 (r.expr d t0) λt1 x=>M.A4 (M.need L t1 [41]) λt2 (_:Unit)=>some (M.Out.ok t2 x)) o->M.Ev L FF o):=by
  rw[<-hFF];exact λ_ x=>x
 have P:=A0 h;clear h hFF;go_enter func166,ntmps166;have H1:=A0 (G9 hL P.out [40]);clear P;go_wp2_with fail
 refine H1.out.mono ?_;rintro e w1 ⟨hk,hr⟩;replace K:=A0 (K.out.trans hk);clear hk H1;rcases hr with ⟨hb,rfl,hp⟩|⟨hb,rfl⟩
 case inr=>exact⟨rfl,I2a K.out (M.Ev.vf V.out (O9 hb)) (by decide)⟩
 replace V:=A0 (M.Ev.vb V.out (J8 hb));clear hb;have P:=A0 hp;have hi1:=hp.at';clear hp;have H1:=A0 (hE (L.length - ((s).nx).i) (by simp only[M.St.nx];omega) w1 ok d ((s).nx) (vQ _) (λg hg=>hok g (kQ K.out.size hg)) (kQ hB K.out.size) P.out);clear P;go_wp2_with fail
 refine H1.out.mono ?_;rintro e w2 ⟨hk,o,hev,hpost⟩;replace K:=A0 (K.out.trans hk);have E1:=A0 hev;clear hk hev H1;cases o with
 |fail er p=>
  obtain⟨rfl,he⟩:=hpost;exact⟨rfl,I2a K.out (M.Ev.vf V.out E1.out) he⟩
 |ok s2 x=>
  obtain⟨rfl,hp,hg,hx2⟩:=hpost;have hg2:_/\_/\_/\_:=hg;simp only[M.St.nx]at hg2;replace V:=A0 (M.Ev.vb V.out E1.out);clear E1;have P:=A0 hp;have hi2:=hp.at';clear hp hg;have H1:=A0 (G9 hL P.out [41]);clear P;go_wp2_with fail
  refine H1.out.mono ?_;rintro e w3 ⟨hk,hr⟩;replace K:=A0 (K.out.trans hk);clear hk H1;rcases hr with ⟨hb,rfl,hp⟩|⟨hb,rfl⟩
  case inr=>exact⟨rfl,I2a K.out (M.Ev.vf V.out (O9 hb)) (by decide)⟩
  replace V:=A0 (M.Ev.vb V.out (J8 hb));clear hb;have P:=A0 hp;have hi3:=hp.at';clear hp;have EV:=A0 (V.out _ M.Ev.pure);have GX:Hid (s.i<((s2).nx).i/\((s2).nx).N.length+s.i+2<=s.N.length+((s2).nx).i/\((s2).nx).T.length+s.i<=s.T.length+((s2).nx).i/\s.N.length<=((s2).nx).N.length):=(show _/\_/\_/\_ from by simp only[M.St.nx];omega);clear V;go_wp2_with fail
  go_ret;exact⟨K.out,_,EV.out,rfl,P.out,GX.out,hx2⟩
theorem X8c(hL:LOk L)(m:Nat)(hE:∀m',m'<=m->ConN B pb tv L 165 (λd s r=>r.expr d s) m')(at0:Int)(w:World)(ok:Nat->Prop)(d:Nat)(s:M.St)(hm:L.length - s.i<=m)(hok:∀g,w.heap.size<=g->ok g)(hB:B<=w.heap.size)(h:Pst w B pb tv L ok d s):
 Calls prog 140 #[pV pb,iV at0] w (T7 w B pb tv L ok d s (λr=>if (M.tk L (s).i).kind=1 then M.A4 (M.typeIf L r d (s).nx) λt0 ty=>M.A4 (M.need L t0 [61]) λt1 (_:Unit)=>M.A4 (r.expr d t1) λt2 x=>M.A4 (M.need L t2 [59]) λt3 (_:Unit)=>M.addN t3 (M.Nd.mk 17 x 0 0 [] (M.tk L (s).i).text 0 ty at0) else M.flt L (s).i 1)):=by
 have hi0:=h.at';have hs:=hL.short;have hfw:=h.few;have K:=A0 (Kept.refl B ok w);generalize hFF:(λ(r:M.Sp)=>if (M.tk L (s).i).kind=1 then M.A4 (M.typeIf L r d (s).nx) λt0 ty=>M.A4 (M.need L t0 [61]) λt1 (_:Unit)=>M.A4 (r.expr d t1) λt2 x=>M.A4 (M.need L t2 [59]) λt3 (_:Unit)=>M.addN t3 (M.Nd.mk 17 x 0 0 [] (M.tk L (s).i).text 0 ty at0) else M.flt L (s).i 1)=FF;have V:Hid (∀o,M.Ev L (λr=>if (M.tk L (s).i).kind=1 then M.A4 (M.typeIf L r d (s).nx) λt0 ty=>M.A4 (M.need L t0 [61]) λt1 (_:Unit)=>M.A4 (r.expr d t1) λt2 x=>M.A4 (M.need L t2 [59]) λt3 (_:Unit)=>M.addN t3 (M.Nd.mk 17 x 0 0 [] (M.tk L (s).i).text 0 ty at0) else M.flt L (s).i 1) o->M.Ev L FF o):=by
  rw[<-hFF];exact λ_ x=>x
 have P:=A0 h;clear h hFF;go_enter func140,ntmps140;have H1:=A0 (M9a hL P.out);clear P;go_wp2_with fail
 refine H1.out.mono ?_;rintro e w1 ⟨hk,hr⟩;replace K:=A0 (K.out.trans hk);clear hk H1;rcases hr with ⟨hb,rfl,hp⟩|⟨hb,rfl⟩
 case inr=>exact⟨rfl,C9 K.out (V.out _ (M.Ev.pure.eq (λr=>by rw[if_neg hb];rfl))) (by decide)⟩
 replace V:=A0 (λo (ho:M.Ev L (λr=>M.A4 (M.typeIf L r d (s).nx) λt0 ty=>M.A4 (M.need L t0 [61]) λt1 (_:Unit)=>M.A4 (r.expr d t1) λt2 x=>M.A4 (M.need L t2 [59]) λt3 (_:Unit)=>M.addN t3 (M.Nd.mk 17 x 0 0 [] (M.tk L (s).i).text 0 ty at0)) o)=>V.out o (ho.eq (λr=>by rw[if_pos hb])));clear hb;generalize (M.tk L (s).i).text=nm at *;have P:=A0 hp;have hi1:=hp.at';clear hp;have H1:=A0 (B4a hL P.out (λg hg=>hok g (kQ K.out.size hg)) (kQ hB K.out.size));clear P;go_wp2_with fail
 refine H1.out.mono ?_;rintro e w2 ⟨hk,o,hev,hpost⟩;replace K:=A0 (K.out.trans hk);have E1:=A0 hev;clear hk hev H1;cases o with
 |fail er p=>
  obtain⟨rfl,he⟩:=hpost;exact⟨rfl,C9 K.out (M.Ev.vf V.out E1.out) he⟩
 |ok s2 ty=>
  obtain⟨rfl,hp,hg⟩:=hpost;have hg2:_/\_/\_/\_:=hg;simp only[M.St.nx]at hg2;replace V:=A0 (M.Ev.vb V.out E1.out);clear E1;have P:=A0 hp;have hi2:=hp.at';clear hp hg;have H1:=A0 (G9 hL P.out [61]);clear P;go_wp2_with fail
  refine H1.out.mono ?_;rintro e w3 ⟨hk,hr⟩;replace K:=A0 (K.out.trans hk);clear hk H1;rcases hr with ⟨hb,rfl,hp⟩|⟨hb,rfl⟩
  case inr=>exact⟨rfl,C9 K.out (M.Ev.vf V.out (O9 hb)) (by decide)⟩
  replace V:=A0 (M.Ev.vb V.out (J8 hb));clear hb;have P:=A0 hp;have hi3:=hp.at';clear hp;have H1:=A0 (hE (L.length - ((s2).nx).i) (by simp only[M.St.nx];omega) w3 ok d ((s2).nx) (vQ _) (λg hg=>hok g (kQ K.out.size hg)) (kQ hB K.out.size) P.out);clear P;go_wp2_with fail
  refine H1.out.mono ?_;rintro e w4 ⟨hk,o,hev,hpost⟩;replace K:=A0 (K.out.trans hk);have E1:=A0 hev;clear hk hev H1;cases o with
  |fail er p=>
   obtain⟨rfl,he⟩:=hpost;exact⟨rfl,C9 K.out (M.Ev.vf V.out E1.out) he⟩
  |ok s4 x=>
   obtain⟨rfl,hp,hg,hx4⟩:=hpost;have hg4:_/\_/\_/\_:=hg;simp only[M.St.nx]at hg4;replace V:=A0 (M.Ev.vb V.out E1.out);clear E1;have P:=A0 hp;have hi4:=hp.at';clear hp hg;have H1:=A0 (G9 hL P.out [59]);clear P;go_wp2_with fail
   refine H1.out.mono ?_;rintro e w5 ⟨hk,hr⟩;replace K:=A0 (K.out.trans hk);clear hk H1;rcases hr with ⟨hb,rfl,hp⟩|⟨hb,rfl⟩
   case inr=>exact⟨rfl,C9 K.out (M.Ev.vf V.out (O9 hb)) (by decide)⟩
   replace V:=A0 (M.Ev.vb V.out (J8 hb));clear hb;have P:=A0 hp;have hi5:=hp.at';clear hp;have HA:=A0 (N9 hL P.out (M.Nd.mk 17 x 0 0 [] nm 0 ty at0) none 0 0 ⟨_,rfl,kW _ _ _ _,by simp[Value.ownBlock]⟩ (by simp only[M.St.nx];omega) (kQ hB K.out.size) (λg hg=>hok g (kQ K.out.size hg)));have EV:=A0 (V.out _ M.Ev.pure);have GX:=A0 (show E7 s ⟨((s4).nx).i,((s4).nx).N++[(M.Nd.mk 17 x 0 0 [] nm 0 ty at0)],((s4).nx).T⟩ by
    simp only[E7,M.St.nx,qQ,jQ,xQ]
    omega)
   have hxx:(0:Int)<=(((s4).nx).N.length:Int)/\(((s4).nx).N.length:Int)<((((s4).nx).N++[(M.Nd.mk 17 x 0 0 [] nm 0 ty at0)]).length:Int):=by simp;omega
   clear P V;go_wp2_with fail
   refine HA.out.mono ?_;rintro e w9 ⟨rfl,k9,p9⟩;have K9:=A0 (K.out.trans k9);have P9:=A0 p9;clear k9 p9 HA;go_wp2_with fail
   go_ret;exact F2 K9.out EV.out P9.out GX.out hxx
theorem B1a(hL:LOk L)(m:Nat)(hE:∀m',m'<=m->ConN B pb tv L 165 (λd s r=>r.expr d s) m')(kd at0:Int)(w:World)(ok:Nat->Prop)(d:Nat)(s:M.St)(hm:L.length - s.i<=m)(hok:∀g,w.heap.size<=g->ok g)(hB:B<=w.heap.size)(h:Pst w B pb tv L ok d s):
 Calls prog 141 #[pV pb,iV kd,iV at0] w (T7 w B pb tv L ok d s (λr=>M.A4 (r.expr d s) λt0 x=>M.A4 (M.need L t0 [59]) λt1 (_:Unit)=>M.addN t1 (M.Nd.mk kd x 0 0 [] [] 0 (-1) at0))):=by
 have hi0:=h.at';have hs:=hL.short;have hfw:=h.few;have K:=A0 (Kept.refl B ok w);generalize hFF:(λ(r:M.Sp)=>M.A4 (r.expr d s) λt0 x=>M.A4 (M.need L t0 [59]) λt1 (_:Unit)=>M.addN t1 (M.Nd.mk kd x 0 0 [] [] 0 (-1) at0))=FF;have V:Hid (∀o,M.Ev L (λr=>M.A4 (r.expr d s) λt0 x=>M.A4 (M.need L t0 [59]) λt1 (_:Unit)=>M.addN t1 (M.Nd.mk kd x 0 0 [] [] 0 (-1) at0)) o->M.Ev L FF o):=by
  rw[<-hFF];exact λ_ x=>x
 have P:=A0 h;clear h hFF;go_enter func141,ntmps141;have H1:=A0 (hE (L.length - (s).i) (by omega) w ok d (s) (vQ _) (λg hg=>hok g (kQ K.out.size hg)) (kQ hB K.out.size) P.out);clear P;go_wp2_with fail
 refine H1.out.mono ?_;rintro e w1 ⟨hk,o,hev,hpost⟩;replace K:=A0 (K.out.trans hk);have E1:=A0 hev;clear hk hev H1;cases o with
 |fail er p=>
  obtain⟨rfl,he⟩:=hpost;exact⟨rfl,C9 K.out (M.Ev.vf V.out E1.out) he⟩
 |ok s1 x=>
  obtain⟨rfl,hp,hg,hx1⟩:=hpost;have hg1:_/\_/\_/\_:=hg;skip
  replace V:=A0 (M.Ev.vb V.out E1.out);clear E1;have P:=A0 hp;have hi1:=hp.at';clear hp hg;have H1:=A0 (G9 hL P.out [59]);clear P;go_wp2_with fail
  refine H1.out.mono ?_;rintro e w2 ⟨hk,hr⟩;replace K:=A0 (K.out.trans hk);clear hk H1;rcases hr with ⟨hb,rfl,hp⟩|⟨hb,rfl⟩
  case inr=>exact⟨rfl,C9 K.out (M.Ev.vf V.out (O9 hb)) (by decide)⟩
  replace V:=A0 (M.Ev.vb V.out (J8 hb));clear hb;have P:=A0 hp;have hi2:=hp.at';clear hp;have HA:=A0 (J6 hL P.out (M.Nd.mk kd x 0 0 [] [] 0 (-1) at0) 0 none 0 0 ⟨_,rfl,kW _ _ _ _,by simp[Value.ownBlock]⟩ rfl (by simp only[M.St.nx];omega) (kQ hB K.out.size) (λg hg=>hok g (kQ K.out.size hg)));have EV:=A0 (V.out _ M.Ev.pure);have GX:=A0 (show E7 s ⟨((s1).nx).i,((s1).nx).N++[(M.Nd.mk kd x 0 0 [] [] 0 (-1) at0)],((s1).nx).T⟩ by
   simp only[E7,M.St.nx,qQ,jQ,xQ]
   omega)
  have hxx:(0:Int)<=(((s1).nx).N.length:Int)/\(((s1).nx).N.length:Int)<((((s1).nx).N++[(M.Nd.mk kd x 0 0 [] [] 0 (-1) at0)]).length:Int):=by simp;omega
  clear P V;go_wp2_with fail
  refine HA.out.mono ?_;rintro e w9 ⟨rfl,k9,p9⟩;have K9:=A0 (K.out.trans k9);have P9:=A0 p9;clear k9 p9 HA;go_wp2_with fail
  go_ret;exact F2 K9.out EV.out P9.out GX.out hxx
theorem M8c(hL:LOk L)(m:Nat)(hE:∀m',m'<=m->ConN B pb tv L 165 (λd s r=>r.expr d s) m')(hK:∀m',m'<=m->ConN B pb tv L 167 (λd s r=>r.block d s) m')(at0:Int)(w:World)(ok:Nat->Prop)(d:Nat)(s:M.St)(hm:L.length - s.i<=m)(hok:∀g,w.heap.size<=g->ok g)(hB:B<=w.heap.size)(h:Pst w B pb tv L ok d s):
 Calls prog 143 #[pV pb,iV at0] w (T7 w B pb tv L ok d s (λr=>M.A4 (L6b L d s r) λt0 x=>M.A4 (r.block d t0) λt1 y=>M.addN t1 (M.Nd.mk 23 x y 0 [] [] 0 (-1) at0))):=by
 have hi0:=h.at';have hs:=hL.short;have hfw:=h.few;have K:=A0 (Kept.refl B ok w);generalize hFF:(λ(r:M.Sp)=>M.A4 (L6b L d s r) λt0 x=>M.A4 (r.block d t0) λt1 y=>M.addN t1 (M.Nd.mk 23 x y 0 [] [] 0 (-1) at0))=FF;have V:Hid (∀o,M.Ev L (λr=>M.A4 (L6b L d s r) λt0 x=>M.A4 (r.block d t0) λt1 y=>M.addN t1 (M.Nd.mk 23 x y 0 [] [] 0 (-1) at0)) o->M.Ev L FF o):=by
  rw[<-hFF];exact λ_ x=>x
 have P:=A0 h;clear h hFF;go_enter func143,ntmps143;have H1:=A0 (H4a hL (L.length - (s).i) (λm' hm'=>hE m' (by omega)) w ok d (s) (vQ _) (λg hg=>hok g (kQ K.out.size hg)) (kQ hB K.out.size) P.out);clear P;go_wp2_with fail
 refine H1.out.mono ?_;rintro e w1 ⟨hk,o,hev,hpost⟩;replace K:=A0 (K.out.trans hk);have E1:=A0 hev;clear hk hev H1;cases o with
 |fail er p=>
  obtain⟨rfl,he⟩:=hpost;exact⟨rfl,C9 K.out (M.Ev.vf V.out E1.out) he⟩
 |ok s1 x=>
  obtain⟨rfl,hp,hg,hx1⟩:=hpost;have hg1:_/\_/\_/\_:=hg;skip
  replace V:=A0 (M.Ev.vb V.out E1.out);clear E1;have P:=A0 hp;have hi1:=hp.at';clear hp hg;have H1:=A0 (hK (L.length - (s1).i) (by omega) w1 ok d (s1) (vQ _) (λg hg=>hok g (kQ K.out.size hg)) (kQ hB K.out.size) P.out);clear P;go_wp2_with fail
  refine H1.out.mono ?_;rintro e w2 ⟨hk,o,hev,hpost⟩;replace K:=A0 (K.out.trans hk);have E1:=A0 hev;clear hk hev H1;cases o with
  |fail er p=>
   obtain⟨rfl,he⟩:=hpost;exact⟨rfl,C9 K.out (M.Ev.vf V.out E1.out) he⟩
  |ok s2 y=>
   obtain⟨rfl,hp,hg,hx2⟩:=hpost;have hg2:_/\_/\_/\_:=hg;skip
   replace V:=A0 (M.Ev.vb V.out E1.out);clear E1;have P:=A0 hp;have hi2:=hp.at';clear hp hg;have HA:=A0 (J6 hL P.out (M.Nd.mk 23 x y 0 [] [] 0 (-1) at0) 0 none 0 0 ⟨_,rfl,kW _ _ _ _,by simp[Value.ownBlock]⟩ rfl (by omega) (kQ hB K.out.size) (λg hg=>hok g (kQ K.out.size hg)));have EV:=A0 (V.out _ M.Ev.pure);have GX:=A0 (show E7 s ⟨(s2).i,(s2).N++[(M.Nd.mk 23 x y 0 [] [] 0 (-1) at0)],(s2).T⟩ by
    simp only[E7,qQ,jQ,xQ]
    omega)
   have hxx:(0:Int)<=((s2).N.length:Int)/\((s2).N.length:Int)<(((s2).N++[(M.Nd.mk 23 x y 0 [] [] 0 (-1) at0)]).length:Int):=by simp;omega
   clear P V;go_wp2_with fail
   refine HA.out.mono ?_;rintro e w9 ⟨rfl,k9,p9⟩;have K9:=A0 (K.out.trans k9);have P9:=A0 p9;clear k9 p9 HA;go_wp2_with fail
   go_ret;exact F2 K9.out EV.out P9.out GX.out hxx
theorem T5b(hL:LOk L)(m:Nat)(hE:∀m',m'<=m->ConN B pb tv L 165 (λd s r=>r.expr d s) m')(hK:∀m',m'<=m->ConN B pb tv L 167 (λd s r=>r.block d s) m')(at0:Int)(w:World)(ok:Nat->Prop)(d:Nat)(s:M.St)(hm:L.length - s.i<=m)(hok:∀g,w.heap.size<=g->ok g)(hB:B<=w.heap.size)(h:Pst w B pb tv L ok d s):
 Calls prog 142 #[pV pb,iV at0] w (T7 w B pb tv L ok d s (λr=>M.A4 (L6b L d s r) λt0 x=>M.A4 (r.block d t0) λt1 y=>M.A4 (if M.isM L (t1).i [[101,108,115,101]] then r.block d (t1).nx else some (.ok (t1) (-1))) λt2 z=>M.addN t2 (M.Nd.mk 22 x y z [] [] 0 (-1) at0))):=by
 have hi0:=h.at';have hs:=hL.short;have hfw:=h.few;have K:=A0 (Kept.refl B ok w);generalize hFF:(λ(r:M.Sp)=>M.A4 (L6b L d s r) λt0 x=>M.A4 (r.block d t0) λt1 y=>M.A4 (if M.isM L (t1).i [[101,108,115,101]] then r.block d (t1).nx else some (.ok (t1) (-1))) λt2 z=>M.addN t2 (M.Nd.mk 22 x y z [] [] 0 (-1) at0))=FF;have V:Hid (∀o,M.Ev L (λr=>M.A4 (L6b L d s r) λt0 x=>M.A4 (r.block d t0) λt1 y=>M.A4 (if M.isM L (t1).i [[101,108,115,101]] then r.block d (t1).nx else some (.ok (t1) (-1))) λt2 z=>M.addN t2 (M.Nd.mk 22 x y z [] [] 0 (-1) at0)) o->M.Ev L FF o):=by
  rw[<-hFF];exact λ_ x=>x
 have P:=A0 h;clear h hFF;go_enter func142,ntmps142;have H1:=A0 (H4a hL (L.length - (s).i) (λm' hm'=>hE m' (by omega)) w ok d (s) (vQ _) (λg hg=>hok g (kQ K.out.size hg)) (kQ hB K.out.size) P.out);clear P;go_wp2_with fail
 refine H1.out.mono ?_;rintro e w1 ⟨hk,o,hev,hpost⟩;replace K:=A0 (K.out.trans hk);have E1:=A0 hev;clear hk hev H1;cases o with
 |fail er p=>
  obtain⟨rfl,he⟩:=hpost;exact⟨rfl,C9 K.out (M.Ev.vf V.out E1.out) he⟩
 |ok s1 x=>
  obtain⟨rfl,hp,hg,hx1⟩:=hpost;have hg1:_/\_/\_/\_:=hg;skip
  replace V:=A0 (M.Ev.vb V.out E1.out);clear E1;have P:=A0 hp;have hi1:=hp.at';clear hp hg;have H1:=A0 (hK (L.length - (s1).i) (by omega) w1 ok d (s1) (vQ _) (λg hg=>hok g (kQ K.out.size hg)) (kQ hB K.out.size) P.out);clear P;go_wp2_with fail
  refine H1.out.mono ?_;rintro e w2 ⟨hk,o,hev,hpost⟩;replace K:=A0 (K.out.trans hk);have E1:=A0 hev;clear hk hev H1;cases o with
  |fail er p=>
   obtain⟨rfl,he⟩:=hpost;exact⟨rfl,C9 K.out (M.Ev.vf V.out E1.out) he⟩
  |ok s2 y=>
   obtain⟨rfl,hp,hg,hx2⟩:=hpost;have hg2:_/\_/\_/\_:=hg;skip
   replace V:=A0 (M.Ev.vb V.out E1.out);clear E1;have P:=A0 hp;have hi2:=hp.at';clear hp hg;have H1:=F6 hL P.out [101,108,115,101];generalize hq:M.isM L (s2).i [[101,108,115,101]]=q at H1;have HQ:=A0 hq;have H2:=A0 H1;clear P hq H1;go_wp2_with fail
   refine H2.out.mono ?_;rintro e w3 ⟨rfl,hk,hp⟩;replace K:=A0 (K.out.trans hk);clear hk H2;cases q
   case false=>
    have P:Hid (Pst w3 B pb tv L ok d (s2)):=hp;replace V:=A0 (M.Ev.vb V.out (M.Ev.pure.eq (λr=>by rw[HQ.out];rfl)));clear hp;have HA:=A0 (J6 hL P.out (M.Nd.mk 22 x y (-1) [] [] 0 (-1) at0) 0 none 0 0 ⟨_,rfl,kW _ _ _ _,by simp[Value.ownBlock]⟩ rfl (by omega) (kQ hB K.out.size) (λg hg=>hok g (kQ K.out.size hg)));have EV:=A0 (V.out _ M.Ev.pure);have GX:=A0 (show E7 s ⟨(s2).i,(s2).N++[(M.Nd.mk 22 x y (-1) [] [] 0 (-1) at0)],(s2).T⟩ by
     simp only[E7,qQ,jQ,xQ]
     omega)
    have hxx:(0:Int)<=((s2).N.length:Int)/\((s2).N.length:Int)<(((s2).N++[(M.Nd.mk 22 x y (-1) [] [] 0 (-1) at0)]).length:Int):=by simp;omega
    clear P V;go_wp2_with fail
    refine HA.out.mono ?_;rintro e w9 ⟨rfl,k9,p9⟩;have K9:=A0 (K.out.trans k9);have P9:=A0 p9;clear k9 p9 HA;go_wp2_with fail
    go_ret;exact F2 K9.out EV.out P9.out GX.out hxx
   case true=>
    have P:Hid (Pst w3 B pb tv L ok d (s2).nx):=hp;have hj2:=hp.at';simp only[M.St.nx]at hj2;clear hp;have H1:=A0 (hK (L.length - (s2).nx.i) (by simp only[M.St.nx];omega) w3 ok d (s2).nx (vQ _) (λg hg=>hok g (kQ K.out.size hg)) (kQ hB K.out.size) P.out);clear P;go_wp2_with fail
    refine H1.out.mono ?_;rintro e w3b ⟨hk,o,hev,hpost⟩;replace K:=A0 (K.out.trans hk);have E1:=A0 (hev.eq (ψ:=λr=>if M.isM L (s2).i [[101,108,115,101]] then r.block d (s2).nx else some (.ok (s2) (-1))) (λr=>by rw[HQ.out];rfl));clear hk hev H1;cases o with
    |fail er p=>
     obtain⟨rfl,he⟩:=hpost;exact⟨rfl,C9 K.out (M.Ev.vf V.out E1.out) he⟩
    |ok s3 z=>
     obtain⟨rfl,hp,hg,hx3⟩:=hpost;have hg3:_/\_/\_/\_:=hg;simp only[M.St.nx]at hg3;replace V:=A0 (M.Ev.vb V.out E1.out);clear E1;have P:=A0 hp;have hi3:=hp.at';clear hp hg;have HA:=A0 (J6 hL P.out (M.Nd.mk 22 x y z [] [] 0 (-1) at0) 0 none 0 0 ⟨_,rfl,kW _ _ _ _,by simp[Value.ownBlock]⟩ rfl (by omega) (kQ hB K.out.size) (λg hg=>hok g (kQ K.out.size hg)));have EV:=A0 (V.out _ M.Ev.pure);have GX:=A0 (show E7 s ⟨(s3).i,(s3).N++[(M.Nd.mk 22 x y z [] [] 0 (-1) at0)],(s3).T⟩ by
      simp only[E7,qQ,jQ,xQ]
      omega)
     have hxx:(0:Int)<=((s3).N.length:Int)/\((s3).N.length:Int)<(((s3).N++[(M.Nd.mk 22 x y z [] [] 0 (-1) at0)]).length:Int):=by simp;omega
     clear P V;go_wp2_with fail
     refine HA.out.mono ?_;rintro e w9 ⟨rfl,k9,p9⟩;have K9:=A0 (K.out.trans k9);have P9:=A0 p9;clear k9 p9 HA;go_wp2_with fail
     go_ret;exact F2 K9.out EV.out P9.out GX.out hxx
theorem X2a{d:Nat}{s:M.St}{acc:List Int}(hq:M.isM L s.i [[125]]=true):M.Ev L (λr=>r.blockL d s acc) (.ok s.nx acc):=
 M.Ev.step (M.Ev.pure.eq λr=>by show (if M.isM L s.i [[125]] then _ else _)=_;rw[hq];rfl)
theorem U7a{d:Nat}{s:M.St}{acc:List Int}{o:M.Out (List Int)}(hq:M.isM L s.i [[125]]=false)(h:M.Ev L (λr=>M.A4 (r.stmt d s) λs x=>r.blockL d s (acc++[x])) o):M.Ev L (λr=>r.blockL d s acc) o:=
 M.Ev.step (h.eq λr=>by show (if M.isM L s.i [[125]] then _ else _)=_;rw[hq];rfl)
theorem E4c(hL:LOk L)(m:Nat)(hS:∀m',m'<m->ConN B pb tv L 72 (λd s r=>r.stmt d s) m'):ConN B pb tv L 167 (λd s r=>r.block d s) m:=by
 intro w ok d s hm hok hB h;have hi:=h.at';have hs:=hL.short;have hfw:=h.few;have HA:=A0 (N7a hL h);have FS:Hid (∀a,Chg No w a->Pst a B pb tv L ok d s):=λa ha=>h.still ha;have V:Hid (∀o,M.Ev L (λr=>M.A4 (M.need L s [123]) λs1 _=>M.A4 (r.blockL d s1 []) λs2 l=>M.addN s2 (M.Nd.mk 26 0 0 0 l [] 0 (-1) ((M.tk L s.i).at':Int))) o->M.Ev L (λr=>r.block d s) o):=λo ho=>M.Ev.step (ho.eq (λr=>rfl));obtain⟨i0,hi0,hz0,hz1,hz2⟩:=info_parts Tryz.infoInt;clear h;generalize ((M.tk L s.i).at':Int)=at0 at *;go_enter func167,ntmps167;go_wp2_with fail
 refine HA.out.mono ?_;rintro e w1 ⟨rfl,hc⟩;have K1:=A0 (C8 (B:=B) (ok:=ok) hc);have H1:=A0 (G9 hL (FS.out w1 hc) [123]);clear hc HA FS;go_wp2_with fail
 refine H1.out.mono ?_;rintro e w2 ⟨hk,hr⟩;have K2:=A0 (K1.out.trans hk);clear hk H1 K1;rcases hr with ⟨hb,rfl,hp⟩|⟨hb,rfl⟩
 case inr=>exact⟨rfl,C9 K2.out (V.out _ (M.Ev.bad (O9 hb))) (by decide)⟩
 have V2:=A0 (M.Ev.vb V.out (J8 hb));have P2:=A0 hp;clear hb hp V;go_wp2_with fail
 go_loopw [4] (λv wr=>∃(acc:List Int) (s':M.St) (ad:Option Addr) (c:Nat),v= .slice ad acc.length c/\acc.length<=s'.i/\Hid (Kept B ok w wr)/\Hid (I6 s.nx s')/\Hid (wr.ownsRow w.heap.size 3 1 (.slice ad acc.length c) acc.length (B8 acc))/\
  Hid (Pst wr B pb tv L (λg=>ok g/\some g≠Value.ownBlock (.slice ad acc.length c)) d s')/\Hid (∀o,M.Ev L (λr=>M.A4 (r.blockL d s' acc) λs2 l=>M.addN s2 (M.Nd.mk 26 0 0 0 l [] 0 (-1) at0)) o->M.Ev L (λr=>r.block d s) o)) (λ_ wr=>L.length - nxt wr pb)
 case atStart=>exact⟨[],s.nx,none,0,rfl,by simp,K2.out,⟨vQ _,by omega,by omega,by omega⟩,kW _ _ _ _,P2.out.mono (λg hg _=>⟨hg,by simp[Value.ownBlock]⟩),V2.out⟩
 case round=>
  clear K2 P2 V2;obtain⟨acc,s',ad,c,rfl,hacc,KR,GR,OR,PR,VR⟩:=hrel;have HT:=F6 hL PR.out [125];have hi':=PR.out.at';have hnx:=PR.out.nxt;have hfw':=PR.out.few;have hge:=GR.out;simp only[I6,M.St.nx]at hge;generalize hq:M.isM L s'.i [[125]]=q at *;have Q1:=A0 hq;clear hq;go_wp2_with fail
  refine HT.mono ?_;clear HT;rintro e w3 ⟨rfl,hk,hp⟩;have K3:=A0 (KR.out.trans (hk.mono λ_ h=>h.1));have O3:=A0 (F4 OR.out hk (by decide));have P3:=A0 hp;clear hk hp OR PR KR;cases q
  · have PX:Hid (Pst w3 B pb tv L (λg=>ok g/\some g≠Value.ownBlock (.slice ad acc.length c)) d s'):=P3.out;clear P3;have HM:=A0 (hS (L.length - s'.i) (by omega) w3 _ d s' (vQ _) (λg hg=>⟨hok g (kQ K3.out.size hg),λhx=>by have:=(O3.out.lt g hx.symm).2;omega⟩) (kQ hB K3.out.size) PX.out);clear PX;go_wp2_with fail
    refine HM.out.mono ?_;rintro e w4 ⟨hk,o,hev,hpost⟩;have K4:=A0 (K3.out.trans (hk.mono λ_ h=>h.1));have O4:=A0 (F4 O3.out hk (by decide));have E4:=A0 hev;clear hk hev K3 O3 HM;cases o with
    |fail er p=>
     obtain⟨rfl,he⟩:=hpost;exact⟨rfl,C9 K4.out (VR.out _ (M.Ev.bad (U7a Q1.out (M.Ev.bad (k:=λr s x=>r.blockL d s (acc++[x])) E4.out)))) he⟩
    |ok s4 y=>
     obtain⟨rfl,hp,hg,_⟩:=hpost;have P4:=A0 hp;have hg4:_/\_/\_/\_:=hg;have hi4:=hp.at';clear hp hg;have VN:=A0 (λo (ho:M.Ev L (λr=>M.A4 (r.blockL d s4 (acc++[y])) λs2 l=>M.addN s2 (M.Nd.mk 26 0 0 0 l [] 0 (-1) at0)) o)=>VR.out o (by
      obtain⟨f1,h1⟩:=E4.out;obtain⟨f2,h2⟩:=ho;refine⟨f1+f2+1,λf hf=> ?_⟩;obtain⟨g,rfl⟩:∃g,f=g+1:=⟨f - 1,by omega⟩;have a1:(M.sp' L g).stmt d s'=some (.ok s4 y):=h1 g (by omega);have a2:=h2 g (by omega);have a3:=h2 (g+1) (by omega);show M.A4 (if M.isM L s'.i [[125]] then some (.ok s'.nx acc) else M.A4 ((M.sp' L g).stmt d s') λs x=>(M.sp' L g).blockL d s (acc++[x])) _=some o;rw[Q1.out,if_neg (by decide),a1];exact a2))
     clear VR;have hw3:=A0 (O4.out.alloc (.cells #[iV y] 3));go_wp2_with (at_builtin;refine wpList_append_own_at _ rfl _ _ 43 rfl w.heap.size 3 i0 (iV 0) 1 8 underlying43 hi0 hz0 hz1 hz2 rfl (by decide) _ _ _ rfl hw3.out (aD w4.heap.size 0) 1 1 [iV y] rfl rfl ?c1 ?c2 ?c3 ?c4 ?c5 ?_)
     case c1=>exact cell_one_new _ _ _
     case c2=>intro u hu;simp at hu;rcases hu with rfl;rfl
     case c3=>simp only[maxLen];omega
     case c4=>omega
     case c5=>have:=K4.out.size;simp;omega
     intro v' w5 hown2 hg2 _ hat;obtain⟨ad2,c2,hv2⟩:=B7 hown2;rw[hv2]at hown2 hat⊢;have PG:=A0 ((P4.out.alloc (.cells #[iV y] 3)).grown (v:= .slice ad acc.length c) (v':= .slice ad2 (acc.length+1) c2) (O4.out.alloc _) (.inl rfl) hg2 (by simpa using hat));have KG:=A0 ((K4.out.alloc (.cells #[iV y] 3)).grown (O4.out.alloc _) hg2);have OG:=A0 hown2;clear hown2 hg2 hat hw3 P4 O4 K4 hv2;go_wp2_with fail
     go_roundw
     case rel=>
      refine⟨acc++[y],s4,ad2,c2,by simp,by simp;omega,KG.out,(show I6 s.nx s4 from by simp only[I6,M.St.nx];omega), ?_, ?_,VN.out⟩
      · have:=OG.out;show World.ownsRow _ _ _ _ _ _ _;rw[M5];simpa using this
      · have:=PG.out;show Pst _ _ _ _ _ _ _ _;simpa using this
     case measure=>
      have h3:=PG.out.nxt;rw[h3,hnx];omega
  · have PX:Hid (Pst w3 B pb tv L (λg=>ok g/\some g≠Value.ownBlock (.slice ad acc.length c)) d s'.nx):=P3.out;have PY:=A0 (PX.out.mono (ok':=ok) (λg hg _=>hg.1));have hi3:=PX.out.at';clear P3 PX;have HAd:=A0 (J6 hL PY.out (M.Nd.mk 26 0 0 0 acc [] 0 (-1) at0) 0 ad acc.length c ⟨_,rfl,C7 O3.out (wQ _),λg hg=>hok g (A9 O3.out g hg).1⟩ rfl (by simp only[M.St.nx];omega) (kQ hB K3.out.size) (λg hg=>hok g (kQ K3.out.size hg)));have EV:=A0 (VR.out _ (M.Ev.bind (k:=λ_ s2 l=>M.addN s2 (M.Nd.mk 26 0 0 0 l [] 0 (-1) at0)) (X2a Q1.out) M.Ev.pure));have GX:=A0 (show E7 s ⟨s'.nx.i,s'.nx.N++[M.Nd.mk 26 0 0 0 acc [] 0 (-1) at0],s'.nx.T⟩ by
     simp only[E7,M.St.nx,qQ,jQ,xQ]
     omega)
    clear PY VR O3;go_wp2_with fail
    refine HAd.out.mono ?_;rintro e w9 ⟨rfl,k9,p9⟩;have K9:=A0 (K3.out.trans k9);have P9:=A0 p9;clear k9 p9 HAd;go_wp2_with fail
    go_ret;exact F2 K9.out EV.out P9.out GX.out (by simp only[M.St.nx,qQ,jQ,xQ];omega)
end
section
variable{w:World}{B pb:Nat}{tv:Value}{L:List M.Tk}{ok:Nat->Prop}{d:Nat}{s:M.St}
theorem H2b(k:Int)(w:World):Calls prog 180 #[iV k] w λe w'=>e= .returned (iV (M.G9a k))/\w'=w:=by
 by_cases h5:k=5
 · subst h5;go_enter func180,ntmps180;go_wp2;go_ret;exact⟨rfl,rfl⟩
 · by_cases h8:k=8
   · subst h8;go_enter func180,ntmps180;go_wp2;go_ret;exact⟨rfl,rfl⟩
   · by_cases h9:k=9
     · subst h9;go_enter func180,ntmps180;go_wp2;go_ret;exact⟨rfl,rfl⟩
     · have e:M.G9a k=0:=by simp[M.G9a,h5,h8,h9]
       have e5:(k==5)=false:=by simp[h5]
       have e8:(k==8)=false:=by simp[h8]
       have e9:(k==9)=false:=by simp[h9]
       rw[e];go_enter func180,ntmps180;go_wp2;go_ret;exact⟨rfl,rfl⟩
theorem Pst.cut(h:Pst w B pb tv L ok d s){k g c:Nat}(hk:k<s.N.length)(h3:w.cell? (aD pb 3)=some (.slice (some (aD g 0)) s.N.length c)):
 Pst (w.setCell (aD pb 3) (.slice (some (aD g 0)) k c)) B pb tv L ok d ⟨s.i,s.N.take k,s.T⟩/\Kept B ok w (w.setCell (aD pb 3) (.slice (some (aD g 0)) k c)):=by
 have hkept:=h.keptSet 3 (.slice (some (aD g 0)) k c);obtain⟨h1,h2,hf,h4,h5,nv,yv,nx,yx,hb,hn,hy,hrn,hry⟩:=h;have c3:w.cell? (aD pb 3)=some nv:=cr hb rfl;have c4:w.cell? (aD pb 4)=some yv:=cr hb rfl;have env:nv= .slice (some (aD g 0)) s.N.length c:=by rw[h3]at c3;exact(Option.some.inj c3).symm
 subst env;have hc:=Chg.set w (aD pb 3) (.slice (some (aD g 0)) k c);have hno:∀{base:Nat} {e:TypeId} {size:Nat} {v:Value} {n:Nat} {xs:List Value},w.ownsRow base e size v n xs->e≠92->∀g,v.ownBlock=some g->¬g=pb:=by
  intro base e size v n xs ho he g hg hx;subst hx;obtain⟨_,cur,hh⟩:=A9 ho g hg;rw[hb]at hh;simp only[zQ,xW]at hh;exact he hh.2.1.symm
 have key:∀g,ok g->g<w.heap.size->g=pb->(∃cur e,w.heap[g]? =some (.cells cur e (0,0))/\(e=121\/e=3))->False:=by
  rintro g _ _ rfl ⟨cur,e,hh,he⟩;rw[hb]at hh;simp only[zQ,xW]at hh;rcases he with rfl|rfl
  · exact absurd hh.2.1 (by decide)
  · exact absurd hh.2.1 (by decide)
 have hb2:(w.setCell (aD pb 3) (.slice (some (aD g 0)) k c)).heap[pb]? =some (.cells #[tv,iV (s.i:Int),iV (d:Int),.slice (some (aD g 0)) k c,yv] 92 (0,0)):=by rw[heap_setCell_same w pb 3 _ _ _ hb];rfl
 have hcut:w.ownsRow B 70 9 (.slice (some (aD g 0)) k c) k (nx.take (k * 9)):=by
  rcases hn.2 with ⟨hx,_⟩|⟨g',cap,cur,hv,hbg,hgg,hnc,hcm,hcs,htk⟩
  · cases hx
  · simp only[Value.slice.injEq,zQ,Addr.mk.injEq,and_true,true_and]at hv;obtain⟨rfl,rfl⟩:=hv;refine⟨?_,.inr ⟨g,c,cur,rfl,hbg,hgg,by omega,hcm,hcs, ?_⟩⟩
    · rw[List.length_take,hn.1];omega
    · rw[<-htk,List.take_take];congr 1
      omega
 have hl:(s.N.take k).length=k:=by rw[List.length_take];omega
 have hcut2:(w.setCell (aD pb 3) (.slice (some (aD g 0)) k c)).ownsRow B 70 9 (.slice (some (aD g 0)) k c) (s.N.take k).length (nx.take (k * 9)):=by
  rw[hl];exact A3 hcut hc (hno hcut (by decide))
 refine⟨⟨h1,h2,⟨by show (s.N.take k).length<=s.i;rw[hl];have:=hf.1;omega,hf.2⟩,A3 h4 hc (hno h4 (by decide)), ?_,.slice (some (aD g 0)) k c,yv,nx.take (k * 9),yx,hb2,hcut2,A3 hy hc (hno hy (by decide)),(Rws.take (λ_ _ h=>NdV.len h) k hrn).imp (NdV.chg hc key (λ_ x _=>x)),hry.imp (TyV.chg hc key (λ_ x _=>x))⟩,hkept⟩;refine⟨h5.1,λu g' hu hg'=> ?_,λu g' hu hg'=> ?_⟩
 · rw[cell_of_row _ pb 3 _ _ _ hb2]at hu;cases hu;exact h5.2.1 _ g' c3 hg'
 · rw[cell_of_row _ pb 4 _ _ _ hb2]at hu;cases hu;exact h5.2.2 _ g' c4 hg'
theorem Pst.nodeCells(h:Pst w B pb tv L ok d s){k:Nat}(hk:k<s.N.length):∃g c la lc,w.cell? (aD pb 3)=some (.slice (some (aD g 0)) s.N.length c)/\s.N.length<=c/\c<=maxLen/\g<w.heap.size/\pb<w.heap.size/\w.frozen? (aD pb 3)=false/\
 w.cell? (aD g (k * 9))=some (iV s.N[k].kind)/\w.cell? (aD g (k * 9+1))=some (iV s.N[k].a)/\w.cell? (aD g (k * 9+2))=some (iV s.N[k].b)/\w.cell? (aD g (k * 9+3))=some (iV s.N[k].c)/\w.cell? (aD g (k * 9+4))=some (.slice la s.N[k].list.length lc)/\
 w.cell? (aD g (k * 9+5))=some (.string ⟨s.N[k].text.toArray⟩)/\w.cell? (aD g (k * 9+6))=some (iV s.N[k].n)/\w.cell? (aD g (k * 9+7))=some (iV s.N[k].ty)/\w.cell? (aD g (k * 9+8))=some (iV s.N[k].at')/\
 w.ownsRow 0 3 1 (.slice la s.N[k].list.length lc) s.N[k].list.length (B8 s.N[k].list)/\(∀g,Value.ownBlock (.slice la s.N[k].list.length lc)=some g->ok g):=by
 obtain⟨nv,yv,nx,yx,hb,hn,hy,hrn,hry⟩:=h.blk;obtain⟨na,nc,rfl⟩:=B7 hn;obtain⟨g,rfl,_,hgl,hgc,hgm,hcell⟩:=D8 hn (by omega);obtain⟨nd,hnd,hat⟩:=Rws.at (λ_ _ h=>NdV.len h) k hk hrn;obtain⟨lv,rfl,hl,hok⟩:=hnd;obtain⟨la,lc,rfl⟩:=B7 hl;exact⟨g,nc,la,lc,cr hb rfl,hgc,hgm,hgl,(ltG hb),frozen_of_row w pb 3 _ _ hb,hcell _ _ ((hat 0 (by omega)).trans rfl),hcell _ _ ((hat 1 (by omega)).trans rfl),hcell _ _ ((hat 2 (by omega)).trans rfl),hcell _ _ ((hat 3 (by omega)).trans rfl),hcell _ _ ((hat 4 (by omega)).trans rfl),hcell _ _ ((hat 5 (by omega)).trans rfl),hcell _ _ ((hat 6 (by omega)).trans rfl),hcell _ _ ((hat 7 (by omega)).trans rfl),hcell _ _ ((hat 8 (by omega)).trans rfl),hl,hok⟩
theorem W0a(w:World)(a b:Obj){n:Nat}(hz:w.heap.size=n):((w.alloc a).alloc b).heap[n]? =some a:=by
 subst hz;rw[heap_alloc_old _ _ (by simp)];exact heap_alloc_new _ _
theorem T9b(w:World)(a b:Obj){n:Nat}(hz:w.heap.size=n):((w.alloc a).alloc b).heap[n+1]? =some b:=by
 subst hz;have h:=heap_alloc_new (w.alloc a) b;simpa using h
theorem Chg.put{S:Nat->Prop}{a b:World}{q o:Nat}{v:Value}(h:Chg S a b)(hq:S q):Chg S a (b.setCell (aD q o) v):=
 h.trans (Chg.mono (Chg.set b (aD q o) v) λ_ _ x=>by have e:_=q:=x;rw[e];exact hq) (λ_ _ x=>x)
def C4d(w:World)(B pb:Nat)(tv:Value)(L:List M.Tk)(ok:Nat->Prop)(d:Nat)(s:M.St)(k:Nat)(n:M.Nd)(φ:M.Sp->Option (M.Out Int))(e:Ending)(w':World):Prop:=
 Kept B ok w w'/\∃o,M.Ev L φ o/\match o with
  | .ok s' v=>(∃la lc,e= .returned (.agg #[iV (M.B9a n v).kind,iV (M.B9a n v).a,iV (M.B9a n v).b,iV (M.B9a n v).c,.slice la n.list.length lc,.string ⟨n.text.toArray⟩,iV n.n,iV n.ty,iV n.at'])/\w'.ownsRow 0 3 1 (.slice la n.list.length lc) n.list.length (B8 n.list)/\∀g,Value.ownBlock (.slice la n.list.length lc)=some g->ok g)/\Pst w' B pb tv L ok d s'/\s.i+1<s'.i/\s'.N.length+s.i+1<=s.N.length+s'.i/\s'.T.length+s.i+1<=s.T.length+s'.i/\k<=s'.N.length
  | .fail er p=>e=gu er p/\er≠0
theorem B8b{w w3 w9:World}{ok ok1:Nat->Prop}{d k:Nat}{s s3:M.St}{n:M.Nd}{x:Int}{la:Option Addr}{lc:Nat}{e:Ending}{FF:M.Sp->Option (M.Out Int)}(hK:Kept B ok w w3)(hev:M.Ev L FF (.ok s3 x))(hp:Pst w3 B pb tv L ok1 d s3)(hg:E7 ⟨s.i+1,s.N.take k,s.T⟩ s3)
 (hl:w.ownsRow 0 3 1 (.slice la n.list.length lc) n.list.length (B8 n.list)) (hlok:∀g,Value.ownBlock (.slice la n.list.length lc)=some g->ok g) (htl:(s.N.take k).length=k) (hto:∀g,ok1 g->ok g) (hne:¬ok1 w.heap.size) (hne1:¬ok1 (w.heap.size+1)) (tl0:tv.ownBlock≠some w.heap.size) (tl1:tv.ownBlock≠some (w.heap.size+1))
 (hch:Chg (λi=>i=w.heap.size\/i=w.heap.size+1) w3 w9) (he:e= .returned (.agg #[iV (M.B9a n x).kind,iV (M.B9a n x).a,iV (M.B9a n x).b,iV (M.B9a n x).c,.slice la n.list.length lc,.string ⟨n.text.toArray⟩,iV n.n,iV n.ty,iV n.at'])):C4d w B pb tv L ok d s k n FF e w9:=by
 have hK9:Kept B ok w w9:=hK.trans' hch (λi hi x=>by omega);have hlen:(s.N.take k).length<=s.N.length:=by rw[List.length_take];omega
 obtain⟨g1,g2,g3,g4⟩:=hg;simp only at g1 g2 g3 g4;refine⟨hK9,_,hev,⟨la,lc,he,F4 hl hK9 (by decide),hlok⟩,hp.free hch ?_ (λg x _=>hto g x),g1,by omega,by omega,by omega⟩;rintro i (rfl|rfl)
 · exact⟨hne,tl0⟩
 · exact⟨hne1,tl1⟩
theorem V1c(hL:LOk L)(m:Nat)(hE:∀m',m'<m->ConN B pb tv L 165 (λd s r=>r.expr d s) m')(w:World)(ok:Nat->Prop)(d:Nat)(s:M.St)(k:Nat)(hk:k<s.N.length)(hq:M.isM L s.i [[61]]=true)(hm:L.length - s.i<=m)(hok:∀g,w.heap.size<=g->ok g)(hB:B<=w.heap.size)(h:Pst w B pb tv L ok d s):
 Calls prog 168 #[pV pb,iV (k:Int)] w (C4d w B pb tv L ok d s k s.N[k] (λr=>if M.G9a s.N[k].kind=0 then M.flt L s.i 1 else r.expr d ⟨s.i+1,s.N.take k,s.T⟩)):=by
 have hi:=h.at';have hs:=hL.short;have hfw:=h.few;obtain⟨g,c,la,lc,c3,hc1,hc2,hg,hpl,fz3,n0,n1,n2,n3,n4,n5,n6,n7,n8,hl,hlok⟩:=h.nodeCells hk;unfold maxLen at hc2;generalize hFF:(λ(r:M.Sp)=>if M.G9a s.N[k].kind=0 then M.flt L s.i 1 else r.expr d ⟨s.i+1,s.N.take k,s.T⟩)=FF;have V:Hid (∀o,M.Ev L (λr=>if M.G9a s.N[k].kind=0 then M.flt L s.i 1 else r.expr d ⟨s.i+1,s.N.take k,s.T⟩) o->M.Ev L FF o):=by
  rw[<-hFF];exact λ_ x=>x
 clear hFF;have hcut:=h.cut hk c3;have htl:(s.N.take k).length=k:=by rw[List.length_take];omega
 have H0:=A0 h;have HK:=A0 (λx a=>H2b x a);generalize s.N[k]=nd at *;obtain⟨nk,na,nb,nc,nl,nt,nn,ny,nat⟩:=nd;simp only at n0 n1 n2 n3 n4 n5 n6 n7 n8 hl hlok V⊢;have HL:=A0 hl;have HLO:=A0 hlok;clear h hl hlok;have tl0:tv.ownBlock≠some w.heap.size:=H0.out.tokLt (vQ _);have tl1:tv.ownBlock≠some (w.heap.size+1):=H0.out.tokLt (by omega);by_cases hk0:M.G9a nk=0
 · have HP:=A0 (HK.out nk ((w.alloc (.cells #[iV 0,iV 0,iV 0,iV 0,sN,.string ⟨#[]⟩,iV 0,iV 0,iV 0] 70)).alloc (ndC nk na nb nc (.slice la nl.length lc) nt nn ny nat)));rw[hk0]at HP;have hch:Chg No w ((w.alloc (.cells #[iV 0,iV 0,iV 0,iV 0,sN,.string ⟨#[]⟩,iV 0,iV 0,iV 0] 70)).alloc (ndC nk na nb nc (.slice la nl.length lc) nt nn ny nat)):=(Chg.alloc No _ _).trans (Chg.alloc No _ _) (λ_ _ x=>x);have HF:=A0 (Y1 hL (H0.out.still hch) 1);have K1:=A0 (C8 (B:=B) (ok:=ok) hch);have EV:=A0 (V.out (.fail 1 ((M.tk L s.i).at':Int)) (M.Ev.pure.eq (λr=>by rw[if_pos hk0];rfl)));clear hch V hcut;go_enter func168,ntmps168;go_wp2_with fail
   refine HP.out.mono ?_;rintro e w1 ⟨rfl,rfl⟩;go_wp2_with fail
   refine HF.out.mono ?_;rintro e w2 ⟨rfl,hc⟩;exact⟨rfl,K1.out.trans (C8 hc),_,EV.out,rfl,by decide⟩
 · have HP:=A0 (HK.out nk ((w.alloc (.cells #[iV 0,iV 0,iV 0,iV 0,sN,.string ⟨#[]⟩,iV 0,iV 0,iV 0] 70)).alloc (ndC nk na nb nc (.slice la nl.length lc) nt nn ny nat)));have hz:(w.setCell (aD pb 3) (.slice (some (aD g 0)) k c)).heap.size=w.heap.size:=by simp
   let ok1:Nat->Prop:=λg=>ok g/\g≠w.heap.size/\g≠w.heap.size+1
   have P1:Pst (((w.setCell (aD pb 3) (.slice (some (aD g 0)) k c)).alloc (.cells #[iV 0,iV 0,iV 0,iV 0,sN,.string ⟨#[]⟩,iV 0,iV 0,iV 0] 70)).alloc (ndC nk na nb nc (.slice la nl.length lc) nt nn ny nat)) B pb tv L ok1 d ⟨s.i,s.N.take k,s.T⟩:=
    ((hcut.1.mono (λg hg hlt=>⟨hg,by omega,by omega⟩)).alloc _).alloc _
   have HN:=A0 (G9 hL P1 [61]);have K1:=A0 ((hcut.2.alloc (.cells #[iV 0,iV 0,iV 0,iV 0,sN,.string ⟨#[]⟩,iV 0,iV 0,iV 0] 70)).alloc (ndC nk na nb nc (.slice la nl.length lc) nt nn ny nat));have hne:¬ok1 w.heap.size:=λx=>x.2.1 rfl;have hne1:¬ok1 (w.heap.size+1):=λx=>x.2.2 rfl;have hok1:∀g,w.heap.size+2<=g->ok1 g:=λg hg=>⟨hok g (by omega),by omega,by omega⟩;have hto:∀g,ok1 g->ok g:=λg x=>x.1;have hlt0:∀g,ok g->g<w.heap.size->ok1 g:=λg x y=>⟨x,by omega,by omega⟩;clear_value ok1
   clear P1 hcut;have FK:=A0 hk0;clear hk0;generalize hKK:M.G9a nk=kk at HP;go_enter func168,ntmps168;go_wp2_with fail
   refine HP.out.mono ?_;rintro e w1 ⟨rfl,rfl⟩;have fk:(kk==0)=false:=by simpa[<-hKK]using FK.out
   go_wp2_with fail
   refine HN.out.mono ?_;rintro e w2 ⟨hk2,hpost⟩;have hA:w2.heap[w.heap.size]? =some (.cells #[iV 0,iV 0,iV 0,iV 0,sN,.string ⟨#[]⟩,iV 0,iV 0,iV 0] 70 (0,0)):=I2 hk2 (W0a _ _ _ hz) hne;have hb:w2.heap[w.heap.size+1]? =some (.cells #[iV nk,iV na,iV nb,iV nc,.slice la nl.length lc,.string ⟨nt.toArray⟩,iV nn,iV ny,iV nat] 70 (0,0)):=I2 hk2 (T9b _ _ _ hz) hne1;have hz2:w.heap.size+2<=w2.heap.size:=by have:=hk2.size;simpa using this
   have K2:=A0 (K1.out.trans (hk2.mono hto));clear HN hk2 K1 HP;rcases hpost with ⟨_,rfl,hp⟩|⟨hx,_⟩;rotate_left
   · rw[hq]at hx;cases hx
   have H1:=A0 (hE (L.length - (s.i+1)) (by omega) w2 ok1 d ⟨s.i+1,s.N.take k,s.T⟩ (vQ _) (λg hg=>hok1 g (by omega)) (by omega) hp);clear hp;go_wp2_with fail
   refine H1.out.mono ?_;rintro e w3 ⟨hk3,o,hev,hpost⟩;have hA:=I2 hk3 hA hne;have hb:=I2 hk3 hb hne1;have K3:=A0 (K2.out.trans (hk3.mono hto));have EV:=A0 (V.out o (hev.eq (λr=>by rw[if_neg FK.out])));have hz3:=hk3.size;clear hk3 hev V H1 K2;cases o with
   |fail er p=>
    obtain⟨rfl,he⟩:=hpost;exact⟨rfl,K3.out,_,EV.out,rfl,he⟩
   |ok s3 x=>
    obtain⟨rfl,hp,hg,hx1⟩:=hpost;have P3:=A0 hp;have G3:=A0 hg;clear hp hg;have a0:w3.cell? (aD w.heap.size 0)=some (iV 0):=cr hA rfl;have a1:w3.cell? (aD w.heap.size 1)=some (iV 0):=cr hA rfl;have a2:w3.cell? (aD w.heap.size 2)=some (iV 0):=cr hA rfl;have a3:w3.cell? (aD w.heap.size 3)=some (iV 0):=cr hA rfl;have a4:w3.cell? (aD w.heap.size 4)=some (sN):=cr hA rfl;have a5:w3.cell? (aD w.heap.size 5)=some (.string ⟨#[]⟩):=cr hA rfl;have a6:w3.cell? (aD w.heap.size 6)=some (iV 0):=cr hA rfl;have a7:w3.cell? (aD w.heap.size 7)=some (iV 0):=cr hA rfl;have a8:w3.cell? (aD w.heap.size 8)=some (iV 0):=cr hA rfl;have b0:w3.cell? (aD (w.heap.size+1) 0)=some (iV nk):=cr hb rfl;have b1:w3.cell? (aD (w.heap.size+1) 1)=some (iV na):=cr hb rfl;have b2:w3.cell? (aD (w.heap.size+1) 2)=some (iV nb):=cr hb rfl;have b3:w3.cell? (aD (w.heap.size+1) 3)=some (iV nc):=cr hb rfl;have b4:w3.cell? (aD (w.heap.size+1) 4)=some (.slice la nl.length lc):=cr hb rfl;have b5:w3.cell? (aD (w.heap.size+1) 5)=some (.string ⟨nt.toArray⟩):=cr hb rfl;have b6:w3.cell? (aD (w.heap.size+1) 6)=some (iV nn):=cr hb rfl;have b7:w3.cell? (aD (w.heap.size+1) 7)=some (iV ny):=cr hb rfl;have b8:w3.cell? (aD (w.heap.size+1) 8)=some (iV nat):=cr hb rfl;have z0:=frozen_of_row w3 w.heap.size 0 _ _ hA;have y0:=frozen_of_row w3 (w.heap.size+1) 0 _ _ hb;have z1:=frozen_of_row w3 w.heap.size 1 _ _ hA;have y1:=frozen_of_row w3 (w.heap.size+1) 1 _ _ hb;have z2:=frozen_of_row w3 w.heap.size 2 _ _ hA;have y2:=frozen_of_row w3 (w.heap.size+1) 2 _ _ hb;have z3:=frozen_of_row w3 w.heap.size 3 _ _ hA;have y3:=frozen_of_row w3 (w.heap.size+1) 3 _ _ hb;have z4:=frozen_of_row w3 w.heap.size 4 _ _ hA;have y4:=frozen_of_row w3 (w.heap.size+1) 4 _ _ hb;have z5:=frozen_of_row w3 w.heap.size 5 _ _ hA;have y5:=frozen_of_row w3 (w.heap.size+1) 5 _ _ hb;have z6:=frozen_of_row w3 w.heap.size 6 _ _ hA;have y6:=frozen_of_row w3 (w.heap.size+1) 6 _ _ hb;have z7:=frozen_of_row w3 w.heap.size 7 _ _ hA;have y7:=frozen_of_row w3 (w.heap.size+1) 7 _ _ hb;have z8:=frozen_of_row w3 w.heap.size 8 _ _ hA;have y8:=frozen_of_row w3 (w.heap.size+1) 8 _ _ hb;have lA:w.heap.size<w3.heap.size:=by omega
    have lb:w.heap.size+1<w3.heap.size:=by omega
    have hcase:nk=5/\kk=18\/nk=8/\kk=19\/nk=9/\kk=20:=by
     have f:=FK.out;unfold M.G9a at hKK f;split at hKK<;>rename_i c1
     · exact .inl ⟨c1,hKK.symm⟩
     split at hKK<;>rename_i c2
     · exact .inr (.inl ⟨c2,hKK.symm⟩)
     split at hKK<;>rename_i c3
     · exact .inr (.inr ⟨c3,hKK.symm⟩)
     · simp[c1,c2,c3]at f
    clear hKK FK fk hA hb n0 n1 n2 n3 n4 n5 n6 n7 n8 c3 fz3;rcases hcase with ⟨rfl,rfl⟩|⟨rfl,rfl⟩|⟨rfl,rfl⟩
    · go_wp2_with fail
      refine bodyPost_ret (v:= .agg #[iV 18,iV x,iV nb,iV nc,.slice la nl.length lc,.string ⟨nt.toArray⟩,iV nn,iV ny,iV nat]) (by simp[results,results168,go_sem,a0,a1,a2,a3,a4,a5,a6,a7,a8]) rfl ?_;refine B8b K3.out EV.out P3.out G3.out HL.out HLO.out htl hto hne hne1 tl0 tl1 ?_ rfl;iterate 11 refine Chg.put ?_ (by simp)
      exact Chg.refl _ _
    · go_wp2_with fail
      refine bodyPost_ret (v:= .agg #[iV 19,iV na,iV x,iV nc,.slice la nl.length lc,.string ⟨nt.toArray⟩,iV nn,iV ny,iV nat]) (by simp[results,results168,go_sem,a0,a1,a2,a3,a4,a5,a6,a7,a8]) rfl ?_;refine B8b K3.out EV.out P3.out G3.out HL.out HLO.out htl hto hne hne1 tl0 tl1 ?_ rfl;iterate 11 refine Chg.put ?_ (by simp)
      exact Chg.refl _ _
    · go_wp2_with fail
      refine bodyPost_ret (v:= .agg #[iV 20,iV na,iV nb,iV x,.slice la nl.length lc,.string ⟨nt.toArray⟩,iV nn,iV ny,iV nat]) (by simp[results,results168,go_sem,a0,a1,a2,a3,a4,a5,a6,a7,a8]) rfl ?_;refine B8b K3.out EV.out P3.out G3.out HL.out HLO.out htl hto hne hne1 tl0 tl1 ?_ rfl;iterate 11 refine Chg.put ?_ (by simp)
      exact Chg.refl _ _
end
section
variable{B pb:Nat}{tv:Value}{L:List M.Tk}
def R2c(L:List M.Tk)(d:Nat)(s:M.St)(r:M.Sp):Option (M.Out Int):=M.A4 (r.expr d s) λs1 x=>
 if M.isM L s1.i [[61]] then
  if M.G9a (s1.N.getD x.toNat M.nd0).kind=0 then M.flt L s1.i 1
  else M.A4 (r.expr d ⟨s1.i+1,s1.N.take x.toNat,s1.T⟩) λs2 v=>M.A4 (M.need L s2 [59]) λs3 _=>M.addN s3 (M.B9a (s1.N.getD x.toNat M.nd0) v)
 else M.A4 (M.need L s1 [59]) λs2 _=>M.addN s2 ⟨25,x,0,0,[],[],0,-1,M.atN s1 x⟩
theorem A1c(n:M.Nd)(v:Int):∃kk a b c,M.B9a n v=⟨kk,a,b,c,n.list,n.text,n.n,-1,n.at'⟩:=by
 unfold M.B9a;split
 · exact⟨_,_,_,_,rfl⟩
 split<;>exact⟨_,_,_,_,rfl⟩
theorem N9d{w:World}{q:Nat}{c0 c1 c2 c3 c4 c5 c6 c7 c8 v0 v1 v2 v3 v4 v5 v6 v7 v8:Value}{e:TypeId}(h:w.heap[q]? =some (.cells #[c0,c1,c2,c3,c4,c5,c6,c7,c8] e (0,0))):
 (((((((((w.setCell (aD q 0) v0).setCell (aD q 1) v1).setCell (aD q 2) v2).setCell (aD q 3) v3).setCell (aD q 4) v4).setCell (aD q 5) v5).setCell (aD q 6) v6).setCell (aD q 7) v7).setCell (aD q 8) v8).heap[q]? =some (.cells #[v0,v1,v2,v3,v4,v5,v6,v7,v8] e (0,0)):=by
 have h0:(w.setCell (aD q 0) v0).heap[q]? =some (.cells #[v0,c1,c2,c3,c4,c5,c6,c7,c8] e (0,0)):=by rw[heap_setCell_same w q 0 _ _ v0 h];rfl
 generalize w.setCell (aD q 0) v0=u0 at *;have h1:(u0.setCell (aD q 1) v1).heap[q]? =some (.cells #[v0,v1,c2,c3,c4,c5,c6,c7,c8] e (0,0)):=by rw[heap_setCell_same u0 q 1 _ _ v1 h0];rfl
 generalize u0.setCell (aD q 1) v1=u1 at *;have h2:(u1.setCell (aD q 2) v2).heap[q]? =some (.cells #[v0,v1,v2,c3,c4,c5,c6,c7,c8] e (0,0)):=by rw[heap_setCell_same u1 q 2 _ _ v2 h1];rfl
 generalize u1.setCell (aD q 2) v2=u2 at *;have h3:(u2.setCell (aD q 3) v3).heap[q]? =some (.cells #[v0,v1,v2,v3,c4,c5,c6,c7,c8] e (0,0)):=by rw[heap_setCell_same u2 q 3 _ _ v3 h2];rfl
 generalize u2.setCell (aD q 3) v3=u3 at *;have h4:(u3.setCell (aD q 4) v4).heap[q]? =some (.cells #[v0,v1,v2,v3,v4,c5,c6,c7,c8] e (0,0)):=by rw[heap_setCell_same u3 q 4 _ _ v4 h3];rfl
 generalize u3.setCell (aD q 4) v4=u4 at *;have h5:(u4.setCell (aD q 5) v5).heap[q]? =some (.cells #[v0,v1,v2,v3,v4,v5,c6,c7,c8] e (0,0)):=by rw[heap_setCell_same u4 q 5 _ _ v5 h4];rfl
 generalize u4.setCell (aD q 5) v5=u5 at *;have h6:(u5.setCell (aD q 6) v6).heap[q]? =some (.cells #[v0,v1,v2,v3,v4,v5,v6,c7,c8] e (0,0)):=by rw[heap_setCell_same u5 q 6 _ _ v6 h5];rfl
 generalize u5.setCell (aD q 6) v6=u6 at *;have h7:(u6.setCell (aD q 7) v7).heap[q]? =some (.cells #[v0,v1,v2,v3,v4,v5,v6,v7,c8] e (0,0)):=by rw[heap_setCell_same u6 q 7 _ _ v7 h6];rfl
 generalize u6.setCell (aD q 7) v7=u7 at *;have h8:(u7.setCell (aD q 8) v8).heap[q]? =some (.cells #[v0,v1,v2,v3,v4,v5,v6,v7,v8] e (0,0)):=by rw[heap_setCell_same u7 q 8 _ _ v8 h7];rfl
 exact h8
theorem getD_at{k:Nat}{N:List M.Nd}(hk:k<N.length):N.getD ((k:Int)).toNat M.nd0=N[k]:=by simp[hk]
theorem L3b(hL:LOk L)(hX:∀(d:Nat) (s s':M.St) (x:Int),M.Ev L (λr=>r.expr d s) (.ok s' x)->(s.N.length:Int)<=x)(m:Nat)(hE:∀m',m'<=m->ConN B pb tv L 165 (λd s r=>r.expr d s) m')(w:World)(ok:Nat->Prop)(d:Nat)(s:M.St)(hm:L.length - s.i<=m)(hok:∀g,w.heap.size<=g->ok g)(hB:B<=w.heap.size)(h:Pst w B pb tv L ok d s):
 Calls prog 144 #[pV pb] w (T7 w B pb tv L ok d s (R2c L d s)):=by
 have hi:=h.at';have hs:=hL.short;have hfw:=h.few;have HM:=A0 (hE m (vQ _) w ok d s hm hok hB h);have HV:Hid (∀o,M.Ev L (R2c L d s) o->M.Ev L (R2c L d s) o):=λo ho=>ho;generalize hFF:R2c L d s=FF at HV⊢;rw[<-hFF]at HV;have HV:Hid (∀o,M.Ev L (R2c L d s) o->M.Ev L FF o):=by rw[hFF];exact λ_ x=>x
 clear hFF;clear h;go_enter func144,ntmps144;go_wp2_with fail
 refine HM.out.mono ?_;clear HM;rintro e w1 ⟨hk,o,hev,hpost⟩;have K1:=A0 hk;have E1:=A0 hev;clear hk hev;cases o with
 |fail er p=>
  obtain⟨rfl,he⟩:=hpost;exact⟨rfl,C9 K1.out (HV.out _ (M.Ev.bad E1.out)) he⟩
 |ok s1 x=>
  obtain⟨rfl,hp,hg,hx⟩:=hpost;obtain⟨k,rfl⟩:=Int.eq_ofNat_of_zero_le hx.1;have hkl:k<s1.N.length:=by have:=hx.2;omega
  have hi1:=hp.at';have hfw1:=hp.few;obtain⟨g,c,la,lc,c3,hc1,hc2,hgl,hpl,fz3,n0,n1,n2,n3,n4,n5,n6,n7,n8,hl,hlok⟩:=hp.nodeCells hkl;unfold maxLen at hc2;clear n0 n1 n2 n3 n4 n5 n6 n7 hl hlok;have hkx:=hX _ _ _ _ E1.out;have V1:=A0 (λo ho=>HV.out o (M.Ev.bind E1.out ho));clear HV E1;have P1:=A0 hp;have G1:=A0 hg;clear hp hg;generalize hat:s1.N[k].at'=at0 at *;have AT:=A0 hat;clear hat;let ok1:Nat->Prop:=λg=>ok g/\g≠w1.heap.size
  have hsz:(w1.alloc (.cells #[iV 25,iV (k:Int),iV 0,iV 0,sN,.string ⟨#[]⟩,iV 0,iV 0,iV at0] 70)).heap.size=w1.heap.size+1:=by simp
  have P2:Hid (Pst ((w1.alloc (.cells #[iV 25,iV (k:Int),iV 0,iV 0,sN,.string ⟨#[]⟩,iV 0,iV 0,iV at0] 70)).alloc (.cells (M3a [[61]]) 9)) B pb tv L ok1 d s1):=((P1.out.mono (λg hg hlt=>⟨hg,by omega⟩)).alloc _).alloc _;have tl0:tv.ownBlock≠some w1.heap.size:=P1.out.tokLt (vQ _);have hne:¬ok1 w1.heap.size:=λx=>x.2 rfl;have hto:∀g,ok1 g->ok g:=λg x=>x.1;have hok1:∀g,w1.heap.size+1<=g->ok1 g:=λg hg=>⟨hok g (by have:=K1.out.size;omega),by omega⟩;have HI:=A0 (D0a hL P2.out (w1.heap.size+1) 1 [[61]] (by rw[<-hsz];exact U9 _ _ _) (by decide));clear_value ok1
  generalize hq:M.isM L s1.i [[61]]=q at *;have Q1:=A0 hq;clear hq;go_wp2_with fail
  refine HI.out.mono ?_;rintro e w2 ⟨rfl,hc⟩;have hb:w2.heap[w1.heap.size]? =some (.cells #[iV 25,iV (k:Int),iV 0,iV 0,sN,.string ⟨#[]⟩,iV 0,iV 0,iV at0] 70 (0,0)):=(hc.block w1.heap.size (by simp;omega) (λx=>x)).trans (W0a _ _ _ rfl);have hz2:w1.heap.size+2<=w2.heap.size:=by have:=hc.size;simpa using this
  have K2:=A0 (K1.out.trans ((((Kept.refl B ok w1).alloc (.cells #[iV 25,iV (k:Int),iV 0,iV 0,sN,.string ⟨#[]⟩,iV 0,iV 0,iV at0] 70)).alloc _).trans (C8 hc)));have P3:=A0 (P2.out.still hc);have hz1:=K1.out.size;clear hc HI P1 P2 K1 c3 fz3 n8 hsz;cases q
  · have V2:=A0 (λo (ho:M.Ev L (λr=>M.A4 (M.need L s1 [59]) λs2 (_:Unit)=>M.addN s2 ⟨25,(k:Int),0,0,[],[],0,-1,at0⟩) o)=>V1.out o (ho.eq (λr=>by rw[if_neg (by simp),<-AT.out];simp[M.atN,hkl])));clear V1 AT;have HN:=A0 (G9 hL P3.out [59]);clear P3;go_wp2_with fail
    refine HN.out.mono ?_;rintro e w3 ⟨hk3,hr⟩;have hb:=I2 hk3 hb hne;have K3:=A0 (K2.out.trans (hk3.mono hto));have hz3:=hk3.size;clear hk3 K2 HN;rcases hr with ⟨hq3,rfl,hp⟩|⟨hq3,rfl⟩
    case inr=>exact⟨rfl,C9 K3.out (V2.out _ (M.Ev.bad (O9 hq3))) (by decide)⟩
    have EV:=A0 (V2.out _ (M.Ev.bind (k:=λr s2 (_:Unit)=>M.addN s2 ⟨25,(k:Int),0,0,[],[],0,-1,at0⟩) (J8 hq3) M.Ev.pure));clear V2 hq3;have b0:w3.cell? (aD w1.heap.size 0)=some (iV 25):=cr hb rfl;have b1:w3.cell? (aD w1.heap.size 1)=some (iV (k:Int)):=cr hb rfl;have b2:w3.cell? (aD w1.heap.size 2)=some (iV 0):=cr hb rfl;have b3:w3.cell? (aD w1.heap.size 3)=some (iV 0):=cr hb rfl;have b4:w3.cell? (aD w1.heap.size 4)=some (sN):=cr hb rfl;have b5:w3.cell? (aD w1.heap.size 5)=some (.string ⟨#[]⟩):=cr hb rfl;have b6:w3.cell? (aD w1.heap.size 6)=some (iV 0):=cr hb rfl;have b7:w3.cell? (aD w1.heap.size 7)=some (iV 0):=cr hb rfl;have b8:w3.cell? (aD w1.heap.size 8)=some (iV at0):=cr hb rfl;have HA:=A0 (J6 hL (hp.mono (λg x _=>hto g x)) (M.Nd.mk 25 (k:Int) 0 0 [] [] 0 (-1) at0) 0 none 0 0 ⟨_,rfl,kW _ _ _ _,by simp[Value.ownBlock]⟩ rfl (by simp only[M.St.nx];omega) (by omega) (λg hg=>hok g (by omega)));have GX:=A0 (show E7 s ⟨s1.nx.i,s1.nx.N++[M.Nd.mk 25 (k:Int) 0 0 [] [] 0 (-1) at0],s1.nx.T⟩ by
     have:=G1.out;simp only[E7,M.St.nx,qQ,jQ,xQ]at this⊢
     omega)
    have hxx:(0:Int)<=(s1.nx.N.length:Int)/\(s1.nx.N.length:Int)<((s1.nx.N++[M.Nd.mk 25 (k:Int) 0 0 [] [] 0 (-1) at0]).length:Int):=by simp;omega
    clear hp;go_wp2_with fail
    refine HA.out.mono ?_;rintro e w9 ⟨rfl,k9,p9⟩;have K9:=A0 (K3.out.trans k9);have P9:=A0 p9;clear k9 p9 HA;go_wp2_with fail
    go_ret;exact F2 K9.out EV.out P9.out GX.out hxx
  · have V2:=A0 (λo (ho:M.Ev L (λr=>M.A4 (if M.G9a s1.N[k].kind=0 then M.flt L s1.i 1 else r.expr d ⟨s1.i+1,s1.N.take k,s1.T⟩) λs2 v=>M.A4 (M.need L s2 [59]) λs3 (_:Unit)=>M.addN s3 (M.B9a s1.N[k] v)) o)=>V1.out o (ho.eq (λr=>by rw[if_pos rfl,getD_at hkl,tQ];split<;>rfl)));clear V1 AT;have HS:=A0 (V1c hL (L.length - s1.i) (λm' hm'=>hE m' (by have:=G1.out.1;omega)) w2 ok1 d s1 k hkl Q1.out (vQ _) (λg hg=>hok1 g (by omega)) (by omega) P3.out);clear P3;generalize s1.N[k]=n at *;generalize hφ:(λ(r:M.Sp)=>if M.G9a n.kind=0 then M.flt L s1.i 1 else r.expr d ⟨s1.i+1,s1.N.take k,s1.T⟩)=φ at HS;have V3:=A0 (λo (ho:M.Ev L (λr=>M.A4 (φ r) λs2 v=>M.A4 (M.need L s2 [59]) λs3 (_:Unit)=>M.addN s3 (M.B9a n v)) o)=>V2.out o (ho.eq (λr=>by rw[<-hφ])));clear V2 hφ;go_wp2_with fail
    refine HS.out.mono ?_;rintro e w3 ⟨hk3,o,hev,hpost⟩;have hb:=I2 hk3 hb hne;have K3:=A0 (K2.out.trans (hk3.mono hto));have E3:=A0 hev;have hz3:=hk3.size;clear hk3 K2 HS hev;cases o with
    |fail er p=>
     obtain⟨rfl,he⟩:=hpost;exact⟨rfl,C9 K3.out (V3.out _ (M.Ev.bad E3.out)) he⟩
    |ok s3 v=>
     obtain⟨⟨la2,lc2,rfl,hl,hlok⟩,hp,g1,g2,g3,g4⟩:=hpost;obtain⟨kk,na,nb,nc,hN⟩:=A1c n v;rw[hN];have V4:=A0 (λo (ho:M.Ev L (λr=>M.A4 (M.need L s3 [59]) λs4 (_:Unit)=>M.addN s4 ⟨kk,na,nb,nc,n.list,n.text,n.n,-1,n.at'⟩) o)=>V3.out o (M.Ev.bind (k:=λr s2 v=>M.A4 (M.need L s2 [59]) λs3 (_:Unit)=>M.addN s3 (M.B9a n v)) E3.out (ho.eq (λr=>by rw[hN]))));clear V3 E3 hN;have b0:w3.cell? (aD w1.heap.size 0)=some (iV 25):=cr hb rfl;have b1:w3.cell? (aD w1.heap.size 1)=some (iV (k:Int)):=cr hb rfl;have b2:w3.cell? (aD w1.heap.size 2)=some (iV 0):=cr hb rfl;have b3:w3.cell? (aD w1.heap.size 3)=some (iV 0):=cr hb rfl;have b4:w3.cell? (aD w1.heap.size 4)=some (sN):=cr hb rfl;have b5:w3.cell? (aD w1.heap.size 5)=some (.string ⟨#[]⟩):=cr hb rfl;have b6:w3.cell? (aD w1.heap.size 6)=some (iV 0):=cr hb rfl;have b7:w3.cell? (aD w1.heap.size 7)=some (iV 0):=cr hb rfl;have b8:w3.cell? (aD w1.heap.size 8)=some (iV at0):=cr hb rfl;have z0:=frozen_of_row w3 w1.heap.size 0 _ _ hb;have z1:=frozen_of_row w3 w1.heap.size 1 _ _ hb;have z2:=frozen_of_row w3 w1.heap.size 2 _ _ hb;have z3:=frozen_of_row w3 w1.heap.size 3 _ _ hb;have z4:=frozen_of_row w3 w1.heap.size 4 _ _ hb;have z5:=frozen_of_row w3 w1.heap.size 5 _ _ hb;have z6:=frozen_of_row w3 w1.heap.size 6 _ _ hb;have z7:=frozen_of_row w3 w1.heap.size 7 _ _ hb;have z8:=frozen_of_row w3 w1.heap.size 8 _ _ hb;have lA:w1.heap.size<w3.heap.size:=by omega
     have HB:=A0 hb;have HN:Hid (∀a,Chg (λi=>i=w1.heap.size) w3 a->Pst a B pb tv L ok1 d s3):=λa ha=>hp.free ha (by rintro i rfl;exact⟨hne,tl0⟩) (λg x _=>x);have HL:Hid (∀a,Chg (λi=>i=w1.heap.size) w3 a->a.ownsRow 0 3 1 (.slice la2 n.list.length lc2) n.list.length (B8 n.list)):=λa ha=>A3 hl ha (by rintro g hg rfl;exact hne (hlok _ hg));have HO:=A0 hlok;have hi3:=hp.at';have hf3:=hp.few;clear hp hl hlok hb;go_wp2_with fail
     have hch:Chg (λi=>i=w1.heap.size) w3 (((((((((w3.setCell (aD w1.heap.size 0) (iV kk)).setCell (aD w1.heap.size 1) (iV na)).setCell (aD w1.heap.size 2) (iV nb)).setCell (aD w1.heap.size 3) (iV nc)).setCell (aD w1.heap.size 4) (.slice la2 n.list.length lc2)).setCell (aD w1.heap.size 5) (.string ⟨n.text.toArray⟩)).setCell (aD w1.heap.size 6) (iV n.n)).setCell (aD w1.heap.size 7) (iV n.ty)).setCell (aD w1.heap.size 8) (iV n.at')):=by
      iterate 9 refine Chg.put ?_ rfl
      exact Chg.refl _ _
     have hba:=N9d (v0:=iV kk) (v1:=iV na) (v2:=iV nb) (v3:=iV nc) (v4:= .slice la2 n.list.length lc2) (v5:= .string ⟨n.text.toArray⟩) (v6:=iV n.n) (v7:=iV n.ty) (v8:=iV n.at') HB.out;generalize (((((((((w3.setCell (aD w1.heap.size 0) (iV kk)).setCell (aD w1.heap.size 1) (iV na)).setCell (aD w1.heap.size 2) (iV nb)).setCell (aD w1.heap.size 3) (iV nc)).setCell (aD w1.heap.size 4) (.slice la2 n.list.length lc2)).setCell (aD w1.heap.size 5) (.string ⟨n.text.toArray⟩)).setCell (aD w1.heap.size 6) (iV n.n)).setCell (aD w1.heap.size 7) (iV n.ty)).setCell (aD w1.heap.size 8) (iV n.at'))=a at *;have H4:=A0 (G9 hL (HN.out a hch) [59]);have O4:=A0 (HL.out a hch);have K4:=A0 (K3.out.trans' hch (λi hi x=>by omega));have hza:=hch.size;clear HN HL hch K3 HB b0 b1 b2 b3 b4 b5 b6 b7 b8 z0 z1 z2 z3 z4 z5 z6 z7 z8;refine H4.out.mono ?_;rintro e w4 ⟨hk4,hr⟩;have hb4:=I2 hk4 hba hne;have K5:=A0 (K4.out.trans (hk4.mono hto));have O5:=A0 (F4 O4.out hk4 (by decide));have hz4:=hk4.size;clear hk4 K4 H4 O4 hba;rcases hr with ⟨hq3,rfl,hp⟩|⟨hq3,rfl⟩
     case inr=>exact⟨rfl,C9 K5.out (V4.out _ (M.Ev.bad (O9 hq3))) (by decide)⟩
     have EV:=A0 (V4.out _ (M.Ev.bind (k:=λr s4 (_:Unit)=>M.addN s4 (M.Nd.mk kk na nb nc n.list n.text n.n (-1) n.at')) (J8 hq3) M.Ev.pure));clear V4 hq3;have e0:w4.cell? (aD w1.heap.size 0)=some (iV kk):=cr hb4 rfl;have e1:w4.cell? (aD w1.heap.size 1)=some (iV na):=cr hb4 rfl;have e2:w4.cell? (aD w1.heap.size 2)=some (iV nb):=cr hb4 rfl;have e3:w4.cell? (aD w1.heap.size 3)=some (iV nc):=cr hb4 rfl;have e4:w4.cell? (aD w1.heap.size 4)=some (.slice la2 n.list.length lc2):=cr hb4 rfl;have e5:w4.cell? (aD w1.heap.size 5)=some (.string ⟨n.text.toArray⟩):=cr hb4 rfl;have e6:w4.cell? (aD w1.heap.size 6)=some (iV n.n):=cr hb4 rfl;have e7:w4.cell? (aD w1.heap.size 7)=some (iV n.ty):=cr hb4 rfl;have e8:w4.cell? (aD w1.heap.size 8)=some (iV n.at'):=cr hb4 rfl;have HA:=A0 (J6 hL (hp.mono (λg x _=>hto g x)) (M.Nd.mk kk na nb nc n.list n.text n.n (-1) n.at') n.ty la2 n.list.length lc2 ⟨_,rfl,O5.out,λg hg=>hto g (HO.out g hg)⟩ rfl (by simp only[M.St.nx];omega) (by omega) (λg hg=>hok g (by omega)));have GX:=A0 (show E7 s ⟨s3.nx.i,s3.nx.N++[(M.Nd.mk kk na nb nc n.list n.text n.n (-1) n.at')],s3.nx.T⟩ by
      have:=G1.out;simp only[E7,M.St.nx,qQ,jQ,xQ]at this⊢
      omega)
     have hxx:(0:Int)<=(s3.nx.N.length:Int)/\(s3.nx.N.length:Int)<((s3.nx.N++[(M.Nd.mk kk na nb nc n.list n.text n.n (-1) n.at')]).length:Int):=by simp;omega
     clear hp hb4;go_wp2_with fail
     refine HA.out.mono ?_;rintro e w9 ⟨rfl,k9,p9⟩;have K9:=A0 (K5.out.trans k9);have P9:=A0 p9;clear k9 p9 HA;go_wp2_with fail
     go_ret;exact F2 K9.out EV.out P9.out GX.out hxx
end
end Go.Proofs.YtfhhipefecekkaaGreatDoor
