/-
  A part of the proof.
-/
import Derived.Test.YtgdnpemiiageaaaGreatDoorNodeB
set_option maxHeartbeats 16000000
set_option maxRecDepth 100000
namespace Go.Proofs.YtgdnpemiiageaaaGreatDoor
open Go.RowKit
section
variable {w:World} {B pb:Nat} {tv:Value} {L:List M.Tk} {ok:Nat->Prop} {d:Nat} {s:M.St}
theorem H6b (k:Int) (w:World):Calls Tryz.prog 168 #[iV k] w fun e w'=>e= .returned (iV (M.H5a k))/\w'=w:=by
 by_cases h5:k=5
 · subst h5;go_enter Tryz.func168,Tryz.ntmps168;go_wp2;go_ret;exact⟨rfl,rfl⟩
 · by_cases h8:k=8
   · subst h8;go_enter Tryz.func168,Tryz.ntmps168;go_wp2;go_ret;exact⟨rfl,rfl⟩
   · by_cases h9:k=9
     · subst h9;go_enter Tryz.func168,Tryz.ntmps168;go_wp2;go_ret;exact⟨rfl,rfl⟩
     · have e:M.H5a k=0:=by simp[M.H5a,h5,h8,h9]
       have e5:(k==5)=false:=by simp[h5]
       have e8:(k==8)=false:=by simp[h8]
       have e9:(k==9)=false:=by simp[h9]
       rw[e];go_enter Tryz.func168,Tryz.ntmps168;go_wp2;go_ret;exact⟨rfl,rfl⟩
theorem Pst.cut (h:Pst w B pb tv L ok d s) {k g c:Nat} (hk:k<s.N.length) (h3:w.cell? (aD pb 3)=some (.slice (some (aD g 0)) s.N.length c)):
 Pst (w.setCell (aD pb 3) (.slice (some (aD g 0)) k c)) B pb tv L ok d ⟨s.i,s.N.take k,s.T⟩/\Kept B ok w (w.setCell (aD pb 3) (.slice (some (aD g 0)) k c)):=by
 have hkept:=h.keptSet 3 (.slice (some (aD g 0)) k c);obtain⟨h1,h2,hf,h4,h5,nv,yv,nx,yx,hb,hn,hy,hrn,hry⟩:=h;have c3:w.cell? (aD pb 3)=some nv:=cr hb rfl;have c4:w.cell? (aD pb 4)=some yv:=cr hb rfl;have env:nv= .slice (some (aD g 0)) s.N.length c:=by rw[h3]at c3;exact(Option.some.inj c3).symm
 subst env;have hc:=Chg.set w (aD pb 3) (.slice (some (aD g 0)) k c);have hno:∀{base:Nat} {e:TypeId} {size:Nat} {v:Value} {n:Nat} {xs:List Value},w.ownsRow base e size v n xs->e≠96->∀g,v.ownBlock=some g->¬g=pb:=by
  intro base e size v n xs ho he g hg hx;subst hx;obtain⟨_,cur,hh⟩:=A9 ho g hg;rw[hb]at hh;simp only[Option.some.injEq,Obj.cells.injEq]at hh;exact he hh.2.1.symm
 have key:∀g,ok g->g<w.heap.size->g=pb->(∃cur e,w.heap[g]? =some (.cells cur e (0,0))/\(e=126\/e=3))->False:=by
  rintro g _ _ rfl ⟨cur,e,hh,he⟩;rw[hb]at hh;simp only[Option.some.injEq,Obj.cells.injEq]at hh;rcases he with rfl|rfl
  · exact absurd hh.2.1 (by decide)
  · exact absurd hh.2.1 (by decide)
 have hb2:(w.setCell (aD pb 3) (.slice (some (aD g 0)) k c)).heap[pb]? =some (.cells #[tv,iV (s.i:Int),iV (d:Int),.slice (some (aD g 0)) k c,yv] 96 (0,0)):=by rw[heap_setCell_same w pb 3 _ _ _ hb];rfl
 have hcut:w.ownsRow B 72 9 (.slice (some (aD g 0)) k c) k (nx.take (k * 9)):=by
  rcases hn.2 with ⟨hx,_⟩|⟨g',cap,cur,hv,hbg,hgg,hnc,hcm,hcs,htk⟩
  · cases hx
  · simp only[Value.slice.injEq,Option.some.injEq,Addr.mk.injEq,and_true,true_and]at hv;obtain⟨rfl,rfl⟩:=hv;refine⟨?_,.inr ⟨g,c,cur,rfl,hbg,hgg,by omega,hcm,hcs, ?_⟩⟩
    · rw[List.length_take,hn.1];omega
    · rw[<-htk,List.take_take];congr 1
      omega
 have hl:(s.N.take k).length=k:=by rw[List.length_take];omega
 have hcut2:(w.setCell (aD pb 3) (.slice (some (aD g 0)) k c)).ownsRow B 72 9 (.slice (some (aD g 0)) k c) (s.N.take k).length (nx.take (k * 9)):=by
  rw[hl];exact A8 hcut hc (hno hcut (by decide))
 refine⟨⟨h1,h2,⟨by show (s.N.take k).length<=s.i;rw[hl];have:=hf.1;omega,hf.2⟩,A8 h4 hc (hno h4 (by decide)), ?_,.slice (some (aD g 0)) k c,yv,nx.take (k * 9),yx,hb2,hcut2,A8 hy hc (hno hy (by decide)),(Rws.take (fun _ _ h=>NdV.len h) k hrn).imp (NdV.chg hc key (fun _ x _=>x)),hry.imp (TyV.chg hc key (fun _ x _=>x))⟩,hkept⟩;refine⟨h5.1,fun u g' hu hg'=> ?_,fun u g' hu hg'=> ?_⟩
 · rw[cell_of_row _ pb 3 _ _ _ hb2]at hu;cases hu;exact h5.2.1 _ g' c3 hg'
 · rw[cell_of_row _ pb 4 _ _ _ hb2]at hu;cases hu;exact h5.2.2 _ g' c4 hg'
theorem Pst.nodeCells (h:Pst w B pb tv L ok d s) {k:Nat} (hk:k<s.N.length):∃g c la lc,w.cell? (aD pb 3)=some (.slice (some (aD g 0)) s.N.length c)/\s.N.length<=c/\c<=maxLen/\g<w.heap.size/\pb<w.heap.size/\w.frozen? (aD pb 3)=false/\
 w.cell? (aD g (k * 9))=some (iV s.N[k].kind)/\w.cell? (aD g (k * 9+1))=some (iV s.N[k].a)/\w.cell? (aD g (k * 9+2))=some (iV s.N[k].b)/\w.cell? (aD g (k * 9+3))=some (iV s.N[k].c)/\w.cell? (aD g (k * 9+4))=some (.slice la s.N[k].list.length lc)/\
 w.cell? (aD g (k * 9+5))=some (.string ⟨s.N[k].text.toArray⟩)/\w.cell? (aD g (k * 9+6))=some (iV s.N[k].n)/\w.cell? (aD g (k * 9+7))=some (iV s.N[k].ty)/\w.cell? (aD g (k * 9+8))=some (iV s.N[k].at')/\
 w.ownsRow 0 3 1 (.slice la s.N[k].list.length lc) s.N[k].list.length (C7 s.N[k].list)/\(∀g,Value.ownBlock (.slice la s.N[k].list.length lc)=some g->ok g):=by
 obtain⟨nv,yv,nx,yx,hb,hn,hy,hrn,hry⟩:=h.blk;obtain⟨na,nc,rfl⟩:=B6 hn;obtain⟨g,rfl,_,hgl,hgc,hgm,hcell⟩:=E7 hn (by omega);obtain⟨nd,hnd,hat⟩:=Rws.at (fun _ _ h=>NdV.len h) k hk hrn;obtain⟨lv,rfl,hl,hok⟩:=hnd;obtain⟨la,lc,rfl⟩:=B6 hl;exact⟨g,nc,la,lc,cr hb rfl,hgc,hgm,hgl,(ltG hb),frozen_of_row w pb 3 _ _ hb,hcell _ _ ((hat 0 (by omega)).trans rfl),hcell _ _ ((hat 1 (by omega)).trans rfl),hcell _ _ ((hat 2 (by omega)).trans rfl),hcell _ _ ((hat 3 (by omega)).trans rfl),hcell _ _ ((hat 4 (by omega)).trans rfl),hcell _ _ ((hat 5 (by omega)).trans rfl),hcell _ _ ((hat 6 (by omega)).trans rfl),hcell _ _ ((hat 7 (by omega)).trans rfl),hcell _ _ ((hat 8 (by omega)).trans rfl),hl,hok⟩
theorem W1a (w:World) (a b:Obj) {n:Nat} (hz:w.heap.size=n):((w.alloc a).alloc b).heap[n]? =some a:=by
 subst hz;rw[heap_alloc_old _ _ (by simp)];exact heap_alloc_new _ _
theorem T4b (w:World) (a b:Obj) {n:Nat} (hz:w.heap.size=n):((w.alloc a).alloc b).heap[n+1]? =some b:=by
 subst hz;have h:=heap_alloc_new (w.alloc a) b;simpa using h
theorem Chg.put {S:Nat->Prop} {a b:World} {q o:Nat} {v:Value} (h:Chg S a b) (hq:S q):Chg S a (b.setCell (aD q o) v):=
 h.trans (Chg.mono (Chg.set b (aD q o) v) fun _ _ x=>by have e:_=q:=x;rw[e];exact hq) (fun _ _ x=>x)
def B0d (w:World) (B pb:Nat) (tv:Value) (L:List M.Tk) (ok:Nat->Prop) (d:Nat) (s:M.St) (k:Nat) (n:M.Nd) (φ:M.Sp->Option (M.Out Int)) (e:Ending) (w':World):Prop:=
 Kept B ok w w'/\∃o,M.Ev L φ o/\match o with
  | .ok s' v=>(∃la lc,e= .returned (.agg #[iV (M.C6a n v).kind,iV (M.C6a n v).a,iV (M.C6a n v).b,iV (M.C6a n v).c,.slice la n.list.length lc,.string ⟨n.text.toArray⟩,iV n.n,iV n.ty,iV n.at'])/\w'.ownsRow 0 3 1 (.slice la n.list.length lc) n.list.length (C7 n.list)/\∀g,Value.ownBlock (.slice la n.list.length lc)=some g->ok g)/\Pst w' B pb tv L ok d s'/\s.i+1<s'.i/\s'.N.length+s.i+1<=s.N.length+s'.i/\s'.T.length+s.i+1<=s.T.length+s'.i/\k<=s'.N.length
  | .fail er p=>e=gu er p/\er≠0
theorem C0b {w w3 w9:World} {ok ok1:Nat->Prop} {d k:Nat} {s s3:M.St} {n:M.Nd} {x:Int} {la:Option Addr} {lc:Nat} {e:Ending} {FF:M.Sp->Option (M.Out Int)} (hK:Kept B ok w w3) (hev:M.Ev L FF (.ok s3 x)) (hp:Pst w3 B pb tv L ok1 d s3) (hg:D6 ⟨s.i+1,s.N.take k,s.T⟩ s3)
 (hl:w.ownsRow 0 3 1 (.slice la n.list.length lc) n.list.length (C7 n.list)) (hlok:∀g,Value.ownBlock (.slice la n.list.length lc)=some g->ok g) (htl:(s.N.take k).length=k) (hto:∀g,ok1 g->ok g) (hne:¬ok1 w.heap.size) (hne1:¬ok1 (w.heap.size+1)) (tl0:tv.ownBlock≠some w.heap.size) (tl1:tv.ownBlock≠some (w.heap.size+1))
 (hch:Chg (fun i=>i=w.heap.size\/i=w.heap.size+1) w3 w9) (he:e= .returned (.agg #[iV (M.C6a n x).kind,iV (M.C6a n x).a,iV (M.C6a n x).b,iV (M.C6a n x).c,.slice la n.list.length lc,.string ⟨n.text.toArray⟩,iV n.n,iV n.ty,iV n.at'])):B0d w B pb tv L ok d s k n FF e w9:=by
 have hK9:Kept B ok w w9:=hK.trans' hch (fun i hi x=>by omega);have hlen:(s.N.take k).length<=s.N.length:=by rw[List.length_take];omega
 obtain⟨g1,g2,g3,g4⟩:=hg;simp only at g1 g2 g3 g4;refine⟨hK9,_,hev,⟨la,lc,he,D9 hl hK9 (by decide),hlok⟩,hp.free hch ?_ (fun g x _=>hto g x),g1,by omega,by omega,by omega⟩;rintro i (rfl|rfl)
 · exact⟨hne,tl0⟩
 · exact⟨hne1,tl1⟩
theorem T2c (hL:LOk L) (m:Nat) (hE:∀m',m'<m->I7 B pb tv L 143 (fun d s r=>r.expr d s) m') (w:World) (ok:Nat->Prop) (d:Nat) (s:M.St) (k:Nat) (hk:k<s.N.length) (hq:M.isM L s.i [[61]]=true) (hm:L.length - s.i<=m) (hok:∀g,w.heap.size<=g->ok g) (hB:B<=w.heap.size) (h:Pst w B pb tv L ok d s):
 Calls Tryz.prog 146 #[pV pb,iV (k:Int)] w (B0d w B pb tv L ok d s k s.N[k] (fun r=>if M.H5a s.N[k].kind=0 then M.flt L s.i 1 else r.expr d ⟨s.i+1,s.N.take k,s.T⟩)):=by
 have hi:=h.at';have hs:=hL.short;have hfw:=h.few;obtain⟨g,c,la,lc,c3,hc1,hc2,hg,hpl,fz3,n0,n1,n2,n3,n4,n5,n6,n7,n8,hl,hlok⟩:=h.nodeCells hk;unfold maxLen at hc2;generalize hFF:(fun (r:M.Sp)=>if M.H5a s.N[k].kind=0 then M.flt L s.i 1 else r.expr d ⟨s.i+1,s.N.take k,s.T⟩)=FF;have V:Hid (∀o,M.Ev L (fun r=>if M.H5a s.N[k].kind=0 then M.flt L s.i 1 else r.expr d ⟨s.i+1,s.N.take k,s.T⟩) o->M.Ev L FF o):=by
  rw[<-hFF];exact fun _ x=>x
 clear hFF;have hcut:=h.cut hk c3;have htl:(s.N.take k).length=k:=by rw[List.length_take];omega
 have H0:=A0 h;have HK:=A0 (fun x a=>H6b x a);generalize s.N[k]=nd at *;obtain⟨nk,na,nb,nc,nl,nt,nn,ny,nat⟩:=nd;simp only at n0 n1 n2 n3 n4 n5 n6 n7 n8 hl hlok V⊢;have HL:=A0 hl;have HLO:=A0 hlok;clear h hl hlok;have tl0:tv.ownBlock≠some w.heap.size:=H0.out.tokLt (Nat.le_refl _);have tl1:tv.ownBlock≠some (w.heap.size+1):=H0.out.tokLt (by omega);by_cases hk0:M.H5a nk=0
 · have HP:=A0 (HK.out nk ((w.alloc (.cells #[iV 0,iV 0,iV 0,iV 0,sN,.string ⟨#[]⟩,iV 0,iV 0,iV 0] 72)).alloc (ndC nk na nb nc (.slice la nl.length lc) nt nn ny nat)));rw[hk0]at HP;have hch:Chg No w ((w.alloc (.cells #[iV 0,iV 0,iV 0,iV 0,sN,.string ⟨#[]⟩,iV 0,iV 0,iV 0] 72)).alloc (ndC nk na nb nc (.slice la nl.length lc) nt nn ny nat)):=(Chg.alloc No _ _).trans (Chg.alloc No _ _) (fun _ _ x=>x);have HF:=A0 (S8 hL (H0.out.still hch) 1);have K1:=A0 (B8 (B:=B) (ok:=ok) hch);have EV:=A0 (V.out (.fail 1 ((M.tk L s.i).at':Int)) (M.Ev.pure.eq (fun r=>by rw[if_pos hk0];rfl)));clear hch V hcut;go_enter Tryz.func146,Tryz.ntmps146;go_wp2_with fail
   refine HP.out.mono ?_;rintro e w1 ⟨rfl,rfl⟩;go_wp2_with fail
   refine HF.out.mono ?_;rintro e w2 ⟨rfl,hc⟩;exact⟨rfl,K1.out.trans (B8 hc),_,EV.out,rfl,by decide⟩
 · have HP:=A0 (HK.out nk ((w.alloc (.cells #[iV 0,iV 0,iV 0,iV 0,sN,.string ⟨#[]⟩,iV 0,iV 0,iV 0] 72)).alloc (ndC nk na nb nc (.slice la nl.length lc) nt nn ny nat)));have hz:(w.setCell (aD pb 3) (.slice (some (aD g 0)) k c)).heap.size=w.heap.size:=by simp
   let ok1:Nat->Prop:=fun g=>ok g/\g≠w.heap.size/\g≠w.heap.size+1
   have P1:Pst (((w.setCell (aD pb 3) (.slice (some (aD g 0)) k c)).alloc (.cells #[iV 0,iV 0,iV 0,iV 0,sN,.string ⟨#[]⟩,iV 0,iV 0,iV 0] 72)).alloc (ndC nk na nb nc (.slice la nl.length lc) nt nn ny nat)) B pb tv L ok1 d ⟨s.i,s.N.take k,s.T⟩:=
    ((hcut.1.mono (fun g hg hlt=>⟨hg,by omega,by omega⟩)).alloc _).alloc _
   have HN:=A0 (G5 hL P1 [61]);have K1:=A0 ((hcut.2.alloc (.cells #[iV 0,iV 0,iV 0,iV 0,sN,.string ⟨#[]⟩,iV 0,iV 0,iV 0] 72)).alloc (ndC nk na nb nc (.slice la nl.length lc) nt nn ny nat));have hne:¬ok1 w.heap.size:=fun x=>x.2.1 rfl;have hne1:¬ok1 (w.heap.size+1):=fun x=>x.2.2 rfl;have hok1:∀g,w.heap.size+2<=g->ok1 g:=fun g hg=>⟨hok g (by omega),by omega,by omega⟩;have hto:∀g,ok1 g->ok g:=fun g x=>x.1;have hlt0:∀g,ok g->g<w.heap.size->ok1 g:=fun g x y=>⟨x,by omega,by omega⟩;clear_value ok1
   clear P1 hcut;have FK:=A0 hk0;clear hk0;generalize hKK:M.H5a nk=kk at HP;go_enter Tryz.func146,Tryz.ntmps146;go_wp2_with fail
   refine HP.out.mono ?_;rintro e w1 ⟨rfl,rfl⟩;have fk:(kk==0)=false:=by simpa[<-hKK]using FK.out
   go_wp2_with fail
   refine HN.out.mono ?_;rintro e w2 ⟨hk2,hpost⟩;have hA:w2.heap[w.heap.size]? =some (.cells #[iV 0,iV 0,iV 0,iV 0,sN,.string ⟨#[]⟩,iV 0,iV 0,iV 0] 72 (0,0)):=I3 hk2 (W1a _ _ _ hz) hne;have hb:w2.heap[w.heap.size+1]? =some (.cells #[iV nk,iV na,iV nb,iV nc,.slice la nl.length lc,.string ⟨nt.toArray⟩,iV nn,iV ny,iV nat] 72 (0,0)):=I3 hk2 (T4b _ _ _ hz) hne1;have hz2:w.heap.size+2<=w2.heap.size:=by have:=hk2.size;simpa using this
   have K2:=A0 (K1.out.trans (hk2.mono hto));clear HN hk2 K1 HP;rcases hpost with ⟨_,rfl,hp⟩|⟨hx,_⟩;rotate_left
   · rw[hq]at hx;cases hx
   have H1:=A0 (hE (L.length - (s.i+1)) (by omega) w2 ok1 d ⟨s.i+1,s.N.take k,s.T⟩ (Nat.le_refl _) (fun g hg=>hok1 g (by omega)) (by omega) hp);clear hp;go_wp2_with fail
   refine H1.out.mono ?_;rintro e w3 ⟨hk3,o,hev,hpost⟩;have hA:=I3 hk3 hA hne;have hb:=I3 hk3 hb hne1;have K3:=A0 (K2.out.trans (hk3.mono hto));have EV:=A0 (V.out o (hev.eq (fun r=>by rw[if_neg FK.out])));have hz3:=hk3.size;clear hk3 hev V H1 K2;cases o with
   |fail er p=>
    obtain⟨rfl,he⟩:=hpost;exact⟨rfl,K3.out,_,EV.out,rfl,he⟩
   |ok s3 x=>
    obtain⟨rfl,hp,hg,hx1⟩:=hpost;have P3:=A0 hp;have G3:=A0 hg;clear hp hg;have a0:w3.cell? (aD w.heap.size 0)=some (iV 0):=cr hA rfl;have a1:w3.cell? (aD w.heap.size 1)=some (iV 0):=cr hA rfl;have a2:w3.cell? (aD w.heap.size 2)=some (iV 0):=cr hA rfl;have a3:w3.cell? (aD w.heap.size 3)=some (iV 0):=cr hA rfl;have a4:w3.cell? (aD w.heap.size 4)=some (sN):=cr hA rfl;have a5:w3.cell? (aD w.heap.size 5)=some (.string ⟨#[]⟩):=cr hA rfl;have a6:w3.cell? (aD w.heap.size 6)=some (iV 0):=cr hA rfl;have a7:w3.cell? (aD w.heap.size 7)=some (iV 0):=cr hA rfl;have a8:w3.cell? (aD w.heap.size 8)=some (iV 0):=cr hA rfl;have b0:w3.cell? (aD (w.heap.size+1) 0)=some (iV nk):=cr hb rfl;have b1:w3.cell? (aD (w.heap.size+1) 1)=some (iV na):=cr hb rfl;have b2:w3.cell? (aD (w.heap.size+1) 2)=some (iV nb):=cr hb rfl;have b3:w3.cell? (aD (w.heap.size+1) 3)=some (iV nc):=cr hb rfl;have b4:w3.cell? (aD (w.heap.size+1) 4)=some (.slice la nl.length lc):=cr hb rfl;have b5:w3.cell? (aD (w.heap.size+1) 5)=some (.string ⟨nt.toArray⟩):=cr hb rfl;have b6:w3.cell? (aD (w.heap.size+1) 6)=some (iV nn):=cr hb rfl;have b7:w3.cell? (aD (w.heap.size+1) 7)=some (iV ny):=cr hb rfl;have b8:w3.cell? (aD (w.heap.size+1) 8)=some (iV nat):=cr hb rfl;have z0:=frozen_of_row w3 w.heap.size 0 _ _ hA;have y0:=frozen_of_row w3 (w.heap.size+1) 0 _ _ hb;have z1:=frozen_of_row w3 w.heap.size 1 _ _ hA;have y1:=frozen_of_row w3 (w.heap.size+1) 1 _ _ hb;have z2:=frozen_of_row w3 w.heap.size 2 _ _ hA;have y2:=frozen_of_row w3 (w.heap.size+1) 2 _ _ hb;have z3:=frozen_of_row w3 w.heap.size 3 _ _ hA;have y3:=frozen_of_row w3 (w.heap.size+1) 3 _ _ hb;have z4:=frozen_of_row w3 w.heap.size 4 _ _ hA;have y4:=frozen_of_row w3 (w.heap.size+1) 4 _ _ hb;have z5:=frozen_of_row w3 w.heap.size 5 _ _ hA;have y5:=frozen_of_row w3 (w.heap.size+1) 5 _ _ hb;have z6:=frozen_of_row w3 w.heap.size 6 _ _ hA;have y6:=frozen_of_row w3 (w.heap.size+1) 6 _ _ hb;have z7:=frozen_of_row w3 w.heap.size 7 _ _ hA;have y7:=frozen_of_row w3 (w.heap.size+1) 7 _ _ hb;have z8:=frozen_of_row w3 w.heap.size 8 _ _ hA;have y8:=frozen_of_row w3 (w.heap.size+1) 8 _ _ hb;have lA:w.heap.size<w3.heap.size:=by omega
    have lb:w.heap.size+1<w3.heap.size:=by omega
    have hcase:nk=5/\kk=18\/nk=8/\kk=19\/nk=9/\kk=20:=by
     have f:=FK.out;unfold M.H5a at hKK f;split at hKK<;>rename_i c1
     · exact .inl ⟨c1,hKK.symm⟩
     split at hKK<;>rename_i c2
     · exact .inr (.inl ⟨c2,hKK.symm⟩)
     split at hKK<;>rename_i c3
     · exact .inr (.inr ⟨c3,hKK.symm⟩)
     · simp[c1,c2,c3]at f
    clear hKK FK fk hA hb n0 n1 n2 n3 n4 n5 n6 n7 n8 c3 fz3;rcases hcase with ⟨rfl,rfl⟩|⟨rfl,rfl⟩|⟨rfl,rfl⟩
    · go_wp2_with fail
      refine bodyPost_ret (v:= .agg #[iV 18,iV x,iV nb,iV nc,.slice la nl.length lc,.string ⟨nt.toArray⟩,iV nn,iV ny,iV nat]) (by simp[results,Tryz.results146,go_sem,a0,a1,a2,a3,a4,a5,a6,a7,a8]) rfl ?_;refine C0b K3.out EV.out P3.out G3.out HL.out HLO.out htl hto hne hne1 tl0 tl1 ?_ rfl;iterate 11 refine Chg.put ?_ (by simp)
      exact Chg.refl _ _
    · go_wp2_with fail
      refine bodyPost_ret (v:= .agg #[iV 19,iV na,iV x,iV nc,.slice la nl.length lc,.string ⟨nt.toArray⟩,iV nn,iV ny,iV nat]) (by simp[results,Tryz.results146,go_sem,a0,a1,a2,a3,a4,a5,a6,a7,a8]) rfl ?_;refine C0b K3.out EV.out P3.out G3.out HL.out HLO.out htl hto hne hne1 tl0 tl1 ?_ rfl;iterate 11 refine Chg.put ?_ (by simp)
      exact Chg.refl _ _
    · go_wp2_with fail
      refine bodyPost_ret (v:= .agg #[iV 20,iV na,iV nb,iV x,.slice la nl.length lc,.string ⟨nt.toArray⟩,iV nn,iV ny,iV nat]) (by simp[results,Tryz.results146,go_sem,a0,a1,a2,a3,a4,a5,a6,a7,a8]) rfl ?_;refine C0b K3.out EV.out P3.out G3.out HL.out HLO.out htl hto hne hne1 tl0 tl1 ?_ rfl;iterate 11 refine Chg.put ?_ (by simp)
      exact Chg.refl _ _
end
open Go.RowKit
section
variable {B pb:Nat} {tv:Value} {L:List M.Tk}
def P6c (L:List M.Tk) (d:Nat) (s:M.St) (r:M.Sp):Option (M.Out Int):=M.A3 (r.expr d s) fun s1 x=>
 if M.isM L s1.i [[61]] then
  if M.H5a (s1.N.getD x.toNat M.nd0).kind=0 then M.flt L s1.i 1
  else M.A3 (r.expr d ⟨s1.i+1,s1.N.take x.toNat,s1.T⟩) fun s2 v=>M.A3 (M.need L s2 [59]) fun s3 _=>M.addN s3 (M.C6a (s1.N.getD x.toNat M.nd0) v)
 else M.A3 (M.need L s1 [59]) fun s2 _=>M.addN s2 ⟨25,x,0,0,[],[],0,-1,M.atN s1 x⟩
theorem Z2b (n:M.Nd) (v:Int):∃kk a b c,M.C6a n v=⟨kk,a,b,c,n.list,n.text,n.n,-1,n.at'⟩:=by
 unfold M.C6a;split
 · exact⟨_,_,_,_,rfl⟩
 split<;>exact⟨_,_,_,_,rfl⟩
theorem M2d {w:World} {q:Nat} {c0 c1 c2 c3 c4 c5 c6 c7 c8 v0 v1 v2 v3 v4 v5 v6 v7 v8:Value} {e:TypeId} (h:w.heap[q]? =some (.cells #[c0,c1,c2,c3,c4,c5,c6,c7,c8] e (0,0))):
 (((((((((w.setCell (aD q 0) v0).setCell (aD q 1) v1).setCell (aD q 2) v2).setCell (aD q 3) v3).setCell (aD q 4) v4).setCell (aD q 5) v5).setCell (aD q 6) v6).setCell (aD q 7) v7).setCell (aD q 8) v8).heap[q]? =some (.cells #[v0,v1,v2,v3,v4,v5,v6,v7,v8] e (0,0)):=by
 have h0:(w.setCell (aD q 0) v0).heap[q]? =some (.cells #[v0,c1,c2,c3,c4,c5,c6,c7,c8] e (0,0)):=by rw[heap_setCell_same w q 0 _ _ v0 h];rfl
 generalize w.setCell (aD q 0) v0=u0 at *;have h1:(u0.setCell (aD q 1) v1).heap[q]? =some (.cells #[v0,v1,c2,c3,c4,c5,c6,c7,c8] e (0,0)):=by rw[heap_setCell_same u0 q 1 _ _ v1 h0];rfl
 generalize u0.setCell (aD q 1) v1=u1 at *;have h2:(u1.setCell (aD q 2) v2).heap[q]? =some (.cells #[v0,v1,v2,c3,c4,c5,c6,c7,c8] e (0,0)):=by rw[heap_setCell_same u1 q 2 _ _ v2 h1];rfl
 generalize u1.setCell (aD q 2) v2=u2 at *;have h3:(u2.setCell (aD q 3) v3).heap[q]? =some (.cells #[v0,v1,v2,v3,c4,c5,c6,c7,c8] e (0,0)):=by rw[heap_setCell_same u2 q 3 _ _ v3 h2];rfl
 generalize u2.setCell (aD q 3) v3=u3 at *;have h4:(u3.setCell (aD q 4) v4).heap[q]? =some (.cells #[v0,v1,v2,v3,v4,c5,c6,c7,c8] e (0,0)):=by rw[heap_setCell_same u3 q 4 _ _ v4 h3];rfl
 generalize u3.setCell (aD q 4) v4=u4 at *;have h5:(u4.setCell (aD q 5) v5).heap[q]? =some (.cells #[v0,v1,v2,v3,v4,v5,c6,c7,c8] e (0,0)):=by rw[heap_setCell_same u4 q 5 _ _ v5 h4];rfl
 generalize u4.setCell (aD q 5) v5=u5 at *;have h6:(u5.setCell (aD q 6) v6).heap[q]? =some (.cells #[v0,v1,v2,v3,v4,v5,v6,c7,c8] e (0,0)):=by rw[heap_setCell_same u5 q 6 _ _ v6 h5];rfl
 generalize u5.setCell (aD q 6) v6=u6 at *;have h7:(u6.setCell (aD q 7) v7).heap[q]? =some (.cells #[v0,v1,v2,v3,v4,v5,v6,v7,c8] e (0,0)):=by rw[heap_setCell_same u6 q 7 _ _ v7 h6];rfl
 generalize u6.setCell (aD q 7) v7=u7 at *;have h8:(u7.setCell (aD q 8) v8).heap[q]? =some (.cells #[v0,v1,v2,v3,v4,v5,v6,v7,v8] e (0,0)):=by rw[heap_setCell_same u7 q 8 _ _ v8 h7];rfl
 exact h8
theorem getD_at {k:Nat} {N:List M.Nd} (hk:k<N.length):N.getD ((k:Int)).toNat M.nd0=N[k]:=by simp[hk]
theorem L4b (hL:LOk L) (hX:∀(d:Nat) (s s':M.St) (x:Int),M.Ev L (fun r=>r.expr d s) (.ok s' x)->(s.N.length:Int)<=x) (m:Nat) (hE:∀m',m'<=m->I7 B pb tv L 143 (fun d s r=>r.expr d s) m') (w:World) (ok:Nat->Prop) (d:Nat) (s:M.St) (hm:L.length - s.i<=m) (hok:∀g,w.heap.size<=g->ok g) (hB:B<=w.heap.size) (h:Pst w B pb tv L ok d s):
 Calls Tryz.prog 124 #[pV pb] w (O8 w B pb tv L ok d s (P6c L d s)):=by
 have hi:=h.at';have hs:=hL.short;have hfw:=h.few;have HM:=A0 (hE m (Nat.le_refl _) w ok d s hm hok hB h);have HV:Hid (∀o,M.Ev L (P6c L d s) o->M.Ev L (P6c L d s) o):=fun o ho=>ho;generalize hFF:P6c L d s=FF at HV⊢;rw[<-hFF]at HV;have HV:Hid (∀o,M.Ev L (P6c L d s) o->M.Ev L FF o):=by rw[hFF];exact fun _ x=>x
 clear hFF;clear h;go_enter Tryz.func124,Tryz.ntmps124;go_wp2_with fail
 refine HM.out.mono ?_;clear HM;rintro e w1 ⟨hk,o,hev,hpost⟩;have K1:=A0 hk;have E1:=A0 hev;clear hk hev;cases o with
 |fail er p=>
  obtain⟨rfl,he⟩:=hpost;exact⟨rfl,B9 K1.out (HV.out _ (M.Ev.bad E1.out)) he⟩
 |ok s1 x=>
  obtain⟨rfl,hp,hg,hx⟩:=hpost;obtain⟨k,rfl⟩:=Int.eq_ofNat_of_zero_le hx.1;have hkl:k<s1.N.length:=by have:=hx.2;omega
  have hi1:=hp.at';have hfw1:=hp.few;obtain⟨g,c,la,lc,c3,hc1,hc2,hgl,hpl,fz3,n0,n1,n2,n3,n4,n5,n6,n7,n8,hl,hlok⟩:=hp.nodeCells hkl;unfold maxLen at hc2;clear n0 n1 n2 n3 n4 n5 n6 n7 hl hlok;have hkx:=hX _ _ _ _ E1.out;have V1:=A0 (fun o ho=>HV.out o (M.Ev.bind E1.out ho));clear HV E1;have P1:=A0 hp;have G1:=A0 hg;clear hp hg;generalize hat:s1.N[k].at'=at0 at *;have AT:=A0 hat;clear hat;let ok1:Nat->Prop:=fun g=>ok g/\g≠w1.heap.size
  have hsz:(w1.alloc (.cells #[iV 25,iV (k:Int),iV 0,iV 0,sN,.string ⟨#[]⟩,iV 0,iV 0,iV at0] 72)).heap.size=w1.heap.size+1:=by simp
  have P2:Hid (Pst ((w1.alloc (.cells #[iV 25,iV (k:Int),iV 0,iV 0,sN,.string ⟨#[]⟩,iV 0,iV 0,iV at0] 72)).alloc (.cells (M4a [[61]]) 9)) B pb tv L ok1 d s1):=((P1.out.mono (fun g hg hlt=>⟨hg,by omega⟩)).alloc _).alloc _;have tl0:tv.ownBlock≠some w1.heap.size:=P1.out.tokLt (Nat.le_refl _);have hne:¬ok1 w1.heap.size:=fun x=>x.2 rfl;have hto:∀g,ok1 g->ok g:=fun g x=>x.1;have hok1:∀g,w1.heap.size+1<=g->ok1 g:=fun g hg=>⟨hok g (by have:=K1.out.size;omega),by omega⟩;have HI:=A0 (C3a hL P2.out (w1.heap.size+1) 1 [[61]] (by rw[<-hsz];exact U6 _ _ _) (by decide));clear_value ok1
  generalize hq:M.isM L s1.i [[61]]=q at *;have Q1:=A0 hq;clear hq;go_wp2_with fail
  refine HI.out.mono ?_;rintro e w2 ⟨rfl,hc⟩;have hb:w2.heap[w1.heap.size]? =some (.cells #[iV 25,iV (k:Int),iV 0,iV 0,sN,.string ⟨#[]⟩,iV 0,iV 0,iV at0] 72 (0,0)):=(hc.block w1.heap.size (by simp;omega) (fun x=>x)).trans (W1a _ _ _ rfl);have hz2:w1.heap.size+2<=w2.heap.size:=by have:=hc.size;simpa using this
  have K2:=A0 (K1.out.trans ((((Kept.refl B ok w1).alloc (.cells #[iV 25,iV (k:Int),iV 0,iV 0,sN,.string ⟨#[]⟩,iV 0,iV 0,iV at0] 72)).alloc _).trans (B8 hc)));have P3:=A0 (P2.out.still hc);have hz1:=K1.out.size;clear hc HI P1 P2 K1 c3 fz3 n8 hsz;cases q
  · have V2:=A0 (fun o (ho:M.Ev L (fun r=>M.A3 (M.need L s1 [59]) fun s2 (_:Unit)=>M.addN s2 ⟨25,(k:Int),0,0,[],[],0,-1,at0⟩) o)=>V1.out o (ho.eq (fun r=>by rw[if_neg (by simp),<-AT.out];simp[M.atN,hkl])));clear V1 AT;have HN:=A0 (G5 hL P3.out [59]);clear P3;go_wp2_with fail
    refine HN.out.mono ?_;rintro e w3 ⟨hk3,hr⟩;have hb:=I3 hk3 hb hne;have K3:=A0 (K2.out.trans (hk3.mono hto));have hz3:=hk3.size;clear hk3 K2 HN;rcases hr with ⟨hq3,rfl,hp⟩|⟨hq3,rfl⟩
    case inr=>exact⟨rfl,B9 K3.out (V2.out _ (M.Ev.bad (O9 hq3))) (by decide)⟩
    have EV:=A0 (V2.out _ (M.Ev.bind (k:=fun r s2 (_:Unit)=>M.addN s2 ⟨25,(k:Int),0,0,[],[],0,-1,at0⟩) (K8 hq3) M.Ev.pure));clear V2 hq3;have b0:w3.cell? (aD w1.heap.size 0)=some (iV 25):=cr hb rfl;have b1:w3.cell? (aD w1.heap.size 1)=some (iV (k:Int)):=cr hb rfl;have b2:w3.cell? (aD w1.heap.size 2)=some (iV 0):=cr hb rfl;have b3:w3.cell? (aD w1.heap.size 3)=some (iV 0):=cr hb rfl;have b4:w3.cell? (aD w1.heap.size 4)=some (sN):=cr hb rfl;have b5:w3.cell? (aD w1.heap.size 5)=some (.string ⟨#[]⟩):=cr hb rfl;have b6:w3.cell? (aD w1.heap.size 6)=some (iV 0):=cr hb rfl;have b7:w3.cell? (aD w1.heap.size 7)=some (iV 0):=cr hb rfl;have b8:w3.cell? (aD w1.heap.size 8)=some (iV at0):=cr hb rfl;have HA:=A0 (J2 hL (hp.mono (fun g x _=>hto g x)) (M.Nd.mk 25 (k:Int) 0 0 [] [] 0 (-1) at0) 0 none 0 0 ⟨_,rfl,World.ownsRow_nil _ _ _ _,by simp[Value.ownBlock]⟩ rfl (by simp only[M.St.nx];omega) (by omega) (fun g hg=>hok g (by omega)));have GX:=A0 (show D6 s ⟨s1.nx.i,s1.nx.N++[M.Nd.mk 25 (k:Int) 0 0 [] [] 0 (-1) at0],s1.nx.T⟩ by
     have:=G1.out;simp only[D6,M.St.nx,List.length_append,List.length_cons,List.length_nil]at this⊢
     omega)
    have hxx:(0:Int)<=(s1.nx.N.length:Int)/\(s1.nx.N.length:Int)<((s1.nx.N++[M.Nd.mk 25 (k:Int) 0 0 [] [] 0 (-1) at0]).length:Int):=by simp;omega
    clear hp;go_wp2_with fail
    refine HA.out.mono ?_;rintro e w9 ⟨rfl,k9,p9⟩;have K9:=A0 (K3.out.trans k9);have P9:=A0 p9;clear k9 p9 HA;go_wp2_with fail
    go_ret;exact D8 K9.out EV.out P9.out GX.out hxx
  · have V2:=A0 (fun o (ho:M.Ev L (fun r=>M.A3 (if M.H5a s1.N[k].kind=0 then M.flt L s1.i 1 else r.expr d ⟨s1.i+1,s1.N.take k,s1.T⟩) fun s2 v=>M.A3 (M.need L s2 [59]) fun s3 (_:Unit)=>M.addN s3 (M.C6a s1.N[k] v)) o)=>V1.out o (ho.eq (fun r=>by rw[if_pos rfl,getD_at hkl,Int.toNat_natCast];split<;>rfl)));clear V1 AT;have HS:=A0 (T2c hL (L.length - s1.i) (fun m' hm'=>hE m' (by have:=G1.out.1;omega)) w2 ok1 d s1 k hkl Q1.out (Nat.le_refl _) (fun g hg=>hok1 g (by omega)) (by omega) P3.out);clear P3;generalize s1.N[k]=n at *;generalize hφ:(fun (r:M.Sp)=>if M.H5a n.kind=0 then M.flt L s1.i 1 else r.expr d ⟨s1.i+1,s1.N.take k,s1.T⟩)=φ at HS;have V3:=A0 (fun o (ho:M.Ev L (fun r=>M.A3 (φ r) fun s2 v=>M.A3 (M.need L s2 [59]) fun s3 (_:Unit)=>M.addN s3 (M.C6a n v)) o)=>V2.out o (ho.eq (fun r=>by rw[<-hφ])));clear V2 hφ;go_wp2_with fail
    refine HS.out.mono ?_;rintro e w3 ⟨hk3,o,hev,hpost⟩;have hb:=I3 hk3 hb hne;have K3:=A0 (K2.out.trans (hk3.mono hto));have E3:=A0 hev;have hz3:=hk3.size;clear hk3 K2 HS hev;cases o with
    |fail er p=>
     obtain⟨rfl,he⟩:=hpost;exact⟨rfl,B9 K3.out (V3.out _ (M.Ev.bad E3.out)) he⟩
    |ok s3 v=>
     obtain⟨⟨la2,lc2,rfl,hl,hlok⟩,hp,g1,g2,g3,g4⟩:=hpost;obtain⟨kk,na,nb,nc,hN⟩:=Z2b n v;rw[hN];have V4:=A0 (fun o (ho:M.Ev L (fun r=>M.A3 (M.need L s3 [59]) fun s4 (_:Unit)=>M.addN s4 ⟨kk,na,nb,nc,n.list,n.text,n.n,-1,n.at'⟩) o)=>V3.out o (M.Ev.bind (k:=fun r s2 v=>M.A3 (M.need L s2 [59]) fun s3 (_:Unit)=>M.addN s3 (M.C6a n v)) E3.out (ho.eq (fun r=>by rw[hN]))));clear V3 E3 hN;have b0:w3.cell? (aD w1.heap.size 0)=some (iV 25):=cr hb rfl;have b1:w3.cell? (aD w1.heap.size 1)=some (iV (k:Int)):=cr hb rfl;have b2:w3.cell? (aD w1.heap.size 2)=some (iV 0):=cr hb rfl;have b3:w3.cell? (aD w1.heap.size 3)=some (iV 0):=cr hb rfl;have b4:w3.cell? (aD w1.heap.size 4)=some (sN):=cr hb rfl;have b5:w3.cell? (aD w1.heap.size 5)=some (.string ⟨#[]⟩):=cr hb rfl;have b6:w3.cell? (aD w1.heap.size 6)=some (iV 0):=cr hb rfl;have b7:w3.cell? (aD w1.heap.size 7)=some (iV 0):=cr hb rfl;have b8:w3.cell? (aD w1.heap.size 8)=some (iV at0):=cr hb rfl;have z0:=frozen_of_row w3 w1.heap.size 0 _ _ hb;have z1:=frozen_of_row w3 w1.heap.size 1 _ _ hb;have z2:=frozen_of_row w3 w1.heap.size 2 _ _ hb;have z3:=frozen_of_row w3 w1.heap.size 3 _ _ hb;have z4:=frozen_of_row w3 w1.heap.size 4 _ _ hb;have z5:=frozen_of_row w3 w1.heap.size 5 _ _ hb;have z6:=frozen_of_row w3 w1.heap.size 6 _ _ hb;have z7:=frozen_of_row w3 w1.heap.size 7 _ _ hb;have z8:=frozen_of_row w3 w1.heap.size 8 _ _ hb;have lA:w1.heap.size<w3.heap.size:=by omega
     have HB:=A0 hb;have HN:Hid (∀a,Chg (fun i=>i=w1.heap.size) w3 a->Pst a B pb tv L ok1 d s3):=fun a ha=>hp.free ha (by rintro i rfl;exact⟨hne,tl0⟩) (fun g x _=>x);have HL:Hid (∀a,Chg (fun i=>i=w1.heap.size) w3 a->a.ownsRow 0 3 1 (.slice la2 n.list.length lc2) n.list.length (C7 n.list)):=fun a ha=>A8 hl ha (by rintro g hg rfl;exact hne (hlok _ hg));have HO:=A0 hlok;have hi3:=hp.at';have hf3:=hp.few;clear hp hl hlok hb;go_wp2_with fail
     have hch:Chg (fun i=>i=w1.heap.size) w3 (((((((((w3.setCell (aD w1.heap.size 0) (iV kk)).setCell (aD w1.heap.size 1) (iV na)).setCell (aD w1.heap.size 2) (iV nb)).setCell (aD w1.heap.size 3) (iV nc)).setCell (aD w1.heap.size 4) (.slice la2 n.list.length lc2)).setCell (aD w1.heap.size 5) (.string ⟨n.text.toArray⟩)).setCell (aD w1.heap.size 6) (iV n.n)).setCell (aD w1.heap.size 7) (iV n.ty)).setCell (aD w1.heap.size 8) (iV n.at')):=by
      iterate 9 refine Chg.put ?_ rfl
      exact Chg.refl _ _
     have hba:=M2d (v0:=iV kk) (v1:=iV na) (v2:=iV nb) (v3:=iV nc) (v4:= .slice la2 n.list.length lc2) (v5:= .string ⟨n.text.toArray⟩) (v6:=iV n.n) (v7:=iV n.ty) (v8:=iV n.at') HB.out;generalize (((((((((w3.setCell (aD w1.heap.size 0) (iV kk)).setCell (aD w1.heap.size 1) (iV na)).setCell (aD w1.heap.size 2) (iV nb)).setCell (aD w1.heap.size 3) (iV nc)).setCell (aD w1.heap.size 4) (.slice la2 n.list.length lc2)).setCell (aD w1.heap.size 5) (.string ⟨n.text.toArray⟩)).setCell (aD w1.heap.size 6) (iV n.n)).setCell (aD w1.heap.size 7) (iV n.ty)).setCell (aD w1.heap.size 8) (iV n.at'))=a at *;have H4:=A0 (G5 hL (HN.out a hch) [59]);have O4:=A0 (HL.out a hch);have K4:=A0 (K3.out.trans' hch (fun i hi x=>by omega));have hza:=hch.size;clear HN HL hch K3 HB b0 b1 b2 b3 b4 b5 b6 b7 b8 z0 z1 z2 z3 z4 z5 z6 z7 z8;refine H4.out.mono ?_;rintro e w4 ⟨hk4,hr⟩;have hb4:=I3 hk4 hba hne;have K5:=A0 (K4.out.trans (hk4.mono hto));have O5:=A0 (D9 O4.out hk4 (by decide));have hz4:=hk4.size;clear hk4 K4 H4 O4 hba;rcases hr with ⟨hq3,rfl,hp⟩|⟨hq3,rfl⟩
     case inr=>exact⟨rfl,B9 K5.out (V4.out _ (M.Ev.bad (O9 hq3))) (by decide)⟩
     have EV:=A0 (V4.out _ (M.Ev.bind (k:=fun r s4 (_:Unit)=>M.addN s4 (M.Nd.mk kk na nb nc n.list n.text n.n (-1) n.at')) (K8 hq3) M.Ev.pure));clear V4 hq3;have e0:w4.cell? (aD w1.heap.size 0)=some (iV kk):=cr hb4 rfl;have e1:w4.cell? (aD w1.heap.size 1)=some (iV na):=cr hb4 rfl;have e2:w4.cell? (aD w1.heap.size 2)=some (iV nb):=cr hb4 rfl;have e3:w4.cell? (aD w1.heap.size 3)=some (iV nc):=cr hb4 rfl;have e4:w4.cell? (aD w1.heap.size 4)=some (.slice la2 n.list.length lc2):=cr hb4 rfl;have e5:w4.cell? (aD w1.heap.size 5)=some (.string ⟨n.text.toArray⟩):=cr hb4 rfl;have e6:w4.cell? (aD w1.heap.size 6)=some (iV n.n):=cr hb4 rfl;have e7:w4.cell? (aD w1.heap.size 7)=some (iV n.ty):=cr hb4 rfl;have e8:w4.cell? (aD w1.heap.size 8)=some (iV n.at'):=cr hb4 rfl;have HA:=A0 (J2 hL (hp.mono (fun g x _=>hto g x)) (M.Nd.mk kk na nb nc n.list n.text n.n (-1) n.at') n.ty la2 n.list.length lc2 ⟨_,rfl,O5.out,fun g hg=>hto g (HO.out g hg)⟩ rfl (by simp only[M.St.nx];omega) (by omega) (fun g hg=>hok g (by omega)));have GX:=A0 (show D6 s ⟨s3.nx.i,s3.nx.N++[(M.Nd.mk kk na nb nc n.list n.text n.n (-1) n.at')],s3.nx.T⟩ by
      have:=G1.out;simp only[D6,M.St.nx,List.length_append,List.length_cons,List.length_nil]at this⊢
      omega)
     have hxx:(0:Int)<=(s3.nx.N.length:Int)/\(s3.nx.N.length:Int)<((s3.nx.N++[(M.Nd.mk kk na nb nc n.list n.text n.n (-1) n.at')]).length:Int):=by simp;omega
     clear hp hb4;go_wp2_with fail
     refine HA.out.mono ?_;rintro e w9 ⟨rfl,k9,p9⟩;have K9:=A0 (K5.out.trans k9);have P9:=A0 p9;clear k9 p9 HA;go_wp2_with fail
     go_ret;exact D8 K9.out EV.out P9.out GX.out hxx
end
end Go.Proofs.YtgdnpemiiageaaaGreatDoor
