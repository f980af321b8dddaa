/-
  A part of the proof.
-/
import Derived.Test.YtgdnpemiiageaaaGreatDoorBnb
import Derived.Test.YtgdnpemiiageaaaGreatDoorBnv
set_option maxHeartbeats 16000000
set_option maxRecDepth 100000
namespace Go.Proofs.YtgdnpemiiageaaaGreatDoor
open Go.RowKit Go.Maps
theorem M.bnT_gen {k:Int} {tx:List UInt8} {n:Int} {ps:List M.Nt} (fs:List M.Fr) (b:Nat) (h:k≠5/\k≠18/\k≠17/\k≠16/\k≠6/\k≠26):M.bnT fs b (.nd k tx n ps)=M.bnL false fs b ps:=by
 obtain⟨h1,h2,h3,h4,h5,h6⟩:=h;rw[M.bnT,if_neg h1,if_neg h2,if_neg h3,if_neg h4,if_neg h5,if_neg h6]
theorem M.fn_parts {tx:List UInt8} {n:Int} {ps:List M.Nt} (hg:M.Gd (.nd 6 tx n ps)):∃pl o tx' n' qs,ps=pl++[.ty o,.nd 26 tx' n' qs]/\(∀p∈pl,p.k=16)/\∀p∈qs,1<=p.k:=by
 rw[M.Gd]at hg;obtain⟨hs,hgl⟩:=hg;unfold M.shp at hs;rw[if_neg (by decide),if_pos rfl]at hs;obtain⟨ks,r,he,hk,hr⟩:=hs;have hlen:=congrArg List.length he;simp at hlen;have h1:ps=ps.take ks.length++ps.drop ks.length:=(List.take_append_drop _ _).symm;have h2:(ps.take ks.length).map M.Nt.k=ks:=by rw[List.map_take,he];simp
 have h3:(ps.drop ks.length).map M.Nt.k=[r,26]:=by rw[List.map_drop,he];simp
 obtain⟨a,c,e,ha,hc⟩:=M.k2 h3;have hall:∀p∈ps,M.Gd p:=fun p hp=>M.Y7 hgl hp;have hga:M.Gd a:=hall a (by rw[h1,e];simp);have hgc:M.Gd c:=hall c (by rw[h1,e];simp);obtain⟨t,rfl⟩:=M.N2a hga (ha ▸ hr);cases c with
 |ty o=>cases o<;>simp[M.Nt.k]at hc
 |nd k2 t2 n2 p2=>
  have:k2=26:=hc;subst this;refine⟨ps.take ks.length,t,t2,n2,p2,by rw[<-e];exact h1,fun p hp=> ?_,fun p hp=> ?_⟩
  · exact hk _ (by rw[<-h2];exact List.mem_map.2 ⟨p,hp,rfl⟩)
  · rw[M.Gd]at hgc;have hs2:=hgc.1;simp only[M.shp]at hs2;rw[if_neg (by decide),if_neg (by decide),if_neg (by decide),if_neg (by decide),if_neg (by decide),if_neg (by decide),if_neg (by decide),if_neg (by decide),if_neg (by decide),if_neg (by decide),if_neg (by decide),if_neg (by decide),if_neg (by decide),if_pos (by decide)]at hs2;have:=hs2 _ (List.mem_map.2 ⟨p,hp,rfl⟩);omega
theorem M.blk_kinds {tx:List UInt8} {n:Int} {ps:List M.Nt} (hg:M.Gd (.nd 26 tx n ps)):∀p∈ps,1<=p.k:=fun p hp=>by
 rw[M.Gd]at hg;have hs2:=hg.1;simp only[M.shp]at hs2;rw[if_neg (by decide),if_neg (by decide),if_neg (by decide),if_neg (by decide),if_neg (by decide),if_neg (by decide),if_neg (by decide),if_neg (by decide),if_neg (by decide),if_neg (by decide),if_neg (by decide),if_neg (by decide),if_neg (by decide),if_pos (by decide)]at hs2;have:=hs2 _ (List.mem_map.2 ⟨p,hp,rfl⟩);omega
theorem M.let_parts {tx:List UInt8} {n:Int} {ps:List M.Nt} (hg:M.Gd (.nd 17 tx n ps)):∃o k2 t2 n2 p2,ps=[.ty o,.nd k2 t2 n2 p2]/\1<=k2:=by
 rw[M.Gd]at hg;obtain⟨hs,hgl⟩:=hg;simp only[M.shp]at hs;rw[if_neg (by decide),if_neg (by decide),if_neg (by decide),if_neg (by decide),if_neg (by decide),if_neg (by decide),if_neg (by decide),if_neg (by decide),if_neg (by decide),if_pos (by decide)]at hs;obtain⟨x,y,h1,h2,h3⟩:=hs;obtain⟨a,c,rfl,ha,hc⟩:=M.k2 h1;obtain⟨t,rfl⟩:=M.N2a (M.Y7 hgl (by simp)) (ha ▸ h2);cases c with
 |ty o=>cases o<;>(simp[M.Nt.k]at hc;subst hc;simp[M.isE]at h3)
 |nd k2 t2 n2 p2=>exact⟨t,k2,t2,n2,p2,rfl,by have:k2=y:=hc;rw[this];exact h3.1⟩
theorem M.par_parts {tx:List UInt8} {n:Int} {ps:List M.Nt} (hg:M.Gd (.nd 16 tx n ps)) {fs:List M.Fr} {b:Nat}:M.bnL false fs b ps= .ok fs []:=by
 rw[M.Gd]at hg;obtain⟨hs,hgl⟩:=hg;simp only[M.shp]at hs;rw[if_neg (by decide),if_neg (by decide),if_neg (by decide),if_neg (by decide),if_neg (by decide),if_neg (by decide),if_neg (by decide),if_neg (by decide),if_pos (by decide)]at hs;obtain⟨x,h1,h2⟩:=hs;obtain⟨a,rfl,ha⟩:=M.k1 h1;obtain⟨t,rfl⟩:=M.N2a (M.Y7 hgl (by simp)) (ha ▸ h2);rw[M.bnL,M.bnL]
theorem M.var_parts {tx:List UInt8} {n:Int} {ps:List M.Nt} (hg:M.Gd (.nd 5 tx n ps)):ps=[]:=by
 rw[M.Gd]at hg;have hs:=hg.1;simp only[M.shp]at hs;rw[if_pos (by decide)]at hs;simpa using hs
section
variable {w0:World} {B bb:Nat} {nv tv:Value} {N:List M.Nd}
def H9d (w0:World) (B bb:Nat) (nv tv:Value) (N:List M.Nd):Prop:=∀(i:Nat) (hi:i<N.length) (w:World) (m:Nat) (fs:List M.Fr) (ts:List Int),Bnt w0 w B bb nv tv m fs ts->fs≠[]->∀(b tb:Nat) (ps qs:List M.Nt),T6b N b tb ps N[i] qs->(∀p∈ps,1<=p.k->T7 w0 B bb nv tv N p)->∀m':Nat,m+2 * M.nNL ps<=m'->m'<=100000->fs.length+M.nNL ps<=100000->ts.length=N.length->(N[i]).list.length<=100000->(N[i]).text.length<=1000000->((N[i]).kind=5\/(N[i]).kind=18)->∀R:M.Br,(M.look (N[i]).text fs=none->R= .bad 5 i)->(∀j,M.look (N[i]).text fs=some j->R=(M.Br.ok fs [(i,j)]).and fun f=>M.bnL false f b ps)->
 Calls Tryz.prog 77 #[pV bb,iV (i:Int)] w (BnPost w0 w B bb nv tv N m' ts R)
theorem J7c (hV:H9d w0 B bb nv tv N) (hN:Nrow w0 nv N) (hNl:N.length<=10000) (hLs:∀nd∈N,nd.list.length<=100000/\nd.text.length<=1000000):∀(s:Nat) (t:M.Nt),M.szN t<=s->M.Gd t->1<=t.k->T7 w0 B bb nv tv N t:=by
 intro s;induction s with
 |zero=>intro t hs;have:=M.S5c t;omega
 |succ s ih=>
  intro t hs hg hk1 b tb w m fs ts hem h hfs hm hf hts;cases t with
  |ty o=>cases o<;>simp[M.Nt.k]at hk1
  |nd k tx n ps=>
   obtain⟨heL,hi,hnd⟩:=M.Em.parts hem;have hgl:M.GdL ps:=by rw[M.Gd]at hg;exact hg.2
   have hC:∀p∈ps,1<=p.k->T7 w0 B bb nv tv N p:=fun p hp h1=>by
    refine ih p ?_ (M.Y7 hgl hp) h1;have:=M.K0a hp;rw[M.szN]at hs;omega
   rw[M.Em.ix];have hnN:M.nN (.nd k tx n ps)=M.nNL ps+1:=by rw[M.nN]
   rw[hnN]at hm hf;obtain⟨hll,htl⟩:=hLs _ (List.getElem_mem hi);have hkd:(N[b+M.nNL ps]).kind=k:=(congrArg M.Nd.kind hnd).trans (M.A6a _ _ _ _);have htx:(N[b+M.nNL ps]).text=tx:=(congrArg M.Nd.text hnd).trans (M.F5a _ _ _ _).1;by_cases h17:k=17
   · subst h17;obtain⟨o,k2,t2,n2,p2,rfl,hk2⟩:=M.let_parts hg;have hnL:M.nNL [.ty o,.nd k2 t2 n2 p2]=M.nN (.nd k2 t2 n2 p2):=by simp[M.nNL,M.nN]
     have hnE:M.nN (.nd k2 t2 n2 p2)=M.nNL p2+1:=by rw[M.nN]
     obtain⟨-,he3⟩:=M.EmL.head heL;rw[M.nN,Nat.add_zero]at he3;obtain⟨-,hi2,hnd2⟩:=M.Em.parts (M.EmL.head he3).1;have hk2':(N[b+M.nNL p2]).kind=k2:=(congrArg M.Nd.kind hnd2).trans (M.A6a _ _ _ _);have hva:(N[b+M.nNL [.ty o,.nd k2 t2 n2 p2]]).a=((b+M.nNL p2:Nat):Int):=by
      have:=congrArg M.Nd.a hnd;refine this.trans ?_;simp only[M.mkN,M.ixL];rw[if_neg (by decide),if_neg (by decide),if_neg (by decide),if_neg (by decide),if_neg (by decide),if_pos (by decide)];simp only[List.getD_eq_getElem?_getD,List.getElem?_cons_succ,List.getElem?_cons_zero,Option.getD_some,M.nN,Nat.add_zero];exact M.Em.ix
     have hE:T7 w0 B bb nv tv N (.nd k2 t2 n2 p2):=hC _ (by simp) hk2;refine(J5c hN _ hi w m fs ts h hfs k2 (b+M.nNL p2) (M.nN (.nd k2 t2 n2 p2)) hi2 hk2' (by omega) (by omega) htl (by omega) hkd hva (fun f=>M.bnT f b (.nd k2 t2 n2 p2)) (fun f f' l hf e=>M.X9b _ f b hf f' l e) ?_ _ rfl).mono fun e w' hp=> ?_
     · intro a m1 f g ha hfl hm1 hgB hgb hgt ho;have hal:=L4a [.nd k2 t2 n2 p2] (fun p hp=>by simp only[List.mem_singleton]at hp;subst hp;exact⟨hk2,hE⟩) b _ a m1 f ts he3 ha (M.M6 hfs hfl) (by simp only[M.nNL];omega) (by simp only[M.nNL];omega) hts (some (aD g 0)) 1 [((b+M.nNL p2:Nat):Int)] (by simp[M.px]) ho (fun q hq=> .inr (by simp only[Value.ownBlock,Option.some.injEq]at hq;subst hq;exact⟨hgB,hgb,hgt⟩));rw[M.G2a _ _ _ _ (by exact hk2)]at hal;simp only[M.bnL,M.Br.and_nil,M.nNL,Nat.add_zero]at hal;exact hal
     · rw[M.bn_let fs b tx n o _ (by exact hk2)];rw[htx,hnL]at hp;rw[hnN,hnL];exact hp.more (by omega)
   by_cases h6:k=6
   · subst h6;obtain⟨pl,o,tx',n',qs,rfl,hpl,hqs⟩:=M.fn_parts hg;have hpl1:∀p∈pl,1<=p.k:=fun p hp=>by rw[hpl p hp];decide
     have hnL:M.nNL (pl++[.ty o,.nd 26 tx' n' qs])=M.nNL pl+M.nNL qs+1:=by rw[M.H2a];simp[M.nNL,M.nN];omega
     have hixl:M.ixL b tb (pl++[.ty o,.nd 26 tx' n' qs])=M.px b pl++[M.ixN (b+M.nNL pl) (tb+M.nTL pl) (.ty o),((b+M.nNL pl+M.nNL qs:Nat):Int)]:=by
      rw[M.Q7a,M.Y3 b tb pl hpl1];simp only[M.ixL,M.Em.ix,M.nN,Nat.add_zero]
     rw[hixl]at hnd;have hva:(N[b+M.nNL (pl++[.ty o,.nd 26 tx' n' qs])]).a=((b+M.nNL pl+M.nNL qs:Nat):Int):=by
      refine(congrArg M.Nd.a hnd).trans ?_;simp[M.mkN]
     have hlst:(N[b+M.nNL (pl++[.ty o,.nd 26 tx' n' qs])]).list=M.px b pl:=by
      refine(congrArg M.Nd.list hnd).trans ?_;simp[M.mkN]
     have hgb:M.Gd (.nd 26 tx' n' qs):=M.Y7 hgl (by simp);have hCq:∀p∈qs,1<=p.k/\T7 w0 B bb nv tv N p:=fun p hp=>by
      refine⟨hqs p hp,ih p ?_ (M.Y7 (by rw[M.Gd]at hgb;exact hgb.2) hp) (hqs p hp)⟩;have h1:=M.K0a hp;have h2:M.szN (.nd 26 tx' n' qs)<=M.G5c (pl++[.ty o,.nd 26 tx' n' qs]):=M.K0a (by simp);rw[M.szN]at hs h2;omega
     refine(U5c hN _ hi w m fs ts h pl o tx' n' qs (fun p hp=>⟨hpl p hp,hC p (by simp[hp]) (hpl1 p hp)⟩) hCq b tb heL (by omega) (by omega) hts (by omega) hkd hva hlst _ rfl).mono fun e w' hp=> ?_;rw[M.bnT,if_neg (by decide),if_neg (by decide),if_neg (by decide),if_neg (by decide),if_pos rfl];rw[hnN,hnL];exact hp.more (by omega)
   by_cases h26:k=26
   · subst h26;have hk:=M.blk_kinds hg;have hlst:(N[b+M.nNL ps]).list=M.px b ps:=by
      have:=congrArg M.Nd.list hnd;rw[M.Y3 _ _ ps hk]at this;exact this
     rw[hnN];refine(J6b hN _ hi w m fs ts h ps (fun p hp=>⟨hk p hp,hC p hp (hk p hp)⟩) b tb heL (by omega) (by omega) hts hkd hlst _ rfl).mono fun e w' hp=> ?_;rw[M.bnT,if_neg (by decide),if_neg (by decide),if_neg (by decide),if_neg (by decide),if_neg (by decide),if_pos rfl];exact hp.more (by omega)
   obtain⟨qs,hpt⟩:=I1c hg ⟨h6,h17,h26⟩ heL _ hnd;by_cases h16:k=16
   · subst h16;rw[hnN];refine(Q1b hN _ hi w m fs ts h hfs b tb ps qs hpt hC (m+2 * (M.nNL ps+1)) (by omega) (by omega) (by omega) hts hll htl (by omega) hkd _ rfl).mono fun e w' hp=> ?_;rw[M.bnT,if_neg (by decide),if_neg (by decide),if_neg (by decide),if_pos rfl];rw[htx,M.par_parts hg]at hp;exact hp
   by_cases h5:k=5\/k=18
   · rw[hnN];refine hV _ hi w m fs ts h hfs b tb ps qs hpt hC (m+2 * (M.nNL ps+1)) (by omega) (by omega) (by omega) hts hll htl (by rw[hkd];exact h5) _ (fun hl=> ?_) (fun j hl=> ?_)
     · rw[htx]at hl;rcases h5 with rfl|rfl
       · obtain rfl:=M.var_parts hg;rw[M.bnT,if_pos rfl,hl];rfl
       · rw[M.bnT,if_neg (by decide),if_pos rfl,hl]
     · rw[htx]at hl;rcases h5 with rfl|rfl
       · obtain rfl:=M.var_parts hg;rw[M.bnT,if_pos rfl,hl,M.Br.and_ok,M.bnL];rfl
       · rw[M.bnT,if_neg (by decide),if_pos rfl,hl]
   rw[hnN,M.bnT_gen fs b (by omega)];exact J6c hN _ hi w m fs ts h hfs b tb ps qs hpt hC (m+2 * (M.nNL ps+1)) (by omega) (by omega) (by omega) hts hll (by rw[hkd];omega)
end
open Go.RowKit Go.Maps
section
variable {w0:World} {B bb:Nat} {nv tv:Value} {N:List M.Nd} {T:List M.Ty} {ps:List M.Nt}
theorem M.Prgm.em (h:M.Prgm N T ps):M.Em N 0 0 (.nd 26 [] 0 ps):=⟨[],[],by simp[h.nodes],rfl⟩
theorem M.Prgm.cnt (h:M.Prgm N T ps):N.length=M.nNL ps+1:=by
 have:=congrArg List.length h.nodes;rw[List.length_map,M.W8,M.nN]at this;exact this
def M.bnP (ps:List M.Nt):M.Br:=M.bnT [] 0 (.nd 26 [] 0 ps)
theorem H5c (hV:H9d w0 B bb nv tv N) (hN:Nrow w0 nv N) (hP:M.Prgm N T ps) (htx:∀nd∈N,nd.text.length<=1000000) (w:World) (ts:List Int) (h:Bnt w0 w B bb nv tv 0 [] ts) (hts:ts.length=N.length):
 Calls Tryz.prog 77 #[pV bb,iV ((N.length - 1:Nat):Int)] w (BnPost w0 w B bb nv tv N 2400 ts (M.bnP ps)):=by
 obtain⟨heL,hi,hnd⟩:=M.Em.parts hP.em;have hc:=hP.cnt;have hl:=hP.lenN;have hg:M.Gd (.nd 26 [] 0 ps):=M.A2b _ (M.w26 hP.wn);have hgl:M.GdL ps:=by rw[M.Gd]at hg;exact hg.2
 have hk:=M.blk_kinds hg;have e1:N.length - 1=0+M.nNL ps:=by omega
 have hlst:(N[0+M.nNL ps]).list=M.px 0 ps:=by
  have:=congrArg M.Nd.list hnd;rw[M.Y3 _ _ ps hk]at this;exact this
 have hkd:(N[0+M.nNL ps]).kind=26:=(congrArg M.Nd.kind hnd).trans (M.A6a _ _ _ _);have hLs:∀nd∈N,nd.list.length<=100000/\nd.text.length<=1000000:=fun nd hm=>by
  refine⟨?_,htx nd hm⟩;obtain⟨i,hi,rfl⟩:=List.getElem_of_mem hm;have hm2:N[i].fl∈M.emN 0 0 (.nd 26 [] 0 ps):=by
   rw[<-hP.nodes];exact List.mem_map_of_mem (List.getElem_mem hi)
  have h1:=M.E2b (.nd 26 [] 0 ps) hg 0 0 _ hm2;have h4:N[i].fl.list=N[i].list:=rfl;rw[h4,M.nN]at h1;omega
 rw[e1];refine(J6b hN _ hi w 0 [] ts h ps (fun p hp=>⟨hk p hp,J7c hV hN (by omega) hLs _ p (Nat.le_refl _) (M.Y7 hgl hp) (hk p hp)⟩) 0 0 heL (by omega) (by simp;omega) hts hkd hlst _ rfl).mono fun e w' hp=> ?_;rw[M.bnP,M.bnT,if_neg (by decide),if_neg (by decide),if_neg (by decide),if_neg (by decide),if_neg (by decide),if_pos rfl];exact hp.more (by omega)
end
open Go.RowKit Go.Maps
theorem E5c {w0:World} {B bb:Nat} {nv tv:Value} {N:List M.Nd} (hN:Nrow w0 nv N):H9d w0 B bb nv tv N:=by
 intro i hi w m fs ts h hfs b tb ps qs hpt hC m' hm' hm hf hts hll htl hk R h0 h1;rcases hk with hk|hk
 · exact A3c hN i hi w m fs ts h hfs b tb ps qs hpt hC m' hm' hm hf hts hll htl hk R h0 h1
 · exact Q0b hN i hi w m fs ts h hfs b tb ps qs hpt hC m' hm' hm hf hts hll htl hk R h0 h1
open Go.RowKit Go.Maps
section
variable {w0 wb:World} {B bb:Nat} {nv tv:Value} {N:List M.Nd}
theorem Q6c (i:Nat) (w:World) (m:Nat) (ts:List Int) (R:M.Br) (HN:∀a,Chg No w a->Calls Tryz.prog 77 #[pV bb,iV (i:Int)] a (BnPost w0 wb B bb nv tv N m ts R))
 (g:Nat) (hg:g<w.heap.size) (hc:w.cell? (aD g 0)=some (iV (i:Int))):
 Calls Tryz.prog 49 #[pV bb,.slice (some (aD g 0)) 1 1] w (BnPost w0 wb B bb nv tv N m ts R):=by
 have HNN:=A0 HN;clear HN;go_enter Tryz.func49,Tryz.ntmps49;go_wp2_with fail
 go_loopw [8] (fun v wr=>(v=iV 0/\wr=w)\/(v=iV 1/\Hid (BnPost w0 wb B bb nv tv N m ts R (rT) wr))) (fun v _=>1 - (intOf v).toNat)
 case atStart=>exact .inl ⟨rfl,rfl⟩
 case round=>
  rcases hrel with ⟨rfl,rfl⟩|⟨rfl,H⟩
  · go_wp2_with fail
    refine(HNN.out _ (Chg.refl _ _)).mono ?_;rintro e w2 hp;have hp2:=hp.2;cases R with
    |bad er j=>
     obtain rfl:e=gu er (atI N j):=hp2;exact⟨rfl,hp⟩
    |ok f l=>
     obtain⟨rfl,-⟩:=hp2;have HP:=A0 hp;clear hp HNN;go_wp2_with fail
     all_goals go_roundw
     case rel=>exact .inr ⟨by go_num,HP⟩
     case measure=>simp[intOf]
  · go_wp2_with fail
    go_end0;exact H.out
theorem Z9b (i:Nat) (w:World) (m:Nat) (ts:List Int) (R:M.Br) (HN:∀a,Chg No w a->Calls Tryz.prog 77 #[pV bb,iV (i:Int)] a (BnPost w0 wb B bb nv tv N m ts R))
 (qb qp:Nat) (c0:w.cell? (aD qb 0)=some (pV bb)) (c1:w.cell? (aD qp 2)=some (iV (i:Int))):
 Calls Tryz.prog 48 #[pV qb,pV qp] w (BnPost w0 wb B bb nv tv N m ts R):=by
 have lp:=blt c1;have hb:=heap_alloc_new w (.cells #[iV (i:Int)] 3);have HA:=A0 (Q6c i (w.alloc (.cells #[iV (i:Int)] 3)) m ts R (fun a ha=>HN a (C8 (Chg.alloc No _ _) ha)) w.heap.size (by simp) (cr hb rfl));clear hb HN;go_enter Tryz.func48,Tryz.ntmps48;go_wp2_with fail
 refine HA.out.mono ?_;rintro e w2 hp;have hp2:=hp.2;cases R with
 |bad er j=>
  obtain rfl:e=gu er (atI N j):=hp2;exact⟨rfl,hp⟩
 |ok f l=>
  obtain⟨rfl,-⟩:=hp2;have HP:=A0 hp;clear hp HA;go_wp2;go_end0;exact HP.out
theorem Bnt.oth {w w':World} {m:Nat} {fs:List M.Fr} {ts:List Int} (h:Bnt w0 w B bb nv tv m fs ts) {q:Nat} {cs:Array Value} {e:TypeId} {fz:Nat×Nat} (hc:Chg (fun k=>k=q) w w') (hq:w.heap[q]? =some (.cells cs e fz)) (he:e≠3/\e≠90) (he2:e≠155) (hlow:w0.heap.size<=q):Bnt w0 w' B bb nv tv m fs ts:=by
 obtain⟨x1,x2⟩:=h.tv hq he;obtain⟨av,ms,hs⟩:=h.st;refine⟨h.hz,Nat.le_trans h.le hc.size,h.bel.trans (Chg.toBelow hc (fun k _ e=>by omega) h.bel.size),av,ms,hs.chg hc (Ne.symm x1) (fun g hg e=>J7 hs.ar hq (Ne.symm he2) (e ▸ hg)) (fun g hg e=>x2 (e ▸ hg)) (fun x hx e=> ?_)⟩;obtain⟨i,hi,rfl⟩:=List.getElem_of_mem hx;have:=hs.len;exact(hs.fr i hi (by omega)).notcells (e ▸ hq)
def FaP (w0 w:World) (B bb:Nat) (nv tv:Value) (N:List M.Nd) (m:Nat) (ts:List Int) (R:M.Br) (e:Ending) (w':World):Prop:=(Below w0.heap.size w0 w'/\∀(q:Nat) (cs:Array Value) (t:TypeId),w.heap[q]? =some (.cells cs t (0,0))->(t≠3/\t≠90)->t≠155->w'.heap[q]? =some (.cells cs t (0,0)))/\match R with
 | .bad er i=>e= .returned (.agg #[iV er,iV (atI N i)])
 | .ok f l=>e= .returned (.agg #[iV 0,iV 0])/\Bnt w0 w' B bb nv tv m f (M.upd ts l)
theorem S3b (i:Nat) (w:World) (m m0:Nat) (fs:List M.Fr) (ts:List Int) (R:M.Br) (h:Bnt w0 w B bb nv tv m0 fs ts) (HN:∀a,Chg No w a->Calls Tryz.prog 77 #[pV bb,iV (i:Int)] a (BnPost w0 a B bb nv tv N m ts R))
 (qb qp:Nat) (c0:w.cell? (aD qb 0)=some (pV bb)) (c1:w.cell? (aD qp 2)=some (iV (i:Int))):
 Calls Tryz.prog 18 #[.func (.func 48) #[] #[pV qb,pV qp]] w (FaP w0 w B bb nv tv N m ts R):=by
 have hmf:=mkf;have hca:=Chg.alloc No w (.cells #[iV 0,iV 0] 26);have h1:=h.kept hca;have HM:=Z9b (wb:=w.alloc (.cells #[iV 0,iV 0] 26)) i (w.alloc (.cells #[iV 0,iV 0] 26)) m ts R (fun a ha=>(HN a (C8 hca ha)).mono fun e w' hp=>BnPost.after (Bkp.still ha) hp) qb qp (A4 hca c0) (A4 hca c1);obtain⟨f1,f2,f3⟩:=h.fresh (Nat.le_refl _);have hbn:=heap_alloc_new w (.cells #[iV 0,iV 0] 26);have HKB:Hid (∀a,Bkp B bb tv (w.alloc (.cells #[iV 0,iV 0] 26)) a->a.heap[w.heap.size]? =some (.cells #[iV 0,iV 0] 26 (0,0))/\Below w0.heap.size w0 a):=fun a ha=>⟨ha.other hbn (by decide) f2 f3,h1.bel.trans ((ha.below h1.le).mono h1.hz)⟩;have hsz:w0.heap.size<=w.heap.size:=h.bel.size;have HKQ:Hid (∀a,Bkp B bb tv (w.alloc (.cells #[iV 0,iV 0] 26)) a->∀(q:Nat) (cs:Array Value) (t:TypeId),w.heap[q]? =some (.cells cs t (0,0))->(t≠3/\t≠90)->t≠155->q<w.heap.size/\a.heap[q]? =some (.cells cs t (0,0))):=fun a ha q cs t hq ht ht2=>by
  obtain⟨y1,y2⟩:=h.tv hq ht;have hl:=(ltG hq);exact⟨hl,ha.other (by rw[Below.heap_alloc _ _ _ hl];exact hq) ht2 y1 y2⟩
 clear h h1 HN hbn c0 c1 hca;go_enter_defers Tryz.func18,Tryz.ntmps18
 go_wp2_with fail
 refine HM.mono ?_;clear HM;rintro e w1 ⟨hk,hr⟩;obtain⟨hb1,hbl⟩:=HKB.out w1 hk;have HQ1:=A0 (HKQ.out w1 hk);clear HKQ;have q0:w1.cell? (aD w.heap.size 0)=some (iV 0):=cr hb1 rfl;have q1:w1.cell? (aD w.heap.size 1)=some (iV 0):=cr hb1 rfl;have hz:=(ltG hb1);have qf':∀o,w1.frozen? (aD w.heap.size o)=false:=fun o=>frozen_of_row w1 _ o _ _ hb1;have HBL:=A0 hbl;have HB1:=A0 hb1;clear hk hbl hb1 HKB;cases R with
 |bad er j=>
  obtain rfl:e=gu er (atI N j):=hr;unfold gu;refine leaves_cons (f:=32) (args:=#[pV w.heap.size]) (by simp) (by simp[go_sem]) ?_;refine(L3a w.heap.size er (atI N j) 0 0 [] _ q0 q1 qf').mono ?_;rintro e u' w2 ⟨rfl,rfl,hc,z0,z1⟩;have KX:FaP w0 w B bb nv tv N m ts (.bad er j) (.returned (.agg #[iV er,iV (atI N j)])) w2:=⟨⟨HBL.out.trans (Chg.toBelow hc (fun k _ x=>by omega) HBL.out.size),fun q cs t hq ht ht2=>by
   obtain⟨hl,h4⟩:=HQ1.out q cs t hq ht ht2;rw[hc.block q (by omega) (by omega)];exact h4⟩,rfl⟩
  generalize atI N j=pa at *;simp[Leaves,settle,results,Tryz.results18,go_sem,z0,z1];exact KX
 |ok f l=>
  obtain⟨rfl,hb⟩:=hr;have HB:=A0 hb;clear hb;go_wp2_with fail
  refine leaves_cons (f:=32) (args:=#[pV w.heap.size]) (by simp) (by simp[go_sem]) ?_;refine(J6a w.heap.size _).mono ?_;rintro e u' w6 ⟨rfl,rfl,hc6⟩;have s1:=heap_setCell_same w1 w.heap.size 0 _ _ (iV 0) HB1.out;have s2:=heap_setCell_same _ w.heap.size 1 _ _ (iV 0) s1;have z0:=A4 hc6 (show World.cell? _ (aD w.heap.size 0)=some (iV 0) from cr s2 rfl);have z1:=A4 hc6 (show World.cell? _ (aD w.heap.size 1)=some (iV 0) from cr s2 rfl);have hcs:Chg (fun k=>k=w.heap.size) w1 ((w1.setCell (aD w.heap.size 0) (iV 0)).setCell (aD w.heap.size 1) (iV 0)):=Chg.trans (Chg.set w1 (aD w.heap.size 0) _) (Chg.set _ (aD w.heap.size 1) _) (fun _ _ x=>x);have hb6:=(HB.out.oth hcs HB1.out (by decide) (by decide) hsz).kept hc6;have KX:FaP w0 w B bb nv tv N m ts (.ok f l) (.returned (.agg #[iV 0,iV 0])) w6:=⟨⟨hb6.bel,fun q cs t hq ht ht2=>by
   obtain⟨hl,h4⟩:=HQ1.out q cs t hq ht ht2;rw[hc6.block q (Nat.lt_of_lt_of_le (by omega) hcs.size) id,hcs.block q (by omega) (by omega)];exact h4⟩,rfl,hb6⟩
  simp[Leaves,settle,results,Tryz.results18,go_sem,z0,z1];exact KX
end
end Go.Proofs.YtgdnpemiiageaaaGreatDoor
