/-
  A part of the proof.
-/
import Derived.Test.YtfhhipefecekkaaGreatDoorBnb
import Derived.Test.YtfhhipefecekkaaGreatDoorPrs
import Derived.Test.YtfhhipefecekkaaGreatDoorCheckA
set_option maxHeartbeats 16000000
set_option maxRecDepth 100000
namespace Go.Proofs.YtfhhipefecekkaaGreatDoor
open Go.Proofs.Tryz
open Go.RowKit Go.Maps
theorem M.bnT_gen{k:Int}{tx:List UInt8}{n:Int}{ps:List M.Nt}(fs:List M.Fr)(b:Nat)(h:k≠5/\k≠18/\k≠17/\k≠16/\k≠6/\k≠26):M.bnT fs b (.nd k tx n ps)=M.bnL false fs b ps:=by
 obtain⟨h1,h2,h3,h4,h5,h6⟩:=h;rw[M.bnT,if_neg h1,if_neg h2,if_neg h3,if_neg h4,if_neg h5,if_neg h6]
theorem M.fn_parts{tx:List UInt8}{n:Int}{ps:List M.Nt}(hg:M.Gd (.nd 6 tx n ps)):∃pl o tx' n' qs,ps=pl++[.ty o,.nd 26 tx' n' qs]/\(∀p∈pl,p.k=16)/\∀p∈qs,1<=p.k:=by
 rw[M.Gd]at hg;obtain⟨hs,hgl⟩:=hg;unfold M.shp at hs;rw[if_neg (by decide),if_pos rfl]at hs;obtain⟨ks,r,he,hk,hr⟩:=hs;have hlen:=congrArg List.length he;simp at hlen;have h1:ps=ps.take ks.length++ps.drop ks.length:=(List.take_append_drop _ _).symm;have h2:(ps.take ks.length).map M.Nt.k=ks:=by rw[List.map_take,he];simp
 have h3:(ps.drop ks.length).map M.Nt.k=[r,26]:=by rw[List.map_drop,he];simp
 obtain⟨a,c,e,ha,hc⟩:=M.k2 h3;have hall:∀p∈ps,M.Gd p:=λp hp=>M.Y7 hgl hp;have hga:M.Gd a:=hall a (by rw[h1,e];simp);have hgc:M.Gd c:=hall c (by rw[h1,e];simp);obtain⟨t,rfl⟩:=M.N1a hga (ha ▸ hr);cases c with
 |ty o=>cases o<;>simp[M.Nt.k]at hc
 |nd k2 t2 n2 p2=>
  have:k2=26:=hc;subst this;refine⟨ps.take ks.length,t,t2,n2,p2,by rw[<-e];exact h1,λp hp=> ?_,λp hp=> ?_⟩
  · exact hk _ (by rw[<-h2];exact List.mem_map.2 ⟨p,hp,rfl⟩)
  · rw[M.Gd]at hgc;have hs2:=hgc.1;simp only[M.shp]at hs2;rw[if_neg (by decide),if_neg (by decide),if_neg (by decide),if_neg (by decide),if_neg (by decide),if_neg (by decide),if_neg (by decide),if_neg (by decide),if_neg (by decide),if_neg (by decide),if_neg (by decide),if_neg (by decide),if_neg (by decide),if_pos (by decide)]at hs2;have:=hs2 _ (List.mem_map.2 ⟨p,hp,rfl⟩);omega
theorem M.blk_kinds{tx:List UInt8}{n:Int}{ps:List M.Nt}(hg:M.Gd (.nd 26 tx n ps)):∀p∈ps,1<=p.k:=λp hp=>by
 rw[M.Gd]at hg;have hs2:=hg.1;simp only[M.shp]at hs2;rw[if_neg (by decide),if_neg (by decide),if_neg (by decide),if_neg (by decide),if_neg (by decide),if_neg (by decide),if_neg (by decide),if_neg (by decide),if_neg (by decide),if_neg (by decide),if_neg (by decide),if_neg (by decide),if_neg (by decide),if_pos (by decide)]at hs2;have:=hs2 _ (List.mem_map.2 ⟨p,hp,rfl⟩);omega
theorem M.let_parts{tx:List UInt8}{n:Int}{ps:List M.Nt}(hg:M.Gd (.nd 17 tx n ps)):∃o k2 t2 n2 p2,ps=[.ty o,.nd k2 t2 n2 p2]/\1<=k2:=by
 rw[M.Gd]at hg;obtain⟨hs,hgl⟩:=hg;simp only[M.shp]at hs;rw[if_neg (by decide),if_neg (by decide),if_neg (by decide),if_neg (by decide),if_neg (by decide),if_neg (by decide),if_neg (by decide),if_neg (by decide),if_neg (by decide),if_pos (by decide)]at hs;obtain⟨x,y,h1,h2,h3⟩:=hs;obtain⟨a,c,rfl,ha,hc⟩:=M.k2 h1;obtain⟨t,rfl⟩:=M.N1a (M.Y7 hgl (by simp)) (ha ▸ h2);cases c with
 |ty o=>cases o<;>(simp[M.Nt.k]at hc;subst hc;simp[M.isE]at h3)
 |nd k2 t2 n2 p2=>exact⟨t,k2,t2,n2,p2,rfl,by have:k2=y:=hc;rw[this];exact h3.1⟩
theorem M.par_parts{tx:List UInt8}{n:Int}{ps:List M.Nt}(hg:M.Gd (.nd 16 tx n ps)){fs:List M.Fr}{b:Nat}:M.bnL false fs b ps= .ok fs []:=by
 rw[M.Gd]at hg;obtain⟨hs,hgl⟩:=hg;simp only[M.shp]at hs;rw[if_neg (by decide),if_neg (by decide),if_neg (by decide),if_neg (by decide),if_neg (by decide),if_neg (by decide),if_neg (by decide),if_neg (by decide),if_pos (by decide)]at hs;obtain⟨x,h1,h2⟩:=hs;obtain⟨a,rfl,ha⟩:=M.k1 h1;obtain⟨t,rfl⟩:=M.N1a (M.Y7 hgl (by simp)) (ha ▸ h2);rw[M.bnL,M.bnL]
theorem M.var_parts{tx:List UInt8}{n:Int}{ps:List M.Nt}(hg:M.Gd (.nd 5 tx n ps)):ps=[]:=by
 rw[M.Gd]at hg;have hs:=hg.1;simp only[M.shp]at hs;rw[if_pos (by decide)]at hs;simpa using hs
section
variable{w0:World}{B bb:Nat}{nv tv:Value}{N:List M.Nd}
def J1d(w0:World)(B bb:Nat)(nv tv:Value)(N:List M.Nd):Prop:=∀(i:Nat) (hi:i<N.length) (w:World) (m:Nat) (fs:List M.Fr) (ts:List Int),Bnt w0 w B bb nv tv m fs ts->fs≠[]->∀(b tb:Nat) (ps qs:List M.Nt),E7c N b tb ps N[i] qs->(∀p∈ps,1<=p.k->U6 w0 B bb nv tv N p)->∀m':Nat,m+2 * M.nNL ps<=m'->m'<=100000->fs.length+M.nNL ps<=100000->ts.length=N.length->(N[i]).list.length<=100000->(N[i]).text.length<=1000000->((N[i]).kind=5\/(N[i]).kind=18)->∀R:M.Br,(M.look (N[i]).text fs=none->R= .bad 5 i)->(∀j,M.look (N[i]).text fs=some j->R=(M.Br.ok fs [(i,j)]).and λf=>M.bnL false f b ps)->
 Calls prog 92 #[pV bb,iV (i:Int)] w (BnPost w0 w B bb nv tv N m' ts R)
theorem L1c(hV:J1d w0 B bb nv tv N)(hN:Nrow w0 nv N)(hNl:N.length<=10000)(hLs:∀nd∈N,nd.list.length<=100000/\nd.text.length<=1000000):∀(s:Nat) (t:M.Nt),M.szN t<=s->M.Gd t->1<=t.k->U6 w0 B bb nv tv N t:=by
 intro s;induction s with
 |zero=>intro t hs;have:=M.U4c t;omega
 |succ s ih=>
  intro t hs hg hk1 b tb w m fs ts hem h hfs hm hf hts;cases t with
  |ty o=>cases o<;>simp[M.Nt.k]at hk1
  |nd k tx n ps=>
   obtain⟨heL,hi,hnd⟩:=M.Em.parts hem;have hgl:M.GdL ps:=by rw[M.Gd]at hg;exact hg.2
   have hC:∀p∈ps,1<=p.k->U6 w0 B bb nv tv N p:=λp hp h1=>by
    refine ih p ?_ (M.Y7 hgl hp) h1;have:=M.J6a hp;rw[M.szN]at hs;omega
   rw[M.Em.ix];have hnN:M.nN (.nd k tx n ps)=M.nNL ps+1:=by rw[M.nN]
   rw[hnN]at hm hf;obtain⟨hll,htl⟩:=hLs _ (mQ hi);have hkd:(N[b+M.nNL ps]).kind=k:=(congrArg M.Nd.kind hnd).trans (M.X8 _ _ _ _);have htx:(N[b+M.nNL ps]).text=tx:=(congrArg M.Nd.text hnd).trans (M.F0a _ _ _ _).1;by_cases h17:k=17
   · subst h17;obtain⟨o,k2,t2,n2,p2,rfl,hk2⟩:=M.let_parts hg;have hnL:M.nNL [.ty o,.nd k2 t2 n2 p2]=M.nN (.nd k2 t2 n2 p2):=by simp[M.nNL,M.nN]
     have hnE:M.nN (.nd k2 t2 n2 p2)=M.nNL p2+1:=by rw[M.nN]
     obtain⟨-,he3⟩:=M.EmL.head heL;rw[M.nN,Nat.add_zero]at he3;obtain⟨-,hi2,hnd2⟩:=M.Em.parts (M.EmL.head he3).1;have hk2':(N[b+M.nNL p2]).kind=k2:=(congrArg M.Nd.kind hnd2).trans (M.X8 _ _ _ _);have hva:(N[b+M.nNL [.ty o,.nd k2 t2 n2 p2]]).a=((b+M.nNL p2:Nat):Int):=by
      have:=congrArg M.Nd.a hnd;refine this.trans ?_;simp only[M.mkN,M.ixL];rw[if_neg (by decide),if_neg (by decide),if_neg (by decide),if_neg (by decide),if_neg (by decide),if_pos (by decide)];simp only[lQ,List.getElem?_cons_succ,List.getElem?_cons_zero,Option.getD_some,M.nN,Nat.add_zero];exact M.Em.ix
     have hE:U6 w0 B bb nv tv N (.nd k2 t2 n2 p2):=hC _ (by simp) hk2;refine(K9c hN _ hi w m fs ts h hfs k2 (b+M.nNL p2) (M.nN (.nd k2 t2 n2 p2)) hi2 hk2' (by omega) (by omega) htl (by omega) hkd hva (λf=>M.bnT f b (.nd k2 t2 n2 p2)) (λf f' l hf e=>M.Y9b _ f b hf f' l e) ?_ _ rfl).mono λe w' hp=> ?_
     · intro a m1 f g ha hfl hm1 hgB hgb hgt ho;have hal:=L5a [.nd k2 t2 n2 p2] (λp hp=>by simp only[zW]at hp;subst hp;exact⟨hk2,hE⟩) b _ a m1 f ts he3 ha (M.M4 hfs hfl) (by simp only[M.nNL];omega) (by simp only[M.nNL];omega) hts (some (aD g 0)) 1 [((b+M.nNL p2:Nat):Int)] (by simp[M.px]) ho (λq hq=> .inr (by simp only[Value.ownBlock,zQ]at hq;subst hq;exact⟨hgB,hgb,hgt⟩));rw[M.F8a _ _ _ _ (by exact hk2)]at hal;simp only[M.bnL,M.Br.and_nil,M.nNL,Nat.add_zero]at hal;exact hal
     · rw[M.bn_let fs b tx n o _ (by exact hk2)];rw[htx,hnL]at hp;rw[hnN,hnL];exact hp.more (by omega)
   by_cases h6:k=6
   · subst h6;obtain⟨pl,o,tx',n',qs,rfl,hpl,hqs⟩:=M.fn_parts hg;have hpl1:∀p∈pl,1<=p.k:=λp hp=>by rw[hpl p hp];decide
     have hnL:M.nNL (pl++[.ty o,.nd 26 tx' n' qs])=M.nNL pl+M.nNL qs+1:=by rw[M.G6a];simp[M.nNL,M.nN];omega
     have hixl:M.ixL b tb (pl++[.ty o,.nd 26 tx' n' qs])=M.px b pl++[M.ixN (b+M.nNL pl) (tb+M.nTL pl) (.ty o),((b+M.nNL pl+M.nNL qs:Nat):Int)]:=by
      rw[M.K9a,M.S6 b tb pl hpl1];simp only[M.ixL,M.Em.ix,M.nN,Nat.add_zero]
     rw[hixl]at hnd;have hva:(N[b+M.nNL (pl++[.ty o,.nd 26 tx' n' qs])]).a=((b+M.nNL pl+M.nNL qs:Nat):Int):=by
      refine(congrArg M.Nd.a hnd).trans ?_;simp[M.mkN]
     have hlst:(N[b+M.nNL (pl++[.ty o,.nd 26 tx' n' qs])]).list=M.px b pl:=by
      refine(congrArg M.Nd.list hnd).trans ?_;simp[M.mkN]
     have hgb:M.Gd (.nd 26 tx' n' qs):=M.Y7 hgl (by simp);have hCq:∀p∈qs,1<=p.k/\U6 w0 B bb nv tv N p:=λp hp=>by
      refine⟨hqs p hp,ih p ?_ (M.Y7 (by rw[M.Gd]at hgb;exact hgb.2) hp) (hqs p hp)⟩;have h1:=M.J6a hp;have h2:M.szN (.nd 26 tx' n' qs)<=M.H5c (pl++[.ty o,.nd 26 tx' n' qs]):=M.J6a (by simp);rw[M.szN]at hs h2;omega
     refine(W3c hN _ hi w m fs ts h pl o tx' n' qs (λp hp=>⟨hpl p hp,hC p (by simp[hp]) (hpl1 p hp)⟩) hCq b tb heL (by omega) (by omega) hts (by omega) hkd hva hlst _ rfl).mono λe w' hp=> ?_;rw[M.bnT,if_neg (by decide),if_neg (by decide),if_neg (by decide),if_neg (by decide),if_pos rfl];rw[hnN,hnL];exact hp.more (by omega)
   by_cases h26:k=26
   · subst h26;have hk:=M.blk_kinds hg;have hlst:(N[b+M.nNL ps]).list=M.px b ps:=by
      have:=congrArg M.Nd.list hnd;rw[M.S6 _ _ ps hk]at this;exact this
     rw[hnN];refine(J1b hN _ hi w m fs ts h ps (λp hp=>⟨hk p hp,hC p hp (hk p hp)⟩) b tb heL (by omega) (by omega) hts hkd hlst _ rfl).mono λe w' hp=> ?_;rw[M.bnT,if_neg (by decide),if_neg (by decide),if_neg (by decide),if_neg (by decide),if_neg (by decide),if_pos rfl];exact hp.more (by omega)
   obtain⟨qs,hpt⟩:=J4c hg ⟨h6,h17,h26⟩ heL _ hnd;by_cases h16:k=16
   · subst h16;rw[hnN];refine(Q2b hN _ hi w m fs ts h hfs b tb ps qs hpt hC (m+2 * (M.nNL ps+1)) (by omega) (by omega) (by omega) hts hll htl (by omega) hkd _ rfl).mono λe w' hp=> ?_;rw[M.bnT,if_neg (by decide),if_neg (by decide),if_neg (by decide),if_pos rfl];rw[htx,M.par_parts hg]at hp;exact hp
   by_cases h5:k=5\/k=18
   · rw[hnN];refine hV _ hi w m fs ts h hfs b tb ps qs hpt hC (m+2 * (M.nNL ps+1)) (by omega) (by omega) (by omega) hts hll htl (by rw[hkd];exact h5) _ (λhl=> ?_) (λj hl=> ?_)
     · rw[htx]at hl;rcases h5 with rfl|rfl
       · obtain rfl:=M.var_parts hg;rw[M.bnT,if_pos rfl,hl];rfl
       · rw[M.bnT,if_neg (by decide),if_pos rfl,hl]
     · rw[htx]at hl;rcases h5 with rfl|rfl
       · obtain rfl:=M.var_parts hg;rw[M.bnT,if_pos rfl,hl,M.Br.and_ok,M.bnL];rfl
       · rw[M.bnT,if_neg (by decide),if_pos rfl,hl]
   rw[hnN,M.bnT_gen fs b (by omega)];exact L0c hN _ hi w m fs ts h hfs b tb ps qs hpt hC (m+2 * (M.nNL ps+1)) (by omega) (by omega) (by omega) hts hll (by rw[hkd];omega)
end
section
variable{w0:World}{B bb:Nat}{nv tv:Value}{N:List M.Nd}{T:List M.Ty}{ps:List M.Nt}
theorem M.Prgm.em(h:M.Prgm N T ps):M.Em N 0 0 (.nd 26 [] 0 ps):=⟨[],[],by simp[h.nodes],rfl⟩
theorem M.Prgm.cnt(h:M.Prgm N T ps):N.length=M.nNL ps+1:=by
 have:=congrArg List.length h.nodes;rw[List.length_map,M.U3,M.nN]at this;exact this
def M.bnP(ps:List M.Nt):M.Br:=M.bnT [] 0 (.nd 26 [] 0 ps)
theorem I4c(hV:J1d w0 B bb nv tv N)(hN:Nrow w0 nv N)(hP:M.Prgm N T ps)(htx:∀nd∈N,nd.text.length<=1000000)(w:World)(ts:List Int)(h:Bnt w0 w B bb nv tv 0 [] ts)(hts:ts.length=N.length):
 Calls prog 92 #[pV bb,iV ((N.length - 1:Nat):Int)] w (BnPost w0 w B bb nv tv N 2400 ts (M.bnP ps)):=by
 obtain⟨heL,hi,hnd⟩:=M.Em.parts hP.em;have hc:=hP.cnt;have hl:=hP.lenN;have hg:M.Gd (.nd 26 [] 0 ps):=M.A1b _ (M.w26 hP.wn);have hgl:M.GdL ps:=by rw[M.Gd]at hg;exact hg.2
 have hk:=M.blk_kinds hg;have e1:N.length - 1=0+M.nNL ps:=by omega
 have hlst:(N[0+M.nNL ps]).list=M.px 0 ps:=by
  have:=congrArg M.Nd.list hnd;rw[M.S6 _ _ ps hk]at this;exact this
 have hkd:(N[0+M.nNL ps]).kind=26:=(congrArg M.Nd.kind hnd).trans (M.X8 _ _ _ _);have hLs:∀nd∈N,nd.list.length<=100000/\nd.text.length<=1000000:=λnd hm=>by
  refine⟨?_,htx nd hm⟩;obtain⟨i,hi,rfl⟩:=List.getElem_of_mem hm;have hm2:N[i].fl∈M.emN 0 0 (.nd 26 [] 0 ps):=by
   rw[<-hP.nodes];exact List.mem_map_of_mem (mQ hi)
  have h1:=M.D9b (.nd 26 [] 0 ps) hg 0 0 _ hm2;have h4:N[i].fl.list=N[i].list:=rfl;rw[h4,M.nN]at h1;omega
 rw[e1];refine(J1b hN _ hi w 0 [] ts h ps (λp hp=>⟨hk p hp,L1c hV hN (by omega) hLs _ p (vQ _) (M.Y7 hgl hp) (hk p hp)⟩) 0 0 heL (by omega) (by simp;omega) hts hkd hlst _ rfl).mono λe w' hp=> ?_;rw[M.bnP,M.bnT,if_neg (by decide),if_neg (by decide),if_neg (by decide),if_neg (by decide),if_neg (by decide),if_pos rfl];exact hp.more (by omega)
end
theorem F6c{w0:World}{B bb:Nat}{nv tv:Value}{N:List M.Nd}(hN:Nrow w0 nv N):J1d w0 B bb nv tv N:=by
 intro i hi w m fs ts h hfs b tb ps qs hpt hC m' hm' hm hf hts hll htl hk R h0 h1;exact K8c hN i hi w m fs ts h hfs b tb ps qs hpt hC m' hm' hm hf hts hll htl hk R h0 h1
section
variable{w0 wb:World}{B bb:Nat}{nv tv:Value}{N:List M.Nd}
theorem S3c(i:Nat)(w:World)(m:Nat)(ts:List Int)(R:M.Br)(HN:∀a,Chg No w a->Calls prog 92 #[pV bb,iV (i:Int)] a (BnPost w0 wb B bb nv tv N m ts R))
 (g:Nat) (hg:g<w.heap.size) (hc:w.cell? (aD g 0)=some (iV (i:Int))):
 Calls prog 66 #[pV bb,.slice (some (aD g 0)) 1 1] w (BnPost w0 wb B bb nv tv N m ts R):=by
 have HNN:=A0 HN;clear HN;go_enter func66,ntmps66;go_wp2_with fail
 go_loopw [8] (λv wr=>(v=iV 0/\wr=w)\/(v=iV 1/\Hid (BnPost w0 wb B bb nv tv N m ts R (rT) wr))) (λv _=>1 - (intOf v).toNat)
 case atStart=>exact .inl ⟨rfl,rfl⟩
 case round=>
  rcases hrel with ⟨rfl,rfl⟩|⟨rfl,H⟩
  · go_wp2_with fail
    refine(HNN.out _ (Chg.refl _ _)).mono ?_;rintro e w2 hp;have hp2:=hp.2;cases R with
    |bad er j=>
     obtain rfl:e=gu er (atI N j):=hp2;exact⟨rfl,hp⟩
    |ok f l=>
     obtain⟨rfl,-⟩:=hp2;have HP:=A0 hp;clear hp HNN;go_wp2_with fail
     all_goals go_roundw
     case rel=>exact .inr ⟨by go_num,HP⟩
     case measure=>simp[intOf]
  · go_wp2_with fail
    go_end0;exact H.out
theorem A7c(i:Nat)(w:World)(m:Nat)(ts:List Int)(R:M.Br)(HN:∀a,Chg No w a->Calls prog 92 #[pV bb,iV (i:Int)] a (BnPost w0 wb B bb nv tv N m ts R))
 (qb qp:Nat) (c0:w.cell? (aD qb 0)=some (pV bb)) (c1:w.cell? (aD qp 2)=some (iV (i:Int))):
 Calls prog 65 #[pV qb,pV qp] w (BnPost w0 wb B bb nv tv N m ts R):=by
 have lp:=blt c1;have hb:=heap_alloc_new w (.cells #[iV (i:Int)] 3);have HA:=A0 (S3c i (w.alloc (.cells #[iV (i:Int)] 3)) m ts R (λa ha=>HN a (B9 (Chg.alloc No _ _) ha)) w.heap.size (by simp) (cr hb rfl));clear hb HN;go_enter func65,ntmps65;go_wp2_with fail
 refine HA.out.mono ?_;rintro e w2 hp;have hp2:=hp.2;cases R with
 |bad er j=>
  obtain rfl:e=gu er (atI N j):=hp2;exact⟨rfl,hp⟩
 |ok f l=>
  obtain⟨rfl,-⟩:=hp2;have HP:=A0 hp;clear hp HA;go_wp2;go_end0;exact HP.out
theorem Bnt.oth{w w':World}{m:Nat}{fs:List M.Fr}{ts:List Int}(h:Bnt w0 w B bb nv tv m fs ts){q:Nat}{cs:Array Value}{e:TypeId}{fz:Nat×Nat}(hc:Chg (λk=>k=q) w w')(hq:w.heap[q]? =some (.cells cs e fz))(he:e≠3/\e≠86)(he2:e≠153)(hlow:w0.heap.size<=q):Bnt w0 w' B bb nv tv m fs ts:=by
 obtain⟨x1,x2⟩:=h.tv hq he;obtain⟨av,ms,hs⟩:=h.st;refine⟨h.hz,kQ h.le hc.size,h.bel.trans (Chg.toBelow hc (λk _ e=>by omega) h.bel.size),av,ms,hs.chg hc (Ne.symm x1) (λg hg e=>G8 hs.ar hq (Ne.symm he2) (e ▸ hg)) (λg hg e=>x2 (e ▸ hg)) (λx hx e=> ?_)⟩;obtain⟨i,hi,rfl⟩:=List.getElem_of_mem hx;have:=hs.len;exact(hs.fr i hi (by omega)).notcells (e ▸ hq)
def FaP(w0 w:World)(B bb:Nat)(nv tv:Value)(N:List M.Nd)(m:Nat)(ts:List Int)(R:M.Br)(e:Ending)(w':World):Prop:=(Below w0.heap.size w0 w'/\∀(q:Nat) (cs:Array Value) (t:TypeId),w.heap[q]? =some (.cells cs t (0,0))->(t≠3/\t≠86)->t≠153->w'.heap[q]? =some (.cells cs t (0,0)))/\match R with
 | .bad er i=>e= .returned (.agg #[iV er,iV (atI N i)])
 | .ok f l=>e= .returned (.agg #[iV 0,iV 0])/\Bnt w0 w' B bb nv tv m f (M.upd ts l)
theorem S7b(i:Nat)(w:World)(m m0:Nat)(fs:List M.Fr)(ts:List Int)(R:M.Br)(h:Bnt w0 w B bb nv tv m0 fs ts)(HN:∀a,Chg No w a->Calls prog 92 #[pV bb,iV (i:Int)] a (BnPost w0 a B bb nv tv N m ts R))
 (qb qp:Nat) (c0:w.cell? (aD qb 0)=some (pV bb)) (c1:w.cell? (aD qp 2)=some (iV (i:Int))):
 Calls prog 18 #[.func (.func 65) #[] #[pV qb,pV qp]] w (FaP w0 w B bb nv tv N m ts R):=by
 have hmf:=mkf;have hca:=Chg.alloc No w (.cells #[iV 0,iV 0] 26);have h1:=h.kept hca;have HM:=A7c (wb:=w.alloc (.cells #[iV 0,iV 0] 26)) i (w.alloc (.cells #[iV 0,iV 0] 26)) m ts R (λa ha=>(HN a (B9 hca ha)).mono λe w' hp=>BnPost.after (Bkp.still ha) hp) qb qp (A8 hca c0) (A8 hca c1);obtain⟨f1,f2,f3⟩:=h.fresh (vQ _);have hbn:=heap_alloc_new w (.cells #[iV 0,iV 0] 26);have HKB:Hid (∀a,Bkp B bb tv (w.alloc (.cells #[iV 0,iV 0] 26)) a->a.heap[w.heap.size]? =some (.cells #[iV 0,iV 0] 26 (0,0))/\Below w0.heap.size w0 a):=λa ha=>⟨ha.other hbn (by decide) f2 f3,h1.bel.trans ((ha.below h1.le).mono h1.hz)⟩;have hsz:w0.heap.size<=w.heap.size:=h.bel.size;have HKQ:Hid (∀a,Bkp B bb tv (w.alloc (.cells #[iV 0,iV 0] 26)) a->∀(q:Nat) (cs:Array Value) (t:TypeId),w.heap[q]? =some (.cells cs t (0,0))->(t≠3/\t≠86)->t≠153->q<w.heap.size/\a.heap[q]? =some (.cells cs t (0,0))):=λa ha q cs t hq ht ht2=>by
  obtain⟨y1,y2⟩:=h.tv hq ht;have hl:=(ltG hq);exact⟨hl,ha.other (by rw[Below.heap_alloc _ _ _ hl];exact hq) ht2 y1 y2⟩
 clear h h1 HN hbn c0 c1 hca;go_enter_defers func18,ntmps18
 go_wp2_with fail
 refine HM.mono ?_;clear HM;rintro e w1 ⟨hk,hr⟩;obtain⟨hb1,hbl⟩:=HKB.out w1 hk;have HQ1:=A0 (HKQ.out w1 hk);clear HKQ;have q0:w1.cell? (aD w.heap.size 0)=some (iV 0):=cr hb1 rfl;have q1:w1.cell? (aD w.heap.size 1)=some (iV 0):=cr hb1 rfl;have hz:=(ltG hb1);have qf':∀o,w1.frozen? (aD w.heap.size o)=false:=λo=>frozen_of_row w1 _ o _ _ hb1;have HBL:=A0 hbl;have HB1:=A0 hb1;clear hk hbl hb1 HKB;cases R with
 |bad er j=>
  obtain rfl:e=gu er (atI N j):=hr;unfold gu;refine leaves_cons (f:=39) (args:=#[pV w.heap.size]) (by simp) (by simp[go_sem]) ?_;refine(L3a w.heap.size er (atI N j) 0 0 [] _ q0 q1 qf').mono ?_;rintro e u' w2 ⟨rfl,rfl,hc,z0,z1⟩;have KX:FaP w0 w B bb nv tv N m ts (.bad er j) (.returned (.agg #[iV er,iV (atI N j)])) w2:=⟨⟨HBL.out.trans (Chg.toBelow hc (λk _ x=>by omega) HBL.out.size),λq cs t hq ht ht2=>by
   obtain⟨hl,h4⟩:=HQ1.out q cs t hq ht ht2;rw[hc.block q (by omega) (by omega)];exact h4⟩,rfl⟩
  generalize atI N j=pa at *;simp[Leaves,settle,results,results18,go_sem,z0,z1];exact KX
 |ok f l=>
  obtain⟨rfl,hb⟩:=hr;have HB:=A0 hb;clear hb;go_wp2_with fail
  refine leaves_cons (f:=39) (args:=#[pV w.heap.size]) (by simp) (by simp[go_sem]) ?_;refine(J1a w.heap.size _).mono ?_;rintro e u' w6 ⟨rfl,rfl,hc6⟩;have s1:=heap_setCell_same w1 w.heap.size 0 _ _ (iV 0) HB1.out;have s2:=heap_setCell_same _ w.heap.size 1 _ _ (iV 0) s1;have z0:=A8 hc6 (show World.cell? _ (aD w.heap.size 0)=some (iV 0) from cr s2 rfl);have z1:=A8 hc6 (show World.cell? _ (aD w.heap.size 1)=some (iV 0) from cr s2 rfl);have hcs:Chg (λk=>k=w.heap.size) w1 ((w1.setCell (aD w.heap.size 0) (iV 0)).setCell (aD w.heap.size 1) (iV 0)):=Chg.trans (Chg.set w1 (aD w.heap.size 0) _) (Chg.set _ (aD w.heap.size 1) _) (λ_ _ x=>x);have hb6:=(HB.out.oth hcs HB1.out (by decide) (by decide) hsz).kept hc6;have KX:FaP w0 w B bb nv tv N m ts (.ok f l) (.returned (.agg #[iV 0,iV 0])) w6:=⟨⟨hb6.bel,λq cs t hq ht ht2=>by
   obtain⟨hl,h4⟩:=HQ1.out q cs t hq ht ht2;rw[hc6.block q (yQ (by omega) hcs.size) id,hcs.block q (by omega) (by omega)];exact h4⟩,rfl,hb6⟩
  simp[Leaves,settle,results,results18,go_sem,z0,z1];exact KX
end
theorem Nrow.keep{S:Nat->Prop}{w w':World}{nv:Value}{N:List M.Nd}(h:Nrow w nv N)(hc:Chg S w w')(hs:∀k cs e fz,w.heap[k]? =some (.cells cs e fz)->(e=70\/e=121\/e=3)->¬S k):Nrow w' nv N:=by
 obtain⟨nx,h1,h2⟩:=h;refine⟨nx,A3 h1 hc λg hg x=> ?_,h2.imp (NdV.chg hc (λg _ _ hx hh=> ?_) (λ_ _ _=>trivial))⟩
 · obtain⟨_,cur,hh⟩:=A9 h1 g hg;exact hs _ _ _ _ hh (.inl rfl) x
 · obtain⟨cur,e,hh,he⟩:=hh;exact hs _ _ _ _ hh (.inr he) hx
def RdB(l:List UInt8)(w:World)(e:Ending)(w':World):Prop:=Below w.heap.size w w'/\
 ((∃er p,M.PRes l (.inl (er,p))/\e= .returned (.tuple #[.pointer none,.agg #[iV er,iV p]]))\/
  ∃N T ps B bb nv tv,M.PRes l (.inr (N,T))/\M.Prgm N T ps/\w.heap.size<=B/\match M.bnP ps with
   | .bad er i=>e= .returned (.tuple #[pV bb,.agg #[iV er,iV (atI N i)]])
   | .ok fs l=>e= .returned (.tuple #[pV bb,.agg #[iV 0,iV 0]])/\∃av ms,Bsx w' B bb nv av tv ms 2400 fs (M.upd (List.replicate N.length (-1)) l)/\Nrow w' nv N)
theorem E2d{l:List UInt8}{w w1 w5 wa:World}{N:List M.Nd}{T:List M.Ty}{ps:List M.Nt}{nv tv:Value}{x y:Int}{bb:Nat}(hb:Below w.heap.size w w1)(hw:w.heap.size<w1.heap.size)(hr:M.PRes l (.inr (N,T)))(hP:M.Prgm N T ps)(hNr:Nrow w1 nv N)(hf:w5.heap[w.heap.size]? =some (.cells #[iV 0,iV 0] 26 (0,0)))(h5:FaP w1 wa w1.heap.size bb nv tv N 2400 (List.replicate N.length (-1)) (M.bnP ps) (.returned (.agg #[iV x,iV y])) w5):
 RdB l w (.returned (.tuple #[pV bb,.agg #[iV x,iV y]])) ((w5.setCell (aD w.heap.size 0) (iV x)).setCell (aD w.heap.size 1) (iV y)):=by
 have hcs:Chg (λk=>k=w.heap.size) w5 ((w5.setCell (aD w.heap.size 0) (iV x)).setCell (aD w.heap.size 1) (iV y)):=Chg.trans (Chg.set w5 (aD w.heap.size 0) _) (Chg.set _ (aD w.heap.size 1) _) (λ_ _ x=>x);have h1:=hb.trans (h5.1.1.mono (by omega));refine⟨h1.trans (Chg.toBelow hcs (λk _ e=>by omega) h1.size),.inr ⟨N,T,ps,w1.heap.size,bb,nv,tv,hr,hP,by omega, ?_⟩⟩;have h6:=h5.2;cases hbp:M.bnP ps with
 |bad er i=>
  rw[hbp]at h6;simp only[Ending.returned.injEq,Value.agg.injEq]at h6;show _=_;rw[h6]
 |ok f l2=>
  rw[hbp]at h6;obtain⟨h6,h7⟩:=h6;simp only[Ending.returned.injEq,Value.agg.injEq]at h6;obtain⟨av,ms,hs⟩:=h7.st;refine⟨by rw[h6],av,ms,hs.chg hcs (λe=> ?_) (λg hg e=> ?_) (λg hg e=> ?_) (λg hg e=> ?_),(hNr.keep ((Chg.below h7.bel).mono (S':=λ_=>False) λ_ hi x=>by omega) (λ_ _ _ _ _ _ x=>x)).keep hcs (λk cs e fz hk he x=> ?_)⟩
  · have:=hs.low;omega
  · have:=(hs.ar.lt g hg).1;omega
  · have:=(hs.tos.lt g hg).1;omega
  · have:=hs.ge g hg;omega
  · have x':k=w.heap.size:=x;subst x';rw[hf]at hk;simp only[zQ,xW]at hk;rcases he with rfl|rfl|rfl<;>simp at hk
section
theorem I6c(s:ByteArray)(w:World)(hs:s.size<=maxLen):Calls prog 33 #[.string s] w (RdB s.data.toList w):=by
 have HP:=A0 (λw1=>Z4a s w1 hs);have hb0:=heap_alloc_new w (.cells #[iV 0,iV 0] 26);obtain⟨i0,hi,hz0,hz1,hz2⟩:=info_parts Tryz.infoInt;clear hs;go_enter func33,ntmps33;go_wp2_with fail
 refine(HP.out _).mono ?_;clear HP;rintro e w1 ⟨hbel,⟨er,p,hr,rfl⟩|⟨N,T,na,nc,ya,yc,hr,rfl,hN,hT⟩⟩
 · have f0:w1.heap[w.heap.size]? =some (.cells #[iV 0,iV 0] 26 (0,0)):=by
    rw[hbel.block _ (by simp)];exact hb0
   have g0:w1.cell? (aD w.heap.size 0)=some (iV 0):=cr f0 rfl;have g1:w1.cell? (aD w.heap.size 1)=some (iV 0):=cr f0 rfl;have gz:∀o,w1.frozen? (aD w.heap.size o)=false:=λo=>frozen_of_row w1 _ o _ _ f0;have gl:=(ltG f0);have her:(er !=0)=true:=by simp[hr.1]
   have HBW:Hid (Below w.heap.size w w1):=(Chg.toBelow (Chg.alloc No w _) (λ_ _ x=>x.elim) (vQ _)).trans (hbel.mono (by simp));have HRR:=A0 hr;clear hr hbel hb0 f0;go_wp2_with fail
   go_region
   all_goals go_wp2_with fail
   all_goals
    have hcS:Chg (λk=>k=w.heap.size) w1 ((w1.setCell (aD w.heap.size 0) (iV er)).setCell (aD w.heap.size 1) (iV p)):=Chg.trans (Chg.set w1 (aD w.heap.size 0) _) (Chg.set _ (aD w.heap.size 1) _) (λ_ _ x=>x);have hR:RdB s.data.toList w (.returned (.tuple #[.pointer none,.agg #[iV er,iV p]])) _:=⟨HBW.out.trans (Chg.toBelow (Chg.trans hcS (B9 (B9 (Chg.alloc No _ (.cells #[sN,sN,iV 0] 41)) (Chg.alloc No _ (.cells #[iV er,iV p] 26))) (Chg.drewN No _ 1)) (λ_ _ x=>x.elim)) (λk _ e=>by omega) HBW.out.size),.inl ⟨er,p,HRR.out,rfl⟩⟩;exact bodyPost_ret (v:= .tuple #[.pointer none,.agg #[iV er,iV p]]) (by simp[results,results33,go_sem,g0,g1,gl]) rfl hR
 · obtain⟨ps,hP⟩:=M.P5b hr;have hNl:=hP.lenN;have W2:Hid (∃wz,wz=(((w1.alloc (.cells #[.slice na N.length nc,.slice ya T.length yc,iV ((N.length:Int) - 1)] 41)).alloc (.cells #[iV 0,iV 0] 26)).alloc (.cells #[.slice na N.length nc,sN,sN] 86)).alloc (.cells #[pV (w1.heap.size+1+1)] 81)):=⟨_,rfl⟩;have HPP:=A0 hP;have HNO:=A0 hN;have HBE:=A0 hbel;have HBW:Hid (Below w.heap.size w w1):=(Chg.toBelow (Chg.alloc No w _) (λ_ _ x=>x.elim) (vQ _)).trans (hbel.mono (by simp));have HRR:=A0 hr;have f0:w1.heap[w.heap.size]? =some (.cells #[iV 0,iV 0] 26 (0,0)):=by
    rw[hbel.block _ (by simp)];exact hb0
   have F0:=A0 f0;have hwz:w.heap.size<w1.heap.size:=(ltG f0);have hc1:1<=N.length:=by have:=hP.cnt;omega
   clear hT hN hbel hr hP hb0 f0;go_wp2_with fail
   have BZ:Hid (Bmk ((((w1.alloc (.cells #[.slice na N.length nc,.slice ya T.length yc,iV ((N.length:Int) - 1)] 41)).alloc (.cells #[iV 0,iV 0] 26)).alloc (.cells #[.slice na N.length nc,sN,sN] 86)).alloc (.cells #[pV (w1.heap.size+1+1)] 81)) ((((w1.alloc (.cells #[.slice na N.length nc,.slice ya T.length yc,iV ((N.length:Int) - 1)] 41)).alloc (.cells #[iV 0,iV 0] 26)).alloc (.cells #[.slice na N.length nc,sN,sN] 86)).alloc (.cells #[pV (w1.heap.size+1+1)] 81)) w1.heap.size (w1.heap.size+1+1) (.slice na N.length nc) (sN) 0):=by
    refine⟨by omega, ?_,kW _ _ _ _,Chg.refl _ _⟩;rw[Below.heap_alloc _ _ _ (by simp)];have:=heap_alloc_new ((w1.alloc (.cells #[.slice na N.length nc,.slice ya T.length yc,iV ((N.length:Int) - 1)] 41)).alloc (.cells #[iV 0,iV 0] 26)) (.cells #[.slice na N.length nc,sN,sN] 86);simpa using this
   have q0:((((w1.alloc (.cells #[.slice na N.length nc,.slice ya T.length yc,iV ((N.length:Int) - 1)] 41)).alloc (.cells #[iV 0,iV 0] 26)).alloc (.cells #[.slice na N.length nc,sN,sN] 86)).alloc (.cells #[pV (w1.heap.size+1+1)] 81)).heap[w1.heap.size+1+1+1]? =some (.cells #[pV (w1.heap.size+1+1)] 81 (0,0)):=by
    have:=heap_alloc_new (((w1.alloc (.cells #[.slice na N.length nc,.slice ya T.length yc,iV ((N.length:Int) - 1)] 41)).alloc (.cells #[iV 0,iV 0] 26)).alloc (.cells #[.slice na N.length nc,sN,sN] 86)) (.cells #[pV (w1.heap.size+1+1)] 81);simpa using this
   have HBZ:Hid (Below w1.heap.size w1 ((((w1.alloc (.cells #[.slice na N.length nc,.slice ya T.length yc,iV ((N.length:Int) - 1)] 41)).alloc (.cells #[iV 0,iV 0] 26)).alloc (.cells #[.slice na N.length nc,sN,sN] 86)).alloc (.cells #[pV (w1.heap.size+1+1)] 81))):=Chg.toBelow (B9 (B9 (Chg.alloc No _ _) (Chg.alloc No _ _)) (B9 (Chg.alloc No _ _) (Chg.alloc No _ _))) (λ_ _ x=>x.elim) (vQ _);have p0:((((w1.alloc (.cells #[.slice na N.length nc,.slice ya T.length yc,iV ((N.length:Int) - 1)] 41)).alloc (.cells #[iV 0,iV 0] 26)).alloc (.cells #[.slice na N.length nc,sN,sN] 86)).alloc (.cells #[pV (w1.heap.size+1+1)] 81)).heap[w1.heap.size]? =some (.cells #[.slice na N.length nc,.slice ya T.length yc,iV ((N.length:Int) - 1)] 41 (0,0)):=by
    rw[Below.heap_alloc _ _ _ (by simp;omega),Below.heap_alloc _ _ _ (by simp;omega),Below.heap_alloc _ _ _ (by simp)];exact heap_alloc_new w1 _
   clear W2;generalize ((((w1.alloc (.cells #[.slice na N.length nc,.slice ya T.length yc,iV ((N.length:Int) - 1)] 41)).alloc (.cells #[iV 0,iV 0] 26)).alloc (.cells #[.slice na N.length nc,sN,sN] 86)).alloc (.cells #[pV (w1.heap.size+1+1)] 81))=wz at *;have qbz:w1.heap.size+1+1+1<wz.heap.size:=(ltG q0);have QB:Hid (∀a tv j,Bmk wz a w1.heap.size (w1.heap.size+1+1) (.slice na N.length nc) tv j->a.cell? (aD (w1.heap.size+1+1+1) 0)=some (pV (w1.heap.size+1+1))/\a.cell? (aD (w1.heap.size+1+1) 2)=some tv/\(∀o,a.frozen? (aD (w1.heap.size+1+1) o)=false)/\w1.heap.size+1+1<a.heap.size/\w1.heap.size+1+1+1<a.heap.size):=λa tv j h=>by
    have q1:=h.chg.block _ (ltG q0) (by omega);rw[q0]at q1;exact⟨cr q1 rfl,cr h.blk rfl,λo=>frozen_of_row a _ o _ _ h.blk,(ltG h.blk),(ltG q1)⟩
   go_loopw [23] (λv wr=>∃(j:Nat) (tv:Value),j<=N.length/\v=iV (j:Int)/\Hid (Bmk wz wr w1.heap.size (w1.heap.size+1+1) (.slice na N.length nc) tv j)) (λv _=>N.length - (intOf v).toNat)
   case atStart=>exact⟨0,_,wQ _,rfl,BZ⟩
   case round=>
    obtain⟨j,tv,hj,rfl,BM⟩:=hrel;obtain⟨qa,qc,qz,ql,ql3⟩:=QB.out _ _ _ BM.out;by_cases hjl:j<N.length
    · obtain⟨ad,c,rfl⟩:=B7 BM.out.tos;have HY:=A0 (A3 BM.out.tos (B9 (Chg.drewN No wr 1) (Chg.alloc No _ (.cells #[iV (-1)] 3))) (λ_ _ x=>x));have hcA:Chg No wr (wr.drew.alloc (.cells #[iV (-1)] 3)):=B9 (Chg.drewN No wr 1) (Chg.alloc No _ (.cells #[iV (-1)] 3));have HCA:=A0 hcA;have hne:(Value.slice ad j c).ownBlock≠some (w1.heap.size+1+1):=G8 BM.out.tos BM.out.blk (by decide);have hne3:(Value.slice ad j c).ownBlock≠some (w1.heap.size+1+1+1):=λe=>by
       have:=(BM.out.tos.lt _ e).1;omega
      have hbz:wz.heap.size<=wr.heap.size:=BM.out.chg.size;clear hcA;go_wp2_with fail
      go_region_law (
       refine step_append_lies _ (by rfl) _ _ _ (by rfl) wz.heap.size 3 i0 (iV 0) 1 8 underlying43 hi hz0 hz1 hz2 rfl (by omega) (.slice ad j c) j (B8 (List.replicate j (-1))) (by rfl) HY.out (aD wr.heap.size 0) 1 1 [iV (-1)] (by rfl) (by rfl) (World.news_of_block (cs:=#[iV (-1)]) (t:=3) (fr:=(0,0)) (heap_alloc_new wr.drew _)) (by simp[Value.oneCell']) (by omega) (by simp only[maxLen];omega) (by omega) (by simp;omega) (wr.heap.size+1) (by simp) ?_;intro gg cap w4 hown1 hgrow hat1 hlt1;have z4:w4.cell? (aD (w1.heap.size+1+1) 2)=some (.slice ad j c):=by rw[hgrow.cell_far _ (by simp;omega) (Ne.symm hne)];exact A8 HCA.out qc
       have z5:w4.cell? (aD (w1.heap.size+1+1+1) 0)=some (pV (w1.heap.size+1+1)):=by rw[hgrow.cell_far _ (by simp;omega) (Ne.symm hne3)];exact A8 HCA.out qa
       have y4:w4.frozen? (aD (w1.heap.size+1+1) 2)=false:=by rw[hgrow.frozen_far _ (by simp;omega) (Ne.symm hne)];exact S7 (w:=wr.drew) ql (qz 2))
      all_goals
       have HG:Hid (Bmk wz (w4.setCell (aD (w1.heap.size+1+1) 2) (.slice (some (aD gg 0)) (j+1) cap)) w1.heap.size (w1.heap.size+1+1) (.slice na N.length nc) (.slice (some (aD gg 0)) (j+1) cap) (j+1)):=BM.out.grow HCA.out (Chg.grown hgrow) hown1;clear hown1 hgrow hat1 HY;go_wp2;go_roundw
       case rel=>exact⟨j+1,_,by omega,by go_num,HG⟩
       case measure=>simp[intOf];omega
    · have hje:j=N.length:=by omega
      subst hje;have hNr:Nrow w1 (.slice na N.length nc) N:=by
       obtain⟨nx,h1,h2⟩:=HNO.out;exact⟨nx,C7 h1 (wQ _),h2.imp (λn xs h=>by obtain⟨lv,e,ho,_⟩:=h;exact⟨lv,e,ho,λ_ _=>trivial⟩)⟩
      have HNR:=A0 hNr;have hB:=BM.out.done (w0:=w1) (vQ _) (by omega) HBZ.out;have hcast:(N.length:Int) - 1=((N.length - 1:Nat):Int):=by omega
      have p1:wr.heap[w1.heap.size]? =some (.cells #[.slice na N.length nc,.slice ya T.length yc,iV ((N.length:Int) - 1)] 41 (0,0)):=by
       rw[BM.out.chg.block _ (ltG p0) (by omega)];exact p0
      have p2:wr.cell? (aD w1.heap.size 2)=some (iV ((N.length - 1:Nat):Int)):=by rw[<-hcast,cell_of_row _ _ 2 _ _ _ p1];rfl
      have q1:wr.heap[w1.heap.size+1+1+1]? =some (.cells #[pV (w1.heap.size+1+1)] 81 (0,0)):=by
       rw[BM.out.chg.block _ qbz (by omega)];exact q0
      have HF:Hid (∀a,Chg No wr a->Calls prog 18 #[.func (.func 65) #[] #[pV (w1.heap.size+1+1+1),pV w1.heap.size]] a λe w5=>∃x y,e= .returned (.agg #[iV x,iV y])/\w5.cell? (aD (w1.heap.size+1+1+1) 0)=some (pV (w1.heap.size+1+1))/\(w5.cell? (aD w.heap.size 0)=some (iV 0)/\w5.cell? (aD w.heap.size 1)=some (iV 0)/\(∀o,w5.frozen? (aD w.heap.size o)=false)/\w.heap.size<w5.heap.size)/\
       Hid (w5.heap[w.heap.size]? =some (.cells #[iV 0,iV 0] 26 (0,0))/\FaP w1 a w1.heap.size (w1.heap.size+1+1) (.slice na N.length nc) tv N 2400 (List.replicate N.length (-1)) (M.bnP ps) (.returned (.agg #[iV x,iV y])) w5)):=by
       intro a ha;refine(S7b (N.length - 1) a 2400 0 [] (List.replicate N.length (-1)) (M.bnP ps) (hB.kept ha) (λa2 h2=>I4c (F6c hNr) hNr HPP.out (λnd hm=>kQ (HPP.out.tx nd hm) (by decide)) a2 _ ((hB.kept ha).kept h2) (by simp)) (w1.heap.size+1+1+1) w1.heap.size (A8 ha (cr q1 rfl)) (A8 ha p2)).mono ?_;rintro e w5 h5;have r0:w5.heap[w.heap.size]? =some (.cells #[iV 0,iV 0] 26 (0,0)):=by rw[h5.1.1.block _ hwz];exact F0.out
       have q5:=h5.1.2 _ _ _ (show a.heap[w1.heap.size+1+1+1]? =_ by rw[ha.block _ (ltG q1) id];exact q1) (by decide) (by decide);have hxy:∃x y,e= .returned (.agg #[iV x,iV y]):=by
        have h6:=h5.2;cases hbp:M.bnP ps with
        |bad er i=>rw[hbp]at h6;exact⟨_,_,h6⟩
        |ok f l=>rw[hbp]at h6;exact⟨_,_,h6.1⟩
       obtain⟨x,y,rfl⟩:=hxy;exact⟨x,y,rfl,cr q5 rfl,⟨cr r0 rfl,cr r0 rfl,λo=>frozen_of_row _ _ o _ _ r0,(ltG r0)⟩,r0,h5⟩
      have hmf:=mkf;have qx:wr.cell? (aD (w1.heap.size+1+1+1) 0)=some (pV (w1.heap.size+1+1)):=cr q1 rfl;clear p0 p1 p2 q1 hB hNr hcast qc qz BZ QB BM;go_wp2_with fail
      go_region_with (go_at_call 18;refine(HF.out _ (Chg.drewN _ _ 1)).mono ?_;rintro e w5 ⟨x,y,rfl,cq,⟨r0,r1,rz,rl⟩,H5⟩)
      all_goals
       have hR:=A0 (E2d (HBW.out) hwz HRR.out HPP.out HNR.out H5.out.1 H5.out.2);have s1:=heap_setCell_same w5 w.heap.size 0 _ _ (iV x) H5.out.1;have s2:=heap_setCell_same _ w.heap.size 1 _ _ (iV y) s1;have z0:((w5.setCell (aD w.heap.size 0) (iV x)).setCell (aD w.heap.size 1) (iV y)).cell? (aD w.heap.size 0)=some (iV x):=cr s2 rfl;have z1:((w5.setCell (aD w.heap.size 0) (iV x)).setCell (aD w.heap.size 1) (iV y)).cell? (aD w.heap.size 1)=some (iV y):=cr s2 rfl;clear s1 s2;go_wp2_with fail
       exact bodyPost_ret (v:= .tuple #[pV (w1.heap.size+1+1),.agg #[iV x,iV y]]) (by simp[results,results33,go_sem,z0,z1]) rfl hR.out
end
def Q6(ts:List Int):Nat->List (Int×Int)
 |0=>[]
 |j+1=>Q6 ts j++(if ts.getD j 0≠-1 then [((j:Int),ts.getD j 0)] else [])
theorem V7a(ts:List Int):∀j,(Q6 ts j).length<=j
 |0=>vQ _
 |j+1=>by
  have:=V7a ts j;rw[Q6,qQ];split<;>simp<;>omega
def J5(l:List (Int×Int)):List Value:=l.flatMap λp=>[iV p.1,iV p.2]
theorem J2a(l:List (Int×Int))(p:Int×Int):J5 (l++[p])=J5 l++[iV p.1,iV p.2]:=by simp[J5]
theorem E3c(l:List (Int×Int)):(J5 l).length=l.length * 2:=by
 induction l with
 |nil=>rfl
 |cons p r ih=>
  have:J5 (p::r)=[iV p.1,iV p.2]++J5 r:=rfl;rw[this,qQ,ih,jQ];simp;omega
theorem M.Br.bad_and{r:M.Br}{k:List M.Fr->M.Br}{e:Int}{i:Nat}(h1:∀e i,r= .bad e i->e=5\/e=6)(h2:∀f e i,k f= .bad e i->e=5\/e=6)(h:r.and k= .bad e i):e=5\/e=6:=by
 cases r with
 |bad e' i'=>simp[M.Br.and]at h;exact h.1 ▸ h1 _ _ rfl
 |ok fs l=>
  rw[M.Br.and_ok]at h;cases hk:k fs with
  |bad e' i'=>rw[hk]at h;simp at h;exact h.1 ▸ h2 _ _ _ hk
  |ok f l=>rw[hk]at h;simp at h
mutual
theorem M.bnT_bad:∀(t:M.Nt) (fs:List M.Fr) (b:Nat) (e:Int) (i:Nat),M.bnT fs b t= .bad e i->e=5\/e=6
 | .ty _,fs,b,e,i,h=>by rw[M.bnT]at h;cases h
 | .nd k tx n ps,fs,b,e,i,h=>by
  rw[M.bnT]at h;split at h
  · split at h
    · simp at h;exact .inl h.1.symm
    · cases h
  split at h
  · split at h
    · simp at h;exact .inl h.1.symm
    · exact M.Br.bad_and (λ_ _ h=>by cases h) (λf e i h=>M.bnL_badE ps false f b e i h) h
  split at h
  · split at h
    · simp at h;exact .inr h.1.symm
    · revert h;cases hb:M.bnL false (if M.N6c ps=true then M.G5 fs tx ((b+M.nNL ps:Nat):Int) else fs) b ps with
      |bad e' i'=>
       intro h;simp[M.Br.setF]at h;exact h.1 ▸ M.bnL_badE ps false _ b e' i' hb
      |ok f l=>intro h;simp[M.Br.setF]at h
  split at h
  · cases h
  split at h
  · revert h;cases hb:M.bnL true (fs++[M.Fr.no]) b ps with
    |bad e' i'=>
     intro h;simp[M.Br.pop]at h;exact h.1 ▸ M.bnL_badE ps true _ b e' i' hb
    |ok f l=>intro h;simp[M.Br.pop]at h
  split at h
  · revert h;cases hb:M.bnL false (fs++[M.Fr.no]) b ps with
    |bad e' i'=>
     intro h;simp[M.Br.pop]at h;exact h.1 ▸ M.bnL_badE ps false _ b e' i' hb
    |ok f l=>intro h;simp[M.Br.pop]at h
  · exact M.bnL_badE ps false fs b e i h
theorem M.bnL_badE:∀(ps:List M.Nt) (fn:Bool) (fs:List M.Fr) (b:Nat) (e:Int) (i:Nat),M.bnL fn fs b ps= .bad e i->e=5\/e=6
 |[],fn,fs,b,e,i,h=>by rw[M.bnL]at h;cases h
 | .ty o::r,fn,fs,b,e,i,h=>by
  rw[M.bnL]at h;exact M.bnL_badE r fn fs b e i h
 | .nd k tx n qs::r,fn,fs,b,e,i,h=>by
  rw[M.bnL]at h;refine M.Br.bad_and (λe i h=> ?_) (λf e i h=>M.bnL_badE r fn f _ e i h) h;split at h
  · exact M.bnL_badE qs false fs b e i h
  · exact M.bnT_bad (.nd k tx n qs) fs b e i h
end
def NmA(l:List UInt8)(w:World)(e:Ending)(w':World):Prop:=Below w.heap.size w w'/\
 ((∃er p,er≠0/\M.PRes l (.inl (er,p))/\e= .returned (.tuple #[sN,.agg #[iV er,iV p]]))\/
  ∃N T ps,M.PRes l (.inr (N,T))/\M.Prgm N T ps/\match M.bnP ps with
   | .bad er i=>er≠0/\e= .returned (.tuple #[sN,.agg #[iV er,iV (atI N i)]])
   | .ok _ l2=>∃ad c,e= .returned (.tuple #[.slice ad (Q6 (M.upd (List.replicate N.length (-1)) l2) N.length).length c,.agg #[iV 0,iV 0]])/\w'.ownsRow w.heap.size 60 2 (.slice ad (Q6 (M.upd (List.replicate N.length (-1)) l2) N.length).length c) (Q6 (M.upd (List.replicate N.length (-1)) l2) N.length).length (J5 (Q6 (M.upd (List.replicate N.length (-1)) l2) N.length)))
theorem Tryz.infoBo:(prog.info? 60).map (λi=>(i.zero,i.size,i.bytes))=some (some (.agg #[iV 0,iV 0]),2,16):=by kernel_rfl
theorem B6c(s:ByteArray)(w:World)(hs:s.size<=maxLen):Calls prog 12 #[.string s] w (NmA s.data.toList w):=by
 have HR:=A0 (λw1=>I6c s w1 hs);have hb0:=heap_alloc_new w (.cells #[iV 0,iV 0] 26);obtain⟨i0,hi,hz0,hz1,hz2⟩:=info_parts Tryz.infoBo;clear hs;go_enter func12,ntmps12;go_wp2_with fail
 refine(HR.out _).mono ?_;clear HR;rintro e w1 ⟨hbel,⟨er,p,hr,rfl⟩|⟨N,T,ps,B,bb,nv,tv,hr,hP,hB,hm⟩⟩
 · have f0:w1.heap[w.heap.size]? =some (.cells #[iV 0,iV 0] 26 (0,0)):=by
    rw[hbel.block _ (by simp)];exact hb0
   have g0:w1.cell? (aD w.heap.size 0)=some (iV 0):=cr f0 rfl;have g1:w1.cell? (aD w.heap.size 1)=some (iV 0):=cr f0 rfl;have gz:∀o,w1.frozen? (aD w.heap.size o)=false:=λo=>frozen_of_row w1 _ o _ _ f0;have gl:=(ltG f0);have her:(er !=0)=true:=by simp[hr.1]
   have HBW:Hid (Below w.heap.size w w1):=(Chg.toBelow (Chg.alloc No w _) (λ_ _ x=>x.elim) (vQ _)).trans (hbel.mono (by simp));have HRR:=A0 hr;clear hr hbel hb0 f0;go_wp2_with fail
   go_region
   all_goals go_wp2_with fail
   all_goals
    have hcS:Chg (λk=>k=w.heap.size) w1 ((w1.setCell (aD w.heap.size 0) (iV er)).setCell (aD w.heap.size 1) (iV p)):=Chg.trans (Chg.set w1 (aD w.heap.size 0) _) (Chg.set _ (aD w.heap.size 1) _) (λ_ _ x=>x);have hR:NmA s.data.toList w (.returned (.tuple #[sN,.agg #[iV er,iV p]])) _:=⟨HBW.out.trans (Chg.toBelow (Chg.trans hcS (B9 (Chg.alloc No _ (.cells #[iV er,iV p] 26)) (Chg.drewN No _ 1)) (λ_ _ x=>x.elim)) (λk _ e=>by omega) HBW.out.size),.inl ⟨er,p,HRR.out.1,HRR.out,rfl⟩⟩;exact bodyPost_ret (v:= .tuple #[sN,.agg #[iV er,iV p]]) (by simp[results,results12,go_sem,g0,g1,gl]) rfl hR
 · cases hbp:M.bnP ps with
   |bad er ix=>
    rw[hbp]at hm;have e0:e= .returned (.tuple #[pV bb,.agg #[iV er,iV (atI N ix)]]):=hm;subst e0;have HER:Hid (er≠0):=by
     show er≠0;have:=M.bnT_bad (.nd 26 [] 0 ps) [] 0 er ix hbp;omega
    have HQN:Hid (∀w',Below w.heap.size w w'->NmA s.data.toList w (.returned (.tuple #[sN,.agg #[iV er,iV (atI N ix)]])) w'):=λw' hw=>⟨hw,.inr ⟨N,T,ps,hr,hP,by rw[hbp];exact⟨HER.out,rfl⟩⟩⟩;clear hm hbp hP hr;generalize atI N ix=p at *;have f0:w1.heap[w.heap.size]? =some (.cells #[iV 0,iV 0] 26 (0,0)):=by
     rw[hbel.block _ (by simp)];exact hb0
    have g0:w1.cell? (aD w.heap.size 0)=some (iV 0):=cr f0 rfl;have g1:w1.cell? (aD w.heap.size 1)=some (iV 0):=cr f0 rfl;have gz:∀o,w1.frozen? (aD w.heap.size o)=false:=λo=>frozen_of_row w1 _ o _ _ f0;have gl:=(ltG f0);have her:(er !=0)=true:=by simp[HER.out]
    have HBW:Hid (Below w.heap.size w w1):=(Chg.toBelow (Chg.alloc No w _) (λ_ _ x=>x.elim) (vQ _)).trans (hbel.mono (by simp));clear hbel hb0 f0;go_wp2_with fail
    go_region
    all_goals go_wp2_with fail
    all_goals
     have hcS:Chg (λk=>k=w.heap.size) w1 ((w1.setCell (aD w.heap.size 0) (iV er)).setCell (aD w.heap.size 1) (iV p)):=Chg.trans (Chg.set w1 (aD w.heap.size 0) _) (Chg.set _ (aD w.heap.size 1) _) (λ_ _ x=>x);have hR:=HQN.out _ (HBW.out.trans (Chg.toBelow (Chg.trans hcS (B9 (Chg.alloc No _ (.cells #[iV er,iV p] 26)) (Chg.drewN No _ 1)) (λ_ _ x=>x.elim)) (λk _ e=>by omega) HBW.out.size));exact bodyPost_ret (v:= .tuple #[sN,.agg #[iV er,iV p]]) (by simp[results,results12,go_sem,g0,g1,gl]) rfl hR
   |ok fs l2=>
    rw[hbp]at hm;obtain⟨e0,av,ms,hs,-⟩:=hm;subst e0;have f0:w1.heap[w.heap.size]? =some (.cells #[iV 0,iV 0] 26 (0,0)):=by
     rw[hbel.block _ (by simp)];exact hb0
    have gl:=(ltG f0);have HBW:Hid (Below w.heap.size w w1):=(Chg.toBelow (Chg.alloc No w _) (λ_ _ x=>x.elim) (vQ _)).trans (hbel.mono (by simp));generalize htss:M.upd (List.replicate N.length (-1)) l2=ts at *;have htl:ts.length=N.length:=by rw[<-htss];simp[M.J5a]
    have HLN:Hid (ts.length<=100000):=by
     show ts.length<=100000;have:=hP.lenN;omega
    have HQN:Hid (∀w' ad c,Below w.heap.size w w'->w'.ownsRow w.heap.size 60 2 (.slice ad (Q6 ts ts.length).length c) (Q6 ts ts.length).length (J5 (Q6 ts ts.length))->NmA s.data.toList w (.returned (.tuple #[.slice ad (Q6 ts ts.length).length c,.agg #[iV 0,iV 0]])) w'):=λw' ad c hw ho=>⟨hw,.inr ⟨N,T,ps,hr,hP,by
     rw[hbp];show∃ad c,_;rw[htss,<-htl];exact⟨ad,c,rfl,ho⟩⟩⟩
    obtain⟨ta,tc,htv⟩:=B7 hs.tos;subst htv;have c2:w1.cell? (aD bb 2)=some (.slice ta ts.length tc):=cr hs.blk rfl;have lbb:=blt c2;simp only at lbb;have HTO:=A0 (C7 hs.tos (wQ _));have HF0:=A0 f0;clear hs hbel hb0 f0 hbp htss hP hr;have C1:=A0 (Chg.alloc No w1 (.cells #[iV 0,iV 0] 26));have hts2:ts.length<=100000:=HLN.out;clear htl HLN hB;go_wp2_with fail
    go_loopw [23,6] (λv u wr=>∃(j:Nat) (ad:Option Addr) (ac:Nat),j<=ts.length/\v=iV (j:Int)/\u= .slice ad (Q6 ts j).length ac/\Hid (Chg No w1 wr)/\Hid (wr.ownsRow w1.heap.size 60 2 (.slice ad (Q6 ts j).length ac) (Q6 ts j).length (J5 (Q6 ts j)))) (λv _ _=>ts.length - (intOf v).toNat)
    case atStart=>exact⟨0,none,0,wQ _,rfl,rfl,C1.out,kW _ _ _ _⟩
    case round=>
     obtain⟨j,ad,ac,hj,rfl,rfl,CR,OR⟩:=hrel;have hwr:w1.heap.size<=wr.heap.size:=CR.out.size;by_cases hjl:j<ts.length
     · obtain⟨g2,hla,hg2,hl1,hl2,v0⟩:=D5 (A3 HTO.out CR.out (λ_ _ x=>x)) hjl;subst hla;have hgd:ts.getD j 0=ts[j]:=by rw[lQ,gQ hjl];rfl
       have hbl:=V7a ts j;have HBN:Hid (Q6 ts (j+1)=Q6 ts j++if ts[j]≠-1 then [((j:Int),ts[j])] else []):=by
        show _=_;rw[Q6,hgd]
       unfold maxLen at hl2;clear hgd;generalize ts[j]=tj at *;obtain⟨bj,hbj⟩:∃bj,Q6 ts j=bj:=⟨_,rfl⟩;rw[hbj]at OR HBN hbl⊢;clear hbj;by_cases ht:tj= -1
       · subst ht;have HBN':Hid (Q6 ts (j+1)=bj):=by
          show _=_;rw[HBN.out];simp
         clear HBN;go_wp2_with fail
         go_roundw
         case rel=>exact⟨j+1,ad,ac,by omega,by go_num,by rw[HBN'.out],CR,by rw[HBN'.out];exact OR⟩
         case measure=>simp[intOf];omega
       · have HBN':Hid (Q6 ts (j+1)=bj++[((j:Int),tj)]):=by
          show _=_;rw[HBN.out,if_pos ht]
         have gt:(tj != -1)=true:=by simpa using ht
         have HO4:=A0 (OR.out.alloc (.cells #[iV (j:Int),iV tj] 60));clear HBN ht;go_wp2_with (at_builtin;refine wpList_append_own _ rfl _ _ 53 rfl w1.heap.size 60 i0 (.agg #[iV 0,iV 0]) 2 16 underlying53 hi hz0 hz1 hz2 rfl (by decide) _ _ _ rfl HO4.out (aD wr.heap.size 0) 1 1 [iV (j:Int),iV tj] rfl rfl ?c1 ?c2 ?c3 ?c4 ?c5 ?_)
         case c1=>exact World.news_of_block (cs:=#[iV (j:Int),iV tj]) (t:=60) (fr:=(0,0)) (heap_alloc_new wr _)
         case c2=>intro u hu;simp at hu;rcases hu with rfl|rfl<;>rfl
         case c3=>simp only[maxLen];omega
         case c4=>omega
         case c5=>simp;omega
         intro v' w4 hown4 hg4 _;obtain⟨ad4,c4,rfl⟩:=B7 hown4;have HOW:=A0 hown4;have hcb:Chg (λk=>w1.heap.size<=k) wr w4:=(Chg.alloc (λk=>w1.heap.size<=k) wr (.cells #[iV (j:Int),iV tj] 60)).trans (Chg.grown hg4) (λk hk x=>(A9 HO4.out k x.symm).1);have HC4:Hid (Chg No w1 w4):=((CR.out.mono (S':=λk=>w1.heap.size<=k) (λ_ _ x=>x.elim)).trans hcb (λ_ _ x=>x)).mono (λk hk x=>by omega);clear hown4 hg4 hcb;go_wp2_with fail
         go_roundw
         case rel=>exact⟨j+1,ad4,c4,by omega,by go_num,by rw[HBN'.out,qQ,List.length_singleton],HC4,(show World.ownsRow _ _ _ _ _ _ _ from by rw[HBN'.out,J2a,qQ,List.length_singleton];exact HOW.out)⟩
         case measure=>simp[intOf];omega
     · have hje:j=ts.length:=by omega
       subst hje;have f1:wr.heap[w.heap.size]? =some (.cells #[iV 0,iV 0] 26 (0,0)):=by
        rw[CR.out.block _ gl (λx=>x)];exact HF0.out
       have g0:wr.cell? (aD w.heap.size 0)=some (iV 0):=cr f1 rfl;have g1:wr.cell? (aD w.heap.size 1)=some (iV 0):=cr f1 rfl;have gz:∀o,wr.frozen? (aD w.heap.size o)=false:=λo=>frozen_of_row wr _ o _ _ f1;have gl2:=(ltG f1);have hcS:Chg (λk=>k=w.heap.size) wr ((wr.setCell (aD w.heap.size 0) (iV 0)).setCell (aD w.heap.size 1) (iV 0)):=Chg.trans (Chg.set wr (aD w.heap.size 0) _) (Chg.set _ (aD w.heap.size 1) _) (λ_ _ x=>x);have HR:=A0 (HQN.out _ ad ac ((HBW.out.trans (Chg.toBelow CR.out (λ_ _ x=>x.elim) HBW.out.size)).trans (Chg.toBelow hcS (λk _ x=>by omega) (by omega))) (A3 (C7 OR.out (by omega)) hcS (λg hg x=>by have:=(OR.out.lt g hg).1;omega)));clear hcS f1 HQN;generalize (Q6 ts ts.length).length=bl at *;go_wp2_with fail
       exact bodyPost_ret (v:= .tuple #[.slice ad bl ac,.agg #[iV 0,iV 0]]) (by simp[results,results12,go_sem,g0,g1]) rfl HR.out
def asg(l:List (Int×Int)):Int->Option Int:=l.foldl (λf p=>λx=>if x=p.1 then some p.2 else f x) (λ_=>none)
theorem L4a(l:List (Int×Int))(p:Int×Int):asg (l++[p])=λx=>if x=p.1 then some p.2 else asg l x:=by
 unfold asg;rw[List.foldl_append];rfl
theorem V9a(ts:List Int):∀j:Nat,asg (Q6 ts j)=λx=>if 0<=x/\x<(j:Int)/\ts.getD x.toNat 0≠-1 then some (ts.getD x.toNat 0) else none
 |0=>by
  funext x
  rw[if_neg (by omega)];rfl
 |j+1=>by
  funext x
  rw[Q6];by_cases ht:ts.getD j 0≠-1
  · rw[if_pos ht,L4a,V9a ts j];by_cases hx:x=(j:Int)
    · subst hx;simp only;rw[if_pos trivial,if_pos ⟨by omega,by omega,by rw[tQ];exact ht⟩,tQ]
    · simp only;rw[if_neg hx];by_cases hc:0<=x/\x<(j:Int)/\ts.getD x.toNat 0≠-1
      · rw[if_pos hc,if_pos ⟨hc.1,by omega,hc.2.2⟩]
      · rw[if_neg hc,if_neg (λh=>hc ⟨h.1,by omega,h.2.2⟩)]
  · rw[if_neg ht,List.append_nil,V9a ts j];simp only;by_cases hc:0<=x/\x<(j:Int)/\ts.getD x.toNat 0≠-1
    · rw[if_pos hc,if_pos ⟨hc.1,by omega,hc.2.2⟩]
    · rw[if_neg hc,if_neg (λh=>hc ⟨h.1,by
       by_cases hx:x=(j:Int)
       · subst hx;rw[tQ]at h;exact absurd h.2.2 ht
       · omega,h.2.2⟩)]
theorem I7d(c:M.Cx):asg (Q6 c.ts c.N.length)=nmM c:=by
 rw[V9a];rfl
theorem M1b(ts:List Int):∀(n:Nat) (p:Int×Int),p∈Q6 ts n->∃j:Nat,j<n/\p=((j:Int),ts.getD j 0)/\ts.getD j 0≠-1
 |0,p,h=>by simp[Q6]at h
 |n+1,p,h=>by
  rw[Q6,qW]at h;rcases h with h|h
  · obtain⟨j,h1,h2⟩:=M1b ts n p h;exact⟨j,by omega,h2⟩
  · by_cases ht:ts.getD n 0≠-1
    · rw[if_pos ht]at h;simp only[zW]at h;exact⟨n,by omega,h,ht⟩
    · rw[if_neg ht]at h;simp at h
theorem K2a{N:List M.Nd}{T:List M.Ty}{ps qs:List M.Nt}(h:M.Prgm N T ps)(k:M.Prgm N T qs):ps=qs:=by
 obtain⟨hl,h2⟩:=h.main;obtain⟨_,k2⟩:=k.main;exact M.U6c (λp hp=>⟨M.A1b p (h.wn p hp).1,(h.wn p hp).2⟩) (λp hp=>⟨M.A1b p (k.wn p hp).1,(k.wn p hp).2⟩) h2 k2
theorem Y6b(c:M.Cx):∀(j:Nat) {e:Int} {i:Nat},M.R3 c j= .inl (e,i)->e≠0
 |0,e,i,h=>by simp[M.R3]at h
 |j+1,e,i,h=>by
  rw[M.R3]at h;cases hr:M.R3 c j with
  |inl p=>
   obtain⟨e',i'⟩:=p;rw[hr]at h;simp only[M.ckS,Sum.inl.injEq,Prod.mk.injEq]at h;have:=Y6b c j hr;omega
  |inr of=>
   rw[hr]at h;simp only[M.ckS]at h;cases hk:M.ckN c of j with
   |inr o=>rw[hk]at h;cases o<;>simp at h
   |inl e'=>
    rw[hk]at h;simp only[Sum.inl.injEq,Prod.mk.injEq]at h;obtain⟨rfl,_⟩:=h;unfold M.ckN at hk;simp only at hk;split at hk
    · split at hk
      · simp only[Sum.inl.injEq]at hk;omega
      · split at hk
        · simp only[Sum.inl.injEq]at hk;omega
        · simp at hk
    · split at hk
      · simp only[Sum.inl.injEq]at hk;omega
      · split at hk
        · simp at hk
        · simp only[Sum.inl.injEq]at hk;omega
theorem H7d{c:M.Cx}{e:Int}{i:Nat}(h:M.ckP c= .inl (e,i)):e≠0:=Y6b c _ h
def FtO(l:List UInt8)(er p:Int):Prop:=er≠0/\(M.PRes l (.inl (er,p))\/∃N T ps,M.PRes l (.inr (N,T))/\M.Prgm N T ps/\
 ((∃i,M.bnP ps= .bad er i/\p=atI N i)\/∃fs l2 i,M.bnP ps= .ok fs l2/\M.ckP (M.cxP N T l2)= .inl (er,i)/\p=atI N i))
def Okd(l:List UInt8)(N:List M.Nd)(T:List M.Ty)(l2:List (Nat×Int))(of:M.Of):Prop:=
 ∃ps fs,M.PRes l (.inr (N,T))/\M.Prgm N T ps/\M.bnP ps= .ok fs l2/\M.ckP (M.cxP N T l2)= .inr of
section
variable{l:List UInt8}{er p er' p':Int}{N N':List M.Nd}{T T':List M.Ty}{l2 l2':List (Nat×Int)}{of of':M.Of}
theorem FtO.one(h:FtO l er p)(k:FtO l er' p'):er=er'/\p=p':=by
 obtain⟨_,h⟩:=h;obtain⟨_,k⟩:=k;rcases h with h|⟨N,T,ps,h1,h2,h3⟩
 · rcases k with k|⟨N',T',qs,k1,_⟩
   · have:=h.one k;simpa using this
   · have:=h.one k1;simp at this
 · rcases k with k|⟨N',T',qs,k1,k2,k3⟩
   · have:=k.one h1;simp at this
   · have e1:=h1.one k1;simp only[Sum.inr.injEq,Prod.mk.injEq]at e1;obtain⟨rfl,rfl⟩:=e1;obtain rfl:=K2a h2 k2;rcases h3 with ⟨i,a1,rfl⟩|⟨fs,l2,i,a1,a2,rfl⟩
     · rcases k3 with ⟨j,b1,rfl⟩|⟨gs,l3,j,b1,b2,rfl⟩
       · rw[a1]at b1;simp only[M.Br.bad.injEq]at b1;obtain⟨rfl,rfl⟩:=b1;exact⟨rfl,rfl⟩
       · rw[a1]at b1;simp at b1
     · rcases k3 with ⟨j,b1,rfl⟩|⟨gs,l3,j,b1,b2,rfl⟩
       · rw[a1]at b1;simp at b1
       · rw[a1]at b1;simp only[M.Br.ok.injEq]at b1;obtain⟨rfl,rfl⟩:=b1;rw[a2]at b2;simp only[Sum.inl.injEq,Prod.mk.injEq]at b2;obtain⟨rfl,rfl⟩:=b2;exact⟨rfl,rfl⟩
theorem Okd.not(h:Okd l N T l2 of):¬FtO l er p:=by
 rintro⟨_,k⟩;obtain⟨ps,fs,h1,h2,h3,h4⟩:=h;rcases k with k|⟨N',T',qs,k1,k2,k3⟩
 · have:=k.one h1;simp at this
 · have e1:=h1.one k1;simp only[Sum.inr.injEq,Prod.mk.injEq]at e1;obtain⟨rfl,rfl⟩:=e1;obtain rfl:=K2a h2 k2;rcases k3 with ⟨i,a1,rfl⟩|⟨gs,l3,i,a1,a2,rfl⟩
   · rw[a1]at h3;simp at h3
   · rw[a1]at h3;simp only[M.Br.ok.injEq]at h3;obtain⟨rfl,rfl⟩:=h3;rw[h4]at a2;simp at a2
theorem Okd.one(h:Okd l N T l2 of)(k:Okd l N' T' l2' of'):N=N'/\T=T'/\l2=l2'/\of=of':=by
 obtain⟨ps,fs,h1,h2,h3,h4⟩:=h;obtain⟨qs,gs,k1,k2,k3,k4⟩:=k;have e1:=h1.one k1;simp only[Sum.inr.injEq,Prod.mk.injEq]at e1;obtain⟨rfl,rfl⟩:=e1;obtain rfl:=K2a h2 k2;rw[h3]at k3;simp only[M.Br.ok.injEq]at k3;obtain⟨rfl,rfl⟩:=k3;rw[h4]at k4;simp only[Sum.inr.injEq]at k4;exact⟨rfl,rfl,rfl,k4⟩
end
end Go.Proofs.YtfhhipefecekkaaGreatDoor
