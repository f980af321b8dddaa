/-
  A part of the proof.
-/
import Derived.Test.YtfhhipefecekkaaGreatDoorPlainA
set_option maxHeartbeats 16000000
set_option maxRecDepth 100000
namespace Go.Proofs.YtfhhipefecekkaaGreatDoor.M
def brk(t:Tr)(last:Bool):Bool:=decide (t.k=10)||(decide (t.k=9) && !last)
mutual
def dTy:Tr->Nat
 | .nd k _ ks=>if k=10 then T2b ks else J0a ks
def J0a:List Tr->Nat
 |[]=>0
 |t::r=>max (dTy t+1) (J0a r)
def T2b:List Tr->Nat
 |[]=>0
 |t::r=>max (dTy t+(brk t (decide (r.length=0))).toNat) (T2b r)
end
theorem G3a(t:Tr)(last:Bool):(one t last).length=(tks t).length+2 * (brk t last).toNat:=by
 unfold one brk;cases last<;>by_cases h10:t.k=10<;>by_cases h9:t.k=9<;>simp[h10,h9]<;>omega
theorem G4b(fst:Bool)(t:Tr)(r:List Tr):(R7a fst (t::r)).length=(if fst then 0 else 1)+(one t (decide (r.length=0))).length+(R7a false r).length:=by
 have e:R7a fst (t::r)=(if fst then [] else [sg [124]])++one t (decide (r.length=0))++R7a false r:=by
  rw[R7a,one];simp
 rw[e,qQ,qQ];cases fst<;>simp
def Yft(s:St)(t:Tr)(s':St)(x:Int):Prop:=s'.N=s.N/\s'.T=s.T++emT s.T.length t/\x=((s.T.length+nTy t:Nat):Int) - 1
def YftL(s:St)(ks:List Tr)(s':St)(l:List Int):Prop:=s'.N=s.N/\s'.T=s.T++K8 s.T.length ks/\l=ixT s.T.length ks
theorem YftL.nil(s:St):YftL s [] s []:=⟨rfl,by simp[K8],rfl⟩
theorem YftL.cons{s s1 s2:St}{t:Tr}{x:Int}{ks:List Tr}{l:List Int}(h:Yft s t s1 x)(k:YftL s1 ks s2 l):YftL s (t::ks) s2 (x::l):=by
 have hl:s1.T.length=s.T.length+nTy t:=by rw[h.2.1,qQ,Y8]
 refine⟨k.1.trans h.1, ?_, ?_⟩
 · rw[k.2.1,hl,h.2.1,K8,List.append_assoc]
 · rw[k.2.2,hl,h.2.2,ixT]
theorem Yft.cons'{s s1 s2:St}{t:Tr}{x:Int}{ks:List Tr}{l:List Int}(h:Yft s t s1 x)(k:YftL s1 ks s2 l):YftL s (t::ks) s2 (x::l):=YftL.cons h k
theorem YftL.len{s s':St}{ks:List Tr}{l:List Int}(h:YftL s ks s' l):s'.T.length=s.T.length+M7 ks:=by rw[h.2.1,qQ,C3a]
theorem Yft.len{s s':St}{t:Tr}{x:Int}(h:Yft s t s' x):s'.T.length=s.T.length+nTy t:=by rw[h.2.1,qQ,Y8]
theorem K8a:∀(ks:List Tr) (b:Nat),(ixT b ks).length=ks.length
 |[],_=>rfl
 |t::r,b=>by rw[ixT,jQ,jQ,K8a r]
theorem E2b(b:Nat)(k:Int)(ns:List (List UInt8))(ks:List Tr)(h:k≠9):emT b (.nd k ns ks)=K8 b ks++[C0a k ns (ixT b ks)]:=by rw[emT,if_neg h]
theorem YftL.row{s s':St}{ks:List Tr}{l:List Int}(h:YftL s ks s' l)(k:Int)(ns:List (List UInt8))(hk:k≠9)(t:Ty)(ht:t=C0a k ns l):Yft s (.nd k ns ks) ⟨s'.i,s'.N,s'.T++[t]⟩ s'.T.length:=by
 refine⟨h.1, ?_, ?_⟩
 · show s'.T++[t]=_;rw[E2b _ _ _ _ hk,<-h.2.2,ht,h.2.1,List.append_assoc]
 · rw[h.len,nTy];omega
structure YF(L:List Tk)(r:Sp):Prop where
 typ:∀d s s' x,r.typ d s=some (.ok s' x)->∃t,Wf t/\Yft s t s' x/\(tks t).length+s.i<=s'.i/\dTy t+1<=20 - d/\isM L s'.i [[124]]=false
 union:∀d s s' x,r.union d s=some (.ok s' x)->∃t,Wf t/\Yft s t s' x/\(tks t).length+s.i<=s'.i/\dTy t<=20 - d/\isM L s'.i [[124]]=false
 unionL:∀d s acc s' l,r.unionL d s acc=some (.ok s' l)->∃ks l',l=acc++l'/\(∀x∈ks,Wf x)/\YftL s ks s' l'/\(R7a false ks).length+s.i<=s'.i/\T2b ks<=20 - d/\isM L s'.i [[124]]=false/\(isM L s.i [[124]]=true ↔ ks≠[])
 member:∀d s s' x,r.member d s=some (.ok s' x)->∃t,Wf t/\Yft s t s' x/\(one t (!(isM L s'.i [[124]]))).length+s.i<=s'.i/\dTy t+(brk t (!(isM L s'.i [[124]]))).toNat<=20 - d
 objL:∀d s fs s' x,(fs.map (·.1)).Nodup->r.objL d s fs=some (.ok s' x)->∃ns ks,ns.length=ks.length/\(fs.map (·.1)++ns).Nodup/\(∀n∈ns,L9 n)/\(∀x∈ks,Wf x)/\s'.N=s.N/\
  s'.T=s.T++K8 s.T.length ks++[⟨7,fs++ns.zip (ixT s.T.length ks),[],0⟩]/\x=((s.T.length+M7 ks:Nat):Int)/\(W1a ns ks).length+1+s.i<=s'.i/\J0a ks<=20 - d
 fob:∀d s s' x,r.fob d s=some (.ok s' x)->∃t,Wf t/\Yft s t s' x/\(one t (!(isM L s'.i [[124]]))).length+s.i<=s'.i+1/\dTy t+(brk t (!(isM L s'.i [[124]]))).toNat<=20 - d
 list:∀d s nm acc s' l,r.list .typ [41] d s nm acc=some (.ok s' l)->∃ks l',l=acc++l'/\(∀x∈ks,Wf x)/\YftL s ks s' l'/\(P6a (decide (acc.length=0)) ks).length+1+s.i<=s'.i/\J0a ks<=20 - d
theorem newName_ok{L:List Tk}{s s':St}{names:List (List UInt8)}{nm:List UInt8}(h:newName L s names=some (.ok s' nm)):(tk L s.i).kind=1/\nm=(tk L s.i).text/\nm ∉ names/\s'=s.nx:=by
 unfold newName at h;split at h
 · rename_i hk;split at h
   · simp[flt]at h
   · rename_i hh;simp only[zQ,Out.ok.injEq]at h;refine⟨hk,h.2.symm, ?_,h.1.symm⟩;rw[<-h.2];simpa[has]using hh
 · simp[flt]at h
theorem G7a{L:List Tk}{b:Bool}{d:Nat}{s s':St}{x:Int}{p:Nat->St->Option (Out Int)}(h:inside L b d s p=some (.ok s' x)):b=true/\d<20/\p (d+1) s=some (.ok s' x):=by
 unfold inside at h;split at h
 · rename_i hb;split at h
   · simp[flt]at h
   · exact⟨hb,by omega,h⟩
 · simp[flt]at h
theorem I7{α:Type}{s s':St}{a b:α}(h:some (Out.ok s a)=some (.ok s' b)):s=s'/\a=b:=by
 simp only[zQ,Out.ok.injEq]at h;exact h
section
variable{L:List Tk}{r:Sp}
theorem C9d(i:YF L r):∀d s s' x,(step L r).typ d s=some (.ok s' x)->∃t,Wf t/\Yft s t s' x/\(tks t).length+s.i<=s'.i/\dTy t+1<=20 - d/\isM L s'.i [[124]]=false:=by
 intro d s s' x h;obtain⟨_,hd,h⟩:=G7a h;obtain⟨t,h1,h2,h3,h4,h5⟩:=i.union _ _ _ _ h;exact⟨t,h1,h2,h3,by omega,h5⟩
theorem F0c(i:YF L r):∀d s s' x,(step L r).union d s=some (.ok s' x)->∃t,Wf t/\Yft s t s' x/\(tks t).length+s.i<=s'.i/\dTy t<=20 - d/\isM L s'.i [[124]]=false:=by
 intro d s s' x h;obtain⟨s1,y,h1,h2⟩:=B6 h;obtain⟨t,w1,y1,l1,d1⟩:=i.member _ _ _ _ h1;have ho:=G3a t (!(isM L s1.i [[124]]));split at h2
 · rename_i hm;obtain⟨s2,l,h3,h4⟩:=B6 h2;obtain⟨rfl,rfl⟩:=L6a h4;obtain⟨ks,l',rfl,w2,y2,l2,d2,e2,n2⟩:=i.unionL _ _ _ _ _ h3;have hne:=n2.1 hm;have hlen:1<=ks.length:=by
    cases ks with
    |nil=>exact absurd rfl hne
    |cons _ _=>simp
   have h0:decide (ks.length=0)=false:=decide_eq_false (by omega);rw[hm]at l1 d1;simp only[Bool.not_true]at l1 d1;refine⟨.nd 10 [] (t::ks),Wf.uni _ (by simp;omega) (λx hx=> ?_),(y1.cons' y2).row 10 [] (by decide) _ rfl, ?_, ?_,e2⟩
   · rcases jW.1 hx with rfl|hx
     · exact w1
     · exact w2 x hx
   · have e:tks (.nd 10 [] (t::ks))=R7a true (t::ks):=by simp[tks]
     rw[e,G4b,h0];simp only[if_true];show _<=s2.i;omega
   · rw[dTy,if_pos rfl,T2b,h0];omega
 · rename_i hm;obtain⟨rfl,rfl⟩:=I7 h2;have hm':isM L s1.i [[124]]=false:=by simpa using hm
   refine⟨t,w1,y1,by omega,by omega,hm'⟩
theorem Z2b(i:YF L r):∀d s acc s' l,(step L r).unionL d s acc=some (.ok s' l)->∃ks l',l=acc++l'/\(∀x∈ks,Wf x)/\YftL s ks s' l'/\(R7a false ks).length+s.i<=s'.i/\T2b ks<=20 - d/\isM L s'.i [[124]]=false/\(isM L s.i [[124]]=true ↔ ks≠[]):=by
 intro d s acc s' l h;have h:(if isM L s.i [[124]] then A4 (r.member d s.nx) λs x=>r.unionL d s (acc++[x]) else some (.ok s acc))=some (.ok s' l):=h;split at h
 · rename_i hm;obtain⟨s1,y,h1,h2⟩:=B6 h;obtain⟨t,w1,y1,l1,d1⟩:=i.member _ _ _ _ h1;obtain⟨ks,l',rfl,w2,y2,l2,d2,e2,n2⟩:=i.unionL _ _ _ _ _ h2;have y1:Yft s t s1 y:=y1;have hb:(!(isM L s1.i [[124]]))=decide (ks.length=0):=by
    cases hm1:isM L s1.i [[124]]
    · have:ks=[]:=Classical.byContradiction λhc=>by rw[n2.2 hc]at hm1;exact absurd hm1 (by decide)
      subst this;rfl
    · have:=n2.1 hm1;cases ks with
      |nil=>exact absurd rfl this
      |cons _ _=>simp
   rw[hb]at l1 d1;have l1:(one t (decide (ks.length=0))).length+(s.i+1)<=s1.i:=l1;refine⟨t::ks,y::l',by simp,λx hx=> ?_,y1.cons' y2, ?_, ?_,e2,by simp[hm]⟩
   · rcases jW.1 hx with rfl|hx
     · exact w1
     · exact w2 x hx
   · rw[G4b];simp only[Bool.false_eq_true,if_false];omega
   · rw[T2b];omega
 · rename_i hm;obtain⟨rfl,rfl⟩:=I7 h;have hm':isM L s.i [[124]]=false:=by simpa using hm
   exact⟨[],[],by simp,by simp,YftL.nil s,by simp[R7a],by simp[T2b],hm',by simp[hm']⟩
theorem Z3b(i:YF L r):∀d s s' x,(step L r).member d s=some (.ok s' x)->∃t,Wf t/\Yft s t s' x/\(one t (!(isM L s'.i [[124]]))).length+s.i<=s'.i/\dTy t+(brk t (!(isM L s'.i [[124]]))).toNat<=20 - d:=by
 intro d s s' x h;have h:(if isM L s.i [[123]] then r.objL d s.nx []
  else if isM L s.i [[91]] then A4 (r.typ d s.nx) λs x=>A4 (need L s [93]) λs _=>addT s ⟨8,[],[],x⟩
  else if isM L s.i [[40]] then r.fob d s.nx
  else if (tk L s.i).kind=2/\I1 (tk L s.i).text≠0 then addT s.nx ⟨I1 (tk L s.i).text,[],[],0⟩ else flt L s.i 1)=some (.ok s' x):=h
 split at h
 · obtain⟨ns,ks,hl,nd,hn,hw,hN,hT,hx,hlen,hd⟩:=i.objL _ _ _ _ _ (by simp) h;have hlen:(W1a ns ks).length+1+(s.i+1)<=s'.i:=hlen;have ho:=G3a (.nd 7 ns ks) (!(isM L s'.i [[124]]));have hb:brk (.nd 7 ns ks) (!(isM L s'.i [[124]]))=false:=by simp[brk,Tr.k]
   have ht:(tks (.nd 7 ns ks)).length=(W1a ns ks).length+2:=by simp[tks]
   refine⟨.nd 7 ns ks,Wf.obj ns ks hl (by simpa using nd) hn hw,⟨hN, ?_, ?_⟩, ?_, ?_⟩
   · rw[hT,E2b _ _ _ _ (by decide),List.append_assoc];rfl
   · rw[hx,nTy];show ((s.T.length+M7 ks:Nat):Int)=_;omega
   · rw[hb]at ho;simp only[Bool.toNat_false]at ho;omega
   · rw[hb,dTy,if_neg (by decide)];simpa using hd
 split at h
 · obtain⟨s1,y,h1,h2⟩:=B6 h;obtain⟨s2,_,h3,h4⟩:=B6 h2;obtain⟨_,rfl⟩:=I9 h3;obtain⟨rfl,rfl⟩:=L6a h4;obtain⟨t,w1,y1,l1,d1,e1⟩:=i.typ _ _ _ _ h1;have y1:Yft s t s1 y:=y1;have l1:(tks t).length+(s.i+1)<=s1.i:=l1;have ho:=G3a (.nd 8 [] [t]) (!(isM L (s1.i+1) [[124]]));have hb:brk (.nd 8 [] [t]) (!(isM L (s1.i+1) [[124]]))=false:=by simp[brk,Tr.k]
   have ht:(tks (.nd 8 [] [t])).length=(tks t).length+2:=by simp[tks,K5d]
   have y2:YftL s [t] s1.nx [y]:=y1.cons' (YftL.nil s1);refine⟨.nd 8 [] [t],Wf.arr t w1,y2.row 8 [] (by decide) _ rfl, ?_, ?_⟩
   · show (one (.nd 8 [] [t]) (!(isM L (s1.i+1) [[124]]))).length+s.i<=s1.i+1;rw[hb]at ho;simp only[Bool.toNat_false]at ho;omega
   · show dTy (.nd 8 [] [t])+(brk (.nd 8 [] [t]) (!(isM L (s1.i+1) [[124]]))).toNat<=_;rw[hb,dTy,if_neg (by decide),J0a,J0a];simp only[Bool.toNat_false];omega
 split at h
 · obtain⟨t,w1,y1,l1,d1⟩:=i.fob _ _ _ _ h;have l1:(one t (!(isM L s'.i [[124]]))).length+(s.i+1)<=s'.i+1:=l1;exact⟨t,w1,y1,by omega,d1⟩
 split at h
 · rename_i hk;obtain⟨rfl,rfl⟩:=L6a h;have hr:=P7a _ hk.2;generalize I1 (tk L s.i).text=k at hr;have ho:=G3a (.nd k [] []) (!(isM L (s.i+1) [[124]]));have hb:brk (.nd k [] []) (!(isM L (s.i+1) [[124]]))=false:=by
    have h1:¬k=10:=by omega
    have h2:¬k=9:=by omega
    simp[brk,Tr.k,h1,h2]
   have ht:(tks (.nd k [] [])).length=1:=by
    rw[tks,if_neg (by omega),if_neg (by omega),if_neg (by omega),if_neg (by omega)];rfl
   have hrow:(⟨k,[],[],0⟩:Ty)=C0a k [] []:=by rw[C0a,if_neg (by omega),if_neg (by omega),if_neg (by omega)]
   refine⟨.nd k [] [],Wf.plain k hr.1 hr.2,(YftL.nil s).row k [] (by omega) _ hrow, ?_, ?_⟩
   · show (one (.nd k [] []) (!(isM L (s.i+1) [[124]]))).length+s.i<=s.i+1;rw[hb]at ho;simp only[Bool.toNat_false]at ho;omega
   · show dTy (.nd k [] [])+(brk (.nd k [] []) (!(isM L (s.i+1) [[124]]))).toNat<=_;rw[hb,dTy,if_neg (by omega),J0a];simp
 · simp[flt]at h
theorem T3c(hL:NmL L)(i:YF L r):∀d s fs s' x,(fs.map (·.1)).Nodup->(step L r).objL d s fs=some (.ok s' x)->∃ns ks,ns.length=ks.length/\(fs.map (·.1)++ns).Nodup/\(∀n∈ns,L9 n)/\(∀x∈ks,Wf x)/\s'.N=s.N/\
 s'.T=s.T++K8 s.T.length ks++[⟨7,fs++ns.zip (ixT s.T.length ks),[],0⟩]/\x=((s.T.length+M7 ks:Nat):Int)/\(W1a ns ks).length+1+s.i<=s'.i/\J0a ks<=20 - d:=by
 intro d s fs s' x hnd h;have h:(if isM L s.i [[125]] then addT s.nx ⟨7,fs,[],0⟩
  else A4 (newName L s (fs.map (·.1))) λs nm=>A4 (need L s [58]) λs _=>A4 (r.typ d s) λs x=>A4 (need L s [59]) λs _=>r.objL d s (fs++[(nm,x)]))=some (.ok s' x):=h
 split at h
 · obtain⟨rfl,rfl⟩:=L6a h;refine⟨[],[],rfl,by simpa using hnd,by simp,by simp,rfl,by simp[K8,St.nx],by simp[M7,St.nx], ?_,by simp[J0a]⟩;show (W1a [] []).length+1+s.i<=s.i+1;simp[W1a];omega
 · obtain⟨s1,nm,h1,h⟩:=B6 h;obtain⟨hk,hnm,hni,rfl⟩:=newName_ok h1;obtain⟨s2,_,h2,h⟩:=B6 h;obtain⟨_,rfl⟩:=I9 h2;obtain⟨s3,y,h3,h⟩:=B6 h;obtain⟨s4,_,h4,h⟩:=B6 h;obtain⟨_,rfl⟩:=I9 h4;obtain⟨t,w1,y1,l1,d1,e1⟩:=i.typ _ _ _ _ h3;have y1:Yft s t s3 y:=y1;have l1:(tks t).length+(s.i+1+1)<=s3.i:=l1;have hnd':((fs++[(nm,y)]).map (·.1)).Nodup:=by
    rw[List.map_append,List.nodup_append];exact⟨hnd,by simp,λa ha b hb=>by simp at hb;subst hb;rintro rfl;exact hni ha⟩
   obtain⟨ns,ks,hl,nd,hn,hw,hN,hT,hx,hlen,hd⟩:=i.objL _ _ _ _ _ hnd' h;have hlen:(W1a ns ks).length+1+(s3.i+1)<=s'.i:=hlen;have hN:s'.N=s3.N:=hN;have hT:s'.T=s3.T++K8 s3.T.length ks++[⟨7,fs++[(nm,y)]++ns.zip (ixT s3.T.length ks),[],0⟩]:=hT;have hx:x=((s3.T.length+M7 ks:Nat):Int):=hx;refine⟨nm::ns,t::ks,by simp[hl],by simpa using nd,λn hn'=> ?_,λz hz=> ?_,hN.trans y1.1, ?_, ?_, ?_, ?_⟩
   · rcases jW.1 hn' with rfl|hn'
     · rw[hnm];exact hL _ hk
     · exact hn n hn'
   · rcases jW.1 hz with rfl|hz
     · exact w1
     · exact hw z hz
   · rw[hT,y1.len,y1.2.1,y1.2.2,K8,ixT];simp
   · rw[hx,y1.len,M7,Nat.add_assoc]
   · simp only[W1a,jQ,qQ];simp only[List.tail_cons];omega
   · rw[J0a];omega
theorem D0d(i:YF L r):∀d s s' x,(step L r).fob d s=some (.ok s' x)->∃t,Wf t/\Yft s t s' x/\(one t (!(isM L s'.i [[124]]))).length+s.i<=s'.i+1/\dTy t+(brk t (!(isM L s'.i [[124]]))).toNat<=20 - d:=by
 intro d s s' x h;obtain⟨s1,l,h1,h⟩:=B6 h;obtain⟨ks,l',e0,w1,y1,l1,d1⟩:=i.list _ _ _ _ _ _ h1;rw[List.nil_append]at e0;rw[e0]at h;split at h
 · obtain⟨s2,y,h2,h⟩:=B6 h;obtain⟨rfl,rfl⟩:=L6a h;obtain⟨t,w2,y2,l2,d2,e2⟩:=i.typ _ _ _ _ h2;have y2:Yft s1 t s2 y:=y2;have l2:(tks t).length+(s1.i+1)<=s2.i:=l2;have e2:isM L s2.i [[124]]=false:=e2;have hb:brk (.nd 9 [] (t::ks)) true=false:=by simp[brk,Tr.k]
   have ho:=G3a (.nd 9 [] (t::ks)) true;have ht:(tks (.nd 9 [] (t::ks))).length=(P6a true ks).length+(tks t).length+3:=by simp[tks,K6d];omega
   have l1:(P6a true ks).length+1+s.i<=s1.i:=l1;refine⟨.nd 9 [] (t::ks),Wf.fn t ks w2 w1,⟨y2.1.trans y1.1, ?_, ?_⟩, ?_, ?_⟩
   · show s2.T++[_]=_;have e:emT s.T.length (.nd 9 [] (t::ks))=emB s.T.length (t::ks):=by rw[emT,if_pos rfl]
     rw[e,emB,y2.2.1,y2.2.2,y1.len,y1.2.1,y1.2.2];simp
   · rw[y2.len,y1.len,nTy,M7];omega
   · show (one _ (!(isM L s2.i [[124]]))).length+s.i<=s2.i+1;rw[e2,Bool.not_false,ho,hb];simp only[Bool.toNat_false];omega
   · show _+(brk _ (!(isM L s2.i [[124]]))).toNat<=_;rw[e2,Bool.not_false,hb,dTy,if_neg (by decide),J0a];simp only[Bool.toNat_false];omega
 · match ks,l',y1,h with
   |[],l',y1,h=>rw[y1.2.2]at h;simp[ixT,flt]at h
   |[t],l',y1,h=>
    rw[y1.2.2,ixT,ixT]at h;obtain⟨rfl,rfl⟩:=I7 h;have ho:=G3a t (!(isM L s1.i [[124]]));have hb:(brk t (!(isM L s1.i [[124]]))).toNat<=1:=by cases brk t (!(isM L s1.i [[124]]))<;>simp
    have l1:(P6a true [t]).length+1+s.i<=s1.i:=l1;have hc:(P6a true [t]).length=(tks t).length:=by simp[P6a]
    rw[J0a]at d1;refine⟨t,w1 t (by simp),⟨y1.1, ?_,rfl⟩,by omega,by omega⟩;rw[y1.2.1,K8,K8,List.append_nil]
   |t::u::ks,l',y1,h=>rw[y1.2.2]at h;simp[ixT,flt]at h
theorem T4c(i:YF L r):∀d s nm acc s' l,(step L r).list .typ [41] d s nm acc=some (.ok s' l)->∃ks l',l=acc++l'/\(∀x∈ks,Wf x)/\YftL s ks s' l'/\(P6a (decide (acc.length=0)) ks).length+1+s.i<=s'.i/\J0a ks<=20 - d:=by
 intro d s nm acc s' l h;have h:(if isM L s.i [[41]] then some (.ok s.nx acc)
  else A4 (if acc.length=0 then some (.ok s ()) else need L s [44]) λs _=>A4 (part L r d s nm .typ) λs x=>r.list .typ [41] d s x.2 (acc++[x.1]))=some (.ok s' l):=h
 split at h
 · obtain⟨rfl,rfl⟩:=I7 h;refine⟨[],[],by simp,by simp,YftL.nil s, ?_,by simp[J0a]⟩;show (P6a _ []).length+1+s.i<=s.i+1;simp[P6a];omega
 · obtain⟨s1,_,h1,h⟩:=B6 h;have e1:s1.N=s.N/\s1.T=s.T/\s1.i=s.i+(if acc.length=0 then 0 else 1):=by
    split at h1
    · rename_i h0;obtain⟨rfl,_⟩:=I7 h1;exact⟨rfl,rfl,by rw[if_pos h0];rfl⟩
    · rename_i h0;obtain⟨_,rfl⟩:=I9 h1;exact⟨rfl,rfl,by rw[if_neg h0];rfl⟩
   obtain⟨s2,x,h2,h⟩:=B6 h;obtain⟨s3,y,h3,h4⟩:=B6 h2;obtain⟨rfl,rfl⟩:=I7 h4;obtain⟨t,w1,y1,l1,d1,_⟩:=i.typ _ _ _ _ h3;have y1:Yft s t s3 y:=by
    obtain⟨a,b,c⟩:=y1;rw[e1.1]at a;rw[e1.2.1]at b c;exact⟨a,b,c⟩
   obtain⟨ks,l',rfl,w2,y2,l2,d2⟩:=i.list _ _ _ _ _ _ h;refine⟨t::ks,y::l',by simp,λx hx=> ?_,y1.cons' y2, ?_, ?_⟩
   · rcases jW.1 hx with rfl|hx
     · exact w1
     · exact w2 x hx
   · have hf:decide ((acc++[y]).length=0)=false:=by simp
     rw[hf]at l2;simp only[P6a,qQ];rw[e1.2.2]at l1;by_cases h0:acc.length=0
     · rw[if_pos h0]at l1;rw[decide_eq_true h0,if_pos rfl];simp only[xQ];omega
     · rw[if_neg h0]at l1;rw[decide_eq_false h0];simp only[Bool.false_eq_true,if_false,jQ,xQ];omega
   · rw[J0a];omega
end
theorem D9a{L:List Tk}(hL:NmL L):∀f,YF L (sp' L f)
 |0=>by constructor<;>(intros;contradiction)
 |f+1=>⟨C9d (D9a hL f),F0c (D9a hL f),Z2b (D9a hL f),Z3b (D9a hL f),T3c hL (D9a hL f),D0d (D9a hL f),T4c (D9a hL f)⟩
structure Pt where
 b:Nat
 k:Int
 ts:List TT
 d:Nat
def pt0:Pt:=⟨5,0,[],0⟩
def p0(cs:List Pt):Pt:=cs.getD 0 pt0
def p1(cs:List Pt):Pt:=cs.getD 1 pt0
def p2(cs:List Pt):Pt:=cs.getD 2 pt0
def wt(least:Nat)(c:Pt):List TT:=if least<=c.b then c.ts else sg [40]::(c.ts++[sg [41]])
def wd(least:Nat)(c:Pt):Nat:=if least<=c.b then c.d else c.d+1
def P9a(c:Pt):List TT:=if c.k= -1 then [] else sg [58]::c.ts
def U7:Bool->List Pt->List TT
 |_,[]=>[]
 |fst,c::r=>(if fst then [] else [sg [44]])++c.ts++U7 false r
def flT:List Pt->List TT
 |[]=>[]
 |c::r=>c.ts++flT r
def mx(a:Nat):List Pt->Nat
 |[]=>0
 |c::r=>max (c.d+a) (mx a r)
def sgw(tx:List UInt8):TT:=if tx=[116,121,112,101,111,102] then (2,tx) else sg tx
def lv(tx:List UInt8):Nat:=if bnK 12 tx=1 then 2 else bnK 12 tx
def tkK(k:Int)(tx:List UInt8)(n:Int)(cs:List Pt):List TT:=
 if k=1 then [(3,Lib.itoa n)]
 else if k=2 then [(4,tx)]
 else if k=3 then [(2,if n=1 then [116,114,117,101] else [102,97,108,115,101])]
 else if k=4 then [(2,[110,117,108,108])]
 else if k=5 then [(1,tx)]
 else if k=6 then (2,[102,110])::sg [40]::(U7 true cs.dropLast.dropLast++sg [41]::(P9a (cs.dropLast.getLastD pt0)++(cs.getLastD pt0).ts))
 else if k=7 then wt 5 (p0 cs)++sg [40]::(U7 true cs.tail++[sg [41]])
 else if k=8 then wt 5 (p0 cs)++[sg [46],(1,tx)]
 else if k=9 then wt 5 (p0 cs)++sg [91]::((p1 cs).ts++[sg [93]])
 else if k=10 then sg [123]::(U7 true cs++[sg [125]])
 else if k=11 then sg [91]::(U7 true cs++[sg [93]])
 else if k=12 then wt (lv tx) (p0 cs)++sg tx::wt (bnK 12 tx+1) (p1 cs)
 else if k=13 then sgw tx::wt 4 (p0 cs)
 else if k=14 then wt 5 (p0 cs)++(2,[97,115])::(p1 cs).ts
 else if k=15 then (1,tx)::sg [58]::(p0 cs).ts
 else if k=16 then (1,tx)::P9a (p0 cs)
 else if k=17 then (2,[108,101,116])::(1,tx)::(P9a (p0 cs)++sg [61]::((p1 cs).ts++[sg [59]]))
 else if k=18 then (1,tx)::sg [61]::((p0 cs).ts++[sg [59]])
 else if k=19 then wt 5 (p0 cs)++sg [46]::(1,tx)::sg [61]::((p1 cs).ts++[sg [59]])
 else if k=20 then wt 5 (p0 cs)++sg [91]::((p1 cs).ts++sg [93]::sg [61]::((p2 cs).ts++[sg [59]]))
 else if k=21 then (2,[112,114,105,110,116])::((p0 cs).ts++[sg [59]])
 else if k=22 then (2,[105,102])::sg [40]::((p0 cs).ts++sg [41]::((p1 cs).ts++(if (p2 cs).k= -1 then [] else (2,[101,108,115,101])::(p2 cs).ts)))
 else if k=23 then (2,[119,104,105,108,101])::sg [40]::((p0 cs).ts++sg [41]::(p1 cs).ts)
 else if k=24 then (2,[114,101,116,117,114,110])::((p0 cs).ts++[sg [59]])
 else if k=25 then (p0 cs).ts++[sg [59]]
 else sg [123]::(flT cs++[sg [125]])
def dK(k:Int)(tx:List UInt8)(cs:List Pt):Nat:=
 if k=6\/k=10\/k=16 then mx 0 cs
 else if k=7 then max (wd 5 (p0 cs)) (mx 1 cs.tail)
 else if k=8 then wd 5 (p0 cs)
 else if k=9 then max (wd 5 (p0 cs)) ((p1 cs).d+1)
 else if k=12 then max (wd (lv tx) (p0 cs)) (wd (bnK 12 tx+1) (p1 cs))
 else if k=13 then wd 4 (p0 cs)+1
 else if k=14 then max (wd 5 (p0 cs)) (p1 cs).d
 else if k=17 then max (p0 cs).d ((p1 cs).d+1)
 else if k=19 then max (wd 5 (p0 cs)+1) ((p1 cs).d+1)
 else if k=20 then max (wd 5 (p0 cs)+1) (max ((p1 cs).d+2) ((p2 cs).d+1))
 else if k=22 then max ((p0 cs).d+1) (max (p1 cs).d (p2 cs).d)
 else if k=23 then max ((p0 cs).d+1) (p1 cs).d
 else mx 1 cs
mutual
def me:Nt->List TT×Nat
 | .ty none=>([],0)
 | .ty (some t)=>(tks t,dTy t+1)
 | .nd k tx n ps=>(tkK k tx n (meL ps),dK k tx (meL ps))
def meL:List Nt->List Pt
 |[]=>[]
 |p::r=>⟨bnd p,p.k,(me p).1,(me p).2⟩::meL r
end
def pt(t:Nt):Pt:=⟨bnd t,t.k,(me t).1,(me t).2⟩
theorem W7b:∀ps,meL ps=ps.map pt
 |[]=>rfl
 |p::r=>by rw[meL,W7b r];rfl
theorem X9(p:Nt)(r:List Nt):meL (p::r)=pt p::meL r:=rfl
def Nt.tx:Nt->List UInt8
 | .nd _ tx _ _=>tx
 | .ty _=>[]
def own(k:Int)(tx:List UInt8)(n:Int)(ps:List Nt):Prop:=
 if k=1 then tx=[]/\0<=n/\n<=999999999
 else if k=2 then (tx.length<=30/\∀c∈tx,txt c.toNat=true)/\n=0
 else if k=3 then tx=[]/\(n=0\/n=1)
 else if k=5\/k=8\/k=15\/k=16\/k=17\/k=18\/k=19 then L9 tx/\n=0
 else if k=12 then tx∈[[61,61],[60],[43],[45],[42]]/\n=0
 else if k=13 then tx∈[[33],[45],[116,121,112,101,111,102]]/\n=0
 else tx=[]/\n=0/\(k=6->(ps.dropLast.dropLast.map Nt.tx).Nodup)/\(k=10->(ps.map Nt.tx).Nodup)
mutual
def Wn:Nt->Prop
 | .ty none=>True
 | .ty (some t)=>Wf t
 | .nd k tx n ps=>shp k (ps.map Nt.k)/\own k tx n ps/\WnL ps
def WnL:List Nt->Prop
 |[]=>True
 |p::r=>Wn p/\WnL r
end
theorem A9a:∀ps,WnL ps ↔∀p∈ps,Wn p
 |[]=>by simp[WnL]
 |p::r=>by simp[WnL,A9a r]
/-! ### What has come U5 what was there -/
def Nft(s:St)(t:Nt)(s':St)(x:Int):Prop:=s'.N.map Nd.fl=s.N.map Nd.fl++emN s.N.length s.T.length t/\s'.T=s.T++emY s.T.length t/\x=ixN s.N.length s.T.length t
def NftL(s:St)(ps:List Nt)(s':St)(l:List Int):Prop:=s'.N.map Nd.fl=s.N.map Nd.fl++M8 s.N.length s.T.length ps/\s'.T=s.T++S9 s.T.length ps/\l=ixL s.N.length s.T.length ps
theorem Nft.lenN{s s':St}{t:Nt}{x:Int}(h:Nft s t s' x):s'.N.length=s.N.length+nN t:=by
 have:=congrArg List.length h.1;simpa[U3]using this
theorem Nft.lenT{s s':St}{t:Nt}{x:Int}(h:Nft s t s' x):s'.T.length=s.T.length+nT t:=by
 have:=congrArg List.length h.2.1;simpa[D3a]using this
theorem NftL.lenN{s s':St}{ps:List Nt}{l:List Int}(h:NftL s ps s' l):s'.N.length=s.N.length+nNL ps:=by
 have:=congrArg List.length h.1;simpa[M6]using this
theorem NftL.lenT{s s':St}{ps:List Nt}{l:List Int}(h:NftL s ps s' l):s'.T.length=s.T.length+nTL ps:=by
 have:=congrArg List.length h.2.1;simpa[L1a]using this
theorem NftL.nil(s:St):NftL s [] s []:=⟨by simp[M8],by simp[S9],rfl⟩
theorem Nft.cons{s s1 s2:St}{t:Nt}{x:Int}{ps:List Nt}{l:List Int}(h:Nft s t s1 x)(k:NftL s1 ps s2 l):NftL s (t::ps) s2 (x::l):=by
 refine⟨?_, ?_, ?_⟩
 · rw[k.1,h.lenN,h.lenT,h.1,M8,List.append_assoc]
 · rw[k.2.1,h.lenT,h.2.1,S9,List.append_assoc]
 · rw[k.2.2,h.lenN,h.lenT,h.2.2,ixL]
theorem U8a:∀(ps qs:List Nt) (b tb:Nat),M8 b tb (ps++qs)=M8 b tb ps++M8 (b+nNL ps) (tb+nTL ps) qs
 |[],qs,b,tb=>by simp[M8,nNL,nTL]
 |p::r,qs,b,tb=>by rw[List.cons_append,M8,M8,U8a r,nNL,nTL,List.append_assoc,Nat.add_assoc,Nat.add_assoc]
theorem L1b:∀(ps qs:List Nt) (tb:Nat),S9 tb (ps++qs)=S9 tb ps++S9 (tb+nTL ps) qs
 |[],qs,tb=>by simp[S9,nTL]
 |p::r,qs,tb=>by rw[List.cons_append,S9,S9,L1b r,nTL,List.append_assoc,Nat.add_assoc]
theorem K9a:∀(ps qs:List Nt) (b tb:Nat),ixL b tb (ps++qs)=ixL b tb ps++ixL (b+nNL ps) (tb+nTL ps) qs
 |[],qs,b,tb=>by simp[ixL,nNL,nTL]
 |p::r,qs,b,tb=>by rw[List.cons_append,ixL,ixL,K9a r,nNL,nTL,List.cons_append,Nat.add_assoc,Nat.add_assoc]
theorem NftL.app{s s1 s2:St}{ps qs:List Nt}{l l':List Int}(h:NftL s ps s1 l)(k:NftL s1 qs s2 l'):NftL s (ps++qs) s2 (l++l'):=by
 refine⟨?_, ?_, ?_⟩
 · rw[k.1,h.lenN,h.lenT,h.1,U8a,List.append_assoc]
 · rw[k.2.1,h.lenT,h.2.1,L1b,List.append_assoc]
 · rw[k.2.2,h.lenN,h.lenT,h.2.2,K9a]
theorem Nft.l{s s':St}{t:Nt}{x:Int}(h:Nft s t s' x):NftL s [t] s' [x]:=h.cons (NftL.nil s')
theorem NftL.node{s s':St}{ps:List Nt}{l:List Int}(h:NftL s ps s' l)(i:Nat)(k:Int)(tx:List UInt8)(m:Int)(n:Nd)(hn:n.fl=mkN k tx m l):Nft s (.nd k tx m ps) ⟨i,s'.N++[n],s'.T⟩ s'.N.length:=by
 refine⟨?_, ?_, ?_⟩
 · show (s'.N++[n]).map Nd.fl=_;rw[List.map_append,h.1,emN,<-h.2.2,List.map_cons,List.map_nil,hn,List.append_assoc]
 · show s'.T=_;rw[h.2.1,emY]
 · rw[h.lenN,ixN,nN];omega
theorem Nft.none(s:St):Nft s (.ty none) s (-1):=⟨by simp[emN],by simp[emY],rfl⟩
theorem Yft.n{s s':St}{t:Tr}{x:Int}(h:Yft s t s' x):Nft s (.ty (some t)) s' x:=⟨by simp[emN,h.1],by rw[h.2.1,emY],h.2.2⟩
theorem F8{s s':St}{n:Nd}{x:Int}(h:addN s n=some (.ok s' x)):s'=⟨s.i,s.N++[n],s.T⟩/\x=s.N.length:=by
 simp only[addN,zQ,Out.ok.injEq]at h;exact⟨h.1.symm,h.2.symm⟩
theorem dl2{α:Type}(l:List α)(a b:α):(l++[a,b]).dropLast=l++[a]:=by
 rw[show l++[a,b]=(l++[a])++[b] by simp,List.dropLast_concat]
theorem dl3{α:Type}(l:List α)(a b:α):(l++[a,b]).dropLast.dropLast=l:=by rw[dl2,List.dropLast_concat]
theorem dl4{α:Type}(l:List α)(a b x:α):(l++[a,b]).dropLast.getLastD x=a:=by rw[dl2];simp[List.getLastD_eq_getLast?]
theorem dl5{α:Type}(l:List α)(a b x:α):(l++[a,b]).getLastD x=b:=by simp[List.getLastD_eq_getLast?]
theorem U3b(a b:Nat)(c:Pt)(h:a<=b):(wt a c).length<=(wt b c).length:=by
 unfold wt;split<;>split<;>simp<;>omega
theorem wd_low(a:Nat)(c:Pt):c.d<=wd a c:=by
 unfold wd;split<;>omega
theorem U8b(a b:Nat)(c:Pt)(h:a<=b):wd a c<=wd b c:=by
 unfold wd;split<;>split<;>omega
theorem E0a(a:Nat)(c:Pt)(h:a<=c.b):wt a c=c.ts:=by rw[wt,if_pos h]
theorem E1a(a:Nat)(c:Pt)(h:a<=c.b):wd a c=c.d:=by rw[wd,if_pos h]
theorem J7d(a:Nat)(c:Pt):(wt a c).length<=c.ts.length+2:=by
 unfold wt;split<;>simp
theorem K0d(a:Nat)(c:Pt):wd a c<=c.d+1:=by
 unfold wd;split<;>omega
theorem me5(tx:List UInt8)(n:Int):me (.nd 5 tx n [])=([(1,tx)],0):=rfl
theorem M3c(a:Nat):∀xs ys:List Pt,mx a (xs++ys)=max (mx a xs) (mx a ys)
 |[],ys=>by simp[mx]
 |x::xs,ys=>by rw[List.cons_append,mx,M3c a xs ys,mx];omega
theorem me6(tx:List UInt8)(n:Int)(ps:List Nt)(a b:Nt):me (.nd 6 tx n (ps++[a,b]))=((2,[102,110])::sg [40]::(U7 true (meL ps)++sg [41]::(P9a (pt a)++(me b).1)),max (mx 0 (meL ps)) (max (me a).2 (me b).2)):=by
 have e:meL (ps++[a,b])=meL ps++[pt a,pt b]:=by simp[W7b]
 rw[me,e];show ((2,[102,110])::sg [40]::(U7 true (meL ps++[pt a,pt b]).dropLast.dropLast++sg [41]::(P9a ((meL ps++[pt a,pt b]).dropLast.getLastD pt0)++((meL ps++[pt a,pt b]).getLastD pt0).ts)),mx 0 (meL ps++[pt a,pt b]))=_;rw[dl3,dl4,dl5,M3c,mx,mx,mx];simp[pt]
theorem me7(tx:List UInt8)(n:Int)(a:Nt)(ps:List Nt):me (.nd 7 tx n (a::ps))=(wt 5 (pt a)++sg [40]::(U7 true (meL ps)++[sg [41]]),max (wd 5 (pt a)) (mx 1 (meL ps))):=rfl
theorem me8(tx:List UInt8)(n:Int)(a:Nt):me (.nd 8 tx n [a])=(wt 5 (pt a)++[sg [46],(1,tx)],wd 5 (pt a)):=rfl
theorem me9(tx:List UInt8)(n:Int)(a b:Nt):me (.nd 9 tx n [a,b])=(wt 5 (pt a)++sg [91]::((me b).1++[sg [93]]),max (wd 5 (pt a)) ((me b).2+1)):=rfl
theorem N3d(tx:List UInt8)(n:Int)(ps:List Nt):me (.nd 10 tx n ps)=(sg [123]::(U7 true (meL ps)++[sg [125]]),mx 0 (meL ps)):=rfl
theorem N2d(tx:List UInt8)(n:Int)(ps:List Nt):me (.nd 11 tx n ps)=(sg [91]::(U7 true (meL ps)++[sg [93]]),mx 1 (meL ps)):=rfl
theorem G0d(tx:List UInt8)(n:Int)(a b:Nt):me (.nd 12 tx n [a,b])=(wt (lv tx) (pt a)++sg tx::wt (bnK 12 tx+1) (pt b),max (wd (lv tx) (pt a)) (wd (bnK 12 tx+1) (pt b))):=rfl
theorem N1d(tx:List UInt8)(n:Int)(a:Nt):me (.nd 13 tx n [a])=(sgw tx::wt 4 (pt a),wd 4 (pt a)+1):=rfl
theorem me14(tx:List UInt8)(n:Int)(a b:Nt):me (.nd 14 tx n [a,b])=(wt 5 (pt a)++(2,[97,115])::(me b).1,max (wd 5 (pt a)) (me b).2):=rfl
theorem N0d(tx:List UInt8)(n:Int)(a:Nt):me (.nd 15 tx n [a])=((1,tx)::sg [58]::(me a).1,(me a).2+1):=by rw[me];show (_,max ((me a).2+1) 0)=_;simp;rfl
theorem M9d(tx:List UInt8)(n:Int)(a:Nt):me (.nd 16 tx n [a])=((1,tx)::P9a (pt a),(me a).2):=by rw[me];show (_,max (me a).2 0)=_;simp;rfl
theorem M8d(tx:List UInt8)(n:Int)(a b:Nt):me (.nd 17 tx n [a,b])=((2,[108,101,116])::(1,tx)::(P9a (pt a)++sg [61]::((me b).1++[sg [59]])),max (me a).2 ((me b).2+1)):=rfl
theorem M7d(tx:List UInt8)(n:Int)(a:Nt):me (.nd 18 tx n [a])=((1,tx)::sg [61]::((me a).1++[sg [59]]),(me a).2+1):=by rw[me];show (_,max ((me a).2+1) 0)=_;simp;rfl
theorem M6d(tx:List UInt8)(n:Int)(a b:Nt):me (.nd 19 tx n [a,b])=(wt 5 (pt a)++sg [46]::(1,tx)::sg [61]::((me b).1++[sg [59]]),max (wd 5 (pt a)+1) ((me b).2+1)):=rfl
theorem M5d(tx:List UInt8)(n:Int)(a b c:Nt):me (.nd 20 tx n [a,b,c])=(wt 5 (pt a)++sg [91]::((me b).1++sg [93]::sg [61]::((me c).1++[sg [59]])),max (wd 5 (pt a)+1) (max ((me b).2+2) ((me c).2+1))):=rfl
theorem M4d(tx:List UInt8)(n:Int)(a:Nt):me (.nd 21 tx n [a])=((2,[112,114,105,110,116])::((me a).1++[sg [59]]),(me a).2+1):=by rw[me];show (_,max ((me a).2+1) 0)=_;simp;rfl
theorem M3d(tx:List UInt8)(n:Int)(a b c:Nt):me (.nd 22 tx n [a,b,c])=((2,[105,102])::sg [40]::((me a).1++sg [41]::((me b).1++(if c.k= -1 then [] else (2,[101,108,115,101])::(me c).1))),max ((me a).2+1) (max (me b).2 (me c).2)):=rfl
theorem M2d(tx:List UInt8)(n:Int)(a b:Nt):me (.nd 23 tx n [a,b])=((2,[119,104,105,108,101])::sg [40]::((me a).1++sg [41]::(me b).1),max ((me a).2+1) (me b).2):=rfl
theorem M1d(tx:List UInt8)(n:Int)(a:Nt):me (.nd 24 tx n [a])=((2,[114,101,116,117,114,110])::((me a).1++[sg [59]]),(me a).2+1):=by rw[me];show (_,max ((me a).2+1) 0)=_;simp;rfl
theorem M0d(tx:List UInt8)(n:Int)(a:Nt):me (.nd 25 tx n [a])=((me a).1++[sg [59]],(me a).2+1):=by rw[me];show (_,max ((me a).2+1) 0)=_;simp;rfl
theorem L9d(tx:List UInt8)(n:Int)(ps:List Nt):me (.nd 26 tx n ps)=(sg [123]::(flT (meL ps)++[sg [125]]),mx 1 (meL ps)):=rfl
theorem w1{n:Int}(h:0<=n/\n<=999999999):Wn (.nd 1 [] n []):=by simp[Wn,WnL,shp,own];omega
theorem w2{tx:List UInt8}(h:tx.length<=30/\∀c∈tx,txt c.toNat=true):Wn (.nd 2 tx 0 []):=by simp[Wn,WnL,shp,own];exact h
theorem w3{n:Int}(h:n=0\/n=1):Wn (.nd 3 [] n []):=by simp[Wn,WnL,shp,own];exact h
theorem w4:Wn (.nd 4 [] 0 []):=by simp[Wn,WnL,shp,own]
theorem w5{tx:List UInt8}(h:L9 tx):Wn (.nd 5 tx 0 []):=by simp[Wn,WnL,shp,own];exact h
theorem w6{ps:List Nt}{a b:Nt}(h:∀p∈ps,Wn p/\p.k=16)(hn:(ps.map Nt.tx).Nodup)(ha:Wn a)(ia:isT a.k)(hb:Wn b)(ib:b.k=26):Wn (.nd 6 [] 0 (ps++[a,b])):=by
 rw[Wn];refine⟨?_, ?_, ?_⟩
 · have:∃xs r,(ps++[a,b]).map Nt.k=xs++[r,26]/\(∀x∈xs,x=16)/\isT r:=⟨ps.map Nt.k,a.k,by simp[ib],λx hx=>by obtain⟨p,hp,rfl⟩:=List.mem_map.1 hx;exact(h p hp).2,ia⟩;simpa[shp]using this
 · have:((ps++[a,b]).dropLast.dropLast.map Nt.tx).Nodup:=by rw[dl3];exact hn
   simpa[own]using this
 · rw[A9a];intro p hp;simp only[qW,jW,List.not_mem_nil,or_false]at hp;rcases hp with hp|rfl|rfl
   · exact(h p hp).1
   · exact ha
   · exact hb
theorem w7{a:Nt}{ps:List Nt}(ha:Wn a)(ia:isE a.k)(h:∀p∈ps,Wn p/\isE p.k):Wn (.nd 7 [] 0 (a::ps)):=by
 rw[Wn];refine⟨?_,by simp[own], ?_⟩
 · have:∃x xs,(a::ps).map Nt.k=x::xs/\isE x/\∀y∈xs,isE y:=⟨a.k,ps.map Nt.k,rfl,ia,λx hx=>by obtain⟨p,hp,rfl⟩:=List.mem_map.1 hx;exact(h p hp).2⟩;simpa[shp]using this
 · rw[A9a];intro p hp;rcases jW.1 hp with rfl|hp
   · exact ha
   · exact(h p hp).1
theorem w8{tx:List UInt8}{a:Nt}(h:L9 tx)(ha:Wn a)(ia:isE a.k):Wn (.nd 8 tx 0 [a]):=by simp[Wn,WnL,shp,own];exact⟨ia,h,ha⟩
theorem w9{a b:Nt}(ha:Wn a)(ia:isE a.k)(hb:Wn b)(ib:isE b.k):Wn (.nd 9 [] 0 [a,b]):=by simp[Wn,WnL,shp,own];exact⟨⟨_,_,⟨rfl,rfl⟩,ia,ib⟩,ha,hb⟩
theorem w10{ps:List Nt}(h:∀p∈ps,Wn p/\p.k=15)(hn:(ps.map Nt.tx).Nodup):Wn (.nd 10 [] 0 ps):=by
 rw[Wn];refine⟨?_,by simpa[own]using hn,(A9a ps).2 λp hp=>(h p hp).1⟩;have:∀x∈ps.map Nt.k,x=15:=λx hx=>by obtain⟨p,hp,rfl⟩:=List.mem_map.1 hx;exact(h p hp).2
 simpa[shp]using this
theorem w11{ps:List Nt}(h:∀p∈ps,Wn p/\isE p.k):Wn (.nd 11 [] 0 ps):=by
 rw[Wn];refine⟨?_,by simp[own],(A9a ps).2 λp hp=>(h p hp).1⟩;have:∀x∈ps.map Nt.k,isE x:=λx hx=>by obtain⟨p,hp,rfl⟩:=List.mem_map.1 hx;exact(h p hp).2
 simpa[shp]using this
theorem w12{tx:List UInt8}{a b:Nt}(h:tx∈[[61,61],[60],[43],[45],[42]])(ha:Wn a)(ia:isE a.k)(hb:Wn b)(ib:isE b.k):Wn (.nd 12 tx 0 [a,b]):=by
 rw[Wn];refine⟨?_,⟨h,rfl⟩,ha,hb,trivial⟩;have:∃x y,[a,b].map Nt.k=[x,y]/\isE x/\isE y:=⟨_,_,rfl,ia,ib⟩;simpa[shp]using this
theorem w13{tx:List UInt8}{a:Nt}(h:tx∈[[33],[45],[116,121,112,101,111,102]])(ha:Wn a)(ia:isE a.k):Wn (.nd 13 tx 0 [a]):=by
 rw[Wn];refine⟨?_,⟨h,rfl⟩,ha,trivial⟩;have:∃x,[a].map Nt.k=[x]/\isE x:=⟨_,rfl,ia⟩;simpa[shp]using this
theorem w14{a:Nt}{t:Tr}(ha:Wn a)(ia:isE a.k)(ht:Wf t):Wn (.nd 14 [] 0 [a,.ty (some t)]):=by simp[Wn,WnL,shp,own,Nt.k];exact⟨ia,ha,ht⟩
theorem w15{tx:List UInt8}{a:Nt}(h:L9 tx)(ha:Wn a)(ia:isE a.k):Wn (.nd 15 tx 0 [a]):=by simp[Wn,WnL,shp,own];exact⟨ia,h,ha⟩
theorem w16{tx:List UInt8}{a:Nt}(h:L9 tx)(ha:Wn a)(ia:isT a.k):Wn (.nd 16 tx 0 [a]):=by simp[Wn,WnL,shp,own];exact⟨ia,h,ha⟩
theorem w17{tx:List UInt8}{a b:Nt}(h:L9 tx)(ha:Wn a)(ia:isT a.k)(hb:Wn b)(ib:isE b.k):Wn (.nd 17 tx 0 [a,b]):=by simp[Wn,WnL,shp,own];exact⟨⟨_,_,⟨rfl,rfl⟩,ia,ib⟩,h,ha,hb⟩
theorem w18{tx:List UInt8}{a:Nt}(h:L9 tx)(ha:Wn a)(ia:isE a.k):Wn (.nd 18 tx 0 [a]):=by simp[Wn,WnL,shp,own];exact⟨ia,h,ha⟩
theorem w19{tx:List UInt8}{a b:Nt}(h:L9 tx)(ha:Wn a)(ia:isE a.k)(hb:Wn b)(ib:isE b.k):Wn (.nd 19 tx 0 [a,b]):=by simp[Wn,WnL,shp,own];exact⟨⟨_,_,⟨rfl,rfl⟩,ia,ib⟩,h,ha,hb⟩
theorem w20{a b c:Nt}(ha:Wn a)(ia:isE a.k)(hb:Wn b)(ib:isE b.k)(hc:Wn c)(ic:isE c.k):Wn (.nd 20 [] 0 [a,b,c]):=by simp[Wn,WnL,shp,own];exact⟨⟨_,_,_,⟨rfl,rfl,rfl⟩,ia,ib,ic⟩,ha,hb,hc⟩
theorem w21{a:Nt}(ha:Wn a)(ia:isE a.k):Wn (.nd 21 [] 0 [a]):=by simp[Wn,WnL,shp,own];exact⟨ia,ha⟩
theorem w22{a b c:Nt}(ha:Wn a)(ia:isE a.k)(hb:Wn b)(ib:b.k=26)(hc:Wn c)(ic:c.k=26\/c.k= -1):Wn (.nd 22 [] 0 [a,b,c]):=by simp[Wn,WnL,shp,own];exact⟨⟨_,_,⟨rfl,ib,rfl⟩,ia,ic⟩,ha,hb,hc⟩
theorem w23{a b:Nt}(ha:Wn a)(ia:isE a.k)(hb:Wn b)(ib:b.k=26):Wn (.nd 23 [] 0 [a,b]):=by simp[Wn,WnL,shp,own];exact⟨⟨_,⟨rfl,ib⟩,ia⟩,ha,hb⟩
theorem w24{a:Nt}(ha:Wn a)(ia:isE a.k):Wn (.nd 24 [] 0 [a]):=by simp[Wn,WnL,shp,own];exact⟨ia,ha⟩
theorem w25{a:Nt}(ha:Wn a)(ia:isE a.k):Wn (.nd 25 [] 0 [a]):=by simp[Wn,WnL,shp,own];exact⟨ia,ha⟩
theorem w26{ps:List Nt}(h:∀p∈ps,Wn p/\17<=p.k/\p.k<=25):Wn (.nd 26 [] 0 ps):=by
 rw[Wn];refine⟨?_,by simp[own],(A9a ps).2 λp hp=>(h p hp).1⟩;have:∀x∈ps.map Nt.k,17<=x/\x<=25:=λx hx=>by obtain⟨p,hp,rfl⟩:=List.mem_map.1 hx;exact(h p hp).2
 simpa[shp]using this
def Lv(l d:Nat)(s s':St)(x:Int):Prop:=∃t,Wn t/\isE t.k/\Nft s t s' x/\(wt l (pt t)).length+s.i<=s'.i/\wd l (pt t)<=20 - d
def Gw(l d:Nat)(s:St)(x:Int)(s':St)(y:Int):Prop:=∀s0 t0,Wn t0->isE t0.k->Nft s0 t0 s x->wd l (pt t0)<=20 - d->
 ∃t,Wn t/\isE t.k/\Nft s0 t s' y/\(wt l (pt t)).length+s.i<=(wt l (pt t0)).length+s'.i/\wd l (pt t)<=20 - d
def Li(f a d:Nat)(Q:Nt->Prop)(s s':St)(acc l:List Int):Prop:=∃ps l',l=acc++l'/\(∀p∈ps,Wn p/\Q p)/\NftL s ps s' l'/\(U7 (decide (acc.length=0)) (meL ps)).length+f+s.i<=s'.i/\mx a (meL ps)<=20 - d
def Fl(f d:Nat)(s s':St)(acc l:List Int):Prop:=∃ps l',l=acc++l'/\(∀p∈ps,Wn p/\17<=p.k/\p.k<=25)/\NftL s ps s' l'/\(flT (meL ps)).length+f+s.i<=s'.i/\mx 1 (meL ps)<=20 - d
def lvb(b:Bool):Nat:=if b then 2 else 3
structure NF(L:List Tk)(r:Sp):Prop where
 expr:∀d s s' x,r.expr d s=some (.ok s' x)->d<20/\Lv 1 (d+1) s s' x
 comp:∀d s s' x,r.comp d s=some (.ok s' x)->Lv 1 d s s' x
 sum:∀d s s' x,r.sum d s=some (.ok s' x)->Lv 2 d s s' x
 prod:∀d s s' x,r.prod d s=some (.ok s' x)->Lv 3 d s s' x
 row:∀b d s x s' y,r.row b d s x=some (.ok s' y)->Gw (lvb b) d s x s' y
 oper:∀d s s' x,r.oper d s=some (.ok s' x)->Lv 4 d s s' x
 tail:∀d s x s' y,r.tail d s x=some (.ok s' y)->Gw 5 d s x s' y
 simple:∀d s s' x,r.simple d s=some (.ok s' x)->Lv 5 d s s' x
 listE:∀e d s nm acc s' l,r.list .expr e d s nm acc=some (.ok s' l)->Li 1 1 d (λp=>isE p.k) s s' acc l
 listO:∀e d s nm acc s' l,nm.Nodup->r.list .obj e d s nm acc=some (.ok s' l)->∃ps l',l=acc++l'/\(nm++ps.map Nt.tx).Nodup/\(∀p∈ps,Wn p/\p.k=15)/\NftL s ps s' l'/\(U7 (decide (acc.length=0)) (meL ps)).length+1+s.i<=s'.i/\mx 0 (meL ps)<=20 - d
 listP:∀e d s nm acc s' l,nm.Nodup->r.list .par e d s nm acc=some (.ok s' l)->∃ps l',l=acc++l'/\(nm++ps.map Nt.tx).Nodup/\(∀p∈ps,Wn p/\p.k=16)/\NftL s ps s' l'/\(U7 (decide (acc.length=0)) (meL ps)).length+1+s.i<=s'.i/\mx 0 (meL ps)<=20 - d
 block:∀d s s' x,r.block d s=some (.ok s' x)->∃t,Wn t/\t.k=26/\Nft s t s' x/\(me t).1.length+s.i<=s'.i/\(me t).2<=20 - d
 blockL:∀d s acc s' l,r.blockL d s acc=some (.ok s' l)->Fl 1 d s s' acc l
 stmt:∀d s s' x,r.stmt d s=some (.ok s' x)->∃t,Wn t/\(17<=t.k/\t.k<=25)/\Nft s t s' x/\(me t).1.length+s.i<=s'.i/\(me t).2+1<=20 - d
 any:∀d s s' x,r.any d s=some (.ok s' x)->∃t,Wn t/\(17<=t.k/\t.k<=25)/\Nft s t s' x/\(me t).1.length+s.i<=s'.i/\(me t).2<=20 - d
 progL:∀d s acc s' l,r.progL d s acc=some (.ok s' l)->Fl 0 d s s' acc l
theorem D1b{L:List Tk}{i:Nat}{ms:List (List UInt8)}(h:isM L i ms=true):(tk L i).text∈ms:=by
 simp only[isM,has,Bool.and_eq_true,List.contains_iff_mem]at h;exact h.2
theorem K1a(t:Nt):(pt t).ts=(me t).1:=rfl
theorem S5a(t:Nt):(pt t).d=(me t).2:=rfl
theorem wt1(t:Nt)(h:isE t.k):wt 1 (pt t)=(me t).1:=by
 refine E0a _ _ ?_;show 1<=bnd t;cases t with
 |ty o=>simp[bnd]
 |nd k tx n ps=>
  rw[bnd,bnK];repeat' split
  all_goals omega
theorem wd1(t:Nt)(h:isE t.k):wd 1 (pt t)=(me t).2:=by
 refine E1a _ _ ?_;show 1<=bnd t;cases t with
 |ty o=>simp[bnd]
 |nd k tx n ps=>
  rw[bnd,bnK];repeat' split
  all_goals omega
section
variable{L:List Tk}{r:Sp}
theorem Gw.one{l d:Nat}{s s':St}{x y:Int}{s1:St}{t:Nt}(h:Gw l d s1 x s' y)(hw:Wn t)(hk:isE t.k)(hn:Nft s t s1 x)(hl:(wt l (pt t)).length+s.i<=s1.i)(hd:wd l (pt t)<=20 - d):Lv l d s s' y:=by
 obtain⟨t',a,b,c,e,f⟩:=h s t hw hk hn hd;exact⟨t',a,b,c,by omega,f⟩
theorem X1c(i:NF L r):∀d s s' x,(step L r).expr d s=some (.ok s' x)->d<20/\Lv 1 (d+1) s s' x:=by
 intro d s s' x h;obtain⟨_,hd,h⟩:=G7a h;exact⟨hd,i.comp _ _ _ _ h⟩
theorem G4c{s s1 s':St}{x y:Int}{part:St->Option (Out Int)}(h:two L s1 x part=some (.ok s' y)){lr d:Nat}(hp:∀s s' x,part s=some (.ok s' x)->Lv lr d s s' x){t:Nt}(hw:Wn t)(hk:isE t.k)(hn:Nft s t s1 x)
 (hs:(tk L s1.i).text∈[[61,61],[60],[43],[45],[42]]):∃u,Wn u/\isE u.k/\Nft s (.nd 12 (tk L s1.i).text 0 [t,u]) s' y/\(wt lr (pt u)).length+s1.i+1<=s'.i/\wd lr (pt u)<=20 - d/\Wn (.nd 12 (tk L s1.i).text 0 [t,u]):=by
 obtain⟨s2,z,h1,h2⟩:=B6 h;obtain⟨rfl,rfl⟩:=F8 h2;obtain⟨u,a,b,c,e,f⟩:=hp _ _ _ h1;have c:Nft s1 u s2 z:=c;have e:(wt lr (pt u)).length+(s1.i+1)<=s2.i:=e;refine⟨u,a,b,(hn.cons c.l).node _ 12 _ 0 _ rfl, ?_,f,w12 hs hw hk a b⟩;show _<=s2.i;omega
theorem X2c(i:NF L r):∀d s s' x,(step L r).comp d s=some (.ok s' x)->Lv 1 d s s' x:=by
 intro d s s' x h;obtain⟨s1,y,h1,h2⟩:=B6 h;obtain⟨t,a,b,c,e,f⟩:=i.sum _ _ _ _ h1;split at h2
 · rename_i hm;have hm:=D1b hm;have hs:(tk L s1.i).text∈[[61,61],[60],[43],[45],[42]]:=by
    simp only[jW,List.not_mem_nil,or_false]at hm;rcases hm with h|h<;>rw[h]<;>decide
   obtain⟨u,a2,b2,c2,e2,f2,w2⟩:=G4c h2 (i.sum d) a b c hs;have hb:bnK 12 (tk L s1.i).text=1:=by
    simp only[jW,List.not_mem_nil,or_false]at hm;rcases hm with h|h<;>rw[h]<;>rfl
   have hl:lv (tk L s1.i).text=2:=by rw[lv,hb];rfl
   refine⟨_,w2,by simp[isE,Nt.k],c2, ?_, ?_⟩
   · rw[wt1 _ (by simp[isE,Nt.k]),G0d,hl,hb];simp only[qQ,jQ,Nat.reduceAdd];omega
   · rw[wd1 _ (by simp[isE,Nt.k]),G0d,hl,hb];simp only[Nat.reduceAdd];omega
 · obtain⟨rfl,rfl⟩:=I7 h2;have h1:=U3b 1 2 (pt t) (by decide);have h2:=U8b 1 2 (pt t) (by decide);exact⟨t,a,b,c,by omega,by omega⟩
theorem F4d(i:NF L r):∀d s s' x,(step L r).sum d s=some (.ok s' x)->Lv 2 d s s' x:=by
 intro d s s' x h;obtain⟨s1,y,h1,h2⟩:=B6 h;obtain⟨t,a,b,c,e,f⟩:=i.prod _ _ _ _ h1;have h3:=U3b 2 3 (pt t) (by decide);have h4:=U8b 2 3 (pt t) (by decide);exact Gw.one (i.row _ _ _ _ _ _ h2) a b c (by show (wt 2 (pt t)).length+_<=_;omega) (by show wd 2 (pt t)<=_;omega)
theorem W9c(i:NF L r):∀d s s' x,(step L r).prod d s=some (.ok s' x)->Lv 3 d s s' x:=by
 intro d s s' x h;obtain⟨s1,y,h1,h2⟩:=B6 h;obtain⟨t,a,b,c,e,f⟩:=i.oper _ _ _ _ h1;have h3:=U3b 3 4 (pt t) (by decide);have h4:=U8b 3 4 (pt t) (by decide);exact Gw.one (i.row _ _ _ _ _ _ h2) a b c (by show (wt 3 (pt t)).length+_<=_;omega) (by show wd 3 (pt t)<=_;omega)
theorem F6d(i:NF L r):∀b d s x s' y,(step L r).row b d s x=some (.ok s' y)->Gw (lvb b) d s x s' y:=by
 intro b d s x s' y h s0 t0 hw hk hn hd;have h:(if isM L s.i (J2 b) then A4 (two L s x (if b then r.prod d else r.oper d)) λs y=>r.row b d s y else some (.ok s x))=some (.ok s' y):=h;split at h
 · rename_i hm;have hm:=D1b hm;have hs:(tk L s.i).text∈[[61,61],[60],[43],[45],[42]]:=by
    cases b
    · simp only[J2,jW,List.not_mem_nil,or_false]at hm;rw[hm];decide
    · simp only[J2,jW,List.not_mem_nil,or_false]at hm;rcases hm with h|h<;>rw[h]<;>decide
   obtain⟨s1,z,h1,h2⟩:=B6 h;have hp:∀s s' x,(if b then r.prod d else r.oper d) s=some (.ok s' x)->Lv (lvb b+1) d s s' x:=by
    cases b
    · exact i.oper d
    · exact i.prod d
   obtain⟨u,a2,b2,c2,e2,f2,w2⟩:=G4c h1 hp hw hk hn hs;have hb:bnK 12 (tk L s.i).text=lvb b/\lv (tk L s.i).text=lvb b:=by
    cases b
    · simp only[J2,jW,List.not_mem_nil,or_false]at hm;rw[hm];exact⟨rfl,rfl⟩
    · simp only[J2,jW,List.not_mem_nil,or_false]at hm;rcases hm with h|h<;>rw[h]<;>exact⟨rfl,rfl⟩
   have hb1:wt (lvb b) (pt (.nd 12 (tk L s.i).text 0 [t0,u]))=(me (.nd 12 (tk L s.i).text 0 [t0,u])).1:=E0a _ _ (by show lvb b<=bnK 12 _;omega);have hb2:wd (lvb b) (pt (.nd 12 (tk L s.i).text 0 [t0,u]))=(me (.nd 12 (tk L s.i).text 0 [t0,u])).2:=E1a _ _ (by show lvb b<=bnK 12 _;omega);rw[G0d,hb.1,hb.2]at hb1 hb2;simp only at hb1 hb2;obtain⟨t',a3,b3,c3,e3,f3⟩:=i.row _ _ _ _ _ _ h2 s0 _ w2 (by simp[isE,Nt.k]) c2 (by rw[hb2];omega);refine⟨t',a3,b3,c3, ?_,f3⟩;rw[hb1]at e3;simp only[qQ,jQ]at e3;omega
 · obtain⟨rfl,rfl⟩:=I7 h;exact⟨t0,hw,hk,hn,by omega,hd⟩
theorem X0c(i:NF L r):∀d s s' x,(step L r).oper d s=some (.ok s' x)->Lv 4 d s s' x:=by
 intro d s s' x h;have h:(if isM L s.i [[33],[45],[116,121,112,101,111,102]] then A4 (inside L (H0a L (s.i+1)) d s.nx r.oper) λs' x=>addN s' ⟨13,x,0,0,[],(tk L s.i).text,0,-1,(tk L s.i).at'⟩
  else A4 (r.simple d s) λs x=>r.tail d s x)=some (.ok s' x):=h
 split at h
 · rename_i hm;have hm:=D1b hm;obtain⟨s1,y,h1,h2⟩:=B6 h;obtain⟨_,hd,h1⟩:=G7a h1;obtain⟨rfl,rfl⟩:=F8 h2;obtain⟨t,a,b,c,e,f⟩:=i.oper _ _ _ _ h1;have c:Nft s t s1 y:=c;have e:(wt 4 (pt t)).length+(s.i+1)<=s1.i:=e;refine⟨.nd 13 (tk L s.i).text 0 [t],w13 hm a b,by simp[isE,Nt.k],c.l.node _ 13 _ 0 _ rfl, ?_, ?_⟩
   · rw[E0a _ _ (by show 4<=bnK 13 (tk L s.i).text;exact vQ _),K1a,N1d];simp only[jQ];omega
   · rw[E1a _ _ (by show 4<=bnK 13 (tk L s.i).text;exact vQ _),S5a,N1d];simp only;omega
 · obtain⟨s1,y,h1,h2⟩:=B6 h;obtain⟨t,a,b,c,e,f⟩:=i.simple _ _ _ _ h1;obtain⟨t',a,b,c,e,f⟩:=Gw.one (i.tail _ _ _ _ _ h2) a b c e f;have h3:=U3b 4 5 (pt t') (by decide);have h4:=U8b 4 5 (pt t') (by decide);exact⟨t',a,b,c,by omega,by omega⟩
theorem W7c(hL:NmL L)(y:YF L r)(i:NF L r):∀d s x s' y,(step L r).tail d s x=some (.ok s' y)->Gw 5 d s x s' y:=by
 intro d s x s' z h s0 t0 hw hk hn hd;have h:(if isM L s.i [[40]] then A4 (r.list .expr [41] d s.nx [] []) λs' l=>A4 (addN s' ⟨7,x,0,0,l,[],0,-1,atN s x⟩) λs x=>r.tail d s x
  else if isM L s.i [[46]] then
   if (tk L (s.i+1)).kind=1 then A4 (addN s.nx.nx ⟨8,x,0,0,[],(tk L (s.i+1)).text,0,-1,atN s x⟩) λs x=>r.tail d s x else flt L (s.i+1) 1
  else if isM L s.i [[91]] then A4 (r.expr d s.nx) λs' y=>A4 (need L s' [93]) λs' _=>A4 (addN s' ⟨9,x,y,0,[],[],0,-1,atN s x⟩) λs x=>r.tail d s x
  else if isM L s.i [[97,115]] then A4 (r.typ d s.nx) λs' t=>A4 (addN s' ⟨14,x,0,0,[],[],0,t,atN s x⟩) λs x=>r.tail d s x
  else some (.ok s x))=some (.ok s' z):=h
 split at h
 · obtain⟨s1,l,h1,h⟩:=B6 h;obtain⟨s2,u,h2,h⟩:=B6 h;obtain⟨rfl,rfl⟩:=F8 h2;obtain⟨ps,l',rfl,a,c,e,f⟩:=i.listE _ _ _ _ _ _ _ h1;have c:NftL s ps s1 l:=c;have e:(U7 true (meL ps)).length+1+(s.i+1)<=s1.i:=e;have hb1:wt 5 (pt (.nd 7 [] 0 (t0::ps)))=(me (.nd 7 [] 0 (t0::ps))).1:=E0a _ _ (by show 5<=bnK 7 [];exact vQ _);have hb2:wd 5 (pt (.nd 7 [] 0 (t0::ps)))=(me (.nd 7 [] 0 (t0::ps))).2:=E1a _ _ (by show 5<=bnK 7 [];exact vQ _);rw[me7]at hb1 hb2;simp only at hb1 hb2;obtain⟨t',a3,b3,c3,e3,f3⟩:=i.tail _ _ _ _ _ h s0 _ (w7 hw hk a) (by simp[isE,Nt.k]) ((hn.cons c).node _ 7 [] 0 _ rfl) (by rw[hb2];omega);refine⟨t',a3,b3,c3, ?_,f3⟩;rw[hb1]at e3;simp only[qQ,jQ,xQ]at e3;omega
 split at h
 · split at h
   · rename_i hnm;obtain⟨s2,u,h2,h⟩:=B6 h;obtain⟨rfl,rfl⟩:=F8 h2;have hb1:wt 5 (pt (.nd 8 (tk L (s.i+1)).text 0 [t0]))=(me (.nd 8 (tk L (s.i+1)).text 0 [t0])).1:=E0a _ _ (by show 5<=bnK 8 (tk L (s.i+1)).text;exact vQ _);have hb2:wd 5 (pt (.nd 8 (tk L (s.i+1)).text 0 [t0]))=(me (.nd 8 (tk L (s.i+1)).text 0 [t0])).2:=E1a _ _ (by show 5<=bnK 8 (tk L (s.i+1)).text;exact vQ _);rw[me8]at hb1 hb2;simp only at hb1 hb2;obtain⟨t',a3,b3,c3,e3,f3⟩:=i.tail _ _ _ _ _ h s0 _ (w8 (hL _ hnm) hw hk) (by simp[isE,Nt.k]) (NftL.node (s':=s.nx.nx) hn.l _ 8 _ 0 _ rfl) (by rw[hb2];omega);refine⟨t',a3,b3,c3, ?_,f3⟩;rw[hb1]at e3;have e3:_+(s.i+1+1)<=_:=e3;simp only[qQ,jQ,xQ]at e3;omega
   · simp[flt]at h
 split at h
 · obtain⟨s1,y1,h1,h⟩:=B6 h;obtain⟨s2,_,h2,h⟩:=B6 h;obtain⟨_,rfl⟩:=I9 h2;obtain⟨s3,u,h3,h⟩:=B6 h;obtain⟨rfl,rfl⟩:=F8 h3;obtain⟨hdd,t,a,b,c,e,f⟩:=i.expr _ _ _ _ h1;rw[wt1 _ b]at e;rw[wd1 _ b]at f;have c:Nft s t s1.nx y1:=c;have e:(me t).1.length+(s.i+1)<=s1.i:=e;have hb1:wt 5 (pt (.nd 9 [] 0 [t0,t]))=(me (.nd 9 [] 0 [t0,t])).1:=E0a _ _ (by show 5<=bnK 9 [];exact vQ _);have hb2:wd 5 (pt (.nd 9 [] 0 [t0,t]))=(me (.nd 9 [] 0 [t0,t])).2:=E1a _ _ (by show 5<=bnK 9 [];exact vQ _);rw[me9]at hb1 hb2;simp only at hb1 hb2;obtain⟨t',a3,b3,c3,e3,f3⟩:=i.tail _ _ _ _ _ h s0 _ (w9 hw hk a b) (by simp[isE,Nt.k]) ((hn.cons c.l).node _ 9 [] 0 _ rfl) (by rw[hb2];omega);refine⟨t',a3,b3,c3, ?_,f3⟩;rw[hb1]at e3;have e3:_+(s1.i+1)<=_:=e3;simp only[qQ,jQ,xQ]at e3;omega
 split at h
 · obtain⟨s1,y1,h1,h⟩:=B6 h;obtain⟨s3,u,h3,h⟩:=B6 h;obtain⟨rfl,rfl⟩:=F8 h3;obtain⟨t,a,c,e,f,_⟩:=y.typ _ _ _ _ h1;have c:Nft s (.ty (some t)) s1 y1:=Yft.n c;have e:(tks t).length+(s.i+1)<=s1.i:=e;have hb1:wt 5 (pt (.nd 14 [] 0 [t0,.ty (some t)]))=(me (.nd 14 [] 0 [t0,.ty (some t)])).1:=E0a _ _ (by show 5<=bnK 14 [];exact vQ _);have hb2:wd 5 (pt (.nd 14 [] 0 [t0,.ty (some t)]))=(me (.nd 14 [] 0 [t0,.ty (some t)])).2:=E1a _ _ (by show 5<=bnK 14 [];exact vQ _);rw[me14,me]at hb1 hb2;simp only at hb1 hb2;obtain⟨t',a3,b3,c3,e3,f3⟩:=i.tail _ _ _ _ _ h s0 _ (w14 hw hk a) (by simp[isE,Nt.k]) ((hn.cons c.l).node _ 14 [] 0 _ rfl) (by rw[hb2];omega);refine⟨t',a3,b3,c3, ?_,f3⟩;rw[hb1]at e3;simp only[qQ,jQ]at e3;omega
 · obtain⟨rfl,rfl⟩:=I7 h;exact⟨t0,hw,hk,hn,by omega,hd⟩
def VaL(L:List Tk):Prop:=∀i,(tk L i).kind=3->0<=E2a (tk L i).text/\E2a (tk L i).text<=999999999
def TxL(L:List Tk):Prop:=∀i,(tk L i).kind=4->(tk L i).text.length<=30/\∀c∈(tk L i).text,txt c.toNat=true
theorem L9a(y:YF L r){d:Nat}{s s':St}{x:Int}(h:typeIf L r d s=some (.ok s' x)):∃t,Wn t/\isT t.k/\Nft s t s' x/\(P9a (pt t)).length+s.i<=s'.i/\(me t).2<=20 - d:=by
 unfold typeIf at h;split at h
 · obtain⟨t,a,c,e,f,_⟩:=y.typ _ _ _ _ h;have c:Nft s (.ty (some t)) s' x:=Yft.n c;have e:(tks t).length+(s.i+1)<=s'.i:=e;refine⟨.ty (some t),a,.inr rfl,c, ?_,f⟩;have:P9a (pt (.ty (some t)))=sg [58]::tks t:=rfl;rw[this];simp only[jQ];omega
 · obtain⟨rfl,rfl⟩:=I7 h;exact⟨.ty none,trivial,.inl rfl,Nft.none s,by simp[P9a,pt,Nt.k],wQ _⟩
theorem B9c{d:Nat}{s:St}(k:Int)(tx:List UInt8)(n:Int)(at':Int)(hw:Wn (.nd k tx n []))(hk:isE k)(hk2:bnK k tx=5)(hm:(me (.nd k tx n [])).1.length=1/\(me (.nd k tx n [])).2=0)(hn:mkN k tx n []=⟨k,0,0,0,[],tx,n,-1,0⟩):
 Lv 5 d s ⟨s.nx.i,s.nx.N++[⟨k,0,0,0,[],tx,n,-1,at'⟩],s.nx.T⟩ s.nx.N.length:=by
 refine⟨_,hw,hk,NftL.node (s':=s.nx) (NftL.nil s) _ k tx n _ (by rw[hn];rfl), ?_, ?_⟩
 · rw[E0a _ _ (by show 5<=bnK k tx;omega),K1a,hm.1];show 1+s.i<=s.i+1;omega
 · rw[E1a _ _ (by show 5<=bnK k tx;omega),S5a,hm.2];omega
theorem B3c(hL:NmL L)(hV:VaL L)(hX:TxL L)(y:YF L r)(i:NF L r):∀d s s' x,(step L r).simple d s=some (.ok s' x)->Lv 5 d s s' x:=by
 intro d s s' x h;have h:(if (tk L s.i).kind=3 then addN s.nx ⟨1,0,0,0,[],[],E2a (tk L s.i).text,-1,(tk L s.i).at'⟩
  else if (tk L s.i).kind=4 then addN s.nx ⟨2,0,0,0,[],(tk L s.i).text,0,-1,(tk L s.i).at'⟩
  else if (tk L s.i).kind=1 then addN s.nx ⟨5,0,0,0,[],(tk L s.i).text,0,-1,(tk L s.i).at'⟩
  else if isM L s.i [[116,114,117,101]] then addN s.nx ⟨3,0,0,0,[],[],1,-1,(tk L s.i).at'⟩
  else if isM L s.i [[102,97,108,115,101]] then addN s.nx ⟨3,0,0,0,[],[],0,-1,(tk L s.i).at'⟩
  else if isM L s.i [[110,117,108,108]] then addN s.nx ⟨4,0,0,0,[],[],0,-1,(tk L s.i).at'⟩
  else if isM L s.i [[102,110]] then A4 (need L s.nx [40]) λs1 _=>A4 (r.list .par [41] d s1 [] []) λs2 l=>A4 (typeIf L r d s2) λs3 t=>A4 (r.block d s3) λs4 x=>
   addN s4 ⟨6,x,0,0,l,[],0,t,(tk L s.i).at'⟩
  else if isM L s.i [[91]] then A4 (r.list .expr [93] d s.nx [] []) λs' l=>addN s' ⟨11,0,0,0,l,[],0,-1,(tk L s.i).at'⟩
  else if isM L s.i [[123]] then A4 (r.list .obj [125] d s.nx [] []) λs' l=>addN s' ⟨10,0,0,0,l,[],0,-1,(tk L s.i).at'⟩
  else A4 (need L s [40]) λs _=>A4 (r.expr d s) λs x=>A4 (need L s [41]) λs _=>some (.ok s x))=some (.ok s' x):=h
 split at h
 · rename_i hk;obtain⟨rfl,rfl⟩:=F8 h;exact B9c 1 [] _ _ (w1 (hV _ hk)) (by simp[isE]) rfl ⟨rfl,rfl⟩ rfl
 split at h
 · rename_i hk;obtain⟨rfl,rfl⟩:=F8 h;exact B9c 2 _ 0 _ (w2 (hX _ hk)) (by simp[isE]) rfl ⟨rfl,rfl⟩ rfl
 split at h
 · rename_i hk;obtain⟨rfl,rfl⟩:=F8 h;exact B9c 5 _ 0 _ (w5 (hL _ hk)) (by simp[isE]) rfl ⟨rfl,rfl⟩ rfl
 split at h
 · obtain⟨rfl,rfl⟩:=F8 h;exact B9c 3 [] 1 _ (w3 (.inr rfl)) (by simp[isE]) rfl ⟨rfl,rfl⟩ rfl
 split at h
 · obtain⟨rfl,rfl⟩:=F8 h;exact B9c 3 [] 0 _ (w3 (.inl rfl)) (by simp[isE]) rfl ⟨rfl,rfl⟩ rfl
 split at h
 · obtain⟨rfl,rfl⟩:=F8 h;exact B9c 4 [] 0 _ w4 (by simp[isE]) rfl ⟨rfl,rfl⟩ rfl
 split at h
 · obtain⟨s1,_,h1,h⟩:=B6 h;obtain⟨_,rfl⟩:=I9 h1;obtain⟨s2,l,h2,h⟩:=B6 h;obtain⟨s3,t,h3,h⟩:=B6 h;obtain⟨s4,b,h4,h⟩:=B6 h;obtain⟨rfl,rfl⟩:=F8 h;obtain⟨ps,l',rfl,nd,a1,c1,e1,f1⟩:=i.listP _ _ _ _ _ _ _ (by simp) h2;obtain⟨ta,a2,i2,c2,e2,f2⟩:=L9a y h3;obtain⟨tb,a3,i3,c3,e3,f3⟩:=i.block _ _ _ _ h4;have c1:NftL s ps s2 l:=c1;have e1:(U7 true (meL ps)).length+1+(s.i+1+1)<=s2.i:=e1;have hc:NftL s (ps++[ta,tb]) s4 (l++[t,b]):=c1.app (c2.cons c3.l);refine⟨.nd 6 [] 0 (ps++[ta,tb]),w6 a1 (by simpa using nd) a2 i2 a3 i3,by simp[isE,Nt.k],hc.node _ 6 [] 0 _ ?_, ?_, ?_⟩
   · show _=(⟨6,(l++[t,b]).getLastD 0,0,0,(l++[t,b]).dropLast.dropLast,[],0,(l++[t,b]).dropLast.getLastD 0,0⟩:Nd);rw[dl3,dl4,dl5];rfl
   · rw[E0a _ _ (by show 5<=bnK 6 [];exact vQ _),K1a,me6];simp only[qQ,jQ];show _<=s4.i;omega
   · rw[E1a _ _ (by show 5<=bnK 6 [];exact vQ _),S5a,me6];simp only;omega
 split at h
 · obtain⟨s1,l,h1,h⟩:=B6 h;obtain⟨rfl,rfl⟩:=F8 h;obtain⟨ps,l',rfl,a,c,e,f⟩:=i.listE _ _ _ _ _ _ _ h1;have c:NftL s ps s1 l:=c;have e:(U7 true (meL ps)).length+1+(s.i+1)<=s1.i:=e;refine⟨.nd 11 [] 0 ps,w11 a,by simp[isE,Nt.k],c.node _ 11 [] 0 _ rfl, ?_, ?_⟩
   · rw[E0a _ _ (by show 5<=bnK 11 [];exact vQ _),K1a,N2d];simp only[qQ,jQ,xQ];show _<=s1.i;omega
   · rw[E1a _ _ (by show 5<=bnK 11 [];exact vQ _),S5a,N2d];exact f
 split at h
 · obtain⟨s1,l,h1,h⟩:=B6 h;obtain⟨rfl,rfl⟩:=F8 h;obtain⟨ps,l',rfl,nd,a,c,e,f⟩:=i.listO _ _ _ _ _ _ _ (by simp) h1;have c:NftL s ps s1 l:=c;have e:(U7 true (meL ps)).length+1+(s.i+1)<=s1.i:=e;refine⟨.nd 10 [] 0 ps,w10 a (by simpa using nd),by simp[isE,Nt.k],c.node _ 10 [] 0 _ rfl, ?_, ?_⟩
   · rw[E0a _ _ (by show 5<=bnK 10 [];exact vQ _),K1a,N3d];simp only[qQ,jQ,xQ];show _<=s1.i;omega
   · rw[E1a _ _ (by show 5<=bnK 10 [];exact vQ _),S5a,N3d];exact f
 · obtain⟨s1,_,h1,h⟩:=B6 h;obtain⟨_,rfl⟩:=I9 h1;obtain⟨s2,z,h2,h⟩:=B6 h;obtain⟨s3,_,h3,h⟩:=B6 h;obtain⟨_,rfl⟩:=I9 h3;obtain⟨rfl,rfl⟩:=I7 h;obtain⟨hd,t,a,b,c,e,f⟩:=i.expr _ _ _ _ h2;rw[wt1 _ b]at e;rw[wd1 _ b]at f;have c:Nft s t s2.nx z:=c;have e:(me t).1.length+(s.i+1)<=s2.i:=e;have h1:=J7d 5 (pt t);have h2:=K0d 5 (pt t);rw[K1a]at h1;rw[S5a]at h2;refine⟨t,a,b,c, ?_,by omega⟩;show _<=s2.i+1;omega
theorem O6b{s s1:St}{acc:List Int}{u:Unit}(h:(if acc.length=0 then some (.ok s ()) else need L s [44])=some (.ok s1 u)):s1.N=s.N/\s1.T=s.T/\s1.i=s.i+(if acc.length=0 then 0 else 1):=by
 split at h
 · rename_i h0;obtain⟨rfl,_⟩:=I7 h;exact⟨rfl,rfl,by rw[if_pos h0];rfl⟩
 · rename_i h0;obtain⟨_,rfl⟩:=I9 h;exact⟨rfl,rfl,by rw[if_neg h0];rfl⟩
theorem Nft.base{s s1 s':St}{t:Nt}{x:Int}(h:Nft s1 t s' x)(hN:s1.N=s.N)(hT:s1.T=s.T):Nft s t s' x:=by
 obtain⟨a,b,c⟩:=h;rw[hN,hT]at *;exact⟨a,b,c⟩
theorem C9b(acc:List Int)(y:Int)(t:Nt)(ps:List Nt){i i1 i3 j:Nat}(h1:i1=i+(if acc.length=0 then 0 else 1))(h2:(me t).1.length+i1<=i3)(h3:(U7 (decide ((acc++[y]).length=0)) (meL ps)).length+1+i3<=j):(U7 (decide (acc.length=0)) (meL (t::ps))).length+1+i<=j:=by
 have hf:decide ((acc++[y]).length=0)=false:=by simp
 rw[hf]at h3;simp only[X9,U7,qQ,K1a];by_cases h0:acc.length=0
 · rw[if_pos h0]at h1;rw[decide_eq_true h0,if_pos rfl];simp only[xQ];omega
 · rw[if_neg h0]at h1;rw[decide_eq_false h0];simp only[Bool.false_eq_true,if_false,jQ,xQ];omega
theorem L9c(i:NF L r):∀e d s nm acc s' l,(step L r).list .expr e d s nm acc=some (.ok s' l)->Li 1 1 d (λp=>isE p.k) s s' acc l:=by
 intro e d s nm acc s' l h;have h:(if isM L s.i [e] then some (.ok s.nx acc)
  else A4 (if acc.length=0 then some (.ok s ()) else need L s [44]) λs _=>A4 (part L r d s nm .expr) λs x=>r.list .expr e d s x.2 (acc++[x.1]))=some (.ok s' l):=h
 split at h
 · obtain⟨rfl,rfl⟩:=I7 h;refine⟨[],[],by simp,by simp,NftL.nil s, ?_,by simp[mx,meL]⟩;show (U7 _ []).length+1+s.i<=s.i+1;simp[U7];omega
 · obtain⟨s1,_,h1,h⟩:=B6 h;have e1:=O6b h1;obtain⟨s2,x,h2,h⟩:=B6 h;obtain⟨s3,y,h3,h4⟩:=B6 h2;obtain⟨rfl,rfl⟩:=I7 h4;obtain⟨hd,t,a,b,c,e,f⟩:=i.expr _ _ _ _ h3;rw[wt1 _ b]at e;rw[wd1 _ b]at f;have c:=c.base e1.1 e1.2.1;obtain⟨ps,l',rfl,w2,y2,l2,d2⟩:=i.listE _ _ _ _ _ _ _ h;refine⟨t::ps,y::l',by simp,λp hp=> ?_,c.cons y2,C9b acc y t ps e1.2.2 e l2, ?_⟩
   · rcases jW.1 hp with rfl|hp
     · exact⟨a,b⟩
     · exact w2 p hp
   · rw[X9,mx,S5a];omega
theorem W6b{nm:List (List UInt8)}{x:List UInt8}(h:nm.Nodup)(hx:x ∉ nm):(nm++[x]).Nodup:=by
 rw[List.nodup_append];exact⟨h,by simp,λa ha b hb=>by simp at hb;subst hb;rintro rfl;exact hx ha⟩
theorem L8c(hL:NmL L)(i:NF L r):∀e d s nm acc s' l,nm.Nodup->(step L r).list .obj e d s nm acc=some (.ok s' l)->∃ps l',l=acc++l'/\(nm++ps.map Nt.tx).Nodup/\(∀p∈ps,Wn p/\p.k=15)/\NftL s ps s' l'/\(U7 (decide (acc.length=0)) (meL ps)).length+1+s.i<=s'.i/\mx 0 (meL ps)<=20 - d:=by
 intro e d s nm acc s' l hnd h;have h:(if isM L s.i [e] then some (.ok s.nx acc)
  else A4 (if acc.length=0 then some (.ok s ()) else need L s [44]) λs _=>A4 (part L r d s nm .obj) λs x=>r.list .obj e d s x.2 (acc++[x.1]))=some (.ok s' l):=h
 split at h
 · obtain⟨rfl,rfl⟩:=I7 h;refine⟨[],[],by simp,by simpa using hnd,by simp,NftL.nil s, ?_,by simp[mx,meL]⟩;show (U7 _ []).length+1+s.i<=s.i+1;simp[U7];omega
 · obtain⟨s1,_,h1,h⟩:=B6 h;have e1:=O6b h1;obtain⟨s2,x,h2,h⟩:=B6 h;obtain⟨s3,n,h3,h2⟩:=B6 h2;obtain⟨hk,hn,hni,rfl⟩:=newName_ok h3;obtain⟨s4,_,h4,h2⟩:=B6 h2;obtain⟨_,rfl⟩:=I9 h4;obtain⟨s5,y,h5,h2⟩:=B6 h2;obtain⟨s6,z,h6,h2⟩:=B6 h2;obtain⟨rfl,rfl⟩:=F8 h6;obtain⟨rfl,rfl⟩:=I7 h2;obtain⟨hd,t,a,b,c,e,f⟩:=i.expr _ _ _ _ h5;rw[wt1 _ b]at e;rw[wd1 _ b]at f;have c:Nft s t s5 y:=Nft.base (s1:=s1) c e1.1 e1.2.1;have e:(me t).1.length+(s1.i+1+1)<=s5.i:=e;obtain⟨ps,l',rfl,nd,w2,y2,l2,d2⟩:=i.listO _ _ _ _ _ _ _ (W6b hnd hni) h;have c':=c.l.node s5.i 15 n 0 ⟨15,y,0,0,[],n,0,-1,(tk L s1.i).at'⟩ rfl;refine⟨.nd 15 n 0 [t]::ps,_::l',by simp,by simpa[Nt.tx]using nd,λp hp=> ?_,c'.cons y2,C9b acc _ _ ps e1.2.2 ?_ l2, ?_⟩
   · rcases jW.1 hp with rfl|hp
     · exact⟨w15 (by rw[hn];exact hL _ hk) a b,rfl⟩
     · exact w2 p hp
   · rw[N0d];simp only[jQ];show _<=s5.i;omega
   · rw[X9,mx,S5a,N0d];simp only;omega
theorem L7c(hL:NmL L)(y:YF L r)(i:NF L r):∀e d s nm acc s' l,nm.Nodup->(step L r).list .par e d s nm acc=some (.ok s' l)->∃ps l',l=acc++l'/\(nm++ps.map Nt.tx).Nodup/\(∀p∈ps,Wn p/\p.k=16)/\NftL s ps s' l'/\(U7 (decide (acc.length=0)) (meL ps)).length+1+s.i<=s'.i/\mx 0 (meL ps)<=20 - d:=by
 intro e d s nm acc s' l hnd h;have h:(if isM L s.i [e] then some (.ok s.nx acc)
  else A4 (if acc.length=0 then some (.ok s ()) else need L s [44]) λs _=>A4 (part L r d s nm .par) λs x=>r.list .par e d s x.2 (acc++[x.1]))=some (.ok s' l):=h
 split at h
 · obtain⟨rfl,rfl⟩:=I7 h;refine⟨[],[],by simp,by simpa using hnd,by simp,NftL.nil s, ?_,by simp[mx,meL]⟩;show (U7 _ []).length+1+s.i<=s.i+1;simp[U7];omega
 · obtain⟨s1,_,h1,h⟩:=B6 h;have e1:=O6b h1;obtain⟨s2,x,h2,h⟩:=B6 h;obtain⟨s3,n,h3,h2⟩:=B6 h2;obtain⟨hk,hn,hni,rfl⟩:=newName_ok h3;obtain⟨s5,z,h5,h2⟩:=B6 h2;obtain⟨s6,u,h6,h2⟩:=B6 h2;obtain⟨rfl,rfl⟩:=F8 h6;obtain⟨rfl,rfl⟩:=I7 h2;obtain⟨t,a,b,c,e,f⟩:=L9a y h5;have c:Nft s t s5 z:=Nft.base (s1:=s1) c e1.1 e1.2.1;have e:(P9a (pt t)).length+(s1.i+1)<=s5.i:=e;obtain⟨ps,l',rfl,nd,w2,y2,l2,d2⟩:=i.listP _ _ _ _ _ _ _ (W6b hnd hni) h;have c':=c.l.node s5.i 16 n 0 ⟨16,0,0,0,[],n,0,z,(tk L s1.i).at'⟩ rfl;refine⟨.nd 16 n 0 [t]::ps,_::l',by simp,by simpa[Nt.tx]using nd,λp hp=> ?_,c'.cons y2,C9b acc _ _ ps e1.2.2 ?_ l2, ?_⟩
   · rcases jW.1 hp with rfl|hp
     · exact⟨w16 (by rw[hn];exact hL _ hk) a b,rfl⟩
     · exact w2 p hp
   · rw[M9d];simp only[jQ];show _<=s5.i;omega
   · rw[X9,mx,S5a,M9d];simp only;omega
theorem M0c(i:NF L r):∀d s s' x,(step L r).block d s=some (.ok s' x)->∃t,Wn t/\t.k=26/\Nft s t s' x/\(me t).1.length+s.i<=s'.i/\(me t).2<=20 - d:=by
 intro d s s' x h;obtain⟨s1,_,h1,h⟩:=B6 h;obtain⟨_,rfl⟩:=I9 h1;obtain⟨s2,l,h2,h⟩:=B6 h;obtain⟨rfl,rfl⟩:=F8 h;obtain⟨ps,l',rfl,a,c,e,f⟩:=i.blockL _ _ _ _ _ h2;have c:NftL s ps s2 l:=c;have e:(flT (meL ps)).length+1+(s.i+1)<=s2.i:=e;refine⟨.nd 26 [] 0 ps,w26 a,rfl,c.node _ 26 [] 0 _ rfl, ?_, ?_⟩
 · rw[L9d];simp only[qQ,jQ,xQ];show _<=s2.i;omega
 · rw[L9d];exact f
theorem B4c(i:NF L r):∀d s acc s' l,(step L r).blockL d s acc=some (.ok s' l)->Fl 1 d s s' acc l:=by
 intro d s acc s' l h;have h:(if isM L s.i [[125]] then some (.ok s.nx acc) else A4 (r.stmt d s) λs x=>r.blockL d s (acc++[x]))=some (.ok s' l):=h;split at h
 · obtain⟨rfl,rfl⟩:=I7 h;refine⟨[],[],by simp,by simp,NftL.nil s, ?_,by simp[mx,meL]⟩;show (flT []).length+1+s.i<=s.i+1;simp[flT];omega
 · obtain⟨s1,x,h1,h⟩:=B6 h;obtain⟨t,a,b,c,e,f⟩:=i.stmt _ _ _ _ h1;obtain⟨ps,l',rfl,w2,y2,l2,d2⟩:=i.blockL _ _ _ _ _ h;refine⟨t::ps,x::l',by simp,λp hp=> ?_,c.cons y2, ?_, ?_⟩
   · rcases jW.1 hp with rfl|hp
     · exact⟨a,b⟩
     · exact w2 p hp
   · rw[X9,flT,qQ,K1a];omega
   · rw[X9,mx,S5a];omega
theorem L5c(i:NF L r):∀d s acc s' l,(step L r).progL d s acc=some (.ok s' l)->Fl 0 d s s' acc l:=by
 intro d s acc s' l h;have h:(if (tk L s.i).kind=6 then some (.ok s acc) else A4 (r.stmt d s) λs x=>r.progL d s (acc++[x]))=some (.ok s' l):=h;split at h
 · obtain⟨rfl,rfl⟩:=I7 h;refine⟨[],[],by simp,by simp,NftL.nil s, ?_,by simp[mx,meL]⟩;simp[flT,meL]
 · obtain⟨s1,x,h1,h⟩:=B6 h;obtain⟨t,a,b,c,e,f⟩:=i.stmt _ _ _ _ h1;obtain⟨ps,l',rfl,w2,y2,l2,d2⟩:=i.progL _ _ _ _ _ h;refine⟨t::ps,x::l',by simp,λp hp=> ?_,c.cons y2, ?_, ?_⟩
   · rcases jW.1 hp with rfl|hp
     · exact⟨a,b⟩
     · exact w2 p hp
   · rw[X9,flT,qQ,K1a];omega
   · rw[X9,mx,S5a];omega
theorem W8c(i:NF L r):∀d s s' x,(step L r).stmt d s=some (.ok s' x)->∃t,Wn t/\(17<=t.k/\t.k<=25)/\Nft s t s' x/\(me t).1.length+s.i<=s'.i/\(me t).2+1<=20 - d:=by
 intro d s s' x h;obtain⟨_,hd,h⟩:=G7a h;obtain⟨t,a,b,c,e,f⟩:=i.any _ _ _ _ h;exact⟨t,a,b,c,e,by omega⟩
end
theorem X8(k:Int)(tx:List UInt8)(n:Int)(l:List Int):(mkN k tx n l).kind=k:=by
 unfold mkN;repeat' split
 all_goals (first|rfl|(simp only;omega))
theorem Nft.split{s s1:St}{k:Int}{tx:List UInt8}{n:Int}{ps:List Nt}{x:Int}(h:Nft s (.nd k tx n ps) s1 x)(i:Nat):
 ∃l,(s1.N.getD x.toNat nd0).fl=mkN k tx n l/\NftL s ps ⟨i,s1.N.take x.toNat,s1.T⟩ l:=by
 have hl:=h.lenN;obtain⟨h1,h2,h3⟩:=h;rw[ixN,nN]at h3;rw[nN]at hl;have hx:x.toNat=s.N.length+nNL ps:=by omega
 have hi:x.toNat<s1.N.length:=by omega
 have e:s1.N=s1.N.take x.toNat++[s1.N.getD x.toNat nd0]:=by
  have:s1.N.getD x.toNat nd0=s1.N[x.toNat]:=by simp[hi]
  rw[this,<-nQ hi,List.take_of_length_le (by omega)]
 rw[e,emN,List.map_append,List.map_cons,List.map_nil,<-List.append_assoc]at h1;have hlen:(s1.N.take x.toNat).map Nd.fl=s.N.map Nd.fl++M8 s.N.length s.T.length ps/\[(s1.N.getD x.toNat nd0).fl]=[mkN k tx n (ixL s.N.length s.T.length ps)]:=by
  refine List.append_inj h1 ?_;rw[List.length_map,List.length_take,qQ,List.length_map,M6];omega
 exact⟨_,by simpa using hlen.2,hlen.1,h2,rfl⟩
theorem G4d{t:Nt}(h:isE t.k):∃k tx n ps,t= .nd k tx n ps:=by
 cases t with
 |nd k tx n ps=>exact⟨k,tx,n,ps,rfl⟩
 |ty o=>cases o<;>simp[isE,Nt.k]at h
section
variable{L:List Tk}{r:Sp}
theorem F5d(i:NF L r){d:Nat}{s s1 s':St}{x y:Int}(h1:r.expr d s=some (.ok s1 x))(hk:G9a (s1.N.getD x.toNat nd0).kind≠0)
 (h:(A4 (r.expr d ⟨s1.i+1,s1.N.take x.toNat,s1.T⟩) λs2 v=>A4 (need L s2 [59]) λs3 _=>addN s3 (B9a (s1.N.getD x.toNat nd0) v))=some (.ok s' y)):
 ∃t,Wn t/\(17<=t.k/\t.k<=25)/\Nft s t s' y/\(me t).1.length+s.i<=s'.i/\(me t).2<=20 - d:=by
 obtain⟨hd,t,a,b,c,e,f⟩:=i.expr _ _ _ _ h1;rw[wt1 _ b]at e;rw[wd1 _ b]at f;obtain⟨s2,v,h2,h⟩:=B6 h;obtain⟨s3,_,h3,h⟩:=B6 h;obtain⟨_,rfl⟩:=I9 h3;obtain⟨rfl,rfl⟩:=F8 h;obtain⟨k,tx,n,ps,rfl⟩:=G4d b;obtain⟨l,hm,hl⟩:=c.split (s1.i+1);obtain⟨_,u,a2,b2,c2,e2,f2⟩:=i.expr _ _ _ _ h2;rw[wt1 _ b2]at e2;rw[wd1 _ b2]at f2;have e2:(me u).1.length+(s1.i+1)<=s2.i:=e2;have hc:=hl.app c2.l;generalize s1.N.getD x.toNat nd0=m at hm hk;have hkk:m.kind=k:=by
  have:=congrArg Nd.kind hm;rw[X8]at this;exact this
 rw[hkk]at hk;rw[Wn]at a;obtain⟨sh,ow,wl⟩:=a;have hkc:k=5\/k=8\/k=9:=by
  unfold G9a at hk;split at hk
  · exact .inl (by assumption)
  split at hk
  · exact .inr (.inl (by assumption))
  split at hk
  · exact .inr (.inr (by assumption))
  · exact absurd rfl hk
 have hc:NftL s (ps++[u]) s2.nx (l++[v]):=hc;rcases hkc with rfl|rfl|rfl
 · have hps:ps=[]:=by simpa[shp]using sh
   subst hps;have hll:l=[]:=hl.2.2;subst hll;have ow:L9 tx/\n=0:=ow;obtain⟨mk,ma,mb,mc,ml,mt,mn,my,mat⟩:=m;simp[Nd.fl,mkN]at hm;obtain⟨rfl,rfl,rfl,rfl,rfl,rfl,rfl,rfl⟩:=hm;rw[me5]at e f;have hn:=hc.node s2.nx.i 18 mt 0 (B9a ⟨5,0,0,0,[],mt,mn,-1,mat⟩ v) (by rw[ow.2];rfl);refine⟨.nd 18 mt 0 [u],w18 ow.1 a2 b2,by simp[Nt.k],hn, ?_, ?_⟩
   · rw[M7d];simp only[qQ,jQ,xQ]at e⊢;show _<=s2.i+1;omega
   · rw[M7d];simp only;omega
 · obtain⟨q,hq,hqe⟩:∃q,ps.map Nt.k=[q]/\isE q:=by simpa[shp]using sh
   obtain⟨p,rfl,rfl⟩:=k1 hq;have ow:L9 tx/\n=0:=ow;have hll:l=[ixN s.N.length s.T.length p]:=hl.2.2;subst hll;obtain⟨mk,ma,mb,mc,ml,mt,mn,my,mat⟩:=m;simp[Nd.fl,mkN]at hm;obtain⟨rfl,rfl,rfl,rfl,rfl,rfl,rfl,rfl⟩:=hm;rw[me8]at e f;have hn:=hc.node s2.nx.i 19 mt 0 (B9a ⟨8,ixN s.N.length s.T.length p,0,0,[],mt,mn,-1,mat⟩ v) (by rw[ow.2];rfl);refine⟨.nd 19 mt 0 [p,u],w19 ow.1 wl.1 hqe a2 b2,by simp[Nt.k],hn, ?_, ?_⟩
   · rw[M6d];simp only[qQ,jQ,xQ]at e⊢;show _<=s2.i+1;omega
   · rw[M6d];simp only at f⊢;omega
 · obtain⟨q,q2,hq,hqe,hqe2⟩:∃q q2,ps.map Nt.k=[q,q2]/\isE q/\isE q2:=by simpa[shp]using sh
   obtain⟨p,p2,rfl,rfl,rfl⟩:=k2 hq;have ow:tx=[]/\n=0:=by simpa[own]using ow
   obtain⟨rfl,rfl⟩:=ow;obtain⟨p',p2',hll⟩:∃a b,l=[a,b]:=⟨_,_,hl.2.2⟩;subst hll;obtain⟨mk,ma,mb,mc,ml,mt,mn,my,mat⟩:=m;simp[Nd.fl,mkN]at hm;obtain⟨rfl,rfl,rfl,rfl,rfl,rfl,rfl,rfl⟩:=hm;rw[me9]at e f;have hn:=hc.node s2.nx.i 20 [] 0 (B9a ⟨9,ma,mb,0,[],[],0,-1,mat⟩ v) rfl;refine⟨.nd 20 [] 0 [p,p2,u],w20 wl.1 hqe wl.2.1 hqe2 a2 b2,by simp[Nt.k],hn, ?_, ?_⟩
   · rw[M5d];simp only[qQ,jQ,xQ]at e⊢;show _<=s2.i+1;omega
   · rw[M5d];simp only at f⊢;omega
theorem L6c(i:NF L r)(k:Int)(hk:k=21\/k=24){d:Nat}{s s':St}{x:Int}{at':Int}(h:(A4 (r.expr d s.nx) λs1 x=>A4 (need L s1 [59]) λs2 _=>addN s2 ⟨k,x,0,0,[],[],0,-1,at'⟩)=some (.ok s' x)):
 ∃t,Wn t/\(17<=t.k/\t.k<=25)/\Nft s t s' x/\(me t).1.length+s.i<=s'.i/\(me t).2<=20 - d:=by
 obtain⟨s1,y,h1,h⟩:=B6 h;obtain⟨s2,_,h2,h⟩:=B6 h;obtain⟨_,rfl⟩:=I9 h2;obtain⟨rfl,rfl⟩:=F8 h;obtain⟨hd,t,a,b,c,e,f⟩:=i.expr _ _ _ _ h1;rw[wt1 _ b]at e;rw[wd1 _ b]at f;have c:Nft s t s1.nx y:=c;have e:(me t).1.length+(s.i+1)<=s1.i:=e;rcases hk with rfl|rfl
 · refine⟨.nd 21 [] 0 [t],w21 a b,by simp[Nt.k],c.l.node _ 21 [] 0 _ rfl, ?_, ?_⟩
   · rw[M4d];simp only[qQ,jQ,xQ];show _<=s1.i+1;omega
   · rw[M4d];simp only;omega
 · refine⟨.nd 24 [] 0 [t],w24 a b,by simp[Nt.k],c.l.node _ 24 [] 0 _ rfl, ?_, ?_⟩
   · rw[M1d];simp only[qQ,jQ,xQ];show _<=s1.i+1;omega
   · rw[M1d];simp only;omega
theorem F7d(hL:NmL L)(y:YF L r)(i:NF L r):∀d s s' x,(step L r).any d s=some (.ok s' x)->∃t,Wn t/\(17<=t.k/\t.k<=25)/\Nft s t s' x/\(me t).1.length+s.i<=s'.i/\(me t).2<=20 - d:=by
 intro d s s' x h;have h:(if isM L s.i [[108,101,116]] then
  if (tk L (s.i+1)).kind=1 then A4 (typeIf L r d s.nx.nx) λs1 t=>A4 (need L s1 [61]) λs2 _=>A4 (r.expr d s2) λs3 x=>A4 (need L s3 [59]) λs4 _=>
   addN s4 ⟨17,x,0,0,[],(tk L (s.i+1)).text,0,t,(tk L s.i).at'⟩
  else flt L (s.i+1) 1
  else if isM L s.i [[112,114,105,110,116]] then A4 (r.expr d s.nx) λs1 x=>A4 (need L s1 [59]) λs2 _=>addN s2 ⟨21,x,0,0,[],[],0,-1,(tk L s.i).at'⟩
  else if isM L s.i [[114,101,116,117,114,110]] then A4 (r.expr d s.nx) λs1 x=>A4 (need L s1 [59]) λs2 _=>addN s2 ⟨24,x,0,0,[],[],0,-1,(tk L s.i).at'⟩
  else if isM L s.i [[105,102]] then A4 (need L s.nx [40]) λs1 _=>A4 (r.expr d s1) λs2 x=>A4 (need L s2 [41]) λs3 _=>A4 (r.block d s3) λs4 y=>
   A4 (if isM L s4.i [[101,108,115,101]] then r.block d s4.nx else some (.ok s4 (-1))) λs5 z=>addN s5 ⟨22,x,y,z,[],[],0,-1,(tk L s.i).at'⟩
  else if isM L s.i [[119,104,105,108,101]] then A4 (need L s.nx [40]) λs1 _=>A4 (r.expr d s1) λs2 x=>A4 (need L s2 [41]) λs3 _=>A4 (r.block d s3) λs4 y=>
   addN s4 ⟨23,x,y,0,[],[],0,-1,(tk L s.i).at'⟩
  else A4 (r.expr d s) λs1 x=>
   if isM L s1.i [[61]] then
    if G9a (s1.N.getD x.toNat nd0).kind=0 then flt L s1.i 1
    else A4 (r.expr d ⟨s1.i+1,s1.N.take x.toNat,s1.T⟩) λs2 v=>A4 (need L s2 [59]) λs3 _=>addN s3 (B9a (s1.N.getD x.toNat nd0) v)
   else A4 (need L s1 [59]) λs2 _=>addN s2 ⟨25,x,0,0,[],[],0,-1,atN s1 x⟩)=some (.ok s' x):=h
 split at h
 · split at h
   · rename_i hnm;obtain⟨s1,z,h1,h⟩:=B6 h;obtain⟨s2,_,h2,h⟩:=B6 h;obtain⟨_,rfl⟩:=I9 h2;obtain⟨s3,v,h3,h⟩:=B6 h;obtain⟨s4,_,h4,h⟩:=B6 h;obtain⟨_,rfl⟩:=I9 h4;obtain⟨rfl,rfl⟩:=F8 h;obtain⟨ta,a1,b1,c1,e1,f1⟩:=L9a y h1;obtain⟨hd,u,a2,b2,c2,e2,f2⟩:=i.expr _ _ _ _ h3;rw[wt1 _ b2]at e2;rw[wd1 _ b2]at f2;have c1:Nft s ta s1.nx z:=c1;have c2:Nft s1.nx u s3.nx v:=c2;have e1:(P9a (pt ta)).length+(s.i+1+1)<=s1.i:=e1;have e2:(me u).1.length+(s1.i+1)<=s3.i:=e2;refine⟨.nd 17 (tk L (s.i+1)).text 0 [ta,u],w17 (hL _ hnm) a1 b1 a2 b2,by simp[Nt.k],(c1.cons c2.l).node _ 17 _ 0 _ rfl, ?_, ?_⟩
     · rw[M8d];simp only[qQ,jQ,xQ];show _<=s3.i+1;omega
     · rw[M8d];simp only;omega
   · simp[flt]at h
 split at h
 · exact L6c i 21 (.inl rfl) h
 split at h
 · exact L6c i 24 (.inr rfl) h
 split at h
 · obtain⟨s1,_,h1,h⟩:=B6 h;obtain⟨_,rfl⟩:=I9 h1;obtain⟨s2,v,h2,h⟩:=B6 h;obtain⟨s3,_,h3,h⟩:=B6 h;obtain⟨_,rfl⟩:=I9 h3;obtain⟨s4,b,h4,h⟩:=B6 h;obtain⟨s5,z,h5,h⟩:=B6 h;obtain⟨rfl,rfl⟩:=F8 h;obtain⟨hd,u,a2,b2,c2,e2,f2⟩:=i.expr _ _ _ _ h2;rw[wt1 _ b2]at e2;rw[wd1 _ b2]at f2;obtain⟨tb,a3,i3,c3,e3,f3⟩:=i.block _ _ _ _ h4;have c2:Nft s u s2.nx v:=c2;have e2:(me u).1.length+(s.i+1+1)<=s2.i:=e2;have e3:(me tb).1.length+(s2.i+1)<=s4.i:=e3;obtain⟨te,a4,i4,c4,e4,f4⟩:∃t,Wn t/\(t.k=26\/t.k= -1)/\Nft s4 t s5 z/\(if t.k= -1 then [] else (2,[101,108,115,101])::(me t).1).length+s4.i<=s5.i/\(me t).2<=20 - d:=by
    split at h5
    · obtain⟨t,a,k,c,e,f⟩:=i.block _ _ _ _ h5;have e:(me t).1.length+(s4.i+1)<=s5.i:=e;refine⟨t,a,.inl k,c, ?_,f⟩;rw[if_neg (by omega),jQ];omega
    · obtain⟨rfl,rfl⟩:=I7 h5;exact⟨.ty none,trivial,.inr rfl,Nft.none _,by simp[Nt.k],wQ _⟩
   refine⟨.nd 22 [] 0 [u,tb,te],w22 a2 b2 a3 i3 a4 i4,by simp[Nt.k],(c2.cons (c3.cons c4.l)).node _ 22 [] 0 _ rfl, ?_, ?_⟩
   · rw[M3d];simp only[qQ,jQ];show _<=s5.i;omega
   · rw[M3d];simp only;omega
 split at h
 · obtain⟨s1,_,h1,h⟩:=B6 h;obtain⟨_,rfl⟩:=I9 h1;obtain⟨s2,v,h2,h⟩:=B6 h;obtain⟨s3,_,h3,h⟩:=B6 h;obtain⟨_,rfl⟩:=I9 h3;obtain⟨s4,b,h4,h⟩:=B6 h;obtain⟨rfl,rfl⟩:=F8 h;obtain⟨hd,u,a2,b2,c2,e2,f2⟩:=i.expr _ _ _ _ h2;rw[wt1 _ b2]at e2;rw[wd1 _ b2]at f2;obtain⟨tb,a3,i3,c3,e3,f3⟩:=i.block _ _ _ _ h4;have c2:Nft s u s2.nx v:=c2;have e2:(me u).1.length+(s.i+1+1)<=s2.i:=e2;have e3:(me tb).1.length+(s2.i+1)<=s4.i:=e3;refine⟨.nd 23 [] 0 [u,tb],w23 a2 b2 a3 i3,by simp[Nt.k],(c2.cons c3.l).node _ 23 [] 0 _ rfl, ?_, ?_⟩
   · rw[M2d];simp only[qQ,jQ];show _<=s4.i;omega
   · rw[M2d];simp only;omega
 · obtain⟨s1,v,h1,h⟩:=B6 h;split at h
   · split at h
     · simp[flt]at h
     · rename_i hk;exact F5d i h1 hk h
   · obtain⟨s2,_,h2,h⟩:=B6 h;obtain⟨_,rfl⟩:=I9 h2;obtain⟨rfl,rfl⟩:=F8 h;obtain⟨hd,u,a2,b2,c2,e2,f2⟩:=i.expr _ _ _ _ h1;rw[wt1 _ b2]at e2;rw[wd1 _ b2]at f2;have c2:Nft s u s1.nx v:=c2;refine⟨.nd 25 [] 0 [u],w25 a2 b2,by simp[Nt.k],c2.l.node _ 25 [] 0 _ rfl, ?_, ?_⟩
     · rw[M0d];simp only[qQ,jQ,xQ];show _<=s1.i+1;omega
     · rw[M0d];simp only;omega
end
theorem M1c{L:List Tk}(hL:NmL L)(hV:VaL L)(hX:TxL L):∀f,NF L (sp' L f)
 |0=>by constructor<;>(intros;contradiction)
 |f+1=>
  have i:=M1c hL hV hX f;have y:=D9a hL f
  ⟨X1c i,X2c i,F4d i,W9c i,F6d i,X0c i,W7c hL y i,B3c hL hV hX y i,L9c i,L8c hL i,L7c hL y i,M0c i,B4c i,W8c i,F7d hL y i,L5c i⟩
theorem A8c{L:List Tk}(hL:NmL L)(hV:VaL L)(hX:TxL L){s':St}{x:Int}(h:Ev L (D7a 0 ⟨0,[],[]⟩) (.ok s' x)):
 ∃ps,(∀p∈ps,Wn p/\17<=p.k/\p.k<=25)/\s'.N.map Nd.fl=emN 0 0 (.nd 26 [] 0 ps)/\s'.T=S9 0 ps/\(flT (meL ps)).length<=s'.i/\mx 1 (meL ps)<=20:=by
 obtain⟨f,hf⟩:=h;have h:=hf f (vQ _);obtain⟨s1,l,h1,h⟩:=B6 h;obtain⟨rfl,rfl⟩:=F8 h;obtain⟨ps,l',e0,a,c,e,f⟩:=(M1c hL hV hX f).progL _ _ _ _ _ h1;rw[List.nil_append]at e0;subst e0;have hn:=c.node s1.i 26 [] 0 ⟨26,0,0,0,l,[],0,-1,0⟩ rfl;refine⟨ps,a,by simpa using hn.1,by simpa[emY]using hn.2.1,by simpa using e,by simpa using f⟩
def Eo(t:Tr):Prop:=∀T0,TsOk T0->TsOk (T0++emT T0.length t)/\tr (T0++emT T0.length t) (T0.length+nTy t - 1)=t
theorem G8a:∀(ks:List Tr),(∀x∈ks,Eo x)->∀T0,TsOk T0->TsOk (T0++K8 T0.length ks)/\(∀x∈ixT T0.length ks,0<=x/\x<((T0++K8 T0.length ks).length:Int))/\(ixT T0.length ks).map (λx=>tr (T0++K8 T0.length ks) x.toNat)=ks
 |[],_,T0,h=>by simp[K8,ixT,h]
 |t::r,hk,T0,h=>by
  obtain⟨h1,h2⟩:=hk t (by simp) T0 h;have hl:(T0++emT T0.length t).length=T0.length+nTy t:=by rw[qQ,Y8]
  obtain⟨h3,h4,h5⟩:=G8a r (λx hx=>hk x (by simp[hx])) (T0++emT T0.length t) h1;rw[hl]at h3 h4 h5;have e:T0++K8 T0.length (t::r)=T0++emT T0.length t++K8 (T0.length+nTy t) r:=by rw[K8,List.append_assoc]
  rw[e,ixT];have hp:=G5a t;refine⟨h3,λx hx=> ?_, ?_⟩
  · rcases jW.1 hx with rfl|hx
    · refine⟨by omega, ?_⟩;rw[qQ,hl];omega
    · exact h4 x hx
  · rw[List.map_cons,h5];have:(((T0.length+nTy t:Nat):Int) - 1).toNat=T0.length+nTy t - 1:=by omega
    rw[this,C4a _ h1 (by rw[hl];omega),h2]
theorem A8b{α β:Type}:∀(a:List α) (b:List β),a.length=b.length->(a.zip b).map (·.1)=a
 |[],_,_=>rfl
 |x::a,[],h=>by simp at h
 |x::a,y::b,h=>by simp only[List.zip_cons_cons,List.map_cons];rw[A8b a b (by simpa using h)]
theorem U1b{α β γ:Type}(f:β->γ):∀(a:List α) (b:List β),a.length=b.length->(a.zip b).map (λp=>f p.2)=b.map f
 |[],[],_=>rfl
 |[],_::_,h=>by simp at h
 |x::a,[],h=>by simp at h
 |x::a,y::b,h=>by simp only[List.zip_cons_cons,List.map_cons];rw[U1b f a b (by simpa using h)]
theorem D8b{T0:List Ty}{ks:List Tr}{k:Int}{ns:List (List UInt8)}(hk9:k≠9)(h1:TsOk (T0++K8 T0.length ks))(ht:TyOk (C0a k ns (ixT T0.length ks)) (T0++K8 T0.length ks).length)
 (he:Tr.nd (C0a k ns (ixT T0.length ks)).kind ((C0a k ns (ixT T0.length ks)).fields.map (·.1)) ((if (C0a k ns (ixT T0.length ks)).kind=8\/(C0a k ns (ixT T0.length ks)).kind=9 then [tr (T0++K8 T0.length ks) (C0a k ns (ixT T0.length ks)).of'.toNat] else [])++((C0a k ns (ixT T0.length ks)).fields.map λp=>tr (T0++K8 T0.length ks) p.2.toNat)++(C0a k ns (ixT T0.length ks)).list.map λx=>tr (T0++K8 T0.length ks) x.toNat)= .nd k ns ks):
 TsOk (T0++emT T0.length (.nd k ns ks))/\tr (T0++emT T0.length (.nd k ns ks)) (T0.length+nTy (.nd k ns ks) - 1)= .nd k ns ks:=by
 rw[E2b _ _ _ _ hk9,<-List.append_assoc];refine⟨h1.snoc ht, ?_⟩;have e:T0.length+nTy (.nd k ns ks) - 1=(T0++K8 T0.length ks).length:=by rw[qQ,C3a,nTy];omega
 rw[e,H7a h1 ht,he]
theorem Q6c(t:Tr)(h:Wf t):Eo t:=by
 induction h with
 |plain k h1 h2=>
  intro T0 h0;obtain⟨a,b,c⟩:=G8a [] (by simp) T0 h0;have hr:C0a k [] (ixT T0.length [])=⟨k,[],[],0⟩:=by rw[C0a,if_neg (by omega),if_neg (by omega),if_neg (by omega)]
  refine D8b (by omega) a ?_ ?_
  · rw[hr];exact .inl ⟨h1,h2,rfl,rfl⟩
  · rw[hr];simp only;rw[if_neg (by omega)];rfl
 |obj ns ks hl nd hn hw ih=>
  intro T0 h0;obtain⟨a,b,c⟩:=G8a ks ih T0 h0;have hr:C0a 7 ns (ixT T0.length ks)=⟨7,ns.zip (ixT T0.length ks),[],0⟩:=rfl;have hll:ns.length=(ixT T0.length ks).length:=by rw[K8a,hl]
  refine D8b (by omega) a ?_ ?_
  · rw[hr];refine .inr (.inl ⟨rfl,rfl, ?_,λp hp=> ?_⟩)
    · show ((ns.zip _).map (·.1)).Nodup;rw[A8b _ _ hll];exact nd
    · have:=List.of_mem_zip hp;exact⟨hn _ this.1,b _ this.2⟩
  · rw[hr];simp only[List.map_nil,List.append_nil];rw[A8b _ _ hll,U1b (λx:Int=>tr (T0++K8 T0.length ks) x.toNat) _ _ hll,c,if_neg (by decide)];rfl
 |arr t hw ih=>
  intro T0 h0;obtain⟨a,b,c⟩:=G8a [t] (by simpa using ih) T0 h0;have hr:C0a 8 [] (ixT T0.length [t])=⟨8,[],[],(ixT T0.length [t]).headD 0⟩:=rfl;rw[ixT,ixT]at b c;simp only[List.map_cons,List.map_nil,List.cons.injEq,and_true]at c;refine D8b (by omega) a ?_ ?_
  · rw[hr,ixT];exact .inr (.inr (.inl ⟨rfl,rfl,rfl,b _ (by simp)⟩))
  · rw[hr,ixT];simp only[List.map_nil,List.append_nil];show Tr.nd 8 [] ((if True\/_ then [tr (T0++K8 T0.length [t]) (((T0.length+nTy t:Nat):Int) - 1).toNat] else []))=_;rw[c,if_pos (.inl trivial)]
 |uni ks h2 hw ih=>
  intro T0 h0;obtain⟨a,b,c⟩:=G8a ks ih T0 h0;have hr:C0a 10 [] (ixT T0.length ks)=⟨10,[],ixT T0.length ks,0⟩:=rfl;refine D8b (by omega) a ?_ ?_
  · rw[hr];exact .inr (.inr (.inr (.inr ⟨rfl,rfl,by show 2<=(ixT _ _).length;rw[K8a];exact h2,b⟩)))
  · rw[hr];simp only[List.map_nil];rw[c,if_neg (by decide)];rfl
 |fn t ps hw hp iht ihp=>
  intro T0 h0;obtain⟨a,b,c⟩:=G8a ps ihp T0 h0;have hl:(T0++K8 T0.length ps).length=T0.length+M7 ps:=by rw[qQ,C3a]
  obtain⟨a2,c2⟩:=iht _ a;rw[hl]at a2 c2;have hl2:(T0++K8 T0.length ps++emT (T0.length+M7 ps) t).length=T0.length+M7 ps+nTy t:=by rw[qQ,hl,Y8]
  have hpos:=G5a t;have e:T0++emT T0.length (.nd 9 [] (t::ps))=T0++K8 T0.length ps++emT (T0.length+M7 ps) t++[⟨9,[],ixT T0.length ps,((T0.length+M7 ps+nTy t:Nat):Int) - 1⟩]:=by
   rw[emT,if_pos rfl,emB];simp
  rw[e];have ht:TyOk ⟨9,[],ixT T0.length ps,((T0.length+M7 ps+nTy t:Nat):Int) - 1⟩ (T0++K8 T0.length ps++emT (T0.length+M7 ps) t).length:=by
   refine .inr (.inr (.inr (.inl ⟨rfl,rfl, ?_, ?_,λx hx=> ?_⟩)))
   · show 0<=((T0.length+M7 ps+nTy t:Nat):Int) - 1;omega
   · show ((T0.length+M7 ps+nTy t:Nat):Int) - 1<_;rw[hl2];omega
   · have:=b x hx;rw[hl]at this;rw[hl2];omega
  refine⟨a2.snoc ht, ?_⟩;have e2:T0.length+nTy (.nd 9 [] (t::ps)) - 1=(T0++K8 T0.length ps++emT (T0.length+M7 ps) t).length:=by rw[hl2,nTy,M7];omega
  rw[e2,H7a a2 ht];simp only[List.map_nil,List.append_nil];rw[if_pos (.inr trivial)];have e3:(((T0.length+M7 ps+nTy t:Nat):Int) - 1).toNat=T0.length+M7 ps+nTy t - 1:=by omega
  rw[e3,c2];have e4:(ixT T0.length ps).map (λx=>tr (T0++K8 T0.length ps++emT (T0.length+M7 ps) t) x.toNat)=ps:=by
   refine Eq.trans (List.map_congr_left λx hx=> ?_) c;exact C4a _ a (by have:=b x hx;omega)
  rw[e4];rfl
mutual
theorem K0c:∀(t:Nt),Wn t->∀T0,TsOk T0->TsOk (T0++emY T0.length t)
 | .ty none,_,T0,h=>by simpa[emY]using h
 | .ty (some t),hw,T0,h=>by rw[emY];exact(Q6c t hw T0 h).1
 | .nd k tx n ps,hw,T0,h=>by rw[emY];rw[Wn]at hw;exact P8b ps hw.2.2 T0 h
theorem P8b:∀(ps:List Nt),WnL ps->∀T0,TsOk T0->TsOk (T0++S9 T0.length ps)
 |[],_,T0,h=>by simpa[S9]using h
 |p::r,hw,T0,h=>by
  rw[WnL]at hw;have h1:=K0c p hw.1 T0 h;have h2:=P8b r hw.2 _ h1;rw[qQ,D3a]at h2;rw[S9,<-List.append_assoc];exact h2
end
theorem F0a(k:Int)(tx:List UInt8)(n:Int)(l:List Int):(mkN k tx n l).text=tx/\(mkN k tx n l).n=n:=by
 unfold mkN;repeat' split
 all_goals exact⟨rfl,rfl⟩
theorem D0b:∀(ps:List Nt) (b tb:Nat),(ixL b tb ps).length=ps.length
 |[],_,_=>rfl
 |p::r,b,tb=>by rw[ixL,jQ,jQ,D0b r]
mutual
theorem C3d:∀(t:Nt),Wn t->∀(N:List Nd) (T:List Ty) (N0 N1:List Nd) (T0 T1:List Ty),N.map Nd.fl=N0++emN N0.length T0.length t++N1->T=T0++emY T0.length t++T1->TsOk T0->At N T t (ixN N0.length T0.length t)
 | .ty none,_,N,T,N0,N1,T0,T1,_,_,_=>by rw[At];rfl
 | .ty (some t),hw,N,T,N0,N1,T0,T1,_,hT,h0=>by
  rw[At,ixN];obtain⟨h1,h2⟩:=Q6c t hw T0 h0;have hp:=G5a t;have hl:(T0++emT T0.length t).length=T0.length+nTy t:=by rw[qQ,Y8]
  rw[emY]at hT;refine⟨T0.length+nTy t - 1,by omega, ?_, ?_⟩
  · rw[hT,qQ,hl];omega
  · rw[hT,C4a _ h1 (by rw[hl];omega),h2]
 | .nd k tx n ps,hw,N,T,N0,N1,T0,T1,hN,hT,h0=>by
  rw[Wn]at hw;rw[At,ixN];rw[emY]at hT;rw[emN]at hN;have hlen:=congrArg List.length hN;simp only[List.length_map,qQ,M6,jQ,xQ]at hlen;have hj:N0.length+nNL ps<N.length:=by omega
  have hat:(N[N0.length+nNL ps]).fl=mkN k tx n (ixL N0.length T0.length ps):=by
   have h1:(N.map Nd.fl)[N0.length+nNL ps]'(by simpa using hj)=(N[N0.length+nNL ps]).fl:=by simp
   rw[<-h1];simp only[hN];rw[List.getElem_append_left (by simp only[qQ,M6,jQ,xQ];omega),List.getElem_append_right (by omega)];rw[List.getElem_append_right (by rw[M6];omega)];simp[M6]
  have hk:(N[N0.length+nNL ps]).kind=k:=(congrArg Nd.kind hat).trans (X8 _ _ _ _);have ht:(N[N0.length+nNL ps]).text=tx:=(congrArg Nd.text hat).trans (F0a _ _ _ _).1;have hn:(N[N0.length+nNL ps]).n=n:=(congrArg Nd.n hat).trans (F0a _ _ _ _).2;refine⟨N0.length+nNL ps,by rw[nN];omega,hj,hk,ht,hn,ixL N0.length T0.length ps, ?_, ?_⟩
  · rw[<-Y7c,hat];exact Y6c hw.1 (by rw[List.length_map,D0b])
  · exact S1c ps hw.2.2 N T N0 ([mkN k tx n (ixL N0.length T0.length ps)]++N1) T0 T1 (by rw[hN];simp) hT h0
theorem S1c:∀(ps:List Nt),WnL ps->∀(N:List Nd) (T:List Ty) (N0 N1:List Nd) (T0 T1:List Ty),N.map Nd.fl=N0++M8 N0.length T0.length ps++N1->T=T0++S9 T0.length ps++T1->TsOk T0->AtL N T ps (ixL N0.length T0.length ps)
 |[],_,_,_,_,_,_,_,_,_,_=>by rw[AtL];rfl
 |p::r,hw,N,T,N0,N1,T0,T1,hN,hT,h0=>by
  rw[WnL]at hw;rw[M8]at hN;rw[S9]at hT;rw[AtL,ixL];refine⟨_,_,rfl,C3d p hw.1 N T N0 (M8 (N0.length+nN p) (T0.length+nT p) r++N1) T0 (S9 (T0.length+nT p) r++T1) (by rw[hN];simp) (by rw[hT];simp) h0, ?_⟩;have:=S1c r hw.2 N T (N0++emN N0.length T0.length p) N1 (T0++emY T0.length p) T1 (by rw[qQ,qQ,U3,D3a,hN];simp) (by rw[qQ,D3a,hT];simp) (K0c p hw.1 T0 h0);rw[qQ,qQ,U3,D3a]at this;exact this
end
/-! ### How much it is -/
mutual
theorem A1b:∀t:Nt,Wn t->Gd t
 | .ty _,_=>by simp[Gd]
 | .nd k tx n ps,h=>by rw[Wn]at h;rw[Gd];exact⟨h.1,O3c ps h.2.2⟩
theorem O3c:∀ps:List Nt,WnL ps->GdL ps
 |[],_=>trivial
 |p::r,h=>⟨A1b p h.1,O3c r h.2⟩
end
def cTy:List Nt->Nat
 |[]=>0
 | .ty _::r=>cTy r+1
 | .nd _ _ _ _::r=>cTy r
theorem E9b:∀ps qs,cTy (ps++qs)=cTy ps+cTy qs
 |[],qs=>by simp[cTy]
 | .ty _::r,qs=>by rw[List.cons_append,cTy,cTy,E9b r];omega
 | .nd _ _ _ _::r,qs=>by rw[List.cons_append,cTy,cTy,E9b r]
theorem L9b:∀ps:List Nt,(∀p∈ps,1<=p.k)->cTy ps=0
 |[],_=>rfl
 | .ty o::r,h=>by
  have:=h (.ty o) (by simp);cases o<;>simp[Nt.k]at this
 | .nd _ _ _ _::r,h=>by rw[cTy];exact L9b r λp hp=>h p (by simp[hp])
theorem Y9{ps:List Nt}{l:List Int}(h:ps.map Nt.k=l)(hl:∀x∈l,1<=x):cTy ps=0:=by
 refine L9b ps λp hp=>hl _ ?_;rw[<-h];exact List.mem_map_of_mem hp
theorem N6a:∀ps:List Nt,cTy ps<=ps.length
 |[]=>vQ _
 | .ty o::r=>by have:=N6a r;rw[cTy,jQ];omega
 | .nd _ _ _ _::r=>by have:=N6a r;rw[cTy,jQ];omega
theorem V6a{p:Nt}(h:1<=p.k)(r:List Nt):cTy (p::r)=cTy r:=by
 cases p with
 |nd k tx n ps=>rfl
 |ty o=>cases o<;>simp[Nt.k]at h
theorem F7{c A B:Prop}[Decidable c](h:if c then A else B):(c/\A)\/(¬c/\B):=by
 by_cases hc:c
 · rw[if_pos hc]at h;exact .inl ⟨hc,h⟩
 · rw[if_neg hc]at h;exact .inr ⟨hc,h⟩
theorem U8c{k:Int}{ps:List Nt}(h:shp k (ps.map Nt.k)):cTy ps<=1:=by
 unfold shp at h;rcases F7 h with ⟨_,h⟩|⟨_,h⟩
 · rw[Y9 h (by simp)];omega
 rcases F7 h with ⟨_,h⟩|⟨_,h⟩
 · obtain⟨xs,r,h,h16,hr⟩:=h;have hl:ps.length=xs.length+2:=by have:=congrArg List.length h;simpa using this
   have e:ps=ps.take xs.length++ps.drop xs.length:=(List.take_append_drop _ _).symm;have h1:(ps.take xs.length).map Nt.k=xs:=by rw[List.map_take,h];simp
   have h2:(ps.drop xs.length).map Nt.k=[r,26]:=by rw[List.map_drop,h];simp
   obtain⟨a,b,h3,h4,h5⟩:=k2 h2;rw[e,E9b,Y9 h1 (λx hx=>by rw[h16 x hx];omega),h3];have:cTy [b]=0:=V6a (by omega) [];cases a<;>(simp only[cTy]at this⊢;omega)
 rcases F7 h with ⟨_,h⟩|⟨_,h⟩
 · obtain⟨x,xs,h,hx,hxs⟩:=h;rw[Y9 h (λy hy=>by rcases jW.1 hy with rfl|hy;exact hx.1;exact(hxs y hy).1)];omega
 rcases F7 h with ⟨_,h⟩|⟨_,h⟩
 · obtain⟨x,h,_⟩:=h;obtain⟨a,rfl,_⟩:=k1 h;exact N6a [a]
 rcases F7 h with ⟨_,h⟩|⟨_,h⟩
 · obtain⟨x,y,h,hx,hy⟩:=h;rw[Y9 h (λz hz=>by simp at hz;rcases hz with rfl|rfl;exact hx.1;exact hy.1)];omega
 rcases F7 h with ⟨_,h⟩|⟨_,h⟩
 · rw[Y9 rfl (λy hy=>by rw[h y hy];omega)];omega
 rcases F7 h with ⟨_,h⟩|⟨_,h⟩
 · rw[Y9 rfl (λy hy=>(h y hy).1)];omega
 rcases F7 h with ⟨_,h⟩|⟨_,h⟩
 · obtain⟨x,h,hx⟩:=h;obtain⟨a,b,rfl,ha,hb⟩:=k2 h;rw[V6a (by rw[ha];exact hx.1)];exact N6a [b]
 rcases F7 h with ⟨_,h⟩|⟨_,h⟩
 · obtain⟨x,h,_⟩:=h;obtain⟨a,rfl,_⟩:=k1 h;exact N6a [a]
 rcases F7 h with ⟨_,h⟩|⟨_,h⟩
 · obtain⟨x,y,h,hx,hy⟩:=h;obtain⟨a,b,rfl,ha,hb⟩:=k2 h;have h1:cTy [b]=0:=V6a (by rw[hb];exact hy.1) [];cases a<;>(simp only[cTy]at h1⊢;omega)
 rcases F7 h with ⟨_,h⟩|⟨_,h⟩
 · obtain⟨x,y,z,h,hx,hy,hz⟩:=h;rw[Y9 h (λu hu=>by simp at hu;rcases hu with rfl|rfl|rfl;exact hx.1;exact hy.1;exact hz.1)];omega
 rcases F7 h with ⟨_,h⟩|⟨_,h⟩
 · obtain⟨x,z,h,hx,_⟩:=h;obtain⟨a,b,c,rfl,ha,hb,hc⟩:=k3 h;rw[V6a (by rw[ha];exact hx.1),V6a (by omega)];exact N6a [c]
 rcases F7 h with ⟨_,h⟩|⟨_,h⟩
 · obtain⟨x,h,hx⟩:=h;rw[Y9 h (λz hz=>by simp at hz;rcases hz with rfl|rfl;exact hx.1;omega)];omega
 rcases F7 h with ⟨_,h⟩|⟨_,h⟩
 · rw[Y9 rfl (λy hy=>by have:=h y hy;omega)];omega
 · exact h.elim
/-! ### The B5a of types are short -/
theorem T2c{α β:Type}(a:List α)(b:List β):(a.zip b).length<=b.length:=by rw[List.length_zip];omega
theorem C8b:∀ks:List Tr,ks.length<=M7 ks
 |[]=>vQ _
 |t::r=>by have:=C8b r;have:=G5a t;rw[M7,jQ];omega
mutual
theorem Q8c:∀(t:Tr) (b:Nat),∀y∈emT b t,y.list.length<=nTy t/\y.fields.length<=nTy t
 | .nd k ns ks,b,y,hy=>by
  rw[nTy];rw[emT]at hy;split at hy
  · exact H4d ks b y hy
  · rw[qW,zW]at hy;rcases hy with hy|rfl
    · have:=T1b ks b y hy;omega
    · have h1:=C8b ks;have h2:=T2c ns (ixT b ks);have h3:=K8a ks b;unfold C0a;repeat' split
      all_goals (simp only[xQ];omega)
theorem T1b:∀(ks:List Tr) (b:Nat),∀y∈K8 b ks,y.list.length<=M7 ks/\y.fields.length<=M7 ks
 |[],b,y,hy=>by simp[K8]at hy
 |t::r,b,y,hy=>by
  rw[K8,qW]at hy;rw[M7];rcases hy with hy|hy
  · have:=Q8c t b y hy;omega
  · have:=T1b r _ y hy;omega
theorem H4d:∀(ks:List Tr) (b:Nat),∀y∈emB b ks,y.list.length<=M7 ks+1/\y.fields.length<=M7 ks+1
 |[],b,y,hy=>by
  rw[emB,zW]at hy;subst hy;simp
 |t::r,b,y,hy=>by
  rw[emB,qW,qW,zW]at hy;rw[M7];rcases hy with (hy|hy)|rfl
  · have:=T1b r _ y hy;omega
  · have:=Q8c t _ y hy;omega
  · have h1:=C8b r;have h3:=K8a r b;simp only[xQ];omega
end
mutual
theorem H2d:∀(t:Nt) (b:Nat),∀y∈emY b t,y.list.length<=nT t/\y.fields.length<=nT t
 | .ty none,b,y,hy=>by simp[emY]at hy
 | .ty (some t),b,y,hy=>by rw[emY]at hy;rw[nT];exact Q8c t b y hy
 | .nd k tx n ps,b,y,hy=>by rw[emY]at hy;rw[nT];exact E1b ps b y hy
theorem E1b:∀(ps:List Nt) (b:Nat),∀y∈S9 b ps,y.list.length<=nTL ps/\y.fields.length<=nTL ps
 |[],b,y,hy=>by simp[S9]at hy
 |p::r,b,y,hy=>by
  rw[S9,qW]at hy;rw[nTL];rcases hy with hy|hy
  · have:=H2d p b y hy;omega
  · have:=E1b r _ y hy;omega
end
/-! ### The lengths -/
def SL:List Tr->Nat
 |[]=>0
 |t::r=>(txt' t).length+30+SL r
theorem F2d{k:Int}{tx:List UInt8}{n:Int}{ps:List Nt}(h:own k tx n ps):tx.length<=30/\0<=n/\n<=999999999:=by
 unfold own at h;rcases F7 h with ⟨_,h⟩|⟨_,h⟩
 · rw[h.1];exact⟨by simp,h.2⟩
 rcases F7 h with ⟨_,h⟩|⟨_,h⟩
 · exact⟨h.1.1,by omega⟩
 rcases F7 h with ⟨_,h⟩|⟨_,h⟩
 · rw[h.1];exact⟨by simp,by omega⟩
 rcases F7 h with ⟨_,h⟩|⟨_,h⟩
 · have:=h.1.2.1;exact⟨by omega,by omega⟩
 rcases F7 h with ⟨_,h⟩|⟨_,h⟩
 · refine⟨?_,by omega⟩;have:=h.1;simp only[jW,List.not_mem_nil,or_false]at this;rcases this with rfl|rfl|rfl|rfl|rfl<;>decide
 rcases F7 h with ⟨_,h⟩|⟨_,h⟩
 · refine⟨?_,by omega⟩;have:=h.1;simp only[jW,List.not_mem_nil,or_false]at this;rcases this with rfl|rfl|rfl<;>decide
 · rw[h.1];exact⟨by simp,by omega⟩
inductive Sh:Nt->Prop
 |ty0:Sh (.ty none)
 |ty1 (t:Tr):Wf t->Sh (.ty (some t))
 |n1 (n:Int):0<=n/\n<=999999999->Sh (.nd 1 [] n [])
 |n2 (tx:List UInt8):(tx.length<=30/\∀c∈tx,txt c.toNat=true)->Sh (.nd 2 tx 0 [])
 |n3 (n:Int):n=0\/n=1->Sh (.nd 3 [] n [])
 |n4:Sh (.nd 4 [] 0 [])
 |n5 (tx:List UInt8):L9 tx->Sh (.nd 5 tx 0 [])
 |n6 (ps:List Nt) (a b:Nt):(∀p∈ps,Wn p/\p.k=16)->(ps.map Nt.tx).Nodup->Wn a->isT a.k->Wn b->b.k=26->Sh (.nd 6 [] 0 (ps++[a,b]))
 |n7 (a:Nt) (ps:List Nt):Wn a->isE a.k->(∀p∈ps,Wn p/\isE p.k)->Sh (.nd 7 [] 0 (a::ps))
 |n8 (tx:List UInt8) (a:Nt):L9 tx->Wn a->isE a.k->Sh (.nd 8 tx 0 [a])
 |n9 (a b:Nt):Wn a->isE a.k->Wn b->isE b.k->Sh (.nd 9 [] 0 [a,b])
 |n10 (ps:List Nt):(∀p∈ps,Wn p/\p.k=15)->(ps.map Nt.tx).Nodup->Sh (.nd 10 [] 0 ps)
 |n11 (ps:List Nt):(∀p∈ps,Wn p/\isE p.k)->Sh (.nd 11 [] 0 ps)
 |n12 (tx:List UInt8) (a b:Nt):tx∈[[61,61],[60],[43],[45],[42]]->Wn a->isE a.k->Wn b->isE b.k->Sh (.nd 12 tx 0 [a,b])
 |n13 (tx:List UInt8) (a:Nt):tx∈[[33],[45],[116,121,112,101,111,102]]->Wn a->isE a.k->Sh (.nd 13 tx 0 [a])
 |n14 (a:Nt) (t:Tr):Wn a->isE a.k->Wf t->Sh (.nd 14 [] 0 [a,.ty (some t)])
 |n15 (tx:List UInt8) (a:Nt):L9 tx->Wn a->isE a.k->Sh (.nd 15 tx 0 [a])
 |n16 (tx:List UInt8) (a:Nt):L9 tx->Wn a->isT a.k->Sh (.nd 16 tx 0 [a])
 |n17 (tx:List UInt8) (a b:Nt):L9 tx->Wn a->isT a.k->Wn b->isE b.k->Sh (.nd 17 tx 0 [a,b])
 |n18 (tx:List UInt8) (a:Nt):L9 tx->Wn a->isE a.k->Sh (.nd 18 tx 0 [a])
 |n19 (tx:List UInt8) (a b:Nt):L9 tx->Wn a->isE a.k->Wn b->isE b.k->Sh (.nd 19 tx 0 [a,b])
 |n20 (a b c:Nt):Wn a->isE a.k->Wn b->isE b.k->Wn c->isE c.k->Sh (.nd 20 [] 0 [a,b,c])
 |n21 (a:Nt):Wn a->isE a.k->Sh (.nd 21 [] 0 [a])
 |n22 (a b c:Nt):Wn a->isE a.k->Wn b->b.k=26->Wn c->c.k=26\/c.k= -1->Sh (.nd 22 [] 0 [a,b,c])
 |n23 (a b:Nt):Wn a->isE a.k->Wn b->b.k=26->Sh (.nd 23 [] 0 [a,b])
 |n24 (a:Nt):Wn a->isE a.k->Sh (.nd 24 [] 0 [a])
 |n25 (a:Nt):Wn a->isE a.k->Sh (.nd 25 [] 0 [a])
 |n26 (ps:List Nt):(∀p∈ps,Wn p/\17<=p.k/\p.k<=25)->Sh (.nd 26 [] 0 ps)
theorem F2a{a:Nt}(hw:Wn a)(h:isT a.k):∃t,a= .ty t:=N1a (A1b a hw) h
theorem N7d{a:Nt}(hw:Wn a)(h:a.k=0):∃t,a= .ty (some t)/\Wf t:=by
 obtain⟨t,rfl⟩:=F2a hw (.inr h);cases t with
 |none=>simp[Nt.k]at h
 |some t=>exact⟨t,rfl,hw⟩
theorem X0{t:Nt}(h:Wn t):Sh t:=by
 cases t with
 |ty o=>
  cases o with
  |none=>exact .ty0
  |some t=>exact .ty1 t h
 |nd k tx n ps=>
  rw[Wn]at h;obtain⟨sh,ow,wl⟩:=h;rw[A9a]at wl;have hm:∀p∈ps,p.k∈ps.map Nt.k:=λp hp=>List.mem_map_of_mem hp;unfold shp at sh;rcases F7 sh with ⟨hk,sh⟩|⟨hk1,sh⟩
  · have hps:ps=[]:=by simpa using sh
    subst hps;rcases hk with rfl|rfl|rfl|rfl|rfl
    · obtain⟨rfl,h⟩:tx=[]/\0<=n/\n<=999999999:=ow;exact .n1 n h
    · obtain⟨h,rfl⟩:(tx.length<=30/\∀c∈tx,txt c.toNat=true)/\n=0:=ow;exact .n2 tx h
    · obtain⟨rfl,h⟩:tx=[]/\(n=0\/n=1):=ow;exact .n3 n h
    · obtain⟨rfl,rfl⟩:tx=[]/\n=0:=by simpa[own]using ow
      exact .n4
    · obtain⟨h,rfl⟩:L9 tx/\n=0:=ow;exact .n5 tx h
  rcases F7 sh with ⟨hk,sh⟩|⟨hk2,sh⟩
  · subst hk;obtain⟨rfl,rfl,hn⟩:tx=[]/\n=0/\(ps.dropLast.dropLast.map Nt.tx).Nodup:=by simpa[own]using ow
    obtain⟨xs,r,h,h16,hr⟩:=sh;have e:ps=ps.take xs.length++ps.drop xs.length:=(List.take_append_drop _ _).symm;have h1:(ps.take xs.length).map Nt.k=xs:=by rw[List.map_take,h];simp
    have h2:(ps.drop xs.length).map Nt.k=[r,26]:=by rw[List.map_drop,h];simp
    obtain⟨a,b,h3,h4,h5⟩:=k2 h2;rw[h3]at e;generalize ps.take xs.length=qs at e h1;subst e;rw[dl3]at hn;refine .n6 qs a b (λp hp=>⟨wl p (by simp[hp]),h16 _ ?_⟩) hn (wl a (by simp)) (by rw[h4];exact hr) (wl b (by simp)) h5;rw[<-h1];exact List.mem_map_of_mem hp
  rcases F7 sh with ⟨hk,sh⟩|⟨hk3,sh⟩
  · subst hk;obtain⟨rfl,rfl⟩:tx=[]/\n=0:=by simpa[own]using ow
    obtain⟨x,xs,h,hx,hxs⟩:=sh;cases ps with
    |nil=>simp at h
    |cons a qs=>
     simp only[List.map_cons,List.cons.injEq]at h;refine .n7 a qs (wl a (by simp)) (by rw[h.1];exact hx) λp hp=>⟨wl p (by simp[hp]),hxs _ ?_⟩;rw[<-h.2];exact List.mem_map_of_mem hp
  rcases F7 sh with ⟨hk,sh⟩|⟨hk4,sh⟩
  · obtain⟨x,h,hx⟩:=sh;obtain⟨a,rfl,rfl⟩:=k1 h;have ha:=wl a (by simp);rcases hk with rfl|rfl|rfl|rfl|rfl|rfl|rfl
    · obtain⟨h,rfl⟩:L9 tx/\n=0:=ow;exact .n8 tx a h ha hx
    · obtain⟨h,rfl⟩:tx∈[[33],[45],[116,121,112,101,111,102]]/\n=0:=ow;exact .n13 tx a h ha hx
    · obtain⟨h,rfl⟩:L9 tx/\n=0:=ow;exact .n15 tx a h ha hx
    · obtain⟨h,rfl⟩:L9 tx/\n=0:=ow;exact .n18 tx a h ha hx
    · obtain⟨rfl,rfl⟩:tx=[]/\n=0:=by simpa[own]using ow
      exact .n21 a ha hx
    · obtain⟨rfl,rfl⟩:tx=[]/\n=0:=by simpa[own]using ow
      exact .n24 a ha hx
    · obtain⟨rfl,rfl⟩:tx=[]/\n=0:=by simpa[own]using ow
      exact .n25 a ha hx
  rcases F7 sh with ⟨hk,sh⟩|⟨hk5,sh⟩
  · obtain⟨x,y,h,hx,hy⟩:=sh;obtain⟨a,b,rfl,rfl,rfl⟩:=k2 h;have ha:=wl a (by simp);have hb:=wl b (by simp);rcases hk with rfl|rfl|rfl
    · obtain⟨rfl,rfl⟩:tx=[]/\n=0:=by simpa[own]using ow
      exact .n9 a b ha hx hb hy
    · obtain⟨h,rfl⟩:tx∈[[61,61],[60],[43],[45],[42]]/\n=0:=ow;exact .n12 tx a b h ha hx hb hy
    · obtain⟨h,rfl⟩:L9 tx/\n=0:=ow;exact .n19 tx a b h ha hx hb hy
  rcases F7 sh with ⟨hk,sh⟩|⟨hk6,sh⟩
  · subst hk;obtain⟨rfl,rfl,hn⟩:tx=[]/\n=0/\(ps.map Nt.tx).Nodup:=by simpa[own]using ow
    exact .n10 ps (λp hp=>⟨wl p hp,sh _ (hm p hp)⟩) hn
  rcases F7 sh with ⟨hk,sh⟩|⟨hk7,sh⟩
  · subst hk;obtain⟨rfl,rfl⟩:tx=[]/\n=0:=by simpa[own]using ow
    exact .n11 ps λp hp=>⟨wl p hp,sh _ (hm p hp)⟩
  rcases F7 sh with ⟨hk,sh⟩|⟨hk8,sh⟩
  · subst hk;obtain⟨rfl,rfl⟩:tx=[]/\n=0:=by simpa[own]using ow
    obtain⟨x,h,hx⟩:=sh;obtain⟨a,b,rfl,rfl,hb⟩:=k2 h;obtain⟨t,rfl,ht⟩:=N7d (wl b (by simp)) hb;exact .n14 a t (wl a (by simp)) hx ht
  rcases F7 sh with ⟨hk,sh⟩|⟨hk9,sh⟩
  · subst hk;obtain⟨h0,rfl⟩:L9 tx/\n=0:=ow;obtain⟨x,h,hx⟩:=sh;obtain⟨a,rfl,rfl⟩:=k1 h;exact .n16 tx a h0 (wl a (by simp)) hx
  rcases F7 sh with ⟨hk,sh⟩|⟨hk10,sh⟩
  · subst hk;obtain⟨h0,rfl⟩:L9 tx/\n=0:=ow;obtain⟨x,y,h,hx,hy⟩:=sh;obtain⟨a,b,rfl,rfl,rfl⟩:=k2 h;exact .n17 tx a b h0 (wl a (by simp)) hx (wl b (by simp)) hy
  rcases F7 sh with ⟨hk,sh⟩|⟨hk11,sh⟩
  · subst hk;obtain⟨rfl,rfl⟩:tx=[]/\n=0:=by simpa[own]using ow
    obtain⟨x,y,z,h,hx,hy,hz⟩:=sh;obtain⟨a,b,c,rfl,rfl,rfl,rfl⟩:=k3 h;exact .n20 a b c (wl a (by simp)) hx (wl b (by simp)) hy (wl c (by simp)) hz
  rcases F7 sh with ⟨hk,sh⟩|⟨hk12,sh⟩
  · subst hk;obtain⟨rfl,rfl⟩:tx=[]/\n=0:=by simpa[own]using ow
    obtain⟨x,z,h,hx,hz⟩:=sh;obtain⟨a,b,c,rfl,rfl,hb,rfl⟩:=k3 h;exact .n22 a b c (wl a (by simp)) hx (wl b (by simp)) hb (wl c (by simp)) hz
  rcases F7 sh with ⟨hk,sh⟩|⟨hk13,sh⟩
  · subst hk;obtain⟨rfl,rfl⟩:tx=[]/\n=0:=by simpa[own]using ow
    obtain⟨x,h,hx⟩:=sh;obtain⟨a,b,rfl,rfl,hb⟩:=k2 h;exact .n23 a b (wl a (by simp)) hx (wl b (by simp)) hb
  rcases F7 sh with ⟨hk,sh⟩|⟨hk14,sh⟩
  · subst hk;obtain⟨rfl,rfl⟩:tx=[]/\n=0:=by simpa[own]using ow
    exact .n26 ps λp hp=>⟨wl p hp,sh _ (hm p hp)⟩
  · exact sh.elim
def pc(d:Nat)(t:Nt):Pc:=⟨bnd t,t.k,pr d t⟩
/-! ### The scanner has no fault there -/
def Gt{α:Type}(L:List Tk)(φ:Sp->Option (Out α))(Q:St->α->Prop):Prop:=∃s' x,Ev L φ (.ok s' x)/\Q s' x
section
variable(L:List Tk)
def Qt(r:List TT)(s:St)(t:Tr)(s':St)(x:Int):Prop:=tt L s'.i=r/\Yft s t s' x
def Dt(t:Tr):Prop:=∀d s r,tt L s.i=tks t++r->Fol r->dTy t+1<=20 - d->Gt L (λq=>q.typ d s) (Qt L r s t)
def Dm(t:Tr)(bare:Bool):Prop:=∀d s r,tt L s.i=tks t++r->isS r [61,62]=false->(bare=false->isS r [124]=false)->dTy t<=20 - d->Gt L (λq=>q.member d s) (Qt L r s t)
end
section
variable{L:List Tk}
end
def C3c(r:List TT)(ms:List (List UInt8)):Bool:=
 match r with
 |[]=>false
 |(k,x)::_=>(k==5||k==2) && has ms x
def fo:List (List UInt8):=[[124],[61,62]]
def f5:List (List UInt8):=[[40],[46],[91],[97,115],[124],[61,62]]
def f3:List (List UInt8):=[[40],[46],[91],[97,115],[124],[61,62],[42]]
def f2:List (List UInt8):=[[40],[46],[91],[97,115],[124],[61,62],[42],[43],[45]]
def f1:List (List UInt8):=[[40],[46],[91],[97,115],[124],[61,62],[42],[43],[45],[61,61],[60]]
theorem f23:∀m∈f3,m∈f2:=by decide
section
variable(L:List Tk)
def Qn(r:List TT)(s:St)(t:Nt)(s':St)(x:Int):Prop:=tt L s'.i=r/\Nft s t s' x
def Cp(φ:Sp->Option (Out Int))(k:Sp->St->Int->Option (Out Int))(r:List TT)(s:St)(t:Nt):Prop:=
 ∃s' x,Qn L r s t s' x/\∀R,Gt L (λq=>k q s' x) R->Gt L (λq=>A4 (φ q) (k q)) R
def P5(t:Nt):Prop:=∀d s r,tt L s.i=wt 5 (pt t)++r->C3c r fo=false->wd 5 (pt t)<=20 - d->Cp L (λq=>q.simple d s) (λq s x=>q.tail d s x) r s t
def P4(t:Nt):Prop:=∀d s r,tt L s.i=wt 4 (pt t)++r->C3c r f5=false->wd 4 (pt t)<=20 - d->Gt L (λq=>q.oper d s) (Qn L r s t)
def P3(t:Nt):Prop:=∀d s r,tt L s.i=wt 3 (pt t)++r->C3c r f5=false->wd 3 (pt t)<=20 - d->Cp L (λq=>q.oper d s) (λq s x=>q.row false d s x) r s t
def P2(t:Nt):Prop:=∀d s r,tt L s.i=wt 2 (pt t)++r->C3c r f3=false->wd 2 (pt t)<=20 - d->Cp L (λq=>q.prod d s) (λq s x=>q.row true d s x) r s t
def P1(t:Nt):Prop:=∀d s r,tt L s.i=(me t).1++r->C3c r f1=false->(me t).2<=20 - d->Gt L (λq=>q.comp d s) (Qn L r s t)
def PE(t:Nt):Prop:=∀d s r,tt L s.i=(me t).1++r->C3c r f1=false->(me t).2+1<=20 - d->Gt L (λq=>q.expr d s) (Qn L r s t)
end
/-! ### How it begins -/
section
variable{L:List Tk}
end
def fw:List (List UInt8):=[[41],[93],[125],[44]]
def Fw(r:List TT):Prop:=∃m r',r=sg m::r'/\m∈fw
section
variable{L:List Tk}
/-! ### Each kind of an expression -/
end
section
variable(L:List Tk)
end
section
variable{L:List Tk}
/-! ### Statements -/
def FS(l:List TT):Prop:=∃k x r,l=(k,x)::r/\(k=1\/k=3\/k=4\/((k=5\/k=2)/\x∈A6a++S2a))
end
def Bd{α:Type}(Z:Nat)(x:Option (Out α)):Prop:=∀s' a,x=some (.ok s' a)->s'.i<=Z
theorem Bd.bind{α β:Type}{Z:Nat}{x:Option (Out α)}{k:St->α->Option (Out β)}(h:Bd Z x)(hk:∀s a,s.i<=Z->Bd Z (k s a)):Bd Z (A4 x k):=by
 intro s' b e;obtain⟨s1,a,h1,h2⟩:=B6 e;exact hk s1 a (h _ _ h1) _ _ h2
theorem Bd.ok{α:Type}{Z:Nat}{s:St}{a:α}(h:s.i<=Z):Bd Z (some (.ok s a)):=by
 intro s' b e;simp only[zQ,Out.ok.injEq]at e;rw[<-e.1];exact h
theorem Bd.flt{α:Type}{Z:Nat}{L:List Tk}{i:Nat}{e:Int}:Bd Z (flt L i e:Option (Out α)):=by
 intro s' b h;simp[M.flt]at h
theorem Bd.addN{Z:Nat}{s:St}{n:Nd}(h:s.i<=Z):Bd Z (addN s n):=Bd.ok (s:=⟨s.i,s.N++[n],s.T⟩) h
theorem Bd.addT{Z:Nat}{s:St}{n:Ty}(h:s.i<=Z):Bd Z (addT s n):=Bd.ok (s:=⟨s.i,s.N,s.T++[n]⟩) h
theorem Bd.ite{α:Type}{Z:Nat}{c:Prop}[Decidable c]{x y:Option (Out α)}(h1:c->Bd Z x)(h2:¬c->Bd Z y):Bd Z (if c then x else y):=by
 by_cases h:c
 · rw[if_pos h];exact h1 h
 · rw[if_neg h];exact h2 h
theorem Bd.inside{Z:Nat}{L:List Tk}{b:Bool}{d:Nat}{s:St}{p:Nat->St->Option (Out Int)}(h:∀d,Bd Z (p d s)):Bd Z (inside L b d s p):=
 Bd.ite (λ_=>Bd.ite (λ_=>Bd.flt) λ_=>h _) λ_=>Bd.flt
def End(L:List Tk)(Z:Nat):Prop:=∀i,(tk L i).kind≠6->i+1<=Z
theorem End.m{L:List Tk}{Z:Nat}(h:End L Z){i:Nat}{ms:List (List UInt8)}(hm:isM L i ms=true):i+1<=Z:=by
 refine h i λh6=> ?_;simp[isM,h6]at hm
theorem Bd.need{Z:Nat}{L:List Tk}(hZ:End L Z){s:St}{m:List UInt8}:Bd Z (need L s m):=Bd.ite (λhm=>Bd.ok (hZ.m hm)) λ_=>Bd.flt
structure BF(Z:Nat)(r:Sp):Prop where
 typ:∀d s,s.i<=Z->Bd Z (r.typ d s)
 union:∀d s,s.i<=Z->Bd Z (r.union d s)
 unionL:∀d s l,s.i<=Z->Bd Z (r.unionL d s l)
 member:∀d s,s.i<=Z->Bd Z (r.member d s)
 objL:∀d s l,s.i<=Z->Bd Z (r.objL d s l)
 fob:∀d s,s.i<=Z->Bd Z (r.fob d s)
 list:∀p e d s nm l,s.i<=Z->Bd Z (r.list p e d s nm l)
 expr:∀d s,s.i<=Z->Bd Z (r.expr d s)
 comp:∀d s,s.i<=Z->Bd Z (r.comp d s)
 sum:∀d s,s.i<=Z->Bd Z (r.sum d s)
 prod:∀d s,s.i<=Z->Bd Z (r.prod d s)
 row:∀b d s x,s.i<=Z->Bd Z (r.row b d s x)
 oper:∀d s,s.i<=Z->Bd Z (r.oper d s)
 tail:∀d s x,s.i<=Z->Bd Z (r.tail d s x)
 simple:∀d s,s.i<=Z->Bd Z (r.simple d s)
 block:∀d s,s.i<=Z->Bd Z (r.block d s)
 blockL:∀d s l,s.i<=Z->Bd Z (r.blockL d s l)
 stmt:∀d s,s.i<=Z->Bd Z (r.stmt d s)
 any:∀d s,s.i<=Z->Bd Z (r.any d s)
 progL:∀d s l,s.i<=Z->Bd Z (r.progL d s l)
section
variable{L:List Tk}{Z:Nat}{r:Sp}
theorem Bd.two{s:St}{x:Int}{p:St->Option (Out Int)}(hm:s.i+1<=Z)(h:∀s,s.i<=Z->Bd Z (p s)):Bd Z (two L s x p):=Bd.bind (h s.nx hm) λ_ _ h1=>Bd.addN h1
theorem Bd.typeIf(hZ:End L Z)(i:BF Z r){d:Nat}{s:St}(h:s.i<=Z):Bd Z (typeIf L r d s):=Bd.ite (λhm=>i.typ d s.nx (hZ.m hm)) λ_=>Bd.ok h
theorem Bd.newName(hZ:End L Z){s:St}{nm:List (List UInt8)}:Bd Z (newName L s nm):=
 Bd.ite (λhk=>Bd.ite (λ_=>Bd.flt) λ_=>Bd.ok (hZ s.i (by omega))) λ_=>Bd.flt
theorem Bd.part(hZ:End L Z)(i:BF Z r){d:Nat}{s:St}{nm:List (List UInt8)}(h:s.i<=Z):∀p,Bd Z (part L r d s nm p)
 | .typ=>Bd.bind (i.typ d s h) λ_ _ h=>Bd.ok h
 | .expr=>Bd.bind (i.expr d s h) λ_ _ h=>Bd.ok h
 | .obj=>Bd.bind (Bd.newName hZ) λ_ _ _=>Bd.bind (Bd.need hZ) λ_ _ h2=>Bd.bind (i.expr d _ h2) λ_ _ h3=>Bd.bind (Bd.addN h3) λ_ _ h4=>Bd.ok h4
 | .par=>Bd.bind (Bd.newName hZ) λ_ _ h1=>Bd.bind (Bd.typeIf hZ i h1) λ_ _ h2=>Bd.bind (Bd.addN h2) λ_ _ h3=>Bd.ok h3
theorem A6d(hZ:End L Z)(i:BF Z r):BF Z (step L r) where
 typ d s h:=Bd.inside λd=>i.union d s h
 union d s h:=Bd.bind (i.member d s h) λ_ _ h1=>Bd.ite (λ_=>Bd.bind (i.unionL d _ _ h1) λ_ _ h2=>Bd.addT h2) λ_=>Bd.ok h1
 unionL d s l h:=Bd.ite (λhm=>Bd.bind (i.member d s.nx (hZ.m hm)) λ_ _ h1=>i.unionL d _ _ h1) λ_=>Bd.ok h
 member d s h:=Bd.ite (λhm=>i.objL d s.nx [] (hZ.m hm)) λ_=>Bd.ite (λhm=>Bd.bind (i.typ d s.nx (hZ.m hm)) λ_ _ _=>Bd.bind (Bd.need hZ) λ_ _ h2=>Bd.addT h2) λ_=>
  Bd.ite (λhm=>i.fob d s.nx (hZ.m hm)) λ_=>Bd.ite (λhk=>Bd.addT (s:=s.nx) (hZ s.i (by omega))) λ_=>Bd.flt
 objL d s l h:=Bd.ite (λhm=>Bd.addT (s:=s.nx) (hZ.m hm)) λ_=>Bd.bind (Bd.newName hZ) λ_ _ _=>Bd.bind (Bd.need hZ) λ_ _ h2=>Bd.bind (i.typ d _ h2) λ_ _ _=>Bd.bind (Bd.need hZ) λ_ _ h4=>i.objL d _ _ h4
 fob d s h:=Bd.bind (i.list _ _ d s _ _ h) λs1 l h1=>Bd.ite (λhm=>Bd.bind (i.typ d s1.nx (hZ.m hm)) λ_ _ h2=>Bd.addT h2) λ_=>by
  split
  · exact Bd.ok h1
  · exact Bd.flt
 list p e d s nm l h:=Bd.ite (λhm=>Bd.ok (hZ.m hm)) λ_=>Bd.bind (Bd.ite (λ_=>Bd.ok h) λ_=>Bd.need hZ) λ_ _ h1=>Bd.bind (Bd.part hZ i h1 p) λ_ _ h2=>i.list p e d _ _ _ h2
 expr d s h:=Bd.inside λd=>i.comp d s h
 comp d s h:=Bd.bind (i.sum d s h) λ_ _ h1=>Bd.ite (λhm=>Bd.two (hZ.m hm) λs h=>i.sum d s h) λ_=>Bd.ok h1
 sum d s h:=Bd.bind (i.prod d s h) λ_ _ h1=>i.row _ d _ _ h1
 prod d s h:=Bd.bind (i.oper d s h) λ_ _ h1=>i.row _ d _ _ h1
 row b d s x h:=Bd.ite (λhm=>Bd.bind (Bd.two (hZ.m hm) (by cases b;exact λs h=>i.oper d s h;exact λs h=>i.prod d s h)) λ_ _ h1=>i.row b d _ _ h1) λ_=>Bd.ok h
 oper d s h:=Bd.ite (λhm=>Bd.bind (Bd.inside λd=>i.oper d s.nx (hZ.m hm)) λ_ _ h1=>Bd.addN h1) λ_=>Bd.bind (i.simple d s h) λ_ _ h1=>i.tail d _ _ h1
 tail d s x h:=Bd.ite (λhm=>Bd.bind (i.list _ _ d s.nx _ _ (hZ.m hm)) λ_ _ h1=>Bd.bind (Bd.addN h1) λ_ _ h2=>i.tail d _ _ h2) λ_=>
  Bd.ite (λ_=>Bd.ite (λhk=>Bd.bind (Bd.addN (s:=s.nx.nx) (hZ (s.i+1) (by omega))) λ_ _ h2=>i.tail d _ _ h2) λ_=>Bd.flt) λ_=>
  Bd.ite (λhm=>Bd.bind (i.expr d s.nx (hZ.m hm)) λ_ _ _=>Bd.bind (Bd.need hZ) λ_ _ h2=>Bd.bind (Bd.addN h2) λ_ _ h3=>i.tail d _ _ h3) λ_=>
  Bd.ite (λhm=>Bd.bind (i.typ d s.nx (hZ.m hm)) λ_ _ h1=>Bd.bind (Bd.addN h1) λ_ _ h2=>i.tail d _ _ h2) λ_=>Bd.ok h
 simple d s h:=Bd.ite (λhk=>Bd.addN (s:=s.nx) (hZ s.i (by omega))) λ_=>Bd.ite (λhk=>Bd.addN (s:=s.nx) (hZ s.i (by omega))) λ_=>Bd.ite (λhk=>Bd.addN (s:=s.nx) (hZ s.i (by omega))) λ_=>
  Bd.ite (λhm=>Bd.addN (s:=s.nx) (hZ.m hm)) λ_=>Bd.ite (λhm=>Bd.addN (s:=s.nx) (hZ.m hm)) λ_=>Bd.ite (λhm=>Bd.addN (s:=s.nx) (hZ.m hm)) λ_=>
  Bd.ite (λ_=>Bd.bind (Bd.need hZ) λ_ _ h1=>Bd.bind (i.list _ _ d _ _ _ h1) λ_ _ h2=>Bd.bind (Bd.typeIf hZ i h2) λ_ _ h3=>Bd.bind (i.block d _ h3) λ_ _ h4=>Bd.addN h4) λ_=>
  Bd.ite (λhm=>Bd.bind (i.list _ _ d s.nx _ _ (hZ.m hm)) λ_ _ h1=>Bd.addN h1) λ_=>Bd.ite (λhm=>Bd.bind (i.list _ _ d s.nx _ _ (hZ.m hm)) λ_ _ h1=>Bd.addN h1) λ_=>
  Bd.bind (Bd.need hZ) λ_ _ h1=>Bd.bind (i.expr d _ h1) λ_ _ _=>Bd.bind (Bd.need hZ) λ_ _ h3=>Bd.ok h3
 block d s h:=Bd.bind (Bd.need hZ) λ_ _ h1=>Bd.bind (i.blockL d _ _ h1) λ_ _ h2=>Bd.addN h2
 blockL d s l h:=Bd.ite (λhm=>Bd.ok (hZ.m hm)) λ_=>Bd.bind (i.stmt d s h) λ_ _ h1=>i.blockL d _ _ h1
 stmt d s h:=Bd.inside λd=>i.any d s h
 any d s h:=Bd.ite (λ_=>Bd.ite (λhk=>Bd.bind (Bd.typeIf (s:=s.nx.nx) hZ i (hZ (s.i+1) (by omega))) λ_ _ _=>Bd.bind (Bd.need hZ) λ_ _ h2=>Bd.bind (i.expr d _ h2) λ_ _ _=>Bd.bind (Bd.need hZ) λ_ _ h4=>Bd.addN h4) λ_=>Bd.flt) λ_=>
  Bd.ite (λhm=>Bd.bind (i.expr d s.nx (hZ.m hm)) λ_ _ _=>Bd.bind (Bd.need hZ) λ_ _ h2=>Bd.addN h2) λ_=>
  Bd.ite (λhm=>Bd.bind (i.expr d s.nx (hZ.m hm)) λ_ _ _=>Bd.bind (Bd.need hZ) λ_ _ h2=>Bd.addN h2) λ_=>
  Bd.ite (λ_=>Bd.bind (Bd.need hZ) λ_ _ h1=>Bd.bind (i.expr d _ h1) λ_ _ _=>Bd.bind (Bd.need hZ) λ_ _ h3=>Bd.bind (i.block d _ h3) λs4 _ h4=>Bd.bind (Bd.ite (λhm=>i.block d s4.nx (hZ.m hm)) λ_=>Bd.ok h4) λ_ _ h5=>Bd.addN h5) λ_=>
  Bd.ite (λ_=>Bd.bind (Bd.need hZ) λ_ _ h1=>Bd.bind (i.expr d _ h1) λ_ _ _=>Bd.bind (Bd.need hZ) λ_ _ h3=>Bd.bind (i.block d _ h3) λ_ _ h4=>Bd.addN h4) λ_=>
  Bd.bind (i.expr d s h) λs1 x h1=>Bd.ite (λhm=>Bd.ite (λ_=>Bd.flt) λ_=>Bd.bind (i.expr d ⟨s1.i+1,s1.N.take x.toNat,s1.T⟩ (hZ.m hm)) λ_ _ _=>Bd.bind (Bd.need hZ) λ_ _ h3=>Bd.addN h3) λ_=>
   Bd.bind (Bd.need hZ) λ_ _ h2=>Bd.addN h2
 progL d s l h:=Bd.ite (λ_=>Bd.ok h) λ_=>Bd.bind (i.stmt d s h) λ_ _ h1=>i.progL d _ _ h1
end
theorem R9c{L:List Tk}{Z:Nat}(hZ:End L Z):∀f,BF Z (sp' L f)
 |0=>by constructor<;>(intros;intro _ _ h;cases h)
 |f+1=>A6d hZ (R9c hZ f)
theorem E5d{L:List Tk}{Z:Nat}(hZ:End L Z){s':St}{x:Int}(h:Ev L (D7a 0 ⟨0,[],[]⟩) (.ok s' x)):s'.i<=Z:=by
 obtain⟨f,hf⟩:=h;have h:=hf f (vQ _);exact(Bd.bind ((R9c hZ f).progL 0 ⟨0,[],[]⟩ [] (wQ _)) λ_ _ h1=>Bd.addN h1) _ _ h
theorem F7c:∀(l:List UInt8) (a B:Int),0<=a->a<B->(∀c∈l,dig c.toNat=true)->0<=l.foldl (λn c=>10 * n+(c.toNat:Int) - 48) a/\l.foldl (λn c=>10 * n+(c.toNat:Int) - 48) a<B * 10 ^ l.length
 |[],a,B,h0,h1,_=>by simpa using ⟨h0,h1⟩
 |c::r,a,B,h0,h1,hd=>by
  have hc:=hd c (by simp);simp only[dig,Bool.and_eq_true,decide_eq_true_eq]at hc;have:=F7c r (10 * a+(c.toNat:Int) - 48) (B * 10) (by omega) (by omega) (λx hx=>hd x (by simp[hx]));rw[List.foldl_cons,jQ,Int.pow_succ,Int.mul_comm (10 ^ r.length) 10,<-Int.mul_assoc];exact this
theorem F8c(l:List UInt8):VaL (I5 l).1:=by
 intro i hk;obtain⟨_,h2,h3⟩:=J0b l i hk;have h:=F7c _ 0 1 (by omega) (by omega) h3;have hp:∀n:Nat,n<=9->(1:Int) * 10 ^ n<=1000000000:=by
  intro n hn;have:n=0\/n=1\/n=2\/n=3\/n=4\/n=5\/n=6\/n=7\/n=8\/n=9:=by omega
  rcases this with rfl|rfl|rfl|rfl|rfl|rfl|rfl|rfl|rfl|rfl<;>decide
 have:=hp _ h2;unfold E2a;omega
theorem P2c(l:List UInt8)(h:(first l).1=4):(first l).2.1.length<=30/\∀c∈(first l).2.1,txt c.toNat=true:=by
 unfold first at h⊢;cases hc:l.head? with
 |none=>rw[hc]at h;simp at h
 |some c=>
  rw[hc]at h;simp only at h⊢;cases hd:dig c.toNat with
  |true=>
   rw[hd]at h;simp only[if_true]at h;unfold A3a at h;split at h<;>simp at h
  |false=>
   rw[hd]at h;simp only[Bool.false_eq_true,if_false]at h⊢;cases hl:let' c.toNat with
   |true=>
    rw[hl]at h;simp only[if_true]at h;unfold name at h;split at h
    · simp at h
    · split at h<;>simp at h
   |false=>
    rw[hl]at h;simp only[Bool.false_eq_true,if_false]at h⊢;by_cases h34:c.toNat=34
    · rw[if_pos h34]at h⊢;unfold text at h⊢;split at h
      · simp at h
      · rename_i hn;rw[if_neg hn];rw[not_or]at hn;refine⟨?_,λx hx=> ?_⟩
        · rw[List.length_take];omega
        · obtain⟨k,hk,rfl⟩:=List.getElem_of_mem hx;rw[List.getElem_take];rw[List.length_take]at hk;exact B7b txt l.tail k (by omega) (by omega)
    · rw[if_neg h34]at h;unfold W4a at h;split at h<;>simp at h
theorem H3b:∀(f:Nat) (l:List UInt8) (a:Nat) (acc:List Tk),(∀t∈acc,t.kind=4->t.text.length<=30/\∀c∈t.text,txt c.toNat=true)->∀t∈(O0 f l a acc).1,t.kind=4->t.text.length<=30/\∀c∈t.text,txt c.toNat=true
 |0,l,a,acc,_=>by simp[O0]
 |f+1,l,a,acc,h=>by
  simp only[O0];split
  · intro t ht hk;simp only[qW,zW]at ht;rcases ht with ht|rfl
    · exact h t ht hk
    · simp at hk
  split
  · simp
  split
  · simp
  refine H3b f l _ _ λt ht hk=> ?_;simp only[qW,zW]at ht;rcases ht with ht|rfl
  · exact h t ht hk
  · exact P2c _ hk
theorem G3c(l:List UInt8):TxL (I5 l).1:=by
 intro i hk;by_cases hi:i<(I5 l).1.length
 · have e:tk (I5 l).1 i=(I5 l).1[i]:=by simp[tk,List.getD,hi]
   rw[e]at hk⊢;have hm:=mQ hi;revert hk hm;generalize (I5 l).1[i]=t;intro hk hm;unfold I5 at hm;split at hm
   · simp at hm
   · exact H3b _ _ _ _ (by simp) t hm hk
 · rw[B3b hi]at hk;simp at hk
theorem Y7a:∀(f:Nat) (l:List UInt8) (a:Nat) (acc:List Tk),acc.length<=1000->(O0 f l a acc).1=[]\/∃b z,(O0 f l a acc).1=b++[⟨6,[],z⟩]/\b.length<=1000
 |0,l,a,acc,_=> .inl rfl
 |f+1,l,a,acc,h=>by
  simp only[O0];split
  · exact .inr ⟨acc,l.length,rfl,h⟩
  split
  · exact .inl rfl
  split
  · exact .inl rfl
  · refine Y7a f l _ _ ?_;rw[qQ];simp only[jQ,xQ];omega
theorem Q4c(l:List UInt8):End (I5 l).1 1000:=by
 intro i hk;have hs:(I5 l).1=[]\/∃b z,(I5 l).1=b++[⟨6,[],z⟩]/\b.length<=1000:=by
  unfold I5;split
  · exact .inl rfl
  · exact Y7a _ _ _ _ (by simp)
 rcases hs with h|⟨b,z,h,hb⟩
 · rw[h]at hk;exact absurd rfl hk
 · rw[h]at hk;by_cases hi:i<b.length
   · omega
   · exfalso;refine hk ?_;by_cases he:i=b.length
     · subst he;simp[tk]
     · rw[B3b (by simp;omega)]
structure Prgm(N:List Nd)(T:List Ty)(ps:List Nt):Prop where
 wn:∀p∈ps,Wn p/\17<=p.k/\p.k<=25
 nodes:N.map Nd.fl=emN 0 0 (.nd 26 [] 0 ps)
 types:T=S9 0 ps
 toks:(flT (meL ps)).length<=1000
 deep:mx 1 (meL ps)<=20
 lenN:N.length<=1200
 lenT:T.length<=300
theorem P5b{l:List UInt8}{N:List Nd}{T:List Ty}(h:PRes l (.inr (N,T))):∃ps,Prgm N T ps:=by
 obtain⟨_,s',x,he,h1,h2,rfl,rfl⟩:=h;obtain⟨ps,a,b,c,d,e⟩:=A8c (L3c l) (F8c l) (G3c l) he;have hz:=E5d (Q4c l) he;exact⟨ps,a,b,c,by omega,e,h1,h2⟩
section
variable{N:List Nd}{T:List Ty}{ps:List Nt}
theorem Prgm.n(h:Prgm N T ps):N.length=nNL ps+1:=by
 have:=congrArg List.length h.nodes;rw[List.length_map,U3,nN]at this;exact this
theorem Prgm.t(h:Prgm N T ps):T.length=nTL ps:=by rw[h.types,L1a]
theorem Prgm.wl(h:Prgm N T ps):WnL ps:=(A9a ps).2 λp hp=>(h.wn p hp).1
theorem R6a:TsOk []:=λi hi=>by simp at hi
theorem Prgm.ok(h:Prgm N T ps):TsOk T:=by
 have:=P8b ps h.wl [] R6a;rw[h.types];simpa using this
theorem Prgm.ls(h:Prgm N T ps)(i:Nat)(hi:i<T.length):T[i].list.length<=300/\T[i].fields.length<=300:=by
 have hm:T[i]∈S9 0 ps:=by
  have:=mQ hi;rw[<-h.types];exact this
 have h1:=E1b ps 0 _ hm;have h2:=h.lenT;rw[h.t]at h2;omega
theorem Prgm.main(h:Prgm N T ps):∃hl:N.length - 1<N.length,AtL N T ps N[N.length - 1].list:=by
 have hn:=h.n;have ha:=C3d (.nd 26 [] 0 ps) (w26 h.wn) N T [] [] [] [] (by simpa using h.nodes) (by rw[h.types,emY];simp) R6a;rw[At]at ha;obtain⟨j,hj,hjl,_,_,_,is,hf,hat⟩:=ha;have ej:j=N.length - 1:=by
  rw[ixN,nN]at hj;simp only[xQ]at hj;omega
 subst ej;have hf:N[N.length - 1].list=is:=hf;exact⟨hjl,by rw[hf];exact hat⟩
end
theorem O8c{k:Int}{is is':List Int}{n:Nd}(h:Q9 k is n)(h':Q9 k is' n):is=is':=by
 have l2:∀{l:List Int},2<=l.length->l=l.dropLast.dropLast++[l.dropLast.getLastD 0,l.getLastD 0]:=by
  intro l hl;rcases List.eq_nil_or_concat l with rfl|⟨xs,b,rfl⟩
  · simp at hl
  · rcases List.eq_nil_or_concat xs with rfl|⟨ys,a,rfl⟩
    · simp at hl
    · have e:ys.concat a++[b]=ys++[a,b]:=by simp
      simp only[List.concat_eq_append]at *;rw[e]at *;rw[dl3,dl4,dl5]
 unfold Q9 at h h';by_cases c1:k=6
 · rw[if_pos c1]at h h';rw[l2 h.2.2.2,l2 h'.2.2.2,<-h.1,<-h.2.1,<-h.2.2.1,<-h'.1,<-h'.2.1,<-h'.2.2.1]
 rw[if_neg c1]at h h';by_cases c2:k=7
 · rw[if_pos c2]at h h';obtain⟨a1,a2,a3⟩:=h;obtain⟨b1,b2,b3⟩:=h';cases is with
   |nil=>simp at a3
   |cons x xs=>
    cases is' with
    |nil=>simp at b3
    |cons y ys=>
     simp only[List.headD_cons,List.tail_cons]at a1 a2 b1 b2;rw[<-a1,<-a2,<-b1,<-b2]
 rw[if_neg c2]at h h';by_cases c3:k=10\/k=11\/k=26
 · rw[if_pos c3]at h h';exact h.symm.trans h'
 rw[if_neg c3]at h h';by_cases c4:k=14
 · rw[if_pos c4]at h h';exact h.trans h'.symm
 rw[if_neg c4]at h h';by_cases c5:k=16
 · rw[if_pos c5]at h h';exact h.trans h'.symm
 rw[if_neg c5]at h h';by_cases c6:k=17
 · rw[if_pos c6]at h h';exact h.trans h'.symm
 rw[if_neg c6]at h h';by_cases c7:k=9\/k=12\/k=19\/k=23
 · rw[if_pos c7]at h h';exact h.trans h'.symm
 rw[if_neg c7]at h h';by_cases c8:k=20\/k=22
 · rw[if_pos c8]at h h';exact h.trans h'.symm
 rw[if_neg c8]at h h';by_cases c9:k=8\/k=13\/k=15\/k=18\/k=21\/k=24\/k=25
 · rw[if_pos c9]at h h';exact h.trans h'.symm
 rw[if_neg c9]at h h';exact h.trans h'.symm
def Cls:List Int->List Int->Prop
 |x::r,y::s=>(x=0->y<=0)/\(y=0->x<=0)/\Cls r s
 |_,_=>True
theorem B3a:∀(a b:List Int),(∀x∈a,1<=x)->(∀x∈b,1<=x)->Cls a b
 |[],_,_,_=>by simp[Cls]
 |_::_,[],_,_=>by simp[Cls]
 |x::r,y::s,h1,h2=>by
  have:=h1 x (by simp);have:=h2 y (by simp);exact⟨λh=>by omega,λh=>by omega,B3a r s (λz hz=>h1 z (by simp[hz])) (λz hz=>h2 z (by simp[hz]))⟩
theorem Y5b:∀(a b c d:List Int),a.length=b.length->Cls a b->Cls c d->Cls (a++c) (b++d)
 |[],[],_,_,_,_,h=>h
 |[],_::_,_,_,h,_,_=>by simp at h
 |_::_,[],_,_,h,_,_=>by simp at h
 |x::r,y::s,c,d,hl,h1,h2=>⟨h1.1,h1.2.1,Y5b r s c d (by simpa using hl) h1.2.2 h2⟩
theorem U9c{k:Int}{a b:List Int}(h:shp k a)(h':shp k b)(hl:a.length=b.length):Cls a b:=by
 have one:∀{x y:Int},isE x->isE y->Cls [x] [y]:=λh1 h2=>B3a _ _ (λz hz=>by simp at hz;subst hz;exact h1.1) (λz hz=>by simp at hz;subst hz;exact h2.1);have ty:∀{x y:Int},isT x->isT y->(x=0->y<=0)/\(y=0->x<=0):=λh1 h2=>⟨λ_=>by rcases h2 with h|h<;>omega,λ_=>by rcases h1 with h|h<;>omega⟩;have e1:∀{x y:Int},isE x->isE y->(x=0->y<=0)/\(y=0->x<=0):=λh1 h2=>⟨λh=>by have:=h1.1;omega,λh=>by have:=h2.1;omega⟩;unfold shp at h h';by_cases c1:k=1\/k=2\/k=3\/k=4\/k=5
 · rw[if_pos c1]at h;rw[h];simp[Cls]
 rw[if_neg c1]at h h';by_cases c2:k=6
 · rw[if_pos c2]at h h';obtain⟨xs,r,rfl,h2,h3⟩:=h;obtain⟨ys,r',rfl,h2',h3'⟩:=h';refine Y5b _ _ _ _ (by simpa using hl) (B3a _ _ (λz hz=>by rw[h2 z hz];omega) (λz hz=>by rw[h2' z hz];omega)) ?_;exact⟨(ty h3 h3').1,(ty h3 h3').2,λh=>by omega,λh=>by omega,trivial⟩
 rw[if_neg c2]at h h';by_cases c3:k=7
 · rw[if_pos c3]at h h';obtain⟨x,xs,rfl,h2,h3⟩:=h;obtain⟨y,ys,rfl,h2',h3'⟩:=h';exact B3a _ _ (λz hz=>by rcases jW.1 hz with rfl|hz;exact h2.1;exact(h3 z hz).1) (λz hz=>by rcases jW.1 hz with rfl|hz;exact h2'.1;exact(h3' z hz).1)
 rw[if_neg c3]at h h';by_cases c4:k=8\/k=13\/k=15\/k=18\/k=21\/k=24\/k=25
 · rw[if_pos c4]at h h';obtain⟨x,rfl,h2⟩:=h;obtain⟨y,rfl,h2'⟩:=h';exact one h2 h2'
 rw[if_neg c4]at h h';by_cases c5:k=9\/k=12\/k=19
 · rw[if_pos c5]at h h';obtain⟨x,y,rfl,h2,h3⟩:=h;obtain⟨x',y',rfl,h2',h3'⟩:=h';exact⟨(e1 h2 h2').1,(e1 h2 h2').2,one h3 h3'⟩
 rw[if_neg c5]at h h';by_cases c6:k=10
 · rw[if_pos c6]at h h';exact B3a _ _ (λz hz=>by rw[h z hz];omega) (λz hz=>by rw[h' z hz];omega)
 rw[if_neg c6]at h h';by_cases c7:k=11
 · rw[if_pos c7]at h h';exact B3a _ _ (λz hz=>(h z hz).1) (λz hz=>(h' z hz).1)
 rw[if_neg c7]at h h';by_cases c8:k=14
 · rw[if_pos c8]at h h';obtain⟨x,rfl,h2⟩:=h;obtain⟨y,rfl,h2'⟩:=h';exact⟨(e1 h2 h2').1,(e1 h2 h2').2,λ_=>by omega,λ_=>by omega,trivial⟩
 rw[if_neg c8]at h h';by_cases c9:k=16
 · rw[if_pos c9]at h h';obtain⟨x,rfl,h2⟩:=h;obtain⟨y,rfl,h2'⟩:=h';exact⟨(ty h2 h2').1,(ty h2 h2').2,trivial⟩
 rw[if_neg c9]at h h';by_cases c10:k=17
 · rw[if_pos c10]at h h';obtain⟨x,y,rfl,h2,h3⟩:=h;obtain⟨x',y',rfl,h2',h3'⟩:=h';exact⟨(ty h2 h2').1,(ty h2 h2').2,one h3 h3'⟩
 rw[if_neg c10]at h h';by_cases c11:k=20
 · rw[if_pos c11]at h h';obtain⟨x,y,z,rfl,h2,h3,h4⟩:=h;obtain⟨x',y',z',rfl,h2',h3',h4'⟩:=h';exact⟨(e1 h2 h2').1,(e1 h2 h2').2,(e1 h3 h3').1,(e1 h3 h3').2,one h4 h4'⟩
 rw[if_neg c11]at h h';by_cases c12:k=22
 · rw[if_pos c12]at h h';obtain⟨x,z,rfl,h2,h3⟩:=h;obtain⟨x',z',rfl,h2',h3'⟩:=h';exact⟨(e1 h2 h2').1,(e1 h2 h2').2,λ_=>by omega,λ_=>by omega,λ_=>by omega,λ_=>by omega,trivial⟩
 rw[if_neg c12]at h h';by_cases c13:k=23
 · rw[if_pos c13]at h h';obtain⟨x,rfl,h2⟩:=h;obtain⟨y,rfl,h2'⟩:=h';exact⟨(e1 h2 h2').1,(e1 h2 h2').2,λ_=>by omega,λ_=>by omega,trivial⟩
 rw[if_neg c13]at h h';by_cases c14:k=26
 · rw[if_pos c14]at h h';exact B3a _ _ (λz hz=>by have:=h z hz;omega) (λz hz=>by have:=h' z hz;omega)
 rw[if_neg c14]at h;exact h.elim
section
variable{N:List Nd}{T:List Ty}
mutual
theorem I0d:∀(t t':Nt) (i:Int),Gd t->Gd t'->(t.k=0->t'.k<=0)->(t'.k=0->t.k<=0)->At N T t i->At N T t' i->t=t'
 | .ty none,t',i,_,hg,_,_,h,h'=>by
  rw[At]at h;subst h;cases t' with
  |ty o=>
   cases o with
   |none=>rfl
   |some t=>rw[At]at h';obtain⟨j,hj,_⟩:=h';omega
  |nd k tx n ps=>rw[At]at h';obtain⟨j,hj,_⟩:=h';omega
 | .ty (some t),t',i,_,hg,hc,_,h,h'=>by
  have hc:t'.k<=0:=hc rfl;rw[At]at h;obtain⟨j,rfl,_,e⟩:=h;cases t' with
  |ty o=>
   cases o with
   |none=>rw[At]at h';omega
   |some t'=>
    rw[At]at h';obtain⟨j',hj,_,e'⟩:=h';have:j'=j:=by omega
    subst this;rw[<-e,<-e']
  |nd k tx n ps=>
   rw[Gd]at hg;exfalso;have h1:=hg.1;have hk:k<=0:=hc;unfold shp at h1;rw[if_neg (by omega),if_neg (by omega),if_neg (by omega),if_neg (by omega),if_neg (by omega),if_neg (by omega),if_neg (by omega),if_neg (by omega),if_neg (by omega),if_neg (by omega),if_neg (by omega),if_neg (by omega),if_neg (by omega),if_neg (by omega)]at h1;exact h1
 | .nd k tx n ps,t',i,hg0,hg,hc0,hc,h,h'=>by
  rw[Gd]at hg0;rw[At]at h;obtain⟨j,rfl,hj,e1,e2,e3,is,hf,hl⟩:=h;cases t' with
  |ty o=>
   cases o with
   |none=>rw[At]at h';omega
   |some t'=>
    have hk:k<=0:=hc rfl;exfalso;have h1:=hg0.1;unfold shp at h1;rw[if_neg (by omega),if_neg (by omega),if_neg (by omega),if_neg (by omega),if_neg (by omega),if_neg (by omega),if_neg (by omega),if_neg (by omega),if_neg (by omega),if_neg (by omega),if_neg (by omega),if_neg (by omega),if_neg (by omega),if_neg (by omega)]at h1;exact h1
  |nd k' tx' n' ps'=>
   rw[Gd]at hg;rw[At]at h';obtain⟨j',hj',hjl',e1',e2',e3',is',hf',hl'⟩:=h';have:j'=j:=by omega
   subst this;obtain rfl:k=k':=by rw[<-e1,<-e1']
   obtain rfl:tx=tx':=by rw[<-e2,<-e2']
   obtain rfl:n=n':=by rw[<-e3,<-e3']
   obtain rfl:=O8c hf hf';have hlen:(ps.map Nt.k).length=(ps'.map Nt.k).length:=by rw[List.length_map,List.length_map,<-F3b hl,<-F3b hl']
   rw[F2b ps ps' is hg0.2 hg.2 (U9c hg0.1 hg.1 hlen) hl hl']
theorem F2b:∀(ps ps':List Nt) (is:List Int),GdL ps->GdL ps'->Cls (ps.map Nt.k) (ps'.map Nt.k)->AtL N T ps is->AtL N T ps' is->ps=ps'
 |[],ps',is,_,_,_,h,h'=>by
  rw[AtL]at h;subst h;cases ps' with
  |nil=>rfl
  |cons p r=>rw[AtL]at h';obtain⟨i,js,e,_⟩:=h';cases e
 |p::r,ps',is,hg,hg',hc,h,h'=>by
  rw[AtL]at h;obtain⟨i,js,rfl,ha,hr⟩:=h;cases ps' with
  |nil=>rw[AtL]at h';cases h'
  |cons p' r'=>
   rw[AtL]at h';obtain⟨i',js',e,ha',hr'⟩:=h';simp only[List.cons.injEq]at e;obtain⟨rfl,rfl⟩:=e;have hc:(p.k=0->p'.k<=0)/\(p'.k=0->p.k<=0)/\Cls (r.map Nt.k) (r'.map Nt.k):=hc;rw[I0d p p' i hg.1 hg'.1 hc.1 hc.2.1 ha ha',F2b r r' js hg.2 hg'.2 hc.2.2 hr hr']
end
theorem U6c{ps ps':List Nt}{is:List Int}(h1:∀p∈ps,Gd p/\17<=p.k/\p.k<=25)(h2:∀p∈ps',Gd p/\17<=p.k/\p.k<=25)(ha:AtL N T ps is)(hb:AtL N T ps' is):ps=ps':=by
 have gd:∀qs:List Nt,(∀p∈qs,Gd p)->GdL qs:=by
  intro qs;induction qs with
  |nil=>intro _;trivial
  |cons q r ih=>intro h;exact⟨h q (by simp),ih λp hp=>h p (by simp[hp])⟩
 refine F2b ps ps' is (gd ps λp hp=>(h1 p hp).1) (gd ps' λp hp=>(h2 p hp).1) (B3a _ _ (λx hx=> ?_) (λx hx=> ?_)) ha hb
 · obtain⟨p,hp,rfl⟩:=List.mem_map.1 hx;have:=h1 p hp;omega
 · obtain⟨p,hp,rfl⟩:=List.mem_map.1 hx;have:=h2 p hp;omega
end
def xN:List UInt8:=[120]
theorem J5d:L9 xN:=⟨by decide,by decide,by decide,by decide,λc hc=>by simp[xN]at hc;subst hc;decide⟩
abbrev Fr:=List UInt8->Option Int
def Fr.no:Fr:=λ_=>none
def Fr.set(f:Fr)(x:List UInt8)(i:Int):Fr:=λy=>if y=x then some i else f y
def look(x:List UInt8):List Fr->Option Int
 |[]=>none
 |f::r=>match look x r with
  |some i=>some i
  |none=>f x
def C5a(fs:List Fr):Fr:=fs.getLastD Fr.no
def G5(fs:List Fr)(x:List UInt8)(i:Int):List Fr:=fs.dropLast++[(C5a fs).set x i]
theorem H1b(fs:List Fr)(x:List UInt8)(j:Int)(i:Nat)(h:i+1=fs.length):(G5 fs x j)[i]? =some ((C5a fs).set x j):=by
 have:fs.dropLast.length=i:=by rw[List.length_dropLast];omega
 unfold G5;rw[List.getElem?_append_right (by omega),this];simp
theorem O5b(fs:List Fr)(x:List UInt8)(j:Int)(i:Nat)(h:i+1<fs.length):(G5 fs x j)[i]? =fs[i]? :=by
 have:fs.dropLast.length=fs.length - 1:=List.length_dropLast;unfold G5;rw[List.getElem?_append_left (by omega),List.getElem?_dropLast,if_pos (by omega)]
inductive Br where
 |ok (fs:List Fr) (to:List (Nat×Int))
 |bad (e:Int) (i:Nat)
def Br.and(r:Br)(k:List Fr->Br):Br:=
 match r with
 | .bad e i=> .bad e i
 | .ok fs to=>match k fs with
  | .bad e i=> .bad e i
  | .ok fs' to'=> .ok fs' (to++to')
def Br.pop:Br->Br
 | .bad e i=> .bad e i
 | .ok fs to=> .ok fs.dropLast to
def Br.setF(r:Br)(x:List UInt8)(j:Int):Br:=
 match r with
 | .bad e i=> .bad e i
 | .ok fs to=> .ok (G5 fs x j) to
def N6c:List Nt->Bool
 |[_,.nd k _ _ _]=>k==6
 |_=>false
mutual
def bnT(fs:List Fr)(b:Nat):Nt->Br
 | .ty _=> .ok fs []
 | .nd k tx _ ps=>
  if k=5 then match look tx fs with
   |none=> .bad 5 b
   |some j=> .ok fs [(b,j)]
  else if k=18 then match look tx fs with
   |none=> .bad 5 (b+nNL ps)
   |some j=>(Br.ok fs [(b+nNL ps,j)]).and λfs=>bnL false fs b ps
  else if k=17 then
   if (C5a fs tx).isSome then .bad 6 (b+nNL ps)
   else (bnL false (if N6c ps then G5 fs tx ((b+nNL ps:Nat):Int) else fs) b ps).setF tx ((b+nNL ps:Nat):Int)
  else if k=16 then .ok (G5 fs tx ((b+nNL ps:Nat):Int)) []
  else if k=6 then (bnL true (fs++[Fr.no]) b ps).pop
  else if k=26 then (bnL false (fs++[Fr.no]) b ps).pop
  else bnL false fs b ps
def bnL(fn:Bool)(fs:List Fr)(b:Nat):List Nt->Br
 |[]=> .ok fs []
 | .ty _::r=>bnL fn fs b r
 | .nd k tx n qs::r=>(if fn && k==26 then bnL false fs b qs else bnT fs b (.nd k tx n qs)).and λfs=>bnL fn fs (b+nN (.nd k tx n qs)) r
end
def Em(N:List Nd)(b tb:Nat)(t:Nt):Prop:=∃A B,N.map Nd.fl=A++emN b tb t++B/\A.length=b
def EmL(N:List Nd)(b tb:Nat)(ps:List Nt):Prop:=∃A B,N.map Nd.fl=A++M8 b tb ps++B/\A.length=b
section
variable{N:List Nd}{b tb:Nat}
theorem EmL.head{p:Nt}{r:List Nt}(h:EmL N b tb (p::r)):Em N b tb p/\EmL N (b+nN p) (tb+nT p) r:=by
 obtain⟨A,B,h,hA⟩:=h;rw[M8]at h;refine⟨⟨A,M8 (b+nN p) (tb+nT p) r++B,by rw[h];simp,hA⟩,⟨A++emN b tb p,B,by rw[h];simp, ?_⟩⟩;rw[qQ,U3,hA]
theorem Em.parts{k:Int}{tx:List UInt8}{n:Int}{ps:List Nt}(h:Em N b tb (.nd k tx n ps)):EmL N b tb ps/\∃hi:b+nNL ps<N.length,(N[b+nNL ps]).fl=mkN k tx n (ixL b tb ps):=by
 obtain⟨A,B,h,hA⟩:=h;rw[emN]at h;have hlen:=congrArg List.length h;simp only[List.length_map,qQ,M6,jQ,xQ]at hlen;refine⟨⟨A,[mkN k tx n (ixL b tb ps)]++B,by rw[h];simp,hA⟩,by omega, ?_⟩;have hj:b+nNL ps<N.length:=by omega
 have h1:(N.map Nd.fl)[b+nNL ps]'(by simpa using hj)=(N[b+nNL ps]).fl:=by simp
 rw[<-h1];simp only[h];rw[List.getElem_append_left (by simp only[qQ,M6,jQ,xQ];omega),List.getElem_append_right (by omega)];rw[List.getElem_append_right (by rw[M6];omega)];simp[M6,hA]
theorem Em.ix{k:Int}{tx:List UInt8}{n:Int}{ps:List Nt}:ixN b tb (.nd k tx n ps)=((b+nNL ps:Nat):Int):=by
 rw[ixN,nN];omega
end
def px(b:Nat):List Nt->List Int
 |[]=>[]
 | .ty _::r=>px b r
 | .nd k tx n ps::r=>((b+nNL ps:Nat):Int)::px (b+nN (.nd k tx n ps)) r
theorem S6(b tb:Nat):∀ps:List Nt,(∀p∈ps,1<=p.k)->ixL b tb ps=px b ps
 |[],_=>rfl
 | .ty o::r,h=>by
  have:=h (.ty o) (by simp);cases o<;>simp[Nt.k]at this
 | .nd k tx n ps::r,h=>by
  rw[ixL,px,Em.ix,S6 _ _ r λp hp=>h p (by simp[hp])]
theorem P0b:∀(ps qs:List Nt) (b:Nat),px b (ps++qs)=px b ps++px (b+nNL ps) qs
 |[],qs,b=>by simp[px,nNL]
 | .ty o::r,qs,b=>by rw[List.cons_append,px,px,P0b r,nNL,nN,Nat.zero_add]
 | .nd k tx n ps::r,qs,b=>by rw[List.cons_append,px,px,P0b r,nNL,List.cons_append,Nat.add_assoc]
theorem Br.and_ok(fs:List Fr)(l:List (Nat×Int))(k:List Fr->Br):(Br.ok fs l).and k=match k fs with
 | .bad e i=> .bad e i
 | .ok fs' l'=> .ok fs' (l++l'):=rfl
theorem Br.and_assoc(r:Br)(k h:List Fr->Br):(r.and k).and h=r.and λf=>(k f).and h:=by
 cases r with
 |bad e i=>rfl
 |ok fs l=>
  rw[Br.and_ok,Br.and_ok];cases k fs with
  |bad e i=>rfl
  |ok fs' l'=>
   simp only;rw[Br.and_ok,Br.and_ok];cases h fs' with
   |bad e i=>rfl
   |ok fs2 l2=>simp
theorem Br.and_nil(r:Br):(r.and λf=> .ok f [])=r:=by
 cases r with
 |bad e i=>rfl
 |ok fs l=>rw[Br.and_ok];simp
theorem F8a(fs:List Fr)(b:Nat)(p:Nt)(r:List Nt)(hp:1<=p.k):bnL false fs b (p::r)=(bnT fs b p).and λf=>bnL false f (b+nN p) r:=by
 cases p with
 |ty o=>cases o<;>simp[Nt.k]at hp
 |nd k tx n qs=>rw[bnL];rfl
theorem F1b:∀(qs rs:List Nt) (fs:List Fr) (b:Nat),(∀p∈qs,1<=p.k)->bnL false fs b (qs++rs)=(bnL false fs b qs).and λf=>bnL false f (b+nNL qs) rs
 |[],rs,fs,b,_=>by
  rw[List.nil_append,bnL,Br.and_ok,nNL,Nat.add_zero];cases bnL false fs b rs<;>rfl
 |p::qs,rs,fs,b,h=>by
  rw[List.cons_append,F8a fs b p _ (h p (by simp)),F8a fs b p _ (h p (by simp)),Br.and_assoc];congr 1
  funext f
  rw[F1b qs rs f _ λq hq=>h q (by simp[hq]),nNL,Nat.add_assoc]
theorem R7c{ps:List Nt}(h:∀p∈ps,1<=p.k)(fs:List Fr)(b j:Nat)(hj:j<ps.length):bnL false fs b (ps.take (j+1))=(bnL false fs b (ps.take j)).and λf=>bnT f (b+nNL (ps.take j)) ps[j]:=by
 rw[nQ hj,F1b _ _ _ _ λp hp=>h p (List.mem_of_mem_take hp)];congr 1
 funext f
 rw[F8a _ _ _ _ (h _ (mQ hj))];have:(λf'=>bnL false f' (b+nNL (ps.take j)+nN ps[j]) [])=λf'=>Br.ok f' []:=by funext f';rw[bnL]
 rw[this,Br.and_nil]
theorem A4d{ps:List Nt}(h:∀p∈ps,1<=p.k)(fs:List Fr)(b j:Nat){e:Int}{i:Nat}(hb:bnL false fs b (ps.take j)= .bad e i):bnL false fs b ps= .bad e i:=by
 have:=F1b (ps.take j) (ps.drop j) fs b λp hp=>h p (List.mem_of_mem_take hp);rw[List.take_append_drop,hb]at this;exact this
theorem EmL.at{N:List Nd}:∀{ps:List Nt} {b tb:Nat},EmL N b tb ps->∀j (hj:j<ps.length),Em N (b+nNL (ps.take j)) (tb+nTL (ps.take j)) ps[j]
 |[],_,_,_,j,hj=>by simp at hj
 |p::r,b,tb,h,0,hj=>by simpa[nNL,nTL]using h.head.1
 |p::r,b,tb,h,j+1,hj=>by
  have:=EmL.at h.head.2 j (by simpa using hj);simpa[nNL,nTL,Nat.add_assoc]using this
theorem B6a:∀(ps:List Nt) (b:Nat),(∀p∈ps,1<=p.k)->(px b ps).length=ps.length
 |[],_,_=>rfl
 | .ty o::r,_,h=>by
  have:=h (.ty o) (by simp);cases o<;>simp[Nt.k]at this
 | .nd k tx n qs::r,b,h=>by rw[px,jQ,jQ,B6a r _ λp hp=>h p (by simp[hp])]
theorem B5d:∀(ps:List Nt) (b tb:Nat),(∀p∈ps,1<=p.k)->∀j (hj:j<ps.length),(px b ps)[j]? =some (ixN (b+nNL (ps.take j)) (tb+nTL (ps.take j)) ps[j])
 |[],_,_,_,j,hj=>by simp at hj
 | .ty o::r,_,_,h,_,_=>by
  have:=h (.ty o) (by simp);cases o<;>simp[Nt.k]at this
 | .nd k tx n qs::r,b,tb,h,0,hj=>by simp[px,nNL,nTL,Em.ix]
 | .nd k tx n qs::r,b,tb,h,j+1,hj=>by
  have:=B5d r (b+nN (.nd k tx n qs)) (tb+nT (.nd k tx n qs)) (λp hp=>h p (by simp[hp])) j (by simpa using hj);rw[px,List.getElem?_cons_succ,this];simp[nNL,nTL,Nat.add_assoc]
theorem Q8(fs:List Fr)(x:List UInt8)(j:Int)(h:fs≠[]):(G5 fs x j).length=fs.length:=by
 have:=List.length_pos_iff.2 h;unfold G5;rw[qQ,List.length_dropLast];simp only[jQ,xQ];omega
theorem M4{fs fs':List Fr}(h:fs≠[])(e:fs'.length=fs.length):fs'≠[]:=by
 rintro rfl;exact h (List.length_eq_zero_iff.1 e.symm)
def Sl(fs:List Fr)(r:Br):Prop:=∀fs' l,r= .ok fs' l->fs'.length=fs.length
theorem Sl.and{fs:List Fr}{r:Br}{k:List Fr->Br}(h:Sl fs r)(hk:∀f,f.length=fs.length->Sl f (k f)):Sl fs (r.and k):=by
 intro fs' l e;cases r with
 |bad e i=>simp[Br.and]at e
 |ok f1 l1=>
  rw[Br.and_ok]at e;cases hh:k f1 with
  |bad e2 i2=>rw[hh]at e;simp at e
  |ok f2 l2=>
   rw[hh]at e;simp only[Br.ok.injEq]at e;rw[<-e.1,hk f1 (h f1 l1 rfl) f2 l2 hh,h f1 l1 rfl]
theorem Sl.pop{fs:List Fr}{f:Fr}{r:Br}(h:Sl (fs++[f]) r):Sl fs r.pop:=by
 intro fs' l e;cases r with
 |bad e i=>simp[Br.pop]at e
 |ok f1 l1=>
  simp only[Br.pop,Br.ok.injEq]at e;have:=h f1 l1 rfl;rw[<-e.1,List.length_dropLast,this];simp
theorem Sl.setF{fs:List Fr}{r:Br}(hne:fs≠[])(h:Sl fs r)(x:List UInt8)(j:Int):Sl fs (r.setF x j):=by
 intro fs' l e;cases r with
 |bad e i=>simp[Br.setF]at e
 |ok f1 l1=>
  simp only[Br.setF,Br.ok.injEq]at e;have:=h f1 l1 rfl;rw[<-e.1,Q8 _ _ _ (M4 hne this),this]
theorem Sl.ok{fs fs':List Fr}{l:List (Nat×Int)}(h:fs'.length=fs.length):Sl fs (.ok fs' l):=by
 intro f1 l1 e;simp only[Br.ok.injEq]at e;rw[<-e.1];exact h
theorem Sl.bad{fs:List Fr}{e:Int}{i:Nat}:Sl fs (.bad e i):=by
 intro f1 l1 e;cases e
theorem Sl.of{fs f:List Fr}{r:Br}(h:Sl f r)(e:f.length=fs.length):Sl fs r:=λa b c=>(h a b c).trans e
mutual
theorem Y9b:∀(t:Nt) (fs:List Fr) (b:Nat),fs≠[]->Sl fs (bnT fs b t)
 | .ty _,fs,b,_=>by rw[bnT];exact Sl.ok rfl
 | .nd k tx n ps,fs,b,h=>by
  rw[bnT];split
  · split
    · exact Sl.bad
    · exact Sl.ok rfl
  split
  · split
    · exact Sl.bad
    · exact Sl.and (Sl.ok rfl) λf hf=>R6 ps false f b (M4 h hf)
  split
  · split
    · exact Sl.bad
    · refine Sl.setF h ?_ _ _;split
      · exact(R6 ps false _ b (M4 h (Q8 _ _ _ h))).of (Q8 _ _ _ h)
      · exact R6 ps false fs b h
  split
  · exact Sl.ok (Q8 _ _ _ h)
  split
  · exact(R6 ps true _ b (by simp)).pop
  split
  · exact(R6 ps false _ b (by simp)).pop
  · exact R6 ps false fs b h
theorem R6:∀(ps:List Nt) (fn:Bool) (fs:List Fr) (b:Nat),fs≠[]->Sl fs (bnL fn fs b ps)
 |[],fn,fs,b,_=>by rw[bnL];exact Sl.ok rfl
 | .ty _::r,fn,fs,b,h=>by rw[bnL];exact R6 r fn fs b h
 | .nd k tx n qs::r,fn,fs,b,h=>by
  rw[bnL];refine Sl.and ?_ λf hf=>R6 r fn f _ (M4 h hf);split
  · exact R6 qs false fs b h
  · exact Y9b (.nd k tx n qs) fs b h
end
theorem G6a:∀ps qs:List Nt,nNL (ps++qs)=nNL ps+nNL qs
 |[],qs=>by simp[nNL]
 |p::r,qs=>by rw[List.cons_append,nNL,nNL,G6a r];omega
theorem J8b:∀ps:List Nt,(∀p∈ps,1<=p.k)->ps.length<=nNL ps
 |[],_=>vQ _
 | .ty o::r,h=>by
  have:=h (.ty o) (by simp);cases o<;>simp[Nt.k]at this
 | .nd k tx n qs::r,h=>by
  have:=J8b r λp hp=>h p (by simp[hp]);rw[nNL,nN,jQ];omega
def upd(ts:List Int)(l:List (Nat×Int)):List Int:=l.foldl (λt p=>t.set p.1 p.2) ts
theorem V0b(ts:List Int)(a b:List (Nat×Int)):upd ts (a++b)=upd (upd ts a) b:=by simp[upd]
theorem J5a(ts:List Int)(l:List (Nat×Int)):(upd ts l).length=ts.length:=by
 induction l generalizing ts with
 |nil=>rfl
 |cons p r ih=>show (upd (ts.set p.1 p.2) r).length=_;rw[ih];simp
theorem T2a:∀ps:List Nt,ps.length<=nNL ps+cTy ps
 |[]=>vQ _
 | .ty o::r=>by have:=T2a r;rw[nNL,cTy,nN,jQ];omega
 | .nd k tx n qs::r=>by have:=T2a r;rw[nNL,cTy,nN,jQ];omega
theorem M6c(k:Int)(tx:List UInt8)(n:Int)(l:List Int):(mkN k tx n l).list.length<=l.length:=by
 unfold mkN;repeat' split
 all_goals (first|exact wQ _|exact vQ _|(simp only[List.length_dropLast];omega)|(simp only[List.length_tail];omega))
mutual
theorem D9b:∀(t:Nt),Gd t->∀b tb,∀m∈emN b tb t,m.list.length<=nN t
 | .ty _,_,b,tb,m,hm=>by simp[emN]at hm
 | .nd k tx n ps,h,b,tb,m,hm=>by
  rw[Gd]at h;rw[emN,qW,zW]at hm;rw[nN];rcases hm with hm|rfl
  · have:=L2b ps h.2 b tb m hm;omega
  · have h1:=M6c k tx n (ixL b tb ps);have h2:=D0b ps b tb;have h3:=T2a ps;have h4:=U8c h.1;omega
theorem L2b:∀(ps:List Nt),GdL ps->∀b tb,∀m∈M8 b tb ps,m.list.length<=nNL ps
 |[],_,b,tb,m,hm=>by simp[M8]at hm
 |p::r,h,b,tb,m,hm=>by
  rw[M8,qW]at hm;rw[nNL];rcases hm with hm|hm
  · have:=D9b p h.1 b tb m hm;omega
  · have:=L2b r h.2 _ _ m hm;omega
end
mutual
theorem C2d:∀(t:Nt),Wn t->∀b tb,∀m∈emN b tb t,m.text.length<=30
 | .ty _,_,b,tb,m,hm=>by simp[emN]at hm
 | .nd k tx n ps,h,b,tb,m,hm=>by
  rw[Wn]at h;rw[emN,qW,zW]at hm;rcases hm with hm|rfl
  · exact R0c ps h.2.2 b tb m hm
  · rw[(F0a _ _ _ _).1];exact(F2d h.2.1).1
theorem R0c:∀(ps:List Nt),WnL ps->∀b tb,∀m∈M8 b tb ps,m.text.length<=30
 |[],_,b,tb,m,hm=>by simp[M8]at hm
 |p::r,h,b,tb,m,hm=>by
  rw[M8,qW]at hm;rw[WnL]at h;rcases hm with hm|hm
  · exact C2d p h.1 b tb m hm
  · exact R0c r h.2 _ _ m hm
end
theorem Prgm.tx{N:List Nd}{T:List Ty}{ps:List Nt}(h:Prgm N T ps):∀nd∈N,nd.text.length<=30:=λnd hm=>by
 have h1:nd.fl∈emN 0 0 (.nd 26 [] 0 ps):=by
  rw[<-h.nodes];exact List.mem_map_of_mem hm
 have h2:nd.fl.text.length<=30:=C2d _ (w26 h.wn) 0 0 _ h1;exact h2
mutual
theorem Q7c:∀(t:Tr) (b:Nat),∀y∈emT b t,y.kind=8\/y.kind=9\/y.of'=0
 | .nd k ns ks,b,y,hy=>by
  rw[emT]at hy;split at hy
  · exact H3d ks b y hy
  · rw[qW,zW]at hy;rcases hy with hy|rfl
    · exact T0b ks b y hy
    · unfold C0a;repeat' split
      all_goals first|exact .inr (.inr rfl)|exact .inl rfl
theorem T0b:∀(ks:List Tr) (b:Nat),∀y∈K8 b ks,y.kind=8\/y.kind=9\/y.of'=0
 |[],b,y,hy=>by simp[K8]at hy
 |t::r,b,y,hy=>by
  rw[K8,qW]at hy;rcases hy with hy|hy
  · exact Q7c t b y hy
  · exact T0b r _ y hy
theorem H3d:∀(ks:List Tr) (b:Nat),∀y∈emB b ks,y.kind=8\/y.kind=9\/y.of'=0
 |[],b,y,hy=>by
  rw[emB,zW]at hy;subst hy;exact .inr (.inl rfl)
 |t::r,b,y,hy=>by
  rw[emB,qW,qW,zW]at hy;rcases hy with (hy|hy)|rfl
  · exact T0b r _ y hy
  · exact Q7c t _ y hy
  · exact .inr (.inl rfl)
end
mutual
theorem H1d:∀(t:Nt) (b:Nat),∀y∈emY b t,y.kind=8\/y.kind=9\/y.of'=0
 | .ty none,b,y,hy=>by simp[emY]at hy
 | .ty (some t),b,y,hy=>by rw[emY]at hy;exact Q7c t b y hy
 | .nd k tx n ps,b,y,hy=>by rw[emY]at hy;exact E0b ps b y hy
theorem E0b:∀(ps:List Nt) (b:Nat),∀y∈S9 b ps,y.kind=8\/y.kind=9\/y.of'=0
 |[],b,y,hy=>by simp[S9]at hy
 |p::r,b,y,hy=>by
  rw[S9,qW]at hy;rcases hy with hy|hy
  · exact H1d p b y hy
  · exact E0b r _ y hy
end
theorem Prgm.of{N:List Nd}{T:List Ty}{ps:List Nt}(h:Prgm N T ps):∀t∈T,t.kind=8\/t.kind=9\/t.of'=0:=λt ht=>by
 rw[h.types]at ht;exact E0b ps 0 t ht
end Go.Proofs.YtfhhipefecekkaaGreatDoor.M
