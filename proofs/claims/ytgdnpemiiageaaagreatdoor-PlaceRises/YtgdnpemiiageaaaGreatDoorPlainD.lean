/-
  A part of the proof.
-/
import Derived.Test.YtgdnpemiiageaaaGreatDoorPlainC
set_option maxHeartbeats 16000000
set_option maxRecDepth 100000
namespace Go.Proofs.YtgdnpemiiageaaaGreatDoor.M
def brk (t:Tr) (last:Bool):Bool:=decide (t.k=10)||(decide (t.k=9) && !last)
mutual
def dTy:Tr->Nat
 | .nd k _ ks=>if k=10 then S8b ks else J5a ks
def J5a:List Tr->Nat
 |[]=>0
 |t::r=>max (dTy t+1) (J5a r)
def S8b:List Tr->Nat
 |[]=>0
 |t::r=>max (dTy t+(brk t (decide (r.length=0))).toNat) (S8b r)
end
theorem G9a (t:Tr) (last:Bool):(one t last).length=(tks t).length+2 * (brk t last).toNat:=by
 unfold one brk;cases last<;>by_cases h10:t.k=10<;>by_cases h9:t.k=9<;>simp[h10,h9]<;>omega
theorem G8b (fst:Bool) (t:Tr) (r:List Tr):(R8a fst (t::r)).length=(if fst then 0 else 1)+(one t (decide (r.length=0))).length+(R8a false r).length:=by
 have e:R8a fst (t::r)=(if fst then [] else [sg [124]])++one t (decide (r.length=0))++R8a false r:=by
  rw[R8a,one];simp
 rw[e,List.length_append,List.length_append];cases fst<;>simp
def Yft (s:St) (t:Tr) (s':St) (x:Int):Prop:=s'.N=s.N/\s'.T=s.T++emT s.T.length t/\x=((s.T.length+nTy t:Nat):Int) - 1
def YftL (s:St) (ks:List Tr) (s':St) (l:List Int):Prop:=s'.N=s.N/\s'.T=s.T++M4 s.T.length ks/\l=ixT s.T.length ks
theorem YftL.nil (s:St):YftL s [] s []:=⟨rfl,by simp[M4],rfl⟩
theorem YftL.cons {s s1 s2:St} {t:Tr} {x:Int} {ks:List Tr} {l:List Int} (h:Yft s t s1 x) (k:YftL s1 ks s2 l):YftL s (t::ks) s2 (x::l):=by
 have hl:s1.T.length=s.T.length+nTy t:=by rw[h.2.1,List.length_append,Y8]
 refine⟨k.1.trans h.1, ?_, ?_⟩
 · rw[k.2.1,hl,h.2.1,M4,List.append_assoc]
 · rw[k.2.2,hl,h.2.2,ixT]
theorem Yft.cons' {s s1 s2:St} {t:Tr} {x:Int} {ks:List Tr} {l:List Int} (h:Yft s t s1 x) (k:YftL s1 ks s2 l):YftL s (t::ks) s2 (x::l):=YftL.cons h k
theorem YftL.len {s s':St} {ks:List Tr} {l:List Int} (h:YftL s ks s' l):s'.T.length=s.T.length+M8 ks:=by rw[h.2.1,List.length_append,D1a]
theorem Yft.len {s s':St} {t:Tr} {x:Int} (h:Yft s t s' x):s'.T.length=s.T.length+nTy t:=by rw[h.2.1,List.length_append,Y8]
theorem K8a:∀(ks:List Tr) (b:Nat),(ixT b ks).length=ks.length
 |[],_=>rfl
 |t::r,b=>by rw[ixT,List.length_cons,List.length_cons,K8a r]
theorem E5b (b:Nat) (k:Int) (ns:List (List UInt8)) (ks:List Tr) (h:k≠9):emT b (.nd k ns ks)=M4 b ks++[C7a k ns (ixT b ks)]:=by rw[emT,if_neg h]
theorem YftL.row {s s':St} {ks:List Tr} {l:List Int} (h:YftL s ks s' l) (k:Int) (ns:List (List UInt8)) (hk:k≠9) (t:Ty) (ht:t=C7a k ns l):Yft s (.nd k ns ks) ⟨s'.i,s'.N,s'.T++[t]⟩ s'.T.length:=by
 refine⟨h.1, ?_, ?_⟩
 · show s'.T++[t]=_;rw[E5b _ _ _ _ hk,<-h.2.2,ht,h.2.1,List.append_assoc]
 · rw[h.len,nTy];omega
structure YF (L:List Tk) (r:Sp):Prop where
 typ:∀d s s' x,r.typ d s=some (.ok s' x)->∃t,Wf t/\Yft s t s' x/\(tks t).length+s.i<=s'.i/\dTy t+1<=20 - d/\isM L s'.i [[124]]=false
 union:∀d s s' x,r.union d s=some (.ok s' x)->∃t,Wf t/\Yft s t s' x/\(tks t).length+s.i<=s'.i/\dTy t<=20 - d/\isM L s'.i [[124]]=false
 unionL:∀d s acc s' l,r.unionL d s acc=some (.ok s' l)->∃ks l',l=acc++l'/\(∀x∈ks,Wf x)/\YftL s ks s' l'/\(R8a false ks).length+s.i<=s'.i/\S8b ks<=20 - d/\isM L s'.i [[124]]=false/\(isM L s.i [[124]]=true ↔ ks≠[])
 member:∀d s s' x,r.member d s=some (.ok s' x)->∃t,Wf t/\Yft s t s' x/\(one t (!(isM L s'.i [[124]]))).length+s.i<=s'.i/\dTy t+(brk t (!(isM L s'.i [[124]]))).toNat<=20 - d
 objL:∀d s fs s' x,(fs.map (·.1)).Nodup->r.objL d s fs=some (.ok s' x)->∃ns ks,ns.length=ks.length/\(fs.map (·.1)++ns).Nodup/\(∀n∈ns,N8 n)/\(∀x∈ks,Wf x)/\s'.N=s.N/\
  s'.T=s.T++M4 s.T.length ks++[⟨7,fs++ns.zip (ixT s.T.length ks),[],0⟩]/\x=((s.T.length+M8 ks:Nat):Int)/\(W2a ns ks).length+1+s.i<=s'.i/\J5a ks<=20 - d
 fob:∀d s s' x,r.fob d s=some (.ok s' x)->∃t,Wf t/\Yft s t s' x/\(one t (!(isM L s'.i [[124]]))).length+s.i<=s'.i+1/\dTy t+(brk t (!(isM L s'.i [[124]]))).toNat<=20 - d
 list:∀d s nm acc s' l,r.list .typ [41] d s nm acc=some (.ok s' l)->∃ks l',l=acc++l'/\(∀x∈ks,Wf x)/\YftL s ks s' l'/\(P5a (decide (acc.length=0)) ks).length+1+s.i<=s'.i/\J5a ks<=20 - d
theorem newName_ok {L:List Tk} {s s':St} {names:List (List UInt8)} {nm:List UInt8} (h:newName L s names=some (.ok s' nm)):(tk L s.i).kind=1/\nm=(tk L s.i).text/\nm ∉ names/\s'=s.nx:=by
 unfold newName at h;split at h
 · rename_i hk;split at h
   · simp[flt]at h
   · rename_i hh;simp only[Option.some.injEq,Out.ok.injEq]at h;refine⟨hk,h.2.symm, ?_,h.1.symm⟩;rw[<-h.2];simpa[has]using hh
 · simp[flt]at h
theorem H3a {L:List Tk} {b:Bool} {d:Nat} {s s':St} {x:Int} {p:Nat->St->Option (Out Int)} (h:inside L b d s p=some (.ok s' x)):b=true/\d<20/\p (d+1) s=some (.ok s' x):=by
 unfold inside at h;split at h
 · rename_i hb;split at h
   · simp[flt]at h
   · exact⟨hb,by omega,h⟩
 · simp[flt]at h
theorem I8 {α:Type} {s s':St} {a b:α} (h:some (Out.ok s a)=some (.ok s' b)):s=s'/\a=b:=by
 simp only[Option.some.injEq,Out.ok.injEq]at h;exact h
section
variable {L:List Tk} {r:Sp}
theorem B5d (i:YF L r):∀d s s' x,(step L r).typ d s=some (.ok s' x)->∃t,Wf t/\Yft s t s' x/\(tks t).length+s.i<=s'.i/\dTy t+1<=20 - d/\isM L s'.i [[124]]=false:=by
 intro d s s' x h;obtain⟨_,hd,h⟩:=H3a h;obtain⟨t,h1,h2,h3,h4,h5⟩:=i.union _ _ _ _ h;exact⟨t,h1,h2,h3,by omega,h5⟩
theorem E0c (i:YF L r):∀d s s' x,(step L r).union d s=some (.ok s' x)->∃t,Wf t/\Yft s t s' x/\(tks t).length+s.i<=s'.i/\dTy t<=20 - d/\isM L s'.i [[124]]=false:=by
 intro d s s' x h;obtain⟨s1,y,h1,h2⟩:=B7 h;obtain⟨t,w1,y1,l1,d1⟩:=i.member _ _ _ _ h1;have ho:=G9a t (!(isM L s1.i [[124]]));split at h2
 · rename_i hm;obtain⟨s2,l,h3,h4⟩:=B7 h2;obtain⟨rfl,rfl⟩:=L5a h4;obtain⟨ks,l',rfl,w2,y2,l2,d2,e2,n2⟩:=i.unionL _ _ _ _ _ h3;have hne:=n2.1 hm;have hlen:1<=ks.length:=by
    cases ks with
    |nil=>exact absurd rfl hne
    |cons _ _=>simp
   have h0:decide (ks.length=0)=false:=decide_eq_false (by omega);rw[hm]at l1 d1;simp only[Bool.not_true]at l1 d1;refine⟨.nd 10 [] (t::ks),Wf.uni _ (by simp;omega) (fun x hx=> ?_),(y1.cons' y2).row 10 [] (by decide) _ rfl, ?_, ?_,e2⟩
   · rcases List.mem_cons.1 hx with rfl|hx
     · exact w1
     · exact w2 x hx
   · have e:tks (.nd 10 [] (t::ks))=R8a true (t::ks):=by simp[tks]
     rw[e,G8b,h0];simp only[if_true];show _<=s2.i;omega
   · rw[dTy,if_pos rfl,S8b,h0];omega
 · rename_i hm;obtain⟨rfl,rfl⟩:=I8 h2;have hm':isM L s1.i [[124]]=false:=by simpa using hm
   refine⟨t,w1,y1,by omega,by omega,hm'⟩
theorem Y3b (i:YF L r):∀d s acc s' l,(step L r).unionL d s acc=some (.ok s' l)->∃ks l',l=acc++l'/\(∀x∈ks,Wf x)/\YftL s ks s' l'/\(R8a false ks).length+s.i<=s'.i/\S8b ks<=20 - d/\isM L s'.i [[124]]=false/\(isM L s.i [[124]]=true ↔ ks≠[]):=by
 intro d s acc s' l h;have h:(if isM L s.i [[124]] then A3 (r.member d s.nx) fun s x=>r.unionL d s (acc++[x]) else some (.ok s acc))=some (.ok s' l):=h;split at h
 · rename_i hm;obtain⟨s1,y,h1,h2⟩:=B7 h;obtain⟨t,w1,y1,l1,d1⟩:=i.member _ _ _ _ h1;obtain⟨ks,l',rfl,w2,y2,l2,d2,e2,n2⟩:=i.unionL _ _ _ _ _ h2;have y1:Yft s t s1 y:=y1;have hb:(!(isM L s1.i [[124]]))=decide (ks.length=0):=by
    cases hm1:isM L s1.i [[124]]
    · have:ks=[]:=Classical.byContradiction fun hc=>by rw[n2.2 hc]at hm1;exact absurd hm1 (by decide)
      subst this;rfl
    · have:=n2.1 hm1;cases ks with
      |nil=>exact absurd rfl this
      |cons _ _=>simp
   rw[hb]at l1 d1;have l1:(one t (decide (ks.length=0))).length+(s.i+1)<=s1.i:=l1;refine⟨t::ks,y::l',by simp,fun x hx=> ?_,y1.cons' y2, ?_, ?_,e2,by simp[hm]⟩
   · rcases List.mem_cons.1 hx with rfl|hx
     · exact w1
     · exact w2 x hx
   · rw[G8b];simp only[Bool.false_eq_true,if_false];omega
   · rw[S8b];omega
 · rename_i hm;obtain⟨rfl,rfl⟩:=I8 h;have hm':isM L s.i [[124]]=false:=by simpa using hm
   exact⟨[],[],by simp,by simp,YftL.nil s,by simp[R8a],by simp[S8b],hm',by simp[hm']⟩
theorem Y4b (i:YF L r):∀d s s' x,(step L r).member d s=some (.ok s' x)->∃t,Wf t/\Yft s t s' x/\(one t (!(isM L s'.i [[124]]))).length+s.i<=s'.i/\dTy t+(brk t (!(isM L s'.i [[124]]))).toNat<=20 - d:=by
 intro d s s' x h;have h:(if isM L s.i [[123]] then r.objL d s.nx []
  else if isM L s.i [[91]] then A3 (r.typ d s.nx) fun s x=>A3 (need L s [93]) fun s _=>addT s ⟨8,[],[],x⟩
  else if isM L s.i [[40]] then r.fob d s.nx
  else if (tk L s.i).kind=2/\I2 (tk L s.i).text≠0 then addT s.nx ⟨I2 (tk L s.i).text,[],[],0⟩ else flt L s.i 1)=some (.ok s' x):=h
 split at h
 · obtain⟨ns,ks,hl,nd,hn,hw,hN,hT,hx,hlen,hd⟩:=i.objL _ _ _ _ _ (by simp) h;have hlen:(W2a ns ks).length+1+(s.i+1)<=s'.i:=hlen;have ho:=G9a (.nd 7 ns ks) (!(isM L s'.i [[124]]));have hb:brk (.nd 7 ns ks) (!(isM L s'.i [[124]]))=false:=by simp[brk,Tr.k]
   have ht:(tks (.nd 7 ns ks)).length=(W2a ns ks).length+2:=by simp[tks]
   refine⟨.nd 7 ns ks,Wf.obj ns ks hl (by simpa using nd) hn hw,⟨hN, ?_, ?_⟩, ?_, ?_⟩
   · rw[hT,E5b _ _ _ _ (by decide),List.append_assoc];rfl
   · rw[hx,nTy];show ((s.T.length+M8 ks:Nat):Int)=_;omega
   · rw[hb]at ho;simp only[Bool.toNat_false]at ho;omega
   · rw[hb,dTy,if_neg (by decide)];simpa using hd
 split at h
 · obtain⟨s1,y,h1,h2⟩:=B7 h;obtain⟨s2,_,h3,h4⟩:=B7 h2;obtain⟨_,rfl⟩:=J1 h3;obtain⟨rfl,rfl⟩:=L5a h4;obtain⟨t,w1,y1,l1,d1,e1⟩:=i.typ _ _ _ _ h1;have y1:Yft s t s1 y:=y1;have l1:(tks t).length+(s.i+1)<=s1.i:=l1;have ho:=G9a (.nd 8 [] [t]) (!(isM L (s1.i+1) [[124]]));have hb:brk (.nd 8 [] [t]) (!(isM L (s1.i+1) [[124]]))=false:=by simp[brk,Tr.k]
   have ht:(tks (.nd 8 [] [t])).length=(tks t).length+2:=by simp[tks,J1d]
   have y2:YftL s [t] s1.nx [y]:=y1.cons' (YftL.nil s1);refine⟨.nd 8 [] [t],Wf.arr t w1,y2.row 8 [] (by decide) _ rfl, ?_, ?_⟩
   · show (one (.nd 8 [] [t]) (!(isM L (s1.i+1) [[124]]))).length+s.i<=s1.i+1;rw[hb]at ho;simp only[Bool.toNat_false]at ho;omega
   · show dTy (.nd 8 [] [t])+(brk (.nd 8 [] [t]) (!(isM L (s1.i+1) [[124]]))).toNat<=_;rw[hb,dTy,if_neg (by decide),J5a,J5a];simp only[Bool.toNat_false];omega
 split at h
 · obtain⟨t,w1,y1,l1,d1⟩:=i.fob _ _ _ _ h;have l1:(one t (!(isM L s'.i [[124]]))).length+(s.i+1)<=s'.i+1:=l1;exact⟨t,w1,y1,by omega,d1⟩
 split at h
 · rename_i hk;obtain⟨rfl,rfl⟩:=L5a h;have hr:=P8a _ hk.2;generalize I2 (tk L s.i).text=k at hr;have ho:=G9a (.nd k [] []) (!(isM L (s.i+1) [[124]]));have hb:brk (.nd k [] []) (!(isM L (s.i+1) [[124]]))=false:=by
    have h1:¬k=10:=by omega
    have h2:¬k=9:=by omega
    simp[brk,Tr.k,h1,h2]
   have ht:(tks (.nd k [] [])).length=1:=by
    rw[tks,if_neg (by omega),if_neg (by omega),if_neg (by omega),if_neg (by omega)];rfl
   have hrow:(⟨k,[],[],0⟩:Ty)=C7a k [] []:=by rw[C7a,if_neg (by omega),if_neg (by omega),if_neg (by omega)]
   refine⟨.nd k [] [],Wf.plain k hr.1 hr.2,(YftL.nil s).row k [] (by omega) _ hrow, ?_, ?_⟩
   · show (one (.nd k [] []) (!(isM L (s.i+1) [[124]]))).length+s.i<=s.i+1;rw[hb]at ho;simp only[Bool.toNat_false]at ho;omega
   · show dTy (.nd k [] [])+(brk (.nd k [] []) (!(isM L (s.i+1) [[124]]))).toNat<=_;rw[hb,dTy,if_neg (by omega),J5a];simp
 · simp[flt]at h
theorem R3c (hL:NmL L) (i:YF L r):∀d s fs s' x,(fs.map (·.1)).Nodup->(step L r).objL d s fs=some (.ok s' x)->∃ns ks,ns.length=ks.length/\(fs.map (·.1)++ns).Nodup/\(∀n∈ns,N8 n)/\(∀x∈ks,Wf x)/\s'.N=s.N/\
 s'.T=s.T++M4 s.T.length ks++[⟨7,fs++ns.zip (ixT s.T.length ks),[],0⟩]/\x=((s.T.length+M8 ks:Nat):Int)/\(W2a ns ks).length+1+s.i<=s'.i/\J5a ks<=20 - d:=by
 intro d s fs s' x hnd h;have h:(if isM L s.i [[125]] then addT s.nx ⟨7,fs,[],0⟩
  else A3 (newName L s (fs.map (·.1))) fun s nm=>A3 (need L s [58]) fun s _=>A3 (r.typ d s) fun s x=>A3 (need L s [59]) fun s _=>r.objL d s (fs++[(nm,x)]))=some (.ok s' x):=h
 split at h
 · obtain⟨rfl,rfl⟩:=L5a h;refine⟨[],[],rfl,by simpa using hnd,by simp,by simp,rfl,by simp[M4,St.nx],by simp[M8,St.nx], ?_,by simp[J5a]⟩;show (W2a [] []).length+1+s.i<=s.i+1;simp[W2a];omega
 · obtain⟨s1,nm,h1,h⟩:=B7 h;obtain⟨hk,hnm,hni,rfl⟩:=newName_ok h1;obtain⟨s2,_,h2,h⟩:=B7 h;obtain⟨_,rfl⟩:=J1 h2;obtain⟨s3,y,h3,h⟩:=B7 h;obtain⟨s4,_,h4,h⟩:=B7 h;obtain⟨_,rfl⟩:=J1 h4;obtain⟨t,w1,y1,l1,d1,e1⟩:=i.typ _ _ _ _ h3;have y1:Yft s t s3 y:=y1;have l1:(tks t).length+(s.i+1+1)<=s3.i:=l1;have hnd':((fs++[(nm,y)]).map (·.1)).Nodup:=by
    rw[List.map_append,List.nodup_append];exact⟨hnd,by simp,fun a ha b hb=>by simp at hb;subst hb;rintro rfl;exact hni ha⟩
   obtain⟨ns,ks,hl,nd,hn,hw,hN,hT,hx,hlen,hd⟩:=i.objL _ _ _ _ _ hnd' h;have hlen:(W2a ns ks).length+1+(s3.i+1)<=s'.i:=hlen;have hN:s'.N=s3.N:=hN;have hT:s'.T=s3.T++M4 s3.T.length ks++[⟨7,fs++[(nm,y)]++ns.zip (ixT s3.T.length ks),[],0⟩]:=hT;have hx:x=((s3.T.length+M8 ks:Nat):Int):=hx;refine⟨nm::ns,t::ks,by simp[hl],by simpa using nd,fun n hn'=> ?_,fun z hz=> ?_,hN.trans y1.1, ?_, ?_, ?_, ?_⟩
   · rcases List.mem_cons.1 hn' with rfl|hn'
     · rw[hnm];exact hL _ hk
     · exact hn n hn'
   · rcases List.mem_cons.1 hz with rfl|hz
     · exact w1
     · exact hw z hz
   · rw[hT,y1.len,y1.2.1,y1.2.2,M4,ixT];simp
   · rw[hx,y1.len,M8,Nat.add_assoc]
   · simp only[W2a,List.length_cons,List.length_append];simp only[List.tail_cons];omega
   · rw[J5a];omega
theorem B6d (i:YF L r):∀d s s' x,(step L r).fob d s=some (.ok s' x)->∃t,Wf t/\Yft s t s' x/\(one t (!(isM L s'.i [[124]]))).length+s.i<=s'.i+1/\dTy t+(brk t (!(isM L s'.i [[124]]))).toNat<=20 - d:=by
 intro d s s' x h;obtain⟨s1,l,h1,h⟩:=B7 h;obtain⟨ks,l',e0,w1,y1,l1,d1⟩:=i.list _ _ _ _ _ _ h1;rw[List.nil_append]at e0;rw[e0]at h;split at h
 · obtain⟨s2,y,h2,h⟩:=B7 h;obtain⟨rfl,rfl⟩:=L5a h;obtain⟨t,w2,y2,l2,d2,e2⟩:=i.typ _ _ _ _ h2;have y2:Yft s1 t s2 y:=y2;have l2:(tks t).length+(s1.i+1)<=s2.i:=l2;have e2:isM L s2.i [[124]]=false:=e2;have hb:brk (.nd 9 [] (t::ks)) true=false:=by simp[brk,Tr.k]
   have ho:=G9a (.nd 9 [] (t::ks)) true;have ht:(tks (.nd 9 [] (t::ks))).length=(P5a true ks).length+(tks t).length+3:=by simp[tks,J2d];omega
   have l1:(P5a true ks).length+1+s.i<=s1.i:=l1;refine⟨.nd 9 [] (t::ks),Wf.fn t ks w2 w1,⟨y2.1.trans y1.1, ?_, ?_⟩, ?_, ?_⟩
   · show s2.T++[_]=_;have e:emT s.T.length (.nd 9 [] (t::ks))=emB s.T.length (t::ks):=by rw[emT,if_pos rfl]
     rw[e,emB,y2.2.1,y2.2.2,y1.len,y1.2.1,y1.2.2];simp
   · rw[y2.len,y1.len,nTy,M8];omega
   · show (one _ (!(isM L s2.i [[124]]))).length+s.i<=s2.i+1;rw[e2,Bool.not_false,ho,hb];simp only[Bool.toNat_false];omega
   · show _+(brk _ (!(isM L s2.i [[124]]))).toNat<=_;rw[e2,Bool.not_false,hb,dTy,if_neg (by decide),J5a];simp only[Bool.toNat_false];omega
 · match ks,l',y1,h with
   |[],l',y1,h=>rw[y1.2.2]at h;simp[ixT,flt]at h
   |[t],l',y1,h=>
    rw[y1.2.2,ixT,ixT]at h;obtain⟨rfl,rfl⟩:=I8 h;have ho:=G9a t (!(isM L s1.i [[124]]));have hb:(brk t (!(isM L s1.i [[124]]))).toNat<=1:=by cases brk t (!(isM L s1.i [[124]]))<;>simp
    have l1:(P5a true [t]).length+1+s.i<=s1.i:=l1;have hc:(P5a true [t]).length=(tks t).length:=by simp[P5a]
    rw[J5a]at d1;refine⟨t,w1 t (by simp),⟨y1.1, ?_,rfl⟩,by omega,by omega⟩;rw[y1.2.1,M4,M4,List.append_nil]
   |t::u::ks,l',y1,h=>rw[y1.2.2]at h;simp[ixT,flt]at h
theorem R4c (i:YF L r):∀d s nm acc s' l,(step L r).list .typ [41] d s nm acc=some (.ok s' l)->∃ks l',l=acc++l'/\(∀x∈ks,Wf x)/\YftL s ks s' l'/\(P5a (decide (acc.length=0)) ks).length+1+s.i<=s'.i/\J5a ks<=20 - d:=by
 intro d s nm acc s' l h;have h:(if isM L s.i [[41]] then some (.ok s.nx acc)
  else A3 (if acc.length=0 then some (.ok s ()) else need L s [44]) fun s _=>A3 (part L r d s nm .typ) fun s x=>r.list .typ [41] d s x.2 (acc++[x.1]))=some (.ok s' l):=h
 split at h
 · obtain⟨rfl,rfl⟩:=I8 h;refine⟨[],[],by simp,by simp,YftL.nil s, ?_,by simp[J5a]⟩;show (P5a _ []).length+1+s.i<=s.i+1;simp[P5a];omega
 · obtain⟨s1,_,h1,h⟩:=B7 h;have e1:s1.N=s.N/\s1.T=s.T/\s1.i=s.i+(if acc.length=0 then 0 else 1):=by
    split at h1
    · rename_i h0;obtain⟨rfl,_⟩:=I8 h1;exact⟨rfl,rfl,by rw[if_pos h0];rfl⟩
    · rename_i h0;obtain⟨_,rfl⟩:=J1 h1;exact⟨rfl,rfl,by rw[if_neg h0];rfl⟩
   obtain⟨s2,x,h2,h⟩:=B7 h;obtain⟨s3,y,h3,h4⟩:=B7 h2;obtain⟨rfl,rfl⟩:=I8 h4;obtain⟨t,w1,y1,l1,d1,_⟩:=i.typ _ _ _ _ h3;have y1:Yft s t s3 y:=by
    obtain⟨a,b,c⟩:=y1;rw[e1.1]at a;rw[e1.2.1]at b c;exact⟨a,b,c⟩
   obtain⟨ks,l',rfl,w2,y2,l2,d2⟩:=i.list _ _ _ _ _ _ h;refine⟨t::ks,y::l',by simp,fun x hx=> ?_,y1.cons' y2, ?_, ?_⟩
   · rcases List.mem_cons.1 hx with rfl|hx
     · exact w1
     · exact w2 x hx
   · have hf:decide ((acc++[y]).length=0)=false:=by simp
     rw[hf]at l2;simp only[P5a,List.length_append];rw[e1.2.2]at l1;by_cases h0:acc.length=0
     · rw[if_pos h0]at l1;rw[decide_eq_true h0,if_pos rfl];simp only[List.length_nil];omega
     · rw[if_neg h0]at l1;rw[decide_eq_false h0];simp only[Bool.false_eq_true,if_false,List.length_cons,List.length_nil];omega
   · rw[J5a];omega
end
theorem E5a {L:List Tk} (hL:NmL L):∀f,YF L (sp' L f)
 |0=>by constructor<;>(intros;contradiction)
 |f+1=>⟨B5d (E5a hL f),E0c (E5a hL f),Y3b (E5a hL f),Y4b (E5a hL f),R3c hL (E5a hL f),B6d (E5a hL f),R4c (E5a hL f)⟩
structure Pt where
 b:Nat
 k:Int
 ts:List TT
 d:Nat
def pt0:Pt:=⟨5,0,[],0⟩
def p0 (cs:List Pt):Pt:=cs.getD 0 pt0
def p1 (cs:List Pt):Pt:=cs.getD 1 pt0
def p2 (cs:List Pt):Pt:=cs.getD 2 pt0
def wt (least:Nat) (c:Pt):List TT:=if least<=c.b then c.ts else sg [40]::(c.ts++[sg [41]])
def wd (least:Nat) (c:Pt):Nat:=if least<=c.b then c.d else c.d+1
def Q0a (c:Pt):List TT:=if c.k= -1 then [] else sg [58]::c.ts
def U3:Bool->List Pt->List TT
 |_,[]=>[]
 |fst,c::r=>(if fst then [] else [sg [44]])++c.ts++U3 false r
def flT:List Pt->List TT
 |[]=>[]
 |c::r=>c.ts++flT r
def mx (a:Nat):List Pt->Nat
 |[]=>0
 |c::r=>max (c.d+a) (mx a r)
def sgw (tx:List UInt8):TT:=if tx=[116,121,112,101,111,102] then (2,tx) else sg tx
def lv (tx:List UInt8):Nat:=if bnK 12 tx=1 then 2 else bnK 12 tx
def tkK (k:Int) (tx:List UInt8) (n:Int) (cs:List Pt):List TT:=
 if k=1 then [(3,Lib.itoa n)]
 else if k=2 then [(4,tx)]
 else if k=3 then [(2,if n=1 then [116,114,117,101] else [102,97,108,115,101])]
 else if k=4 then [(2,[110,117,108,108])]
 else if k=5 then [(1,tx)]
 else if k=6 then (2,[102,110])::sg [40]::(U3 true cs.dropLast.dropLast++sg [41]::(Q0a (cs.dropLast.getLastD pt0)++(cs.getLastD pt0).ts))
 else if k=7 then wt 5 (p0 cs)++sg [40]::(U3 true cs.tail++[sg [41]])
 else if k=8 then wt 5 (p0 cs)++[sg [46],(1,tx)]
 else if k=9 then wt 5 (p0 cs)++sg [91]::((p1 cs).ts++[sg [93]])
 else if k=10 then sg [123]::(U3 true cs++[sg [125]])
 else if k=11 then sg [91]::(U3 true cs++[sg [93]])
 else if k=12 then wt (lv tx) (p0 cs)++sg tx::wt (bnK 12 tx+1) (p1 cs)
 else if k=13 then sgw tx::wt 4 (p0 cs)
 else if k=14 then wt 5 (p0 cs)++(2,[97,115])::(p1 cs).ts
 else if k=15 then (1,tx)::sg [58]::(p0 cs).ts
 else if k=16 then (1,tx)::Q0a (p0 cs)
 else if k=17 then (2,[108,101,116])::(1,tx)::(Q0a (p0 cs)++sg [61]::((p1 cs).ts++[sg [59]]))
 else if k=18 then (1,tx)::sg [61]::((p0 cs).ts++[sg [59]])
 else if k=19 then wt 5 (p0 cs)++sg [46]::(1,tx)::sg [61]::((p1 cs).ts++[sg [59]])
 else if k=20 then wt 5 (p0 cs)++sg [91]::((p1 cs).ts++sg [93]::sg [61]::((p2 cs).ts++[sg [59]]))
 else if k=21 then (2,[112,114,105,110,116])::((p0 cs).ts++[sg [59]])
 else if k=22 then (2,[105,102])::sg [40]::((p0 cs).ts++sg [41]::((p1 cs).ts++(if (p2 cs).k= -1 then [] else (2,[101,108,115,101])::(p2 cs).ts)))
 else if k=23 then (2,[119,104,105,108,101])::sg [40]::((p0 cs).ts++sg [41]::(p1 cs).ts)
 else if k=24 then (2,[114,101,116,117,114,110])::((p0 cs).ts++[sg [59]])
 else if k=25 then (p0 cs).ts++[sg [59]]
 else sg [123]::(flT cs++[sg [125]])
def dK (k:Int) (tx:List UInt8) (cs:List Pt):Nat:=
 if k=6\/k=10\/k=16 then mx 0 cs
 else if k=7 then max (wd 5 (p0 cs)) (mx 1 cs.tail)
 else if k=8 then wd 5 (p0 cs)
 else if k=9 then max (wd 5 (p0 cs)) ((p1 cs).d+1)
 else if k=12 then max (wd (lv tx) (p0 cs)) (wd (bnK 12 tx+1) (p1 cs))
 else if k=13 then wd 4 (p0 cs)+1
 else if k=14 then max (wd 5 (p0 cs)) (p1 cs).d
 else if k=17 then max (p0 cs).d ((p1 cs).d+1)
 else if k=19 then max (wd 5 (p0 cs)+1) ((p1 cs).d+1)
 else if k=20 then max (wd 5 (p0 cs)+1) (max ((p1 cs).d+2) ((p2 cs).d+1))
 else if k=22 then max ((p0 cs).d+1) (max (p1 cs).d (p2 cs).d)
 else if k=23 then max ((p0 cs).d+1) (p1 cs).d
 else mx 1 cs
mutual
def me:Nt->List TT×Nat
 | .ty none=>([],0)
 | .ty (some t)=>(tks t,dTy t+1)
 | .nd k tx n ps=>(tkK k tx n (meL ps),dK k tx (meL ps))
def meL:List Nt->List Pt
 |[]=>[]
 |p::r=>⟨bnd p,p.k,(me p).1,(me p).2⟩::meL r
end
def pt (t:Nt):Pt:=⟨bnd t,t.k,(me t).1,(me t).2⟩
theorem W1b:∀ps,meL ps=ps.map pt
 |[]=>rfl
 |p::r=>by rw[meL,W1b r];rfl
theorem W9 (p:Nt) (r:List Nt):meL (p::r)=pt p::meL r:=rfl
def Nt.tx:Nt->List UInt8
 | .nd _ tx _ _=>tx
 | .ty _=>[]
def own (k:Int) (tx:List UInt8) (n:Int) (ps:List Nt):Prop:=
 if k=1 then tx=[]/\0<=n/\n<=999999999
 else if k=2 then (tx.length<=30/\∀c∈tx,txt c.toNat=true)/\n=0
 else if k=3 then tx=[]/\(n=0\/n=1)
 else if k=5\/k=8\/k=15\/k=16\/k=17\/k=18\/k=19 then N8 tx/\n=0
 else if k=12 then tx∈[[61,61],[60],[43],[45],[42]]/\n=0
 else if k=13 then tx∈[[33],[45],[116,121,112,101,111,102]]/\n=0
 else tx=[]/\n=0/\(k=6->(ps.dropLast.dropLast.map Nt.tx).Nodup)/\(k=10->(ps.map Nt.tx).Nodup)
mutual
def Wn:Nt->Prop
 | .ty none=>True
 | .ty (some t)=>Wf t
 | .nd k tx n ps=>shp k (ps.map Nt.k)/\own k tx n ps/\WnL ps
def WnL:List Nt->Prop
 |[]=>True
 |p::r=>Wn p/\WnL r
end
theorem B2a:∀ps,WnL ps ↔∀p∈ps,Wn p
 |[]=>by simp[WnL]
 |p::r=>by simp[WnL,B2a r]
/-! ### What has come U2 what was there -/
def Nft (s:St) (t:Nt) (s':St) (x:Int):Prop:=s'.N.map Nd.fl=s.N.map Nd.fl++emN s.N.length s.T.length t/\s'.T=s.T++emY s.T.length t/\x=ixN s.N.length s.T.length t
def NftL (s:St) (ps:List Nt) (s':St) (l:List Int):Prop:=s'.N.map Nd.fl=s.N.map Nd.fl++M9 s.N.length s.T.length ps/\s'.T=s.T++T2 s.T.length ps/\l=ixL s.N.length s.T.length ps
theorem Nft.lenN {s s':St} {t:Nt} {x:Int} (h:Nft s t s' x):s'.N.length=s.N.length+nN t:=by
 have:=congrArg List.length h.1;simpa[W8]using this
theorem Nft.lenT {s s':St} {t:Nt} {x:Int} (h:Nft s t s' x):s'.T.length=s.T.length+nT t:=by
 have:=congrArg List.length h.2.1;simpa[E0a]using this
theorem NftL.lenN {s s':St} {ps:List Nt} {l:List Int} (h:NftL s ps s' l):s'.N.length=s.N.length+nNL ps:=by
 have:=congrArg List.length h.1;simpa[M7]using this
theorem NftL.lenT {s s':St} {ps:List Nt} {l:List Int} (h:NftL s ps s' l):s'.T.length=s.T.length+nTL ps:=by
 have:=congrArg List.length h.2.1;simpa[L1a]using this
theorem NftL.nil (s:St):NftL s [] s []:=⟨by simp[M9],by simp[T2],rfl⟩
theorem Nft.cons {s s1 s2:St} {t:Nt} {x:Int} {ps:List Nt} {l:List Int} (h:Nft s t s1 x) (k:NftL s1 ps s2 l):NftL s (t::ps) s2 (x::l):=by
 refine⟨?_, ?_, ?_⟩
 · rw[k.1,h.lenN,h.lenT,h.1,M9,List.append_assoc]
 · rw[k.2.1,h.lenT,h.2.1,T2,List.append_assoc]
 · rw[k.2.2,h.lenN,h.lenT,h.2.2,ixL]
theorem U9a:∀(ps qs:List Nt) (b tb:Nat),M9 b tb (ps++qs)=M9 b tb ps++M9 (b+nNL ps) (tb+nTL ps) qs
 |[],qs,b,tb=>by simp[M9,nNL,nTL]
 |p::r,qs,b,tb=>by rw[List.cons_append,M9,M9,U9a r,nNL,nTL,List.append_assoc,Nat.add_assoc,Nat.add_assoc]
theorem L2b:∀(ps qs:List Nt) (tb:Nat),T2 tb (ps++qs)=T2 tb ps++T2 (tb+nTL ps) qs
 |[],qs,tb=>by simp[T2,nTL]
 |p::r,qs,tb=>by rw[List.cons_append,T2,T2,L2b r,nTL,List.append_assoc,Nat.add_assoc]
theorem Q7a:∀(ps qs:List Nt) (b tb:Nat),ixL b tb (ps++qs)=ixL b tb ps++ixL (b+nNL ps) (tb+nTL ps) qs
 |[],qs,b,tb=>by simp[ixL,nNL,nTL]
 |p::r,qs,b,tb=>by rw[List.cons_append,ixL,ixL,Q7a r,nNL,nTL,List.cons_append,Nat.add_assoc,Nat.add_assoc]
theorem NftL.app {s s1 s2:St} {ps qs:List Nt} {l l':List Int} (h:NftL s ps s1 l) (k:NftL s1 qs s2 l'):NftL s (ps++qs) s2 (l++l'):=by
 refine⟨?_, ?_, ?_⟩
 · rw[k.1,h.lenN,h.lenT,h.1,U9a,List.append_assoc]
 · rw[k.2.1,h.lenT,h.2.1,L2b,List.append_assoc]
 · rw[k.2.2,h.lenN,h.lenT,h.2.2,Q7a]
theorem Nft.l {s s':St} {t:Nt} {x:Int} (h:Nft s t s' x):NftL s [t] s' [x]:=h.cons (NftL.nil s')
theorem NftL.node {s s':St} {ps:List Nt} {l:List Int} (h:NftL s ps s' l) (i:Nat) (k:Int) (tx:List UInt8) (m:Int) (n:Nd) (hn:n.fl=mkN k tx m l):Nft s (.nd k tx m ps) ⟨i,s'.N++[n],s'.T⟩ s'.N.length:=by
 refine⟨?_, ?_, ?_⟩
 · show (s'.N++[n]).map Nd.fl=_;rw[List.map_append,h.1,emN,<-h.2.2,List.map_cons,List.map_nil,hn,List.append_assoc]
 · show s'.T=_;rw[h.2.1,emY]
 · rw[h.lenN,ixN,nN];omega
theorem Nft.none (s:St):Nft s (.ty none) s (-1):=⟨by simp[emN],by simp[emY],rfl⟩
theorem Yft.n {s s':St} {t:Tr} {x:Int} (h:Yft s t s' x):Nft s (.ty (some t)) s' x:=⟨by simp[emN,h.1],by rw[h.2.1,emY],h.2.2⟩
theorem G8 {s s':St} {n:Nd} {x:Int} (h:addN s n=some (.ok s' x)):s'=⟨s.i,s.N++[n],s.T⟩/\x=s.N.length:=by
 simp only[addN,Option.some.injEq,Out.ok.injEq]at h;exact⟨h.1.symm,h.2.symm⟩
theorem dl2 {α:Type} (l:List α) (a b:α):(l++[a,b]).dropLast=l++[a]:=by
 rw[show l++[a,b]=(l++[a])++[b] by simp,List.dropLast_concat]
theorem dl3 {α:Type} (l:List α) (a b:α):(l++[a,b]).dropLast.dropLast=l:=by rw[dl2,List.dropLast_concat]
theorem dl4 {α:Type} (l:List α) (a b x:α):(l++[a,b]).dropLast.getLastD x=a:=by rw[dl2];simp[List.getLastD_eq_getLast?]
theorem dl5 {α:Type} (l:List α) (a b x:α):(l++[a,b]).getLastD x=b:=by simp[List.getLastD_eq_getLast?]
theorem T9b (a b:Nat) (c:Pt) (h:a<=b):(wt a c).length<=(wt b c).length:=by
 unfold wt;split<;>split<;>simp<;>omega
theorem wd_low (a:Nat) (c:Pt):c.d<=wd a c:=by
 unfold wd;split<;>omega
theorem U4b (a b:Nat) (c:Pt) (h:a<=b):wd a c<=wd b c:=by
 unfold wd;split<;>split<;>omega
theorem E6a (a:Nat) (c:Pt) (h:a<=c.b):wt a c=c.ts:=by rw[wt,if_pos h]
theorem E7a (a:Nat) (c:Pt) (h:a<=c.b):wd a c=c.d:=by rw[wd,if_pos h]
theorem I4d (a:Nat) (c:Pt):(wt a c).length<=c.ts.length+2:=by
 unfold wt;split<;>simp
theorem I6d (a:Nat) (c:Pt):wd a c<=c.d+1:=by
 unfold wd;split<;>omega
theorem me5 (tx:List UInt8) (n:Int):me (.nd 5 tx n [])=([(1,tx)],0):=rfl
theorem K9c (a:Nat):∀xs ys:List Pt,mx a (xs++ys)=max (mx a xs) (mx a ys)
 |[],ys=>by simp[mx]
 |x::xs,ys=>by rw[List.cons_append,mx,K9c a xs ys,mx];omega
theorem me6 (tx:List UInt8) (n:Int) (ps:List Nt) (a b:Nt):me (.nd 6 tx n (ps++[a,b]))=((2,[102,110])::sg [40]::(U3 true (meL ps)++sg [41]::(Q0a (pt a)++(me b).1)),max (mx 0 (meL ps)) (max (me a).2 (me b).2)):=by
 have e:meL (ps++[a,b])=meL ps++[pt a,pt b]:=by simp[W1b]
 rw[me,e];show ((2,[102,110])::sg [40]::(U3 true (meL ps++[pt a,pt b]).dropLast.dropLast++sg [41]::(Q0a ((meL ps++[pt a,pt b]).dropLast.getLastD pt0)++((meL ps++[pt a,pt b]).getLastD pt0).ts)),mx 0 (meL ps++[pt a,pt b]))=_;rw[dl3,dl4,dl5,K9c,mx,mx,mx];simp[pt]
theorem me7 (tx:List UInt8) (n:Int) (a:Nt) (ps:List Nt):me (.nd 7 tx n (a::ps))=(wt 5 (pt a)++sg [40]::(U3 true (meL ps)++[sg [41]]),max (wd 5 (pt a)) (mx 1 (meL ps))):=rfl
theorem me8 (tx:List UInt8) (n:Int) (a:Nt):me (.nd 8 tx n [a])=(wt 5 (pt a)++[sg [46],(1,tx)],wd 5 (pt a)):=rfl
theorem me9 (tx:List UInt8) (n:Int) (a b:Nt):me (.nd 9 tx n [a,b])=(wt 5 (pt a)++sg [91]::((me b).1++[sg [93]]),max (wd 5 (pt a)) ((me b).2+1)):=rfl
theorem L4d (tx:List UInt8) (n:Int) (ps:List Nt):me (.nd 10 tx n ps)=(sg [123]::(U3 true (meL ps)++[sg [125]]),mx 0 (meL ps)):=rfl
theorem L3d (tx:List UInt8) (n:Int) (ps:List Nt):me (.nd 11 tx n ps)=(sg [91]::(U3 true (meL ps)++[sg [93]]),mx 1 (meL ps)):=rfl
theorem E9d (tx:List UInt8) (n:Int) (a b:Nt):me (.nd 12 tx n [a,b])=(wt (lv tx) (pt a)++sg tx::wt (bnK 12 tx+1) (pt b),max (wd (lv tx) (pt a)) (wd (bnK 12 tx+1) (pt b))):=rfl
theorem L2d (tx:List UInt8) (n:Int) (a:Nt):me (.nd 13 tx n [a])=(sgw tx::wt 4 (pt a),wd 4 (pt a)+1):=rfl
theorem me14 (tx:List UInt8) (n:Int) (a b:Nt):me (.nd 14 tx n [a,b])=(wt 5 (pt a)++(2,[97,115])::(me b).1,max (wd 5 (pt a)) (me b).2):=rfl
theorem L1d (tx:List UInt8) (n:Int) (a:Nt):me (.nd 15 tx n [a])=((1,tx)::sg [58]::(me a).1,(me a).2+1):=by rw[me];show (_,max ((me a).2+1) 0)=_;simp;rfl
theorem L0d (tx:List UInt8) (n:Int) (a:Nt):me (.nd 16 tx n [a])=((1,tx)::Q0a (pt a),(me a).2):=by rw[me];show (_,max (me a).2 0)=_;simp;rfl
theorem K9d (tx:List UInt8) (n:Int) (a b:Nt):me (.nd 17 tx n [a,b])=((2,[108,101,116])::(1,tx)::(Q0a (pt a)++sg [61]::((me b).1++[sg [59]])),max (me a).2 ((me b).2+1)):=rfl
theorem K8d (tx:List UInt8) (n:Int) (a:Nt):me (.nd 18 tx n [a])=((1,tx)::sg [61]::((me a).1++[sg [59]]),(me a).2+1):=by rw[me];show (_,max ((me a).2+1) 0)=_;simp;rfl
theorem K7d (tx:List UInt8) (n:Int) (a b:Nt):me (.nd 19 tx n [a,b])=(wt 5 (pt a)++sg [46]::(1,tx)::sg [61]::((me b).1++[sg [59]]),max (wd 5 (pt a)+1) ((me b).2+1)):=rfl
theorem K6d (tx:List UInt8) (n:Int) (a b c:Nt):me (.nd 20 tx n [a,b,c])=(wt 5 (pt a)++sg [91]::((me b).1++sg [93]::sg [61]::((me c).1++[sg [59]])),max (wd 5 (pt a)+1) (max ((me b).2+2) ((me c).2+1))):=rfl
theorem K5d (tx:List UInt8) (n:Int) (a:Nt):me (.nd 21 tx n [a])=((2,[112,114,105,110,116])::((me a).1++[sg [59]]),(me a).2+1):=by rw[me];show (_,max ((me a).2+1) 0)=_;simp;rfl
theorem K4d (tx:List UInt8) (n:Int) (a b c:Nt):me (.nd 22 tx n [a,b,c])=((2,[105,102])::sg [40]::((me a).1++sg [41]::((me b).1++(if c.k= -1 then [] else (2,[101,108,115,101])::(me c).1))),max ((me a).2+1) (max (me b).2 (me c).2)):=rfl
theorem K3d (tx:List UInt8) (n:Int) (a b:Nt):me (.nd 23 tx n [a,b])=((2,[119,104,105,108,101])::sg [40]::((me a).1++sg [41]::(me b).1),max ((me a).2+1) (me b).2):=rfl
theorem K2d (tx:List UInt8) (n:Int) (a:Nt):me (.nd 24 tx n [a])=((2,[114,101,116,117,114,110])::((me a).1++[sg [59]]),(me a).2+1):=by rw[me];show (_,max ((me a).2+1) 0)=_;simp;rfl
theorem K1d (tx:List UInt8) (n:Int) (a:Nt):me (.nd 25 tx n [a])=((me a).1++[sg [59]],(me a).2+1):=by rw[me];show (_,max ((me a).2+1) 0)=_;simp;rfl
theorem K0d (tx:List UInt8) (n:Int) (ps:List Nt):me (.nd 26 tx n ps)=(sg [123]::(flT (meL ps)++[sg [125]]),mx 1 (meL ps)):=rfl
theorem w1 {n:Int} (h:0<=n/\n<=999999999):Wn (.nd 1 [] n []):=by simp[Wn,WnL,shp,own];omega
theorem w2 {tx:List UInt8} (h:tx.length<=30/\∀c∈tx,txt c.toNat=true):Wn (.nd 2 tx 0 []):=by simp[Wn,WnL,shp,own];exact h
theorem w3 {n:Int} (h:n=0\/n=1):Wn (.nd 3 [] n []):=by simp[Wn,WnL,shp,own];exact h
theorem w4:Wn (.nd 4 [] 0 []):=by simp[Wn,WnL,shp,own]
theorem w5 {tx:List UInt8} (h:N8 tx):Wn (.nd 5 tx 0 []):=by simp[Wn,WnL,shp,own];exact h
theorem w6 {ps:List Nt} {a b:Nt} (h:∀p∈ps,Wn p/\p.k=16) (hn:(ps.map Nt.tx).Nodup) (ha:Wn a) (ia:isT a.k) (hb:Wn b) (ib:b.k=26):Wn (.nd 6 [] 0 (ps++[a,b])):=by
 rw[Wn];refine⟨?_, ?_, ?_⟩
 · have:∃xs r,(ps++[a,b]).map Nt.k=xs++[r,26]/\(∀x∈xs,x=16)/\isT r:=⟨ps.map Nt.k,a.k,by simp[ib],fun x hx=>by obtain⟨p,hp,rfl⟩:=List.mem_map.1 hx;exact(h p hp).2,ia⟩;simpa[shp]using this
 · have:((ps++[a,b]).dropLast.dropLast.map Nt.tx).Nodup:=by rw[dl3];exact hn
   simpa[own]using this
 · rw[B2a];intro p hp;simp only[List.mem_append,List.mem_cons,List.not_mem_nil,or_false]at hp;rcases hp with hp|rfl|rfl
   · exact(h p hp).1
   · exact ha
   · exact hb
theorem w7 {a:Nt} {ps:List Nt} (ha:Wn a) (ia:isE a.k) (h:∀p∈ps,Wn p/\isE p.k):Wn (.nd 7 [] 0 (a::ps)):=by
 rw[Wn];refine⟨?_,by simp[own], ?_⟩
 · have:∃x xs,(a::ps).map Nt.k=x::xs/\isE x/\∀y∈xs,isE y:=⟨a.k,ps.map Nt.k,rfl,ia,fun x hx=>by obtain⟨p,hp,rfl⟩:=List.mem_map.1 hx;exact(h p hp).2⟩;simpa[shp]using this
 · rw[B2a];intro p hp;rcases List.mem_cons.1 hp with rfl|hp
   · exact ha
   · exact(h p hp).1
theorem w8 {tx:List UInt8} {a:Nt} (h:N8 tx) (ha:Wn a) (ia:isE a.k):Wn (.nd 8 tx 0 [a]):=by simp[Wn,WnL,shp,own];exact⟨ia,h,ha⟩
theorem w9 {a b:Nt} (ha:Wn a) (ia:isE a.k) (hb:Wn b) (ib:isE b.k):Wn (.nd 9 [] 0 [a,b]):=by simp[Wn,WnL,shp,own];exact⟨⟨_,_,⟨rfl,rfl⟩,ia,ib⟩,ha,hb⟩
theorem w10 {ps:List Nt} (h:∀p∈ps,Wn p/\p.k=15) (hn:(ps.map Nt.tx).Nodup):Wn (.nd 10 [] 0 ps):=by
 rw[Wn];refine⟨?_,by simpa[own]using hn,(B2a ps).2 fun p hp=>(h p hp).1⟩;have:∀x∈ps.map Nt.k,x=15:=fun x hx=>by obtain⟨p,hp,rfl⟩:=List.mem_map.1 hx;exact(h p hp).2
 simpa[shp]using this
theorem w11 {ps:List Nt} (h:∀p∈ps,Wn p/\isE p.k):Wn (.nd 11 [] 0 ps):=by
 rw[Wn];refine⟨?_,by simp[own],(B2a ps).2 fun p hp=>(h p hp).1⟩;have:∀x∈ps.map Nt.k,isE x:=fun x hx=>by obtain⟨p,hp,rfl⟩:=List.mem_map.1 hx;exact(h p hp).2
 simpa[shp]using this
theorem w12 {tx:List UInt8} {a b:Nt} (h:tx∈[[61,61],[60],[43],[45],[42]]) (ha:Wn a) (ia:isE a.k) (hb:Wn b) (ib:isE b.k):Wn (.nd 12 tx 0 [a,b]):=by
 rw[Wn];refine⟨?_,⟨h,rfl⟩,ha,hb,trivial⟩;have:∃x y,[a,b].map Nt.k=[x,y]/\isE x/\isE y:=⟨_,_,rfl,ia,ib⟩;simpa[shp]using this
theorem w13 {tx:List UInt8} {a:Nt} (h:tx∈[[33],[45],[116,121,112,101,111,102]]) (ha:Wn a) (ia:isE a.k):Wn (.nd 13 tx 0 [a]):=by
 rw[Wn];refine⟨?_,⟨h,rfl⟩,ha,trivial⟩;have:∃x,[a].map Nt.k=[x]/\isE x:=⟨_,rfl,ia⟩;simpa[shp]using this
theorem w14 {a:Nt} {t:Tr} (ha:Wn a) (ia:isE a.k) (ht:Wf t):Wn (.nd 14 [] 0 [a,.ty (some t)]):=by simp[Wn,WnL,shp,own,Nt.k];exact⟨ia,ha,ht⟩
theorem w15 {tx:List UInt8} {a:Nt} (h:N8 tx) (ha:Wn a) (ia:isE a.k):Wn (.nd 15 tx 0 [a]):=by simp[Wn,WnL,shp,own];exact⟨ia,h,ha⟩
theorem w16 {tx:List UInt8} {a:Nt} (h:N8 tx) (ha:Wn a) (ia:isT a.k):Wn (.nd 16 tx 0 [a]):=by simp[Wn,WnL,shp,own];exact⟨ia,h,ha⟩
theorem w17 {tx:List UInt8} {a b:Nt} (h:N8 tx) (ha:Wn a) (ia:isT a.k) (hb:Wn b) (ib:isE b.k):Wn (.nd 17 tx 0 [a,b]):=by simp[Wn,WnL,shp,own];exact⟨⟨_,_,⟨rfl,rfl⟩,ia,ib⟩,h,ha,hb⟩
theorem w18 {tx:List UInt8} {a:Nt} (h:N8 tx) (ha:Wn a) (ia:isE a.k):Wn (.nd 18 tx 0 [a]):=by simp[Wn,WnL,shp,own];exact⟨ia,h,ha⟩
theorem w19 {tx:List UInt8} {a b:Nt} (h:N8 tx) (ha:Wn a) (ia:isE a.k) (hb:Wn b) (ib:isE b.k):Wn (.nd 19 tx 0 [a,b]):=by simp[Wn,WnL,shp,own];exact⟨⟨_,_,⟨rfl,rfl⟩,ia,ib⟩,h,ha,hb⟩
theorem w20 {a b c:Nt} (ha:Wn a) (ia:isE a.k) (hb:Wn b) (ib:isE b.k) (hc:Wn c) (ic:isE c.k):Wn (.nd 20 [] 0 [a,b,c]):=by simp[Wn,WnL,shp,own];exact⟨⟨_,_,_,⟨rfl,rfl,rfl⟩,ia,ib,ic⟩,ha,hb,hc⟩
theorem w21 {a:Nt} (ha:Wn a) (ia:isE a.k):Wn (.nd 21 [] 0 [a]):=by simp[Wn,WnL,shp,own];exact⟨ia,ha⟩
theorem w22 {a b c:Nt} (ha:Wn a) (ia:isE a.k) (hb:Wn b) (ib:b.k=26) (hc:Wn c) (ic:c.k=26\/c.k= -1):Wn (.nd 22 [] 0 [a,b,c]):=by simp[Wn,WnL,shp,own];exact⟨⟨_,_,⟨rfl,ib,rfl⟩,ia,ic⟩,ha,hb,hc⟩
theorem w23 {a b:Nt} (ha:Wn a) (ia:isE a.k) (hb:Wn b) (ib:b.k=26):Wn (.nd 23 [] 0 [a,b]):=by simp[Wn,WnL,shp,own];exact⟨⟨_,⟨rfl,ib⟩,ia⟩,ha,hb⟩
theorem w24 {a:Nt} (ha:Wn a) (ia:isE a.k):Wn (.nd 24 [] 0 [a]):=by simp[Wn,WnL,shp,own];exact⟨ia,ha⟩
theorem w25 {a:Nt} (ha:Wn a) (ia:isE a.k):Wn (.nd 25 [] 0 [a]):=by simp[Wn,WnL,shp,own];exact⟨ia,ha⟩
theorem w26 {ps:List Nt} (h:∀p∈ps,Wn p/\17<=p.k/\p.k<=25):Wn (.nd 26 [] 0 ps):=by
 rw[Wn];refine⟨?_,by simp[own],(B2a ps).2 fun p hp=>(h p hp).1⟩;have:∀x∈ps.map Nt.k,17<=x/\x<=25:=fun x hx=>by obtain⟨p,hp,rfl⟩:=List.mem_map.1 hx;exact(h p hp).2
 simpa[shp]using this
def Lv (l d:Nat) (s s':St) (x:Int):Prop:=∃t,Wn t/\isE t.k/\Nft s t s' x/\(wt l (pt t)).length+s.i<=s'.i/\wd l (pt t)<=20 - d
def Gw (l d:Nat) (s:St) (x:Int) (s':St) (y:Int):Prop:=∀s0 t0,Wn t0->isE t0.k->Nft s0 t0 s x->wd l (pt t0)<=20 - d->
 ∃t,Wn t/\isE t.k/\Nft s0 t s' y/\(wt l (pt t)).length+s.i<=(wt l (pt t0)).length+s'.i/\wd l (pt t)<=20 - d
def Li (f a d:Nat) (Q:Nt->Prop) (s s':St) (acc l:List Int):Prop:=∃ps l',l=acc++l'/\(∀p∈ps,Wn p/\Q p)/\NftL s ps s' l'/\(U3 (decide (acc.length=0)) (meL ps)).length+f+s.i<=s'.i/\mx a (meL ps)<=20 - d
def Fl (f d:Nat) (s s':St) (acc l:List Int):Prop:=∃ps l',l=acc++l'/\(∀p∈ps,Wn p/\17<=p.k/\p.k<=25)/\NftL s ps s' l'/\(flT (meL ps)).length+f+s.i<=s'.i/\mx 1 (meL ps)<=20 - d
def lvb (b:Bool):Nat:=if b then 2 else 3
structure NF (L:List Tk) (r:Sp):Prop where
 expr:∀d s s' x,r.expr d s=some (.ok s' x)->d<20/\Lv 1 (d+1) s s' x
 comp:∀d s s' x,r.comp d s=some (.ok s' x)->Lv 1 d s s' x
 sum:∀d s s' x,r.sum d s=some (.ok s' x)->Lv 2 d s s' x
 prod:∀d s s' x,r.prod d s=some (.ok s' x)->Lv 3 d s s' x
 row:∀b d s x s' y,r.row b d s x=some (.ok s' y)->Gw (lvb b) d s x s' y
 oper:∀d s s' x,r.oper d s=some (.ok s' x)->Lv 4 d s s' x
 tail:∀d s x s' y,r.tail d s x=some (.ok s' y)->Gw 5 d s x s' y
 simple:∀d s s' x,r.simple d s=some (.ok s' x)->Lv 5 d s s' x
 listE:∀e d s nm acc s' l,r.list .expr e d s nm acc=some (.ok s' l)->Li 1 1 d (fun p=>isE p.k) s s' acc l
 listO:∀e d s nm acc s' l,nm.Nodup->r.list .obj e d s nm acc=some (.ok s' l)->∃ps l',l=acc++l'/\(nm++ps.map Nt.tx).Nodup/\(∀p∈ps,Wn p/\p.k=15)/\NftL s ps s' l'/\(U3 (decide (acc.length=0)) (meL ps)).length+1+s.i<=s'.i/\mx 0 (meL ps)<=20 - d
 listP:∀e d s nm acc s' l,nm.Nodup->r.list .par e d s nm acc=some (.ok s' l)->∃ps l',l=acc++l'/\(nm++ps.map Nt.tx).Nodup/\(∀p∈ps,Wn p/\p.k=16)/\NftL s ps s' l'/\(U3 (decide (acc.length=0)) (meL ps)).length+1+s.i<=s'.i/\mx 0 (meL ps)<=20 - d
 block:∀d s s' x,r.block d s=some (.ok s' x)->∃t,Wn t/\t.k=26/\Nft s t s' x/\(me t).1.length+s.i<=s'.i/\(me t).2<=20 - d
 blockL:∀d s acc s' l,r.blockL d s acc=some (.ok s' l)->Fl 1 d s s' acc l
 stmt:∀d s s' x,r.stmt d s=some (.ok s' x)->∃t,Wn t/\(17<=t.k/\t.k<=25)/\Nft s t s' x/\(me t).1.length+s.i<=s'.i/\(me t).2+1<=20 - d
 any:∀d s s' x,r.any d s=some (.ok s' x)->∃t,Wn t/\(17<=t.k/\t.k<=25)/\Nft s t s' x/\(me t).1.length+s.i<=s'.i/\(me t).2<=20 - d
 progL:∀d s acc s' l,r.progL d s acc=some (.ok s' l)->Fl 0 d s s' acc l
theorem D6b {L:List Tk} {i:Nat} {ms:List (List UInt8)} (h:isM L i ms=true):(tk L i).text∈ms:=by
 simp only[isM,has,Bool.and_eq_true,List.contains_iff_mem]at h;exact h.2
theorem K4a (t:Nt):(pt t).ts=(me t).1:=rfl
theorem S6a (t:Nt):(pt t).d=(me t).2:=rfl
theorem wt1 (t:Nt) (h:isE t.k):wt 1 (pt t)=(me t).1:=by
 refine E6a _ _ ?_;show 1<=bnd t;cases t with
 |ty o=>simp[bnd]
 |nd k tx n ps=>
  rw[bnd,bnK];repeat' split
  all_goals omega
theorem wd1 (t:Nt) (h:isE t.k):wd 1 (pt t)=(me t).2:=by
 refine E7a _ _ ?_;show 1<=bnd t;cases t with
 |ty o=>simp[bnd]
 |nd k tx n ps=>
  rw[bnd,bnK];repeat' split
  all_goals omega
section
variable {L:List Tk} {r:Sp}
theorem Gw.one {l d:Nat} {s s':St} {x y:Int} {s1:St} {t:Nt} (h:Gw l d s1 x s' y) (hw:Wn t) (hk:isE t.k) (hn:Nft s t s1 x) (hl:(wt l (pt t)).length+s.i<=s1.i) (hd:wd l (pt t)<=20 - d):Lv l d s s' y:=by
 obtain⟨t',a,b,c,e,f⟩:=h s t hw hk hn hd;exact⟨t',a,b,c,by omega,f⟩
theorem V1c (i:NF L r):∀d s s' x,(step L r).expr d s=some (.ok s' x)->d<20/\Lv 1 (d+1) s s' x:=by
 intro d s s' x h;obtain⟨_,hd,h⟩:=H3a h;exact⟨hd,i.comp _ _ _ _ h⟩
theorem F5c {s s1 s':St} {x y:Int} {part:St->Option (Out Int)} (h:two L s1 x part=some (.ok s' y)) {lr d:Nat} (hp:∀s s' x,part s=some (.ok s' x)->Lv lr d s s' x) {t:Nt} (hw:Wn t) (hk:isE t.k) (hn:Nft s t s1 x)
 (hs:(tk L s1.i).text∈[[61,61],[60],[43],[45],[42]]):∃u,Wn u/\isE u.k/\Nft s (.nd 12 (tk L s1.i).text 0 [t,u]) s' y/\(wt lr (pt u)).length+s1.i+1<=s'.i/\wd lr (pt u)<=20 - d/\Wn (.nd 12 (tk L s1.i).text 0 [t,u]):=by
 obtain⟨s2,z,h1,h2⟩:=B7 h;obtain⟨rfl,rfl⟩:=G8 h2;obtain⟨u,a,b,c,e,f⟩:=hp _ _ _ h1;have c:Nft s1 u s2 z:=c;have e:(wt lr (pt u)).length+(s1.i+1)<=s2.i:=e;refine⟨u,a,b,(hn.cons c.l).node _ 12 _ 0 _ rfl, ?_,f,w12 hs hw hk a b⟩;show _<=s2.i;omega
theorem V2c (i:NF L r):∀d s s' x,(step L r).comp d s=some (.ok s' x)->Lv 1 d s s' x:=by
 intro d s s' x h;obtain⟨s1,y,h1,h2⟩:=B7 h;obtain⟨t,a,b,c,e,f⟩:=i.sum _ _ _ _ h1;split at h2
 · rename_i hm;have hm:=D6b hm;have hs:(tk L s1.i).text∈[[61,61],[60],[43],[45],[42]]:=by
    simp only[List.mem_cons,List.not_mem_nil,or_false]at hm;rcases hm with h|h<;>rw[h]<;>decide
   obtain⟨u,a2,b2,c2,e2,f2,w2⟩:=F5c h2 (i.sum d) a b c hs;have hb:bnK 12 (tk L s1.i).text=1:=by
    simp only[List.mem_cons,List.not_mem_nil,or_false]at hm;rcases hm with h|h<;>rw[h]<;>rfl
   have hl:lv (tk L s1.i).text=2:=by rw[lv,hb];rfl
   refine⟨_,w2,by simp[isE,Nt.k],c2, ?_, ?_⟩
   · rw[wt1 _ (by simp[isE,Nt.k]),E9d,hl,hb];simp only[List.length_append,List.length_cons,Nat.reduceAdd];omega
   · rw[wd1 _ (by simp[isE,Nt.k]),E9d,hl,hb];simp only[Nat.reduceAdd];omega
 · obtain⟨rfl,rfl⟩:=I8 h2;have h1:=T9b 1 2 (pt t) (by decide);have h2:=U4b 1 2 (pt t) (by decide);exact⟨t,a,b,c,by omega,by omega⟩
theorem E1d (i:NF L r):∀d s s' x,(step L r).sum d s=some (.ok s' x)->Lv 2 d s s' x:=by
 intro d s s' x h;obtain⟨s1,y,h1,h2⟩:=B7 h;obtain⟨t,a,b,c,e,f⟩:=i.prod _ _ _ _ h1;have h3:=T9b 2 3 (pt t) (by decide);have h4:=U4b 2 3 (pt t) (by decide);exact Gw.one (i.row _ _ _ _ _ _ h2) a b c (by show (wt 2 (pt t)).length+_<=_;omega) (by show wd 2 (pt t)<=_;omega)
theorem U9c (i:NF L r):∀d s s' x,(step L r).prod d s=some (.ok s' x)->Lv 3 d s s' x:=by
 intro d s s' x h;obtain⟨s1,y,h1,h2⟩:=B7 h;obtain⟨t,a,b,c,e,f⟩:=i.oper _ _ _ _ h1;have h3:=T9b 3 4 (pt t) (by decide);have h4:=U4b 3 4 (pt t) (by decide);exact Gw.one (i.row _ _ _ _ _ _ h2) a b c (by show (wt 3 (pt t)).length+_<=_;omega) (by show wd 3 (pt t)<=_;omega)
theorem E3d (i:NF L r):∀b d s x s' y,(step L r).row b d s x=some (.ok s' y)->Gw (lvb b) d s x s' y:=by
 intro b d s x s' y h s0 t0 hw hk hn hd;have h:(if isM L s.i (F7 b) then A3 (two L s x (if b then r.prod d else r.oper d)) fun s y=>r.row b d s y else some (.ok s x))=some (.ok s' y):=h;split at h
 · rename_i hm;have hm:=D6b hm;have hs:(tk L s.i).text∈[[61,61],[60],[43],[45],[42]]:=by
    cases b
    · simp only[F7,List.mem_cons,List.not_mem_nil,or_false]at hm;rw[hm];decide
    · simp only[F7,List.mem_cons,List.not_mem_nil,or_false]at hm;rcases hm with h|h<;>rw[h]<;>decide
   obtain⟨s1,z,h1,h2⟩:=B7 h;have hp:∀s s' x,(if b then r.prod d else r.oper d) s=some (.ok s' x)->Lv (lvb b+1) d s s' x:=by
    cases b
    · exact i.oper d
    · exact i.prod d
   obtain⟨u,a2,b2,c2,e2,f2,w2⟩:=F5c h1 hp hw hk hn hs;have hb:bnK 12 (tk L s.i).text=lvb b/\lv (tk L s.i).text=lvb b:=by
    cases b
    · simp only[F7,List.mem_cons,List.not_mem_nil,or_false]at hm;rw[hm];exact⟨rfl,rfl⟩
    · simp only[F7,List.mem_cons,List.not_mem_nil,or_false]at hm;rcases hm with h|h<;>rw[h]<;>exact⟨rfl,rfl⟩
   have hb1:wt (lvb b) (pt (.nd 12 (tk L s.i).text 0 [t0,u]))=(me (.nd 12 (tk L s.i).text 0 [t0,u])).1:=E6a _ _ (by show lvb b<=bnK 12 _;omega);have hb2:wd (lvb b) (pt (.nd 12 (tk L s.i).text 0 [t0,u]))=(me (.nd 12 (tk L s.i).text 0 [t0,u])).2:=E7a _ _ (by show lvb b<=bnK 12 _;omega);rw[E9d,hb.1,hb.2]at hb1 hb2;simp only at hb1 hb2;obtain⟨t',a3,b3,c3,e3,f3⟩:=i.row _ _ _ _ _ _ h2 s0 _ w2 (by simp[isE,Nt.k]) c2 (by rw[hb2];omega);refine⟨t',a3,b3,c3, ?_,f3⟩;rw[hb1]at e3;simp only[List.length_append,List.length_cons]at e3;omega
 · obtain⟨rfl,rfl⟩:=I8 h;exact⟨t0,hw,hk,hn,by omega,hd⟩
theorem V0c (i:NF L r):∀d s s' x,(step L r).oper d s=some (.ok s' x)->Lv 4 d s s' x:=by
 intro d s s' x h;have h:(if isM L s.i [[33],[45],[116,121,112,101,111,102]] then A3 (inside L (H6a L (s.i+1)) d s.nx r.oper) fun s' x=>addN s' ⟨13,x,0,0,[],(tk L s.i).text,0,-1,(tk L s.i).at'⟩
  else A3 (r.simple d s) fun s x=>r.tail d s x)=some (.ok s' x):=h
 split at h
 · rename_i hm;have hm:=D6b hm;obtain⟨s1,y,h1,h2⟩:=B7 h;obtain⟨_,hd,h1⟩:=H3a h1;obtain⟨rfl,rfl⟩:=G8 h2;obtain⟨t,a,b,c,e,f⟩:=i.oper _ _ _ _ h1;have c:Nft s t s1 y:=c;have e:(wt 4 (pt t)).length+(s.i+1)<=s1.i:=e;refine⟨.nd 13 (tk L s.i).text 0 [t],w13 hm a b,by simp[isE,Nt.k],c.l.node _ 13 _ 0 _ rfl, ?_, ?_⟩
   · rw[E6a _ _ (by show 4<=bnK 13 (tk L s.i).text;exact Nat.le_refl _),K4a,L2d];simp only[List.length_cons];omega
   · rw[E7a _ _ (by show 4<=bnK 13 (tk L s.i).text;exact Nat.le_refl _),S6a,L2d];simp only;omega
 · obtain⟨s1,y,h1,h2⟩:=B7 h;obtain⟨t,a,b,c,e,f⟩:=i.simple _ _ _ _ h1;obtain⟨t',a,b,c,e,f⟩:=Gw.one (i.tail _ _ _ _ _ h2) a b c e f;have h3:=T9b 4 5 (pt t') (by decide);have h4:=U4b 4 5 (pt t') (by decide);exact⟨t',a,b,c,by omega,by omega⟩
theorem U7c (hL:NmL L) (y:YF L r) (i:NF L r):∀d s x s' y,(step L r).tail d s x=some (.ok s' y)->Gw 5 d s x s' y:=by
 intro d s x s' z h s0 t0 hw hk hn hd;have h:(if isM L s.i [[40]] then A3 (r.list .expr [41] d s.nx [] []) fun s' l=>A3 (addN s' ⟨7,x,0,0,l,[],0,-1,atN s x⟩) fun s x=>r.tail d s x
  else if isM L s.i [[46]] then
   if (tk L (s.i+1)).kind=1 then A3 (addN s.nx.nx ⟨8,x,0,0,[],(tk L (s.i+1)).text,0,-1,atN s x⟩) fun s x=>r.tail d s x else flt L (s.i+1) 1
  else if isM L s.i [[91]] then A3 (r.expr d s.nx) fun s' y=>A3 (need L s' [93]) fun s' _=>A3 (addN s' ⟨9,x,y,0,[],[],0,-1,atN s x⟩) fun s x=>r.tail d s x
  else if isM L s.i [[97,115]] then A3 (r.typ d s.nx) fun s' t=>A3 (addN s' ⟨14,x,0,0,[],[],0,t,atN s x⟩) fun s x=>r.tail d s x
  else some (.ok s x))=some (.ok s' z):=h
 split at h
 · obtain⟨s1,l,h1,h⟩:=B7 h;obtain⟨s2,u,h2,h⟩:=B7 h;obtain⟨rfl,rfl⟩:=G8 h2;obtain⟨ps,l',rfl,a,c,e,f⟩:=i.listE _ _ _ _ _ _ _ h1;have c:NftL s ps s1 l:=c;have e:(U3 true (meL ps)).length+1+(s.i+1)<=s1.i:=e;have hb1:wt 5 (pt (.nd 7 [] 0 (t0::ps)))=(me (.nd 7 [] 0 (t0::ps))).1:=E6a _ _ (by show 5<=bnK 7 [];exact Nat.le_refl _);have hb2:wd 5 (pt (.nd 7 [] 0 (t0::ps)))=(me (.nd 7 [] 0 (t0::ps))).2:=E7a _ _ (by show 5<=bnK 7 [];exact Nat.le_refl _);rw[me7]at hb1 hb2;simp only at hb1 hb2;obtain⟨t',a3,b3,c3,e3,f3⟩:=i.tail _ _ _ _ _ h s0 _ (w7 hw hk a) (by simp[isE,Nt.k]) ((hn.cons c).node _ 7 [] 0 _ rfl) (by rw[hb2];omega);refine⟨t',a3,b3,c3, ?_,f3⟩;rw[hb1]at e3;simp only[List.length_append,List.length_cons,List.length_nil]at e3;omega
 split at h
 · split at h
   · rename_i hnm;obtain⟨s2,u,h2,h⟩:=B7 h;obtain⟨rfl,rfl⟩:=G8 h2;have hb1:wt 5 (pt (.nd 8 (tk L (s.i+1)).text 0 [t0]))=(me (.nd 8 (tk L (s.i+1)).text 0 [t0])).1:=E6a _ _ (by show 5<=bnK 8 (tk L (s.i+1)).text;exact Nat.le_refl _);have hb2:wd 5 (pt (.nd 8 (tk L (s.i+1)).text 0 [t0]))=(me (.nd 8 (tk L (s.i+1)).text 0 [t0])).2:=E7a _ _ (by show 5<=bnK 8 (tk L (s.i+1)).text;exact Nat.le_refl _);rw[me8]at hb1 hb2;simp only at hb1 hb2;obtain⟨t',a3,b3,c3,e3,f3⟩:=i.tail _ _ _ _ _ h s0 _ (w8 (hL _ hnm) hw hk) (by simp[isE,Nt.k]) (NftL.node (s':=s.nx.nx) hn.l _ 8 _ 0 _ rfl) (by rw[hb2];omega);refine⟨t',a3,b3,c3, ?_,f3⟩;rw[hb1]at e3;have e3:_+(s.i+1+1)<=_:=e3;simp only[List.length_append,List.length_cons,List.length_nil]at e3;omega
   · simp[flt]at h
 split at h
 · obtain⟨s1,y1,h1,h⟩:=B7 h;obtain⟨s2,_,h2,h⟩:=B7 h;obtain⟨_,rfl⟩:=J1 h2;obtain⟨s3,u,h3,h⟩:=B7 h;obtain⟨rfl,rfl⟩:=G8 h3;obtain⟨hdd,t,a,b,c,e,f⟩:=i.expr _ _ _ _ h1;rw[wt1 _ b]at e;rw[wd1 _ b]at f;have c:Nft s t s1.nx y1:=c;have e:(me t).1.length+(s.i+1)<=s1.i:=e;have hb1:wt 5 (pt (.nd 9 [] 0 [t0,t]))=(me (.nd 9 [] 0 [t0,t])).1:=E6a _ _ (by show 5<=bnK 9 [];exact Nat.le_refl _);have hb2:wd 5 (pt (.nd 9 [] 0 [t0,t]))=(me (.nd 9 [] 0 [t0,t])).2:=E7a _ _ (by show 5<=bnK 9 [];exact Nat.le_refl _);rw[me9]at hb1 hb2;simp only at hb1 hb2;obtain⟨t',a3,b3,c3,e3,f3⟩:=i.tail _ _ _ _ _ h s0 _ (w9 hw hk a b) (by simp[isE,Nt.k]) ((hn.cons c.l).node _ 9 [] 0 _ rfl) (by rw[hb2];omega);refine⟨t',a3,b3,c3, ?_,f3⟩;rw[hb1]at e3;have e3:_+(s1.i+1)<=_:=e3;simp only[List.length_append,List.length_cons,List.length_nil]at e3;omega
 split at h
 · obtain⟨s1,y1,h1,h⟩:=B7 h;obtain⟨s3,u,h3,h⟩:=B7 h;obtain⟨rfl,rfl⟩:=G8 h3;obtain⟨t,a,c,e,f,_⟩:=y.typ _ _ _ _ h1;have c:Nft s (.ty (some t)) s1 y1:=Yft.n c;have e:(tks t).length+(s.i+1)<=s1.i:=e;have hb1:wt 5 (pt (.nd 14 [] 0 [t0,.ty (some t)]))=(me (.nd 14 [] 0 [t0,.ty (some t)])).1:=E6a _ _ (by show 5<=bnK 14 [];exact Nat.le_refl _);have hb2:wd 5 (pt (.nd 14 [] 0 [t0,.ty (some t)]))=(me (.nd 14 [] 0 [t0,.ty (some t)])).2:=E7a _ _ (by show 5<=bnK 14 [];exact Nat.le_refl _);rw[me14,me]at hb1 hb2;simp only at hb1 hb2;obtain⟨t',a3,b3,c3,e3,f3⟩:=i.tail _ _ _ _ _ h s0 _ (w14 hw hk a) (by simp[isE,Nt.k]) ((hn.cons c.l).node _ 14 [] 0 _ rfl) (by rw[hb2];omega);refine⟨t',a3,b3,c3, ?_,f3⟩;rw[hb1]at e3;simp only[List.length_append,List.length_cons]at e3;omega
 · obtain⟨rfl,rfl⟩:=I8 h;exact⟨t0,hw,hk,hn,by omega,hd⟩
def VaL (L:List Tk):Prop:=∀i,(tk L i).kind=3->0<=E8a (tk L i).text/\E8a (tk L i).text<=999999999
def TxL (L:List Tk):Prop:=∀i,(tk L i).kind=4->(tk L i).text.length<=30/\∀c∈(tk L i).text,txt c.toNat=true
theorem M0a (y:YF L r) {d:Nat} {s s':St} {x:Int} (h:typeIf L r d s=some (.ok s' x)):∃t,Wn t/\isT t.k/\Nft s t s' x/\(Q0a (pt t)).length+s.i<=s'.i/\(me t).2<=20 - d:=by
 unfold typeIf at h;split at h
 · obtain⟨t,a,c,e,f,_⟩:=y.typ _ _ _ _ h;have c:Nft s (.ty (some t)) s' x:=Yft.n c;have e:(tks t).length+(s.i+1)<=s'.i:=e;refine⟨.ty (some t),a,.inr rfl,c, ?_,f⟩;have:Q0a (pt (.ty (some t)))=sg [58]::tks t:=rfl;rw[this];simp only[List.length_cons];omega
 · obtain⟨rfl,rfl⟩:=I8 h;exact⟨.ty none,trivial,.inl rfl,Nft.none s,by simp[Q0a,pt,Nt.k],Nat.zero_le _⟩
theorem B2c {d:Nat} {s:St} (k:Int) (tx:List UInt8) (n:Int) (at':Int) (hw:Wn (.nd k tx n [])) (hk:isE k) (hk2:bnK k tx=5) (hm:(me (.nd k tx n [])).1.length=1/\(me (.nd k tx n [])).2=0) (hn:mkN k tx n []=⟨k,0,0,0,[],tx,n,-1,0⟩):
 Lv 5 d s ⟨s.nx.i,s.nx.N++[⟨k,0,0,0,[],tx,n,-1,at'⟩],s.nx.T⟩ s.nx.N.length:=by
 refine⟨_,hw,hk,NftL.node (s':=s.nx) (NftL.nil s) _ k tx n _ (by rw[hn];rfl), ?_, ?_⟩
 · rw[E6a _ _ (by show 5<=bnK k tx;omega),K4a,hm.1];show 1+s.i<=s.i+1;omega
 · rw[E7a _ _ (by show 5<=bnK k tx;omega),S6a,hm.2];omega
theorem A5c (hL:NmL L) (hV:VaL L) (hX:TxL L) (y:YF L r) (i:NF L r):∀d s s' x,(step L r).simple d s=some (.ok s' x)->Lv 5 d s s' x:=by
 intro d s s' x h;have h:(if (tk L s.i).kind=3 then addN s.nx ⟨1,0,0,0,[],[],E8a (tk L s.i).text,-1,(tk L s.i).at'⟩
  else if (tk L s.i).kind=4 then addN s.nx ⟨2,0,0,0,[],(tk L s.i).text,0,-1,(tk L s.i).at'⟩
  else if (tk L s.i).kind=1 then addN s.nx ⟨5,0,0,0,[],(tk L s.i).text,0,-1,(tk L s.i).at'⟩
  else if isM L s.i [[116,114,117,101]] then addN s.nx ⟨3,0,0,0,[],[],1,-1,(tk L s.i).at'⟩
  else if isM L s.i [[102,97,108,115,101]] then addN s.nx ⟨3,0,0,0,[],[],0,-1,(tk L s.i).at'⟩
  else if isM L s.i [[110,117,108,108]] then addN s.nx ⟨4,0,0,0,[],[],0,-1,(tk L s.i).at'⟩
  else if isM L s.i [[102,110]] then A3 (need L s.nx [40]) fun s1 _=>A3 (r.list .par [41] d s1 [] []) fun s2 l=>A3 (typeIf L r d s2) fun s3 t=>A3 (r.block d s3) fun s4 x=>
   addN s4 ⟨6,x,0,0,l,[],0,t,(tk L s.i).at'⟩
  else if isM L s.i [[91]] then A3 (r.list .expr [93] d s.nx [] []) fun s' l=>addN s' ⟨11,0,0,0,l,[],0,-1,(tk L s.i).at'⟩
  else if isM L s.i [[123]] then A3 (r.list .obj [125] d s.nx [] []) fun s' l=>addN s' ⟨10,0,0,0,l,[],0,-1,(tk L s.i).at'⟩
  else A3 (need L s [40]) fun s _=>A3 (r.expr d s) fun s x=>A3 (need L s [41]) fun s _=>some (.ok s x))=some (.ok s' x):=h
 split at h
 · rename_i hk;obtain⟨rfl,rfl⟩:=G8 h;exact B2c 1 [] _ _ (w1 (hV _ hk)) (by simp[isE]) rfl ⟨rfl,rfl⟩ rfl
 split at h
 · rename_i hk;obtain⟨rfl,rfl⟩:=G8 h;exact B2c 2 _ 0 _ (w2 (hX _ hk)) (by simp[isE]) rfl ⟨rfl,rfl⟩ rfl
 split at h
 · rename_i hk;obtain⟨rfl,rfl⟩:=G8 h;exact B2c 5 _ 0 _ (w5 (hL _ hk)) (by simp[isE]) rfl ⟨rfl,rfl⟩ rfl
 split at h
 · obtain⟨rfl,rfl⟩:=G8 h;exact B2c 3 [] 1 _ (w3 (.inr rfl)) (by simp[isE]) rfl ⟨rfl,rfl⟩ rfl
 split at h
 · obtain⟨rfl,rfl⟩:=G8 h;exact B2c 3 [] 0 _ (w3 (.inl rfl)) (by simp[isE]) rfl ⟨rfl,rfl⟩ rfl
 split at h
 · obtain⟨rfl,rfl⟩:=G8 h;exact B2c 4 [] 0 _ w4 (by simp[isE]) rfl ⟨rfl,rfl⟩ rfl
 split at h
 · obtain⟨s1,_,h1,h⟩:=B7 h;obtain⟨_,rfl⟩:=J1 h1;obtain⟨s2,l,h2,h⟩:=B7 h;obtain⟨s3,t,h3,h⟩:=B7 h;obtain⟨s4,b,h4,h⟩:=B7 h;obtain⟨rfl,rfl⟩:=G8 h;obtain⟨ps,l',rfl,nd,a1,c1,e1,f1⟩:=i.listP _ _ _ _ _ _ _ (by simp) h2;obtain⟨ta,a2,i2,c2,e2,f2⟩:=M0a y h3;obtain⟨tb,a3,i3,c3,e3,f3⟩:=i.block _ _ _ _ h4;have c1:NftL s ps s2 l:=c1;have e1:(U3 true (meL ps)).length+1+(s.i+1+1)<=s2.i:=e1;have hc:NftL s (ps++[ta,tb]) s4 (l++[t,b]):=c1.app (c2.cons c3.l);refine⟨.nd 6 [] 0 (ps++[ta,tb]),w6 a1 (by simpa using nd) a2 i2 a3 i3,by simp[isE,Nt.k],hc.node _ 6 [] 0 _ ?_, ?_, ?_⟩
   · show _=(⟨6,(l++[t,b]).getLastD 0,0,0,(l++[t,b]).dropLast.dropLast,[],0,(l++[t,b]).dropLast.getLastD 0,0⟩:Nd);rw[dl3,dl4,dl5];rfl
   · rw[E6a _ _ (by show 5<=bnK 6 [];exact Nat.le_refl _),K4a,me6];simp only[List.length_append,List.length_cons];show _<=s4.i;omega
   · rw[E7a _ _ (by show 5<=bnK 6 [];exact Nat.le_refl _),S6a,me6];simp only;omega
 split at h
 · obtain⟨s1,l,h1,h⟩:=B7 h;obtain⟨rfl,rfl⟩:=G8 h;obtain⟨ps,l',rfl,a,c,e,f⟩:=i.listE _ _ _ _ _ _ _ h1;have c:NftL s ps s1 l:=c;have e:(U3 true (meL ps)).length+1+(s.i+1)<=s1.i:=e;refine⟨.nd 11 [] 0 ps,w11 a,by simp[isE,Nt.k],c.node _ 11 [] 0 _ rfl, ?_, ?_⟩
   · rw[E6a _ _ (by show 5<=bnK 11 [];exact Nat.le_refl _),K4a,L3d];simp only[List.length_append,List.length_cons,List.length_nil];show _<=s1.i;omega
   · rw[E7a _ _ (by show 5<=bnK 11 [];exact Nat.le_refl _),S6a,L3d];exact f
 split at h
 · obtain⟨s1,l,h1,h⟩:=B7 h;obtain⟨rfl,rfl⟩:=G8 h;obtain⟨ps,l',rfl,nd,a,c,e,f⟩:=i.listO _ _ _ _ _ _ _ (by simp) h1;have c:NftL s ps s1 l:=c;have e:(U3 true (meL ps)).length+1+(s.i+1)<=s1.i:=e;refine⟨.nd 10 [] 0 ps,w10 a (by simpa using nd),by simp[isE,Nt.k],c.node _ 10 [] 0 _ rfl, ?_, ?_⟩
   · rw[E6a _ _ (by show 5<=bnK 10 [];exact Nat.le_refl _),K4a,L4d];simp only[List.length_append,List.length_cons,List.length_nil];show _<=s1.i;omega
   · rw[E7a _ _ (by show 5<=bnK 10 [];exact Nat.le_refl _),S6a,L4d];exact f
 · obtain⟨s1,_,h1,h⟩:=B7 h;obtain⟨_,rfl⟩:=J1 h1;obtain⟨s2,z,h2,h⟩:=B7 h;obtain⟨s3,_,h3,h⟩:=B7 h;obtain⟨_,rfl⟩:=J1 h3;obtain⟨rfl,rfl⟩:=I8 h;obtain⟨hd,t,a,b,c,e,f⟩:=i.expr _ _ _ _ h2;rw[wt1 _ b]at e;rw[wd1 _ b]at f;have c:Nft s t s2.nx z:=c;have e:(me t).1.length+(s.i+1)<=s2.i:=e;have h1:=I4d 5 (pt t);have h2:=I6d 5 (pt t);rw[K4a]at h1;rw[S6a]at h2;refine⟨t,a,b,c, ?_,by omega⟩;show _<=s2.i+1;omega
theorem O6b {s s1:St} {acc:List Int} {u:Unit} (h:(if acc.length=0 then some (.ok s ()) else need L s [44])=some (.ok s1 u)):s1.N=s.N/\s1.T=s.T/\s1.i=s.i+(if acc.length=0 then 0 else 1):=by
 split at h
 · rename_i h0;obtain⟨rfl,_⟩:=I8 h;exact⟨rfl,rfl,by rw[if_pos h0];rfl⟩
 · rename_i h0;obtain⟨_,rfl⟩:=J1 h;exact⟨rfl,rfl,by rw[if_neg h0];rfl⟩
theorem Nft.base {s s1 s':St} {t:Nt} {x:Int} (h:Nft s1 t s' x) (hN:s1.N=s.N) (hT:s1.T=s.T):Nft s t s' x:=by
 obtain⟨a,b,c⟩:=h;rw[hN,hT]at *;exact⟨a,b,c⟩
theorem D3b (acc:List Int) (y:Int) (t:Nt) (ps:List Nt) {i i1 i3 j:Nat} (h1:i1=i+(if acc.length=0 then 0 else 1)) (h2:(me t).1.length+i1<=i3) (h3:(U3 (decide ((acc++[y]).length=0)) (meL ps)).length+1+i3<=j):(U3 (decide (acc.length=0)) (meL (t::ps))).length+1+i<=j:=by
 have hf:decide ((acc++[y]).length=0)=false:=by simp
 rw[hf]at h3;simp only[W9,U3,List.length_append,K4a];by_cases h0:acc.length=0
 · rw[if_pos h0]at h1;rw[decide_eq_true h0,if_pos rfl];simp only[List.length_nil];omega
 · rw[if_neg h0]at h1;rw[decide_eq_false h0];simp only[Bool.false_eq_true,if_false,List.length_cons,List.length_nil];omega
theorem K5c (i:NF L r):∀e d s nm acc s' l,(step L r).list .expr e d s nm acc=some (.ok s' l)->Li 1 1 d (fun p=>isE p.k) s s' acc l:=by
 intro e d s nm acc s' l h;have h:(if isM L s.i [e] then some (.ok s.nx acc)
  else A3 (if acc.length=0 then some (.ok s ()) else need L s [44]) fun s _=>A3 (part L r d s nm .expr) fun s x=>r.list .expr e d s x.2 (acc++[x.1]))=some (.ok s' l):=h
 split at h
 · obtain⟨rfl,rfl⟩:=I8 h;refine⟨[],[],by simp,by simp,NftL.nil s, ?_,by simp[mx,meL]⟩;show (U3 _ []).length+1+s.i<=s.i+1;simp[U3];omega
 · obtain⟨s1,_,h1,h⟩:=B7 h;have e1:=O6b h1;obtain⟨s2,x,h2,h⟩:=B7 h;obtain⟨s3,y,h3,h4⟩:=B7 h2;obtain⟨rfl,rfl⟩:=I8 h4;obtain⟨hd,t,a,b,c,e,f⟩:=i.expr _ _ _ _ h3;rw[wt1 _ b]at e;rw[wd1 _ b]at f;have c:=c.base e1.1 e1.2.1;obtain⟨ps,l',rfl,w2,y2,l2,d2⟩:=i.listE _ _ _ _ _ _ _ h;refine⟨t::ps,y::l',by simp,fun p hp=> ?_,c.cons y2,D3b acc y t ps e1.2.2 e l2, ?_⟩
   · rcases List.mem_cons.1 hp with rfl|hp
     · exact⟨a,b⟩
     · exact w2 p hp
   · rw[W9,mx,S6a];omega
theorem W0b {nm:List (List UInt8)} {x:List UInt8} (h:nm.Nodup) (hx:x ∉ nm):(nm++[x]).Nodup:=by
 rw[List.nodup_append];exact⟨h,by simp,fun a ha b hb=>by simp at hb;subst hb;rintro rfl;exact hx ha⟩
theorem K4c (hL:NmL L) (i:NF L r):∀e d s nm acc s' l,nm.Nodup->(step L r).list .obj e d s nm acc=some (.ok s' l)->∃ps l',l=acc++l'/\(nm++ps.map Nt.tx).Nodup/\(∀p∈ps,Wn p/\p.k=15)/\NftL s ps s' l'/\(U3 (decide (acc.length=0)) (meL ps)).length+1+s.i<=s'.i/\mx 0 (meL ps)<=20 - d:=by
 intro e d s nm acc s' l hnd h;have h:(if isM L s.i [e] then some (.ok s.nx acc)
  else A3 (if acc.length=0 then some (.ok s ()) else need L s [44]) fun s _=>A3 (part L r d s nm .obj) fun s x=>r.list .obj e d s x.2 (acc++[x.1]))=some (.ok s' l):=h
 split at h
 · obtain⟨rfl,rfl⟩:=I8 h;refine⟨[],[],by simp,by simpa using hnd,by simp,NftL.nil s, ?_,by simp[mx,meL]⟩;show (U3 _ []).length+1+s.i<=s.i+1;simp[U3];omega
 · obtain⟨s1,_,h1,h⟩:=B7 h;have e1:=O6b h1;obtain⟨s2,x,h2,h⟩:=B7 h;obtain⟨s3,n,h3,h2⟩:=B7 h2;obtain⟨hk,hn,hni,rfl⟩:=newName_ok h3;obtain⟨s4,_,h4,h2⟩:=B7 h2;obtain⟨_,rfl⟩:=J1 h4;obtain⟨s5,y,h5,h2⟩:=B7 h2;obtain⟨s6,z,h6,h2⟩:=B7 h2;obtain⟨rfl,rfl⟩:=G8 h6;obtain⟨rfl,rfl⟩:=I8 h2;obtain⟨hd,t,a,b,c,e,f⟩:=i.expr _ _ _ _ h5;rw[wt1 _ b]at e;rw[wd1 _ b]at f;have c:Nft s t s5 y:=Nft.base (s1:=s1) c e1.1 e1.2.1;have e:(me t).1.length+(s1.i+1+1)<=s5.i:=e;obtain⟨ps,l',rfl,nd,w2,y2,l2,d2⟩:=i.listO _ _ _ _ _ _ _ (W0b hnd hni) h;have c':=c.l.node s5.i 15 n 0 ⟨15,y,0,0,[],n,0,-1,(tk L s1.i).at'⟩ rfl;refine⟨.nd 15 n 0 [t]::ps,_::l',by simp,by simpa[Nt.tx]using nd,fun p hp=> ?_,c'.cons y2,D3b acc _ _ ps e1.2.2 ?_ l2, ?_⟩
   · rcases List.mem_cons.1 hp with rfl|hp
     · exact⟨w15 (by rw[hn];exact hL _ hk) a b,rfl⟩
     · exact w2 p hp
   · rw[L1d];simp only[List.length_cons];show _<=s5.i;omega
   · rw[W9,mx,S6a,L1d];simp only;omega
theorem K3c (hL:NmL L) (y:YF L r) (i:NF L r):∀e d s nm acc s' l,nm.Nodup->(step L r).list .par e d s nm acc=some (.ok s' l)->∃ps l',l=acc++l'/\(nm++ps.map Nt.tx).Nodup/\(∀p∈ps,Wn p/\p.k=16)/\NftL s ps s' l'/\(U3 (decide (acc.length=0)) (meL ps)).length+1+s.i<=s'.i/\mx 0 (meL ps)<=20 - d:=by
 intro e d s nm acc s' l hnd h;have h:(if isM L s.i [e] then some (.ok s.nx acc)
  else A3 (if acc.length=0 then some (.ok s ()) else need L s [44]) fun s _=>A3 (part L r d s nm .par) fun s x=>r.list .par e d s x.2 (acc++[x.1]))=some (.ok s' l):=h
 split at h
 · obtain⟨rfl,rfl⟩:=I8 h;refine⟨[],[],by simp,by simpa using hnd,by simp,NftL.nil s, ?_,by simp[mx,meL]⟩;show (U3 _ []).length+1+s.i<=s.i+1;simp[U3];omega
 · obtain⟨s1,_,h1,h⟩:=B7 h;have e1:=O6b h1;obtain⟨s2,x,h2,h⟩:=B7 h;obtain⟨s3,n,h3,h2⟩:=B7 h2;obtain⟨hk,hn,hni,rfl⟩:=newName_ok h3;obtain⟨s5,z,h5,h2⟩:=B7 h2;obtain⟨s6,u,h6,h2⟩:=B7 h2;obtain⟨rfl,rfl⟩:=G8 h6;obtain⟨rfl,rfl⟩:=I8 h2;obtain⟨t,a,b,c,e,f⟩:=M0a y h5;have c:Nft s t s5 z:=Nft.base (s1:=s1) c e1.1 e1.2.1;have e:(Q0a (pt t)).length+(s1.i+1)<=s5.i:=e;obtain⟨ps,l',rfl,nd,w2,y2,l2,d2⟩:=i.listP _ _ _ _ _ _ _ (W0b hnd hni) h;have c':=c.l.node s5.i 16 n 0 ⟨16,0,0,0,[],n,0,z,(tk L s1.i).at'⟩ rfl;refine⟨.nd 16 n 0 [t]::ps,_::l',by simp,by simpa[Nt.tx]using nd,fun p hp=> ?_,c'.cons y2,D3b acc _ _ ps e1.2.2 ?_ l2, ?_⟩
   · rcases List.mem_cons.1 hp with rfl|hp
     · exact⟨w16 (by rw[hn];exact hL _ hk) a b,rfl⟩
     · exact w2 p hp
   · rw[L0d];simp only[List.length_cons];show _<=s5.i;omega
   · rw[W9,mx,S6a,L0d];simp only;omega
theorem K6c (i:NF L r):∀d s s' x,(step L r).block d s=some (.ok s' x)->∃t,Wn t/\t.k=26/\Nft s t s' x/\(me t).1.length+s.i<=s'.i/\(me t).2<=20 - d:=by
 intro d s s' x h;obtain⟨s1,_,h1,h⟩:=B7 h;obtain⟨_,rfl⟩:=J1 h1;obtain⟨s2,l,h2,h⟩:=B7 h;obtain⟨rfl,rfl⟩:=G8 h;obtain⟨ps,l',rfl,a,c,e,f⟩:=i.blockL _ _ _ _ _ h2;have c:NftL s ps s2 l:=c;have e:(flT (meL ps)).length+1+(s.i+1)<=s2.i:=e;refine⟨.nd 26 [] 0 ps,w26 a,rfl,c.node _ 26 [] 0 _ rfl, ?_, ?_⟩
 · rw[K0d];simp only[List.length_append,List.length_cons,List.length_nil];show _<=s2.i;omega
 · rw[K0d];exact f
theorem A6c (i:NF L r):∀d s acc s' l,(step L r).blockL d s acc=some (.ok s' l)->Fl 1 d s s' acc l:=by
 intro d s acc s' l h;have h:(if isM L s.i [[125]] then some (.ok s.nx acc) else A3 (r.stmt d s) fun s x=>r.blockL d s (acc++[x]))=some (.ok s' l):=h;split at h
 · obtain⟨rfl,rfl⟩:=I8 h;refine⟨[],[],by simp,by simp,NftL.nil s, ?_,by simp[mx,meL]⟩;show (flT []).length+1+s.i<=s.i+1;simp[flT];omega
 · obtain⟨s1,x,h1,h⟩:=B7 h;obtain⟨t,a,b,c,e,f⟩:=i.stmt _ _ _ _ h1;obtain⟨ps,l',rfl,w2,y2,l2,d2⟩:=i.blockL _ _ _ _ _ h;refine⟨t::ps,x::l',by simp,fun p hp=> ?_,c.cons y2, ?_, ?_⟩
   · rcases List.mem_cons.1 hp with rfl|hp
     · exact⟨a,b⟩
     · exact w2 p hp
   · rw[W9,flT,List.length_append,K4a];omega
   · rw[W9,mx,S6a];omega
theorem K1c (i:NF L r):∀d s acc s' l,(step L r).progL d s acc=some (.ok s' l)->Fl 0 d s s' acc l:=by
 intro d s acc s' l h;have h:(if (tk L s.i).kind=6 then some (.ok s acc) else A3 (r.stmt d s) fun s x=>r.progL d s (acc++[x]))=some (.ok s' l):=h;split at h
 · obtain⟨rfl,rfl⟩:=I8 h;refine⟨[],[],by simp,by simp,NftL.nil s, ?_,by simp[mx,meL]⟩;simp[flT,meL]
 · obtain⟨s1,x,h1,h⟩:=B7 h;obtain⟨t,a,b,c,e,f⟩:=i.stmt _ _ _ _ h1;obtain⟨ps,l',rfl,w2,y2,l2,d2⟩:=i.progL _ _ _ _ _ h;refine⟨t::ps,x::l',by simp,fun p hp=> ?_,c.cons y2, ?_, ?_⟩
   · rcases List.mem_cons.1 hp with rfl|hp
     · exact⟨a,b⟩
     · exact w2 p hp
   · rw[W9,flT,List.length_append,K4a];omega
   · rw[W9,mx,S6a];omega
theorem U8c (i:NF L r):∀d s s' x,(step L r).stmt d s=some (.ok s' x)->∃t,Wn t/\(17<=t.k/\t.k<=25)/\Nft s t s' x/\(me t).1.length+s.i<=s'.i/\(me t).2+1<=20 - d:=by
 intro d s s' x h;obtain⟨_,hd,h⟩:=H3a h;obtain⟨t,a,b,c,e,f⟩:=i.any _ _ _ _ h;exact⟨t,a,b,c,e,by omega⟩
end
theorem A6a (k:Int) (tx:List UInt8) (n:Int) (l:List Int):(mkN k tx n l).kind=k:=by
 unfold mkN;repeat' split
 all_goals (first|rfl|(simp only;omega))
theorem Nft.split {s s1:St} {k:Int} {tx:List UInt8} {n:Int} {ps:List Nt} {x:Int} (h:Nft s (.nd k tx n ps) s1 x) (i:Nat):
 ∃l,(s1.N.getD x.toNat nd0).fl=mkN k tx n l/\NftL s ps ⟨i,s1.N.take x.toNat,s1.T⟩ l:=by
 have hl:=h.lenN;obtain⟨h1,h2,h3⟩:=h;rw[ixN,nN]at h3;rw[nN]at hl;have hx:x.toNat=s.N.length+nNL ps:=by omega
 have hi:x.toNat<s1.N.length:=by omega
 have e:s1.N=s1.N.take x.toNat++[s1.N.getD x.toNat nd0]:=by
  have:s1.N.getD x.toNat nd0=s1.N[x.toNat]:=by simp[hi]
  rw[this,<-List.take_succ_eq_append_getElem hi,List.take_of_length_le (by omega)]
 rw[e,emN,List.map_append,List.map_cons,List.map_nil,<-List.append_assoc]at h1;have hlen:(s1.N.take x.toNat).map Nd.fl=s.N.map Nd.fl++M9 s.N.length s.T.length ps/\[(s1.N.getD x.toNat nd0).fl]=[mkN k tx n (ixL s.N.length s.T.length ps)]:=by
  refine List.append_inj h1 ?_;rw[List.length_map,List.length_take,List.length_append,List.length_map,M7];omega
 exact⟨_,by simpa using hlen.2,hlen.1,h2,rfl⟩
theorem F2d {t:Nt} (h:isE t.k):∃k tx n ps,t= .nd k tx n ps:=by
 cases t with
 |nd k tx n ps=>exact⟨k,tx,n,ps,rfl⟩
 |ty o=>cases o<;>simp[isE,Nt.k]at h
section
variable {L:List Tk} {r:Sp}
theorem E2d (i:NF L r) {d:Nat} {s s1 s':St} {x y:Int} (h1:r.expr d s=some (.ok s1 x)) (hk:H5a (s1.N.getD x.toNat nd0).kind≠0)
 (h:(A3 (r.expr d ⟨s1.i+1,s1.N.take x.toNat,s1.T⟩) fun s2 v=>A3 (need L s2 [59]) fun s3 _=>addN s3 (C6a (s1.N.getD x.toNat nd0) v))=some (.ok s' y)):
 ∃t,Wn t/\(17<=t.k/\t.k<=25)/\Nft s t s' y/\(me t).1.length+s.i<=s'.i/\(me t).2<=20 - d:=by
 obtain⟨hd,t,a,b,c,e,f⟩:=i.expr _ _ _ _ h1;rw[wt1 _ b]at e;rw[wd1 _ b]at f;obtain⟨s2,v,h2,h⟩:=B7 h;obtain⟨s3,_,h3,h⟩:=B7 h;obtain⟨_,rfl⟩:=J1 h3;obtain⟨rfl,rfl⟩:=G8 h;obtain⟨k,tx,n,ps,rfl⟩:=F2d b;obtain⟨l,hm,hl⟩:=c.split (s1.i+1);obtain⟨_,u,a2,b2,c2,e2,f2⟩:=i.expr _ _ _ _ h2;rw[wt1 _ b2]at e2;rw[wd1 _ b2]at f2;have e2:(me u).1.length+(s1.i+1)<=s2.i:=e2;have hc:=hl.app c2.l;generalize s1.N.getD x.toNat nd0=m at hm hk;have hkk:m.kind=k:=by
  have:=congrArg Nd.kind hm;rw[A6a]at this;exact this
 rw[hkk]at hk;rw[Wn]at a;obtain⟨sh,ow,wl⟩:=a;have hkc:k=5\/k=8\/k=9:=by
  unfold H5a at hk;split at hk
  · exact .inl (by assumption)
  split at hk
  · exact .inr (.inl (by assumption))
  split at hk
  · exact .inr (.inr (by assumption))
  · exact absurd rfl hk
 have hc:NftL s (ps++[u]) s2.nx (l++[v]):=hc;rcases hkc with rfl|rfl|rfl
 · have hps:ps=[]:=by simpa[shp]using sh
   subst hps;have hll:l=[]:=hl.2.2;subst hll;have ow:N8 tx/\n=0:=ow;obtain⟨mk,ma,mb,mc,ml,mt,mn,my,mat⟩:=m;simp[Nd.fl,mkN]at hm;obtain⟨rfl,rfl,rfl,rfl,rfl,rfl,rfl,rfl⟩:=hm;rw[me5]at e f;have hn:=hc.node s2.nx.i 18 mt 0 (C6a ⟨5,0,0,0,[],mt,mn,-1,mat⟩ v) (by rw[ow.2];rfl);refine⟨.nd 18 mt 0 [u],w18 ow.1 a2 b2,by simp[Nt.k],hn, ?_, ?_⟩
   · rw[K8d];simp only[List.length_append,List.length_cons,List.length_nil]at e⊢;show _<=s2.i+1;omega
   · rw[K8d];simp only;omega
 · obtain⟨q,hq,hqe⟩:∃q,ps.map Nt.k=[q]/\isE q:=by simpa[shp]using sh
   obtain⟨p,rfl,rfl⟩:=k1 hq;have ow:N8 tx/\n=0:=ow;have hll:l=[ixN s.N.length s.T.length p]:=hl.2.2;subst hll;obtain⟨mk,ma,mb,mc,ml,mt,mn,my,mat⟩:=m;simp[Nd.fl,mkN]at hm;obtain⟨rfl,rfl,rfl,rfl,rfl,rfl,rfl,rfl⟩:=hm;rw[me8]at e f;have hn:=hc.node s2.nx.i 19 mt 0 (C6a ⟨8,ixN s.N.length s.T.length p,0,0,[],mt,mn,-1,mat⟩ v) (by rw[ow.2];rfl);refine⟨.nd 19 mt 0 [p,u],w19 ow.1 wl.1 hqe a2 b2,by simp[Nt.k],hn, ?_, ?_⟩
   · rw[K7d];simp only[List.length_append,List.length_cons,List.length_nil]at e⊢;show _<=s2.i+1;omega
   · rw[K7d];simp only at f⊢;omega
 · obtain⟨q,q2,hq,hqe,hqe2⟩:∃q q2,ps.map Nt.k=[q,q2]/\isE q/\isE q2:=by simpa[shp]using sh
   obtain⟨p,p2,rfl,rfl,rfl⟩:=k2 hq;have ow:tx=[]/\n=0:=by simpa[own]using ow
   obtain⟨rfl,rfl⟩:=ow;obtain⟨p',p2',hll⟩:∃a b,l=[a,b]:=⟨_,_,hl.2.2⟩;subst hll;obtain⟨mk,ma,mb,mc,ml,mt,mn,my,mat⟩:=m;simp[Nd.fl,mkN]at hm;obtain⟨rfl,rfl,rfl,rfl,rfl,rfl,rfl,rfl⟩:=hm;rw[me9]at e f;have hn:=hc.node s2.nx.i 20 [] 0 (C6a ⟨9,ma,mb,0,[],[],0,-1,mat⟩ v) rfl;refine⟨.nd 20 [] 0 [p,p2,u],w20 wl.1 hqe wl.2.1 hqe2 a2 b2,by simp[Nt.k],hn, ?_, ?_⟩
   · rw[K6d];simp only[List.length_append,List.length_cons,List.length_nil]at e⊢;show _<=s2.i+1;omega
   · rw[K6d];simp only at f⊢;omega
theorem K2c (i:NF L r) (k:Int) (hk:k=21\/k=24) {d:Nat} {s s':St} {x:Int} {at':Int} (h:(A3 (r.expr d s.nx) fun s1 x=>A3 (need L s1 [59]) fun s2 _=>addN s2 ⟨k,x,0,0,[],[],0,-1,at'⟩)=some (.ok s' x)):
 ∃t,Wn t/\(17<=t.k/\t.k<=25)/\Nft s t s' x/\(me t).1.length+s.i<=s'.i/\(me t).2<=20 - d:=by
 obtain⟨s1,y,h1,h⟩:=B7 h;obtain⟨s2,_,h2,h⟩:=B7 h;obtain⟨_,rfl⟩:=J1 h2;obtain⟨rfl,rfl⟩:=G8 h;obtain⟨hd,t,a,b,c,e,f⟩:=i.expr _ _ _ _ h1;rw[wt1 _ b]at e;rw[wd1 _ b]at f;have c:Nft s t s1.nx y:=c;have e:(me t).1.length+(s.i+1)<=s1.i:=e;rcases hk with rfl|rfl
 · refine⟨.nd 21 [] 0 [t],w21 a b,by simp[Nt.k],c.l.node _ 21 [] 0 _ rfl, ?_, ?_⟩
   · rw[K5d];simp only[List.length_append,List.length_cons,List.length_nil];show _<=s1.i+1;omega
   · rw[K5d];simp only;omega
 · refine⟨.nd 24 [] 0 [t],w24 a b,by simp[Nt.k],c.l.node _ 24 [] 0 _ rfl, ?_, ?_⟩
   · rw[K2d];simp only[List.length_append,List.length_cons,List.length_nil];show _<=s1.i+1;omega
   · rw[K2d];simp only;omega
theorem E4d (hL:NmL L) (y:YF L r) (i:NF L r):∀d s s' x,(step L r).any d s=some (.ok s' x)->∃t,Wn t/\(17<=t.k/\t.k<=25)/\Nft s t s' x/\(me t).1.length+s.i<=s'.i/\(me t).2<=20 - d:=by
 intro d s s' x h;have h:(if isM L s.i [[108,101,116]] then
  if (tk L (s.i+1)).kind=1 then A3 (typeIf L r d s.nx.nx) fun s1 t=>A3 (need L s1 [61]) fun s2 _=>A3 (r.expr d s2) fun s3 x=>A3 (need L s3 [59]) fun s4 _=>
   addN s4 ⟨17,x,0,0,[],(tk L (s.i+1)).text,0,t,(tk L s.i).at'⟩
  else flt L (s.i+1) 1
  else if isM L s.i [[112,114,105,110,116]] then A3 (r.expr d s.nx) fun s1 x=>A3 (need L s1 [59]) fun s2 _=>addN s2 ⟨21,x,0,0,[],[],0,-1,(tk L s.i).at'⟩
  else if isM L s.i [[114,101,116,117,114,110]] then A3 (r.expr d s.nx) fun s1 x=>A3 (need L s1 [59]) fun s2 _=>addN s2 ⟨24,x,0,0,[],[],0,-1,(tk L s.i).at'⟩
  else if isM L s.i [[105,102]] then A3 (need L s.nx [40]) fun s1 _=>A3 (r.expr d s1) fun s2 x=>A3 (need L s2 [41]) fun s3 _=>A3 (r.block d s3) fun s4 y=>
   A3 (if isM L s4.i [[101,108,115,101]] then r.block d s4.nx else some (.ok s4 (-1))) fun s5 z=>addN s5 ⟨22,x,y,z,[],[],0,-1,(tk L s.i).at'⟩
  else if isM L s.i [[119,104,105,108,101]] then A3 (need L s.nx [40]) fun s1 _=>A3 (r.expr d s1) fun s2 x=>A3 (need L s2 [41]) fun s3 _=>A3 (r.block d s3) fun s4 y=>
   addN s4 ⟨23,x,y,0,[],[],0,-1,(tk L s.i).at'⟩
  else A3 (r.expr d s) fun s1 x=>
   if isM L s1.i [[61]] then
    if H5a (s1.N.getD x.toNat nd0).kind=0 then flt L s1.i 1
    else A3 (r.expr d ⟨s1.i+1,s1.N.take x.toNat,s1.T⟩) fun s2 v=>A3 (need L s2 [59]) fun s3 _=>addN s3 (C6a (s1.N.getD x.toNat nd0) v)
   else A3 (need L s1 [59]) fun s2 _=>addN s2 ⟨25,x,0,0,[],[],0,-1,atN s1 x⟩)=some (.ok s' x):=h
 split at h
 · split at h
   · rename_i hnm;obtain⟨s1,z,h1,h⟩:=B7 h;obtain⟨s2,_,h2,h⟩:=B7 h;obtain⟨_,rfl⟩:=J1 h2;obtain⟨s3,v,h3,h⟩:=B7 h;obtain⟨s4,_,h4,h⟩:=B7 h;obtain⟨_,rfl⟩:=J1 h4;obtain⟨rfl,rfl⟩:=G8 h;obtain⟨ta,a1,b1,c1,e1,f1⟩:=M0a y h1;obtain⟨hd,u,a2,b2,c2,e2,f2⟩:=i.expr _ _ _ _ h3;rw[wt1 _ b2]at e2;rw[wd1 _ b2]at f2;have c1:Nft s ta s1.nx z:=c1;have c2:Nft s1.nx u s3.nx v:=c2;have e1:(Q0a (pt ta)).length+(s.i+1+1)<=s1.i:=e1;have e2:(me u).1.length+(s1.i+1)<=s3.i:=e2;refine⟨.nd 17 (tk L (s.i+1)).text 0 [ta,u],w17 (hL _ hnm) a1 b1 a2 b2,by simp[Nt.k],(c1.cons c2.l).node _ 17 _ 0 _ rfl, ?_, ?_⟩
     · rw[K9d];simp only[List.length_append,List.length_cons,List.length_nil];show _<=s3.i+1;omega
     · rw[K9d];simp only;omega
   · simp[flt]at h
 split at h
 · exact K2c i 21 (.inl rfl) h
 split at h
 · exact K2c i 24 (.inr rfl) h
 split at h
 · obtain⟨s1,_,h1,h⟩:=B7 h;obtain⟨_,rfl⟩:=J1 h1;obtain⟨s2,v,h2,h⟩:=B7 h;obtain⟨s3,_,h3,h⟩:=B7 h;obtain⟨_,rfl⟩:=J1 h3;obtain⟨s4,b,h4,h⟩:=B7 h;obtain⟨s5,z,h5,h⟩:=B7 h;obtain⟨rfl,rfl⟩:=G8 h;obtain⟨hd,u,a2,b2,c2,e2,f2⟩:=i.expr _ _ _ _ h2;rw[wt1 _ b2]at e2;rw[wd1 _ b2]at f2;obtain⟨tb,a3,i3,c3,e3,f3⟩:=i.block _ _ _ _ h4;have c2:Nft s u s2.nx v:=c2;have e2:(me u).1.length+(s.i+1+1)<=s2.i:=e2;have e3:(me tb).1.length+(s2.i+1)<=s4.i:=e3;obtain⟨te,a4,i4,c4,e4,f4⟩:∃t,Wn t/\(t.k=26\/t.k= -1)/\Nft s4 t s5 z/\(if t.k= -1 then [] else (2,[101,108,115,101])::(me t).1).length+s4.i<=s5.i/\(me t).2<=20 - d:=by
    split at h5
    · obtain⟨t,a,k,c,e,f⟩:=i.block _ _ _ _ h5;have e:(me t).1.length+(s4.i+1)<=s5.i:=e;refine⟨t,a,.inl k,c, ?_,f⟩;rw[if_neg (by omega),List.length_cons];omega
    · obtain⟨rfl,rfl⟩:=I8 h5;exact⟨.ty none,trivial,.inr rfl,Nft.none _,by simp[Nt.k],Nat.zero_le _⟩
   refine⟨.nd 22 [] 0 [u,tb,te],w22 a2 b2 a3 i3 a4 i4,by simp[Nt.k],(c2.cons (c3.cons c4.l)).node _ 22 [] 0 _ rfl, ?_, ?_⟩
   · rw[K4d];simp only[List.length_append,List.length_cons];show _<=s5.i;omega
   · rw[K4d];simp only;omega
 split at h
 · obtain⟨s1,_,h1,h⟩:=B7 h;obtain⟨_,rfl⟩:=J1 h1;obtain⟨s2,v,h2,h⟩:=B7 h;obtain⟨s3,_,h3,h⟩:=B7 h;obtain⟨_,rfl⟩:=J1 h3;obtain⟨s4,b,h4,h⟩:=B7 h;obtain⟨rfl,rfl⟩:=G8 h;obtain⟨hd,u,a2,b2,c2,e2,f2⟩:=i.expr _ _ _ _ h2;rw[wt1 _ b2]at e2;rw[wd1 _ b2]at f2;obtain⟨tb,a3,i3,c3,e3,f3⟩:=i.block _ _ _ _ h4;have c2:Nft s u s2.nx v:=c2;have e2:(me u).1.length+(s.i+1+1)<=s2.i:=e2;have e3:(me tb).1.length+(s2.i+1)<=s4.i:=e3;refine⟨.nd 23 [] 0 [u,tb],w23 a2 b2 a3 i3,by simp[Nt.k],(c2.cons c3.l).node _ 23 [] 0 _ rfl, ?_, ?_⟩
   · rw[K3d];simp only[List.length_append,List.length_cons];show _<=s4.i;omega
   · rw[K3d];simp only;omega
 · obtain⟨s1,v,h1,h⟩:=B7 h;split at h
   · split at h
     · simp[flt]at h
     · rename_i hk;exact E2d i h1 hk h
   · obtain⟨s2,_,h2,h⟩:=B7 h;obtain⟨_,rfl⟩:=J1 h2;obtain⟨rfl,rfl⟩:=G8 h;obtain⟨hd,u,a2,b2,c2,e2,f2⟩:=i.expr _ _ _ _ h1;rw[wt1 _ b2]at e2;rw[wd1 _ b2]at f2;have c2:Nft s u s1.nx v:=c2;refine⟨.nd 25 [] 0 [u],w25 a2 b2,by simp[Nt.k],c2.l.node _ 25 [] 0 _ rfl, ?_, ?_⟩
     · rw[K1d];simp only[List.length_append,List.length_cons,List.length_nil];show _<=s1.i+1;omega
     · rw[K1d];simp only;omega
end
theorem K7c {L:List Tk} (hL:NmL L) (hV:VaL L) (hX:TxL L):∀f,NF L (sp' L f)
 |0=>by constructor<;>(intros;contradiction)
 |f+1=>
  have i:=K7c hL hV hX f;have y:=E5a hL f
  ⟨V1c i,V2c i,E1d i,U9c i,E3d i,V0c i,U7c hL y i,A5c hL hV hX y i,K5c i,K4c hL i,K3c hL y i,K6c i,A6c i,U8c i,E4d hL y i,K1c i⟩
theorem A0c {L:List Tk} (hL:NmL L) (hV:VaL L) (hX:TxL L) {s':St} {x:Int} (h:Ev L (E3a 0 ⟨0,[],[]⟩) (.ok s' x)):
 ∃ps,(∀p∈ps,Wn p/\17<=p.k/\p.k<=25)/\s'.N.map Nd.fl=emN 0 0 (.nd 26 [] 0 ps)/\s'.T=T2 0 ps/\(flT (meL ps)).length<=s'.i/\mx 1 (meL ps)<=20:=by
 obtain⟨f,hf⟩:=h;have h:=hf f (Nat.le_refl _);obtain⟨s1,l,h1,h⟩:=B7 h;obtain⟨rfl,rfl⟩:=G8 h;obtain⟨ps,l',e0,a,c,e,f⟩:=(K7c hL hV hX f).progL _ _ _ _ _ h1;rw[List.nil_append]at e0;subst e0;have hn:=c.node s1.i 26 [] 0 ⟨26,0,0,0,l,[],0,-1,0⟩ rfl;refine⟨ps,a,by simpa using hn.1,by simpa[emY]using hn.2.1,by simpa using e,by simpa using f⟩
def Eo (t:Tr):Prop:=∀T0,TsOk T0->TsOk (T0++emT T0.length t)/\tr (T0++emT T0.length t) (T0.length+nTy t - 1)=t
theorem H4a:∀(ks:List Tr),(∀x∈ks,Eo x)->∀T0,TsOk T0->TsOk (T0++M4 T0.length ks)/\(∀x∈ixT T0.length ks,0<=x/\x<((T0++M4 T0.length ks).length:Int))/\(ixT T0.length ks).map (fun x=>tr (T0++M4 T0.length ks) x.toNat)=ks
 |[],_,T0,h=>by simp[M4,ixT,h]
 |t::r,hk,T0,h=>by
  obtain⟨h1,h2⟩:=hk t (by simp) T0 h;have hl:(T0++emT T0.length t).length=T0.length+nTy t:=by rw[List.length_append,Y8]
  obtain⟨h3,h4,h5⟩:=H4a r (fun x hx=>hk x (by simp[hx])) (T0++emT T0.length t) h1;rw[hl]at h3 h4 h5;have e:T0++M4 T0.length (t::r)=T0++emT T0.length t++M4 (T0.length+nTy t) r:=by rw[M4,List.append_assoc]
  rw[e,ixT];have hp:=H1a t;refine⟨h3,fun x hx=> ?_, ?_⟩
  · rcases List.mem_cons.1 hx with rfl|hx
    · refine⟨by omega, ?_⟩;rw[List.length_append,hl];omega
    · exact h4 x hx
  · rw[List.map_cons,h5];have:(((T0.length+nTy t:Nat):Int) - 1).toNat=T0.length+nTy t - 1:=by omega
    rw[this,D3a _ h1 (by rw[hl];omega),h2]
theorem B1b {α β:Type}:∀(a:List α) (b:List β),a.length=b.length->(a.zip b).map (·.1)=a
 |[],_,_=>rfl
 |x::a,[],h=>by simp at h
 |x::a,y::b,h=>by simp only[List.zip_cons_cons,List.map_cons];rw[B1b a b (by simpa using h)]
theorem T7b {α β γ:Type} (f:β->γ):∀(a:List α) (b:List β),a.length=b.length->(a.zip b).map (fun p=>f p.2)=b.map f
 |[],[],_=>rfl
 |[],_::_,h=>by simp at h
 |x::a,[],h=>by simp at h
 |x::a,y::b,h=>by simp only[List.zip_cons_cons,List.map_cons];rw[T7b f a b (by simpa using h)]
theorem E1b {T0:List Ty} {ks:List Tr} {k:Int} {ns:List (List UInt8)} (hk9:k≠9) (h1:TsOk (T0++M4 T0.length ks)) (ht:TyOk (C7a k ns (ixT T0.length ks)) (T0++M4 T0.length ks).length)
 (he:Tr.nd (C7a k ns (ixT T0.length ks)).kind ((C7a k ns (ixT T0.length ks)).fields.map (·.1)) ((if (C7a k ns (ixT T0.length ks)).kind=8\/(C7a k ns (ixT T0.length ks)).kind=9 then [tr (T0++M4 T0.length ks) (C7a k ns (ixT T0.length ks)).of'.toNat] else [])++((C7a k ns (ixT T0.length ks)).fields.map fun p=>tr (T0++M4 T0.length ks) p.2.toNat)++(C7a k ns (ixT T0.length ks)).list.map fun x=>tr (T0++M4 T0.length ks) x.toNat)= .nd k ns ks):
 TsOk (T0++emT T0.length (.nd k ns ks))/\tr (T0++emT T0.length (.nd k ns ks)) (T0.length+nTy (.nd k ns ks) - 1)= .nd k ns ks:=by
 rw[E5b _ _ _ _ hk9,<-List.append_assoc];refine⟨h1.snoc ht, ?_⟩;have e:T0.length+nTy (.nd k ns ks) - 1=(T0++M4 T0.length ks).length:=by rw[List.length_append,D1a,nTy];omega
 rw[e,I2a h1 ht,he]
theorem P1c (t:Tr) (h:Wf t):Eo t:=by
 induction h with
 |plain k h1 h2=>
  intro T0 h0;obtain⟨a,b,c⟩:=H4a [] (by simp) T0 h0;have hr:C7a k [] (ixT T0.length [])=⟨k,[],[],0⟩:=by rw[C7a,if_neg (by omega),if_neg (by omega),if_neg (by omega)]
  refine E1b (by omega) a ?_ ?_
  · rw[hr];exact .inl ⟨h1,h2,rfl,rfl⟩
  · rw[hr];simp only;rw[if_neg (by omega)];rfl
 |obj ns ks hl nd hn hw ih=>
  intro T0 h0;obtain⟨a,b,c⟩:=H4a ks ih T0 h0;have hr:C7a 7 ns (ixT T0.length ks)=⟨7,ns.zip (ixT T0.length ks),[],0⟩:=rfl;have hll:ns.length=(ixT T0.length ks).length:=by rw[K8a,hl]
  refine E1b (by omega) a ?_ ?_
  · rw[hr];refine .inr (.inl ⟨rfl,rfl, ?_,fun p hp=> ?_⟩)
    · show ((ns.zip _).map (·.1)).Nodup;rw[B1b _ _ hll];exact nd
    · have:=List.of_mem_zip hp;exact⟨hn _ this.1,b _ this.2⟩
  · rw[hr];simp only[List.map_nil,List.append_nil];rw[B1b _ _ hll,T7b (fun x:Int=>tr (T0++M4 T0.length ks) x.toNat) _ _ hll,c,if_neg (by decide)];rfl
 |arr t hw ih=>
  intro T0 h0;obtain⟨a,b,c⟩:=H4a [t] (by simpa using ih) T0 h0;have hr:C7a 8 [] (ixT T0.length [t])=⟨8,[],[],(ixT T0.length [t]).headD 0⟩:=rfl;rw[ixT,ixT]at b c;simp only[List.map_cons,List.map_nil,List.cons.injEq,and_true]at c;refine E1b (by omega) a ?_ ?_
  · rw[hr,ixT];exact .inr (.inr (.inl ⟨rfl,rfl,rfl,b _ (by simp)⟩))
  · rw[hr,ixT];simp only[List.map_nil,List.append_nil];show Tr.nd 8 [] ((if True\/_ then [tr (T0++M4 T0.length [t]) (((T0.length+nTy t:Nat):Int) - 1).toNat] else []))=_;rw[c,if_pos (.inl trivial)]
 |uni ks h2 hw ih=>
  intro T0 h0;obtain⟨a,b,c⟩:=H4a ks ih T0 h0;have hr:C7a 10 [] (ixT T0.length ks)=⟨10,[],ixT T0.length ks,0⟩:=rfl;refine E1b (by omega) a ?_ ?_
  · rw[hr];exact .inr (.inr (.inr (.inr ⟨rfl,rfl,by show 2<=(ixT _ _).length;rw[K8a];exact h2,b⟩)))
  · rw[hr];simp only[List.map_nil];rw[c,if_neg (by decide)];rfl
 |fn t ps hw hp iht ihp=>
  intro T0 h0;obtain⟨a,b,c⟩:=H4a ps ihp T0 h0;have hl:(T0++M4 T0.length ps).length=T0.length+M8 ps:=by rw[List.length_append,D1a]
  obtain⟨a2,c2⟩:=iht _ a;rw[hl]at a2 c2;have hl2:(T0++M4 T0.length ps++emT (T0.length+M8 ps) t).length=T0.length+M8 ps+nTy t:=by rw[List.length_append,hl,Y8]
  have hpos:=H1a t;have e:T0++emT T0.length (.nd 9 [] (t::ps))=T0++M4 T0.length ps++emT (T0.length+M8 ps) t++[⟨9,[],ixT T0.length ps,((T0.length+M8 ps+nTy t:Nat):Int) - 1⟩]:=by
   rw[emT,if_pos rfl,emB];simp
  rw[e];have ht:TyOk ⟨9,[],ixT T0.length ps,((T0.length+M8 ps+nTy t:Nat):Int) - 1⟩ (T0++M4 T0.length ps++emT (T0.length+M8 ps) t).length:=by
   refine .inr (.inr (.inr (.inl ⟨rfl,rfl, ?_, ?_,fun x hx=> ?_⟩)))
   · show 0<=((T0.length+M8 ps+nTy t:Nat):Int) - 1;omega
   · show ((T0.length+M8 ps+nTy t:Nat):Int) - 1<_;rw[hl2];omega
   · have:=b x hx;rw[hl]at this;rw[hl2];omega
  refine⟨a2.snoc ht, ?_⟩;have e2:T0.length+nTy (.nd 9 [] (t::ps)) - 1=(T0++M4 T0.length ps++emT (T0.length+M8 ps) t).length:=by rw[hl2,nTy,M8];omega
  rw[e2,I2a a2 ht];simp only[List.map_nil,List.append_nil];rw[if_pos (.inr trivial)];have e3:(((T0.length+M8 ps+nTy t:Nat):Int) - 1).toNat=T0.length+M8 ps+nTy t - 1:=by omega
  rw[e3,c2];have e4:(ixT T0.length ps).map (fun x=>tr (T0++M4 T0.length ps++emT (T0.length+M8 ps) t) x.toNat)=ps:=by
   refine Eq.trans (List.map_congr_left fun x hx=> ?_) c;exact D3a _ a (by have:=b x hx;omega)
  rw[e4];rfl
mutual
theorem I7c:∀(t:Nt),Wn t->∀T0,TsOk T0->TsOk (T0++emY T0.length t)
 | .ty none,_,T0,h=>by simpa[emY]using h
 | .ty (some t),hw,T0,h=>by rw[emY];exact(P1c t hw T0 h).1
 | .nd k tx n ps,hw,T0,h=>by rw[emY];rw[Wn]at hw;exact P7b ps hw.2.2 T0 h
theorem P7b:∀(ps:List Nt),WnL ps->∀T0,TsOk T0->TsOk (T0++T2 T0.length ps)
 |[],_,T0,h=>by simpa[T2]using h
 |p::r,hw,T0,h=>by
  rw[WnL]at hw;have h1:=I7c p hw.1 T0 h;have h2:=P7b r hw.2 _ h1;rw[List.length_append,E0a]at h2;rw[T2,<-List.append_assoc];exact h2
end
theorem F5a (k:Int) (tx:List UInt8) (n:Int) (l:List Int):(mkN k tx n l).text=tx/\(mkN k tx n l).n=n:=by
 unfold mkN;repeat' split
 all_goals exact⟨rfl,rfl⟩
theorem D4b:∀(ps:List Nt) (b tb:Nat),(ixL b tb ps).length=ps.length
 |[],_,_=>rfl
 |p::r,b,tb=>by rw[ixL,List.length_cons,List.length_cons,D4b r]
mutual
theorem A9d:∀(t:Nt),Wn t->∀(N:List Nd) (T:List Ty) (N0 N1:List Nd) (T0 T1:List Ty),N.map Nd.fl=N0++emN N0.length T0.length t++N1->T=T0++emY T0.length t++T1->TsOk T0->At N T t (ixN N0.length T0.length t)
 | .ty none,_,N,T,N0,N1,T0,T1,_,_,_=>by rw[At];rfl
 | .ty (some t),hw,N,T,N0,N1,T0,T1,_,hT,h0=>by
  rw[At,ixN];obtain⟨h1,h2⟩:=P1c t hw T0 h0;have hp:=H1a t;have hl:(T0++emT T0.length t).length=T0.length+nTy t:=by rw[List.length_append,Y8]
  rw[emY]at hT;refine⟨T0.length+nTy t - 1,by omega, ?_, ?_⟩
  · rw[hT,List.length_append,hl];omega
  · rw[hT,D3a _ h1 (by rw[hl];omega),h2]
 | .nd k tx n ps,hw,N,T,N0,N1,T0,T1,hN,hT,h0=>by
  rw[Wn]at hw;rw[At,ixN];rw[emY]at hT;rw[emN]at hN;have hlen:=congrArg List.length hN;simp only[List.length_map,List.length_append,M7,List.length_cons,List.length_nil]at hlen;have hj:N0.length+nNL ps<N.length:=by omega
  have hat:(N[N0.length+nNL ps]).fl=mkN k tx n (ixL N0.length T0.length ps):=by
   have h1:(N.map Nd.fl)[N0.length+nNL ps]'(by simpa using hj)=(N[N0.length+nNL ps]).fl:=by simp
   rw[<-h1];simp only[hN];rw[List.getElem_append_left (by simp only[List.length_append,M7,List.length_cons,List.length_nil];omega),List.getElem_append_right (by omega)];rw[List.getElem_append_right (by rw[M7];omega)];simp[M7]
  have hk:(N[N0.length+nNL ps]).kind=k:=(congrArg Nd.kind hat).trans (A6a _ _ _ _);have ht:(N[N0.length+nNL ps]).text=tx:=(congrArg Nd.text hat).trans (F5a _ _ _ _).1;have hn:(N[N0.length+nNL ps]).n=n:=(congrArg Nd.n hat).trans (F5a _ _ _ _).2;refine⟨N0.length+nNL ps,by rw[nN];omega,hj,hk,ht,hn,ixL N0.length T0.length ps, ?_, ?_⟩
  · rw[<-W7c,hat];exact W6c hw.1 (by rw[List.length_map,D4b])
  · exact Q4c ps hw.2.2 N T N0 ([mkN k tx n (ixL N0.length T0.length ps)]++N1) T0 T1 (by rw[hN];simp) hT h0
theorem Q4c:∀(ps:List Nt),WnL ps->∀(N:List Nd) (T:List Ty) (N0 N1:List Nd) (T0 T1:List Ty),N.map Nd.fl=N0++M9 N0.length T0.length ps++N1->T=T0++T2 T0.length ps++T1->TsOk T0->AtL N T ps (ixL N0.length T0.length ps)
 |[],_,_,_,_,_,_,_,_,_,_=>by rw[AtL];rfl
 |p::r,hw,N,T,N0,N1,T0,T1,hN,hT,h0=>by
  rw[WnL]at hw;rw[M9]at hN;rw[T2]at hT;rw[AtL,ixL];refine⟨_,_,rfl,A9d p hw.1 N T N0 (M9 (N0.length+nN p) (T0.length+nT p) r++N1) T0 (T2 (T0.length+nT p) r++T1) (by rw[hN];simp) (by rw[hT];simp) h0, ?_⟩;have:=Q4c r hw.2 N T (N0++emN N0.length T0.length p) N1 (T0++emY T0.length p) T1 (by rw[List.length_append,List.length_append,W8,E0a,hN];simp) (by rw[List.length_append,E0a,hT];simp) (I7c p hw.1 T0 h0);rw[List.length_append,List.length_append,W8,E0a]at this;exact this
end
/-! ### How much it is -/
mutual
theorem A2b:∀t:Nt,Wn t->Gd t
 | .ty _,_=>by simp[Gd]
 | .nd k tx n ps,h=>by rw[Wn]at h;rw[Gd];exact⟨h.1,M9c ps h.2.2⟩
theorem M9c:∀ps:List Nt,WnL ps->GdL ps
 |[],_=>trivial
 |p::r,h=>⟨A2b p h.1,M9c r h.2⟩
end
def cTy:List Nt->Nat
 |[]=>0
 | .ty _::r=>cTy r+1
 | .nd _ _ _ _::r=>cTy r
theorem F1b:∀ps qs,cTy (ps++qs)=cTy ps+cTy qs
 |[],qs=>by simp[cTy]
 | .ty _::r,qs=>by rw[List.cons_append,cTy,cTy,F1b r];omega
 | .nd _ _ _ _::r,qs=>by rw[List.cons_append,cTy,cTy,F1b r]
theorem M1b:∀ps:List Nt,(∀p∈ps,1<=p.k)->cTy ps=0
 |[],_=>rfl
 | .ty o::r,h=>by
  have:=h (.ty o) (by simp);cases o<;>simp[Nt.k]at this
 | .nd _ _ _ _::r,h=>by rw[cTy];exact M1b r fun p hp=>h p (by simp[hp])
theorem Y9 {ps:List Nt} {l:List Int} (h:ps.map Nt.k=l) (hl:∀x∈l,1<=x):cTy ps=0:=by
 refine M1b ps fun p hp=>hl _ ?_;rw[<-h];exact List.mem_map_of_mem hp
theorem N6a:∀ps:List Nt,cTy ps<=ps.length
 |[]=>Nat.le_refl _
 | .ty o::r=>by have:=N6a r;rw[cTy,List.length_cons];omega
 | .nd _ _ _ _::r=>by have:=N6a r;rw[cTy,List.length_cons];omega
theorem V6a {p:Nt} (h:1<=p.k) (r:List Nt):cTy (p::r)=cTy r:=by
 cases p with
 |nd k tx n ps=>rfl
 |ty o=>cases o<;>simp[Nt.k]at h
theorem F8 {c A B:Prop} [Decidable c] (h:if c then A else B):(c/\A)\/(¬c/\B):=by
 by_cases hc:c
 · rw[if_pos hc]at h;exact .inl ⟨hc,h⟩
 · rw[if_neg hc]at h;exact .inr ⟨hc,h⟩
theorem S9c {k:Int} {ps:List Nt} (h:shp k (ps.map Nt.k)):cTy ps<=1:=by
 unfold shp at h;rcases F8 h with ⟨_,h⟩|⟨_,h⟩
 · rw[Y9 h (by simp)];omega
 rcases F8 h with ⟨_,h⟩|⟨_,h⟩
 · obtain⟨xs,r,h,h16,hr⟩:=h;have hl:ps.length=xs.length+2:=by have:=congrArg List.length h;simpa using this
   have e:ps=ps.take xs.length++ps.drop xs.length:=(List.take_append_drop _ _).symm;have h1:(ps.take xs.length).map Nt.k=xs:=by rw[List.map_take,h];simp
   have h2:(ps.drop xs.length).map Nt.k=[r,26]:=by rw[List.map_drop,h];simp
   obtain⟨a,b,h3,h4,h5⟩:=k2 h2;rw[e,F1b,Y9 h1 (fun x hx=>by rw[h16 x hx];omega),h3];have:cTy [b]=0:=V6a (by omega) [];cases a<;>(simp only[cTy]at this⊢;omega)
 rcases F8 h with ⟨_,h⟩|⟨_,h⟩
 · obtain⟨x,xs,h,hx,hxs⟩:=h;rw[Y9 h (fun y hy=>by rcases List.mem_cons.1 hy with rfl|hy;exact hx.1;exact(hxs y hy).1)];omega
 rcases F8 h with ⟨_,h⟩|⟨_,h⟩
 · obtain⟨x,h,_⟩:=h;obtain⟨a,rfl,_⟩:=k1 h;exact N6a [a]
 rcases F8 h with ⟨_,h⟩|⟨_,h⟩
 · obtain⟨x,y,h,hx,hy⟩:=h;rw[Y9 h (fun z hz=>by simp at hz;rcases hz with rfl|rfl;exact hx.1;exact hy.1)];omega
 rcases F8 h with ⟨_,h⟩|⟨_,h⟩
 · rw[Y9 rfl (fun y hy=>by rw[h y hy];omega)];omega
 rcases F8 h with ⟨_,h⟩|⟨_,h⟩
 · rw[Y9 rfl (fun y hy=>(h y hy).1)];omega
 rcases F8 h with ⟨_,h⟩|⟨_,h⟩
 · obtain⟨x,h,hx⟩:=h;obtain⟨a,b,rfl,ha,hb⟩:=k2 h;rw[V6a (by rw[ha];exact hx.1)];exact N6a [b]
 rcases F8 h with ⟨_,h⟩|⟨_,h⟩
 · obtain⟨x,h,_⟩:=h;obtain⟨a,rfl,_⟩:=k1 h;exact N6a [a]
 rcases F8 h with ⟨_,h⟩|⟨_,h⟩
 · obtain⟨x,y,h,hx,hy⟩:=h;obtain⟨a,b,rfl,ha,hb⟩:=k2 h;have h1:cTy [b]=0:=V6a (by rw[hb];exact hy.1) [];cases a<;>(simp only[cTy]at h1⊢;omega)
 rcases F8 h with ⟨_,h⟩|⟨_,h⟩
 · obtain⟨x,y,z,h,hx,hy,hz⟩:=h;rw[Y9 h (fun u hu=>by simp at hu;rcases hu with rfl|rfl|rfl;exact hx.1;exact hy.1;exact hz.1)];omega
 rcases F8 h with ⟨_,h⟩|⟨_,h⟩
 · obtain⟨x,z,h,hx,_⟩:=h;obtain⟨a,b,c,rfl,ha,hb,hc⟩:=k3 h;rw[V6a (by rw[ha];exact hx.1),V6a (by omega)];exact N6a [c]
 rcases F8 h with ⟨_,h⟩|⟨_,h⟩
 · obtain⟨x,h,hx⟩:=h;rw[Y9 h (fun z hz=>by simp at hz;rcases hz with rfl|rfl;exact hx.1;omega)];omega
 rcases F8 h with ⟨_,h⟩|⟨_,h⟩
 · rw[Y9 rfl (fun y hy=>by have:=h y hy;omega)];omega
 · exact h.elim
/-! ### The B0a of types are short -/
theorem R2c {α β:Type} (a:List α) (b:List β):(a.zip b).length<=b.length:=by rw[List.length_zip];omega
theorem D2b:∀ks:List Tr,ks.length<=M8 ks
 |[]=>Nat.le_refl _
 |t::r=>by have:=D2b r;have:=H1a t;rw[M8,List.length_cons];omega
mutual
theorem P3c:∀(t:Tr) (b:Nat),∀y∈emT b t,y.list.length<=nTy t/\y.fields.length<=nTy t
 | .nd k ns ks,b,y,hy=>by
  rw[nTy];rw[emT]at hy;split at hy
  · exact G2d ks b y hy
  · rw[List.mem_append,List.mem_singleton]at hy;rcases hy with hy|rfl
    · have:=S7b ks b y hy;omega
    · have h1:=D2b ks;have h2:=R2c ns (ixT b ks);have h3:=K8a ks b;unfold C7a;repeat' split
      all_goals (simp only[List.length_nil];omega)
theorem S7b:∀(ks:List Tr) (b:Nat),∀y∈M4 b ks,y.list.length<=M8 ks/\y.fields.length<=M8 ks
 |[],b,y,hy=>by simp[M4]at hy
 |t::r,b,y,hy=>by
  rw[M4,List.mem_append]at hy;rw[M8];rcases hy with hy|hy
  · have:=P3c t b y hy;omega
  · have:=S7b r _ y hy;omega
theorem G2d:∀(ks:List Tr) (b:Nat),∀y∈emB b ks,y.list.length<=M8 ks+1/\y.fields.length<=M8 ks+1
 |[],b,y,hy=>by
  rw[emB,List.mem_singleton]at hy;subst hy;simp
 |t::r,b,y,hy=>by
  rw[emB,List.mem_append,List.mem_append,List.mem_singleton]at hy;rw[M8];rcases hy with (hy|hy)|rfl
  · have:=S7b r _ y hy;omega
  · have:=P3c t _ y hy;omega
  · have h1:=D2b r;have h3:=K8a r b;simp only[List.length_nil];omega
end
mutual
theorem G0d:∀(t:Nt) (b:Nat),∀y∈emY b t,y.list.length<=nT t/\y.fields.length<=nT t
 | .ty none,b,y,hy=>by simp[emY]at hy
 | .ty (some t),b,y,hy=>by rw[emY]at hy;rw[nT];exact P3c t b y hy
 | .nd k tx n ps,b,y,hy=>by rw[emY]at hy;rw[nT];exact E4b ps b y hy
theorem E4b:∀(ps:List Nt) (b:Nat),∀y∈T2 b ps,y.list.length<=nTL ps/\y.fields.length<=nTL ps
 |[],b,y,hy=>by simp[T2]at hy
 |p::r,b,y,hy=>by
  rw[T2,List.mem_append]at hy;rw[nTL];rcases hy with hy|hy
  · have:=G0d p b y hy;omega
  · have:=E4b r _ y hy;omega
end
/-! ### The lengths -/
def SL:List Tr->Nat
 |[]=>0
 |t::r=>(txt' t).length+30+SL r
theorem D9d {k:Int} {tx:List UInt8} {n:Int} {ps:List Nt} (h:own k tx n ps):tx.length<=30/\0<=n/\n<=999999999:=by
 unfold own at h;rcases F8 h with ⟨_,h⟩|⟨_,h⟩
 · rw[h.1];exact⟨by simp,h.2⟩
 rcases F8 h with ⟨_,h⟩|⟨_,h⟩
 · exact⟨h.1.1,by omega⟩
 rcases F8 h with ⟨_,h⟩|⟨_,h⟩
 · rw[h.1];exact⟨by simp,by omega⟩
 rcases F8 h with ⟨_,h⟩|⟨_,h⟩
 · have:=h.1.2.1;exact⟨by omega,by omega⟩
 rcases F8 h with ⟨_,h⟩|⟨_,h⟩
 · refine⟨?_,by omega⟩;have:=h.1;simp only[List.mem_cons,List.not_mem_nil,or_false]at this;rcases this with rfl|rfl|rfl|rfl|rfl<;>decide
 rcases F8 h with ⟨_,h⟩|⟨_,h⟩
 · refine⟨?_,by omega⟩;have:=h.1;simp only[List.mem_cons,List.not_mem_nil,or_false]at this;rcases this with rfl|rfl|rfl<;>decide
 · rw[h.1];exact⟨by simp,by omega⟩
inductive Sh:Nt->Prop
 |ty0:Sh (.ty none)
 |ty1 (t:Tr):Wf t->Sh (.ty (some t))
 |n1 (n:Int):0<=n/\n<=999999999->Sh (.nd 1 [] n [])
 |n2 (tx:List UInt8):(tx.length<=30/\∀c∈tx,txt c.toNat=true)->Sh (.nd 2 tx 0 [])
 |n3 (n:Int):n=0\/n=1->Sh (.nd 3 [] n [])
 |n4:Sh (.nd 4 [] 0 [])
 |n5 (tx:List UInt8):N8 tx->Sh (.nd 5 tx 0 [])
 |n6 (ps:List Nt) (a b:Nt):(∀p∈ps,Wn p/\p.k=16)->(ps.map Nt.tx).Nodup->Wn a->isT a.k->Wn b->b.k=26->Sh (.nd 6 [] 0 (ps++[a,b]))
 |n7 (a:Nt) (ps:List Nt):Wn a->isE a.k->(∀p∈ps,Wn p/\isE p.k)->Sh (.nd 7 [] 0 (a::ps))
 |n8 (tx:List UInt8) (a:Nt):N8 tx->Wn a->isE a.k->Sh (.nd 8 tx 0 [a])
 |n9 (a b:Nt):Wn a->isE a.k->Wn b->isE b.k->Sh (.nd 9 [] 0 [a,b])
 |n10 (ps:List Nt):(∀p∈ps,Wn p/\p.k=15)->(ps.map Nt.tx).Nodup->Sh (.nd 10 [] 0 ps)
 |n11 (ps:List Nt):(∀p∈ps,Wn p/\isE p.k)->Sh (.nd 11 [] 0 ps)
 |n12 (tx:List UInt8) (a b:Nt):tx∈[[61,61],[60],[43],[45],[42]]->Wn a->isE a.k->Wn b->isE b.k->Sh (.nd 12 tx 0 [a,b])
 |n13 (tx:List UInt8) (a:Nt):tx∈[[33],[45],[116,121,112,101,111,102]]->Wn a->isE a.k->Sh (.nd 13 tx 0 [a])
 |n14 (a:Nt) (t:Tr):Wn a->isE a.k->Wf t->Sh (.nd 14 [] 0 [a,.ty (some t)])
 |n15 (tx:List UInt8) (a:Nt):N8 tx->Wn a->isE a.k->Sh (.nd 15 tx 0 [a])
 |n16 (tx:List UInt8) (a:Nt):N8 tx->Wn a->isT a.k->Sh (.nd 16 tx 0 [a])
 |n17 (tx:List UInt8) (a b:Nt):N8 tx->Wn a->isT a.k->Wn b->isE b.k->Sh (.nd 17 tx 0 [a,b])
 |n18 (tx:List UInt8) (a:Nt):N8 tx->Wn a->isE a.k->Sh (.nd 18 tx 0 [a])
 |n19 (tx:List UInt8) (a b:Nt):N8 tx->Wn a->isE a.k->Wn b->isE b.k->Sh (.nd 19 tx 0 [a,b])
 |n20 (a b c:Nt):Wn a->isE a.k->Wn b->isE b.k->Wn c->isE c.k->Sh (.nd 20 [] 0 [a,b,c])
 |n21 (a:Nt):Wn a->isE a.k->Sh (.nd 21 [] 0 [a])
 |n22 (a b c:Nt):Wn a->isE a.k->Wn b->b.k=26->Wn c->c.k=26\/c.k= -1->Sh (.nd 22 [] 0 [a,b,c])
 |n23 (a b:Nt):Wn a->isE a.k->Wn b->b.k=26->Sh (.nd 23 [] 0 [a,b])
 |n24 (a:Nt):Wn a->isE a.k->Sh (.nd 24 [] 0 [a])
 |n25 (a:Nt):Wn a->isE a.k->Sh (.nd 25 [] 0 [a])
 |n26 (ps:List Nt):(∀p∈ps,Wn p/\17<=p.k/\p.k<=25)->Sh (.nd 26 [] 0 ps)
theorem D5b {a:Nt} (hw:Wn a) (h:isT a.k):∃t,a= .ty t:=N2a (A2b a hw) h
theorem L8d {a:Nt} (hw:Wn a) (h:a.k=0):∃t,a= .ty (some t)/\Wf t:=by
 obtain⟨t,rfl⟩:=D5b hw (.inr h);cases t with
 |none=>simp[Nt.k]at h
 |some t=>exact⟨t,rfl,hw⟩
theorem R1a {t:Nt} (h:Wn t):Sh t:=by
 cases t with
 |ty o=>
  cases o with
  |none=>exact .ty0
  |some t=>exact .ty1 t h
 |nd k tx n ps=>
  rw[Wn]at h;obtain⟨sh,ow,wl⟩:=h;rw[B2a]at wl;have hm:∀p∈ps,p.k∈ps.map Nt.k:=fun p hp=>List.mem_map_of_mem hp;unfold shp at sh;rcases F8 sh with ⟨hk,sh⟩|⟨hk1,sh⟩
  · have hps:ps=[]:=by simpa using sh
    subst hps;rcases hk with rfl|rfl|rfl|rfl|rfl
    · obtain⟨rfl,h⟩:tx=[]/\0<=n/\n<=999999999:=ow;exact .n1 n h
    · obtain⟨h,rfl⟩:(tx.length<=30/\∀c∈tx,txt c.toNat=true)/\n=0:=ow;exact .n2 tx h
    · obtain⟨rfl,h⟩:tx=[]/\(n=0\/n=1):=ow;exact .n3 n h
    · obtain⟨rfl,rfl⟩:tx=[]/\n=0:=by simpa[own]using ow
      exact .n4
    · obtain⟨h,rfl⟩:N8 tx/\n=0:=ow;exact .n5 tx h
  rcases F8 sh with ⟨hk,sh⟩|⟨hk2,sh⟩
  · subst hk;obtain⟨rfl,rfl,hn⟩:tx=[]/\n=0/\(ps.dropLast.dropLast.map Nt.tx).Nodup:=by simpa[own]using ow
    obtain⟨xs,r,h,h16,hr⟩:=sh;have e:ps=ps.take xs.length++ps.drop xs.length:=(List.take_append_drop _ _).symm;have h1:(ps.take xs.length).map Nt.k=xs:=by rw[List.map_take,h];simp
    have h2:(ps.drop xs.length).map Nt.k=[r,26]:=by rw[List.map_drop,h];simp
    obtain⟨a,b,h3,h4,h5⟩:=k2 h2;rw[h3]at e;generalize ps.take xs.length=qs at e h1;subst e;rw[dl3]at hn;refine .n6 qs a b (fun p hp=>⟨wl p (by simp[hp]),h16 _ ?_⟩) hn (wl a (by simp)) (by rw[h4];exact hr) (wl b (by simp)) h5;rw[<-h1];exact List.mem_map_of_mem hp
  rcases F8 sh with ⟨hk,sh⟩|⟨hk3,sh⟩
  · subst hk;obtain⟨rfl,rfl⟩:tx=[]/\n=0:=by simpa[own]using ow
    obtain⟨x,xs,h,hx,hxs⟩:=sh;cases ps with
    |nil=>simp at h
    |cons a qs=>
     simp only[List.map_cons,List.cons.injEq]at h;refine .n7 a qs (wl a (by simp)) (by rw[h.1];exact hx) fun p hp=>⟨wl p (by simp[hp]),hxs _ ?_⟩;rw[<-h.2];exact List.mem_map_of_mem hp
  rcases F8 sh with ⟨hk,sh⟩|⟨hk4,sh⟩
  · obtain⟨x,h,hx⟩:=sh;obtain⟨a,rfl,rfl⟩:=k1 h;have ha:=wl a (by simp);rcases hk with rfl|rfl|rfl|rfl|rfl|rfl|rfl
    · obtain⟨h,rfl⟩:N8 tx/\n=0:=ow;exact .n8 tx a h ha hx
    · obtain⟨h,rfl⟩:tx∈[[33],[45],[116,121,112,101,111,102]]/\n=0:=ow;exact .n13 tx a h ha hx
    · obtain⟨h,rfl⟩:N8 tx/\n=0:=ow;exact .n15 tx a h ha hx
    · obtain⟨h,rfl⟩:N8 tx/\n=0:=ow;exact .n18 tx a h ha hx
    · obtain⟨rfl,rfl⟩:tx=[]/\n=0:=by simpa[own]using ow
      exact .n21 a ha hx
    · obtain⟨rfl,rfl⟩:tx=[]/\n=0:=by simpa[own]using ow
      exact .n24 a ha hx
    · obtain⟨rfl,rfl⟩:tx=[]/\n=0:=by simpa[own]using ow
      exact .n25 a ha hx
  rcases F8 sh with ⟨hk,sh⟩|⟨hk5,sh⟩
  · obtain⟨x,y,h,hx,hy⟩:=sh;obtain⟨a,b,rfl,rfl,rfl⟩:=k2 h;have ha:=wl a (by simp);have hb:=wl b (by simp);rcases hk with rfl|rfl|rfl
    · obtain⟨rfl,rfl⟩:tx=[]/\n=0:=by simpa[own]using ow
      exact .n9 a b ha hx hb hy
    · obtain⟨h,rfl⟩:tx∈[[61,61],[60],[43],[45],[42]]/\n=0:=ow;exact .n12 tx a b h ha hx hb hy
    · obtain⟨h,rfl⟩:N8 tx/\n=0:=ow;exact .n19 tx a b h ha hx hb hy
  rcases F8 sh with ⟨hk,sh⟩|⟨hk6,sh⟩
  · subst hk;obtain⟨rfl,rfl,hn⟩:tx=[]/\n=0/\(ps.map Nt.tx).Nodup:=by simpa[own]using ow
    exact .n10 ps (fun p hp=>⟨wl p hp,sh _ (hm p hp)⟩) hn
  rcases F8 sh with ⟨hk,sh⟩|⟨hk7,sh⟩
  · subst hk;obtain⟨rfl,rfl⟩:tx=[]/\n=0:=by simpa[own]using ow
    exact .n11 ps fun p hp=>⟨wl p hp,sh _ (hm p hp)⟩
  rcases F8 sh with ⟨hk,sh⟩|⟨hk8,sh⟩
  · subst hk;obtain⟨rfl,rfl⟩:tx=[]/\n=0:=by simpa[own]using ow
    obtain⟨x,h,hx⟩:=sh;obtain⟨a,b,rfl,rfl,hb⟩:=k2 h;obtain⟨t,rfl,ht⟩:=L8d (wl b (by simp)) hb;exact .n14 a t (wl a (by simp)) hx ht
  rcases F8 sh with ⟨hk,sh⟩|⟨hk9,sh⟩
  · subst hk;obtain⟨h0,rfl⟩:N8 tx/\n=0:=ow;obtain⟨x,h,hx⟩:=sh;obtain⟨a,rfl,rfl⟩:=k1 h;exact .n16 tx a h0 (wl a (by simp)) hx
  rcases F8 sh with ⟨hk,sh⟩|⟨hk10,sh⟩
  · subst hk;obtain⟨h0,rfl⟩:N8 tx/\n=0:=ow;obtain⟨x,y,h,hx,hy⟩:=sh;obtain⟨a,b,rfl,rfl,rfl⟩:=k2 h;exact .n17 tx a b h0 (wl a (by simp)) hx (wl b (by simp)) hy
  rcases F8 sh with ⟨hk,sh⟩|⟨hk11,sh⟩
  · subst hk;obtain⟨rfl,rfl⟩:tx=[]/\n=0:=by simpa[own]using ow
    obtain⟨x,y,z,h,hx,hy,hz⟩:=sh;obtain⟨a,b,c,rfl,rfl,rfl,rfl⟩:=k3 h;exact .n20 a b c (wl a (by simp)) hx (wl b (by simp)) hy (wl c (by simp)) hz
  rcases F8 sh with ⟨hk,sh⟩|⟨hk12,sh⟩
  · subst hk;obtain⟨rfl,rfl⟩:tx=[]/\n=0:=by simpa[own]using ow
    obtain⟨x,z,h,hx,hz⟩:=sh;obtain⟨a,b,c,rfl,rfl,hb,rfl⟩:=k3 h;exact .n22 a b c (wl a (by simp)) hx (wl b (by simp)) hb (wl c (by simp)) hz
  rcases F8 sh with ⟨hk,sh⟩|⟨hk13,sh⟩
  · subst hk;obtain⟨rfl,rfl⟩:tx=[]/\n=0:=by simpa[own]using ow
    obtain⟨x,h,hx⟩:=sh;obtain⟨a,b,rfl,rfl,hb⟩:=k2 h;exact .n23 a b (wl a (by simp)) hx (wl b (by simp)) hb
  rcases F8 sh with ⟨hk,sh⟩|⟨hk14,sh⟩
  · subst hk;obtain⟨rfl,rfl⟩:tx=[]/\n=0:=by simpa[own]using ow
    exact .n26 ps fun p hp=>⟨wl p hp,sh _ (hm p hp)⟩
  · exact sh.elim
end Go.Proofs.YtgdnpemiiageaaaGreatDoor.M
