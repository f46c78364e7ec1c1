import Derived.Test.YtmphmjkinmkidaaGreatDoorS14
set_option linter.defProp false
open Go.Proofs.Tryz
namespace Go.Proofs.YtmphmjkinmkidaaGreatDoor
variable{p:Prop}
section
open Go
def Z87(h:p:=by
 refine ⟨s::new,by rw [e1];simp,by rw [e2,q1,dL,List.append_assoc],?_,λh=>e4 (q3 h)⟩
 rw [fU]
 exact ⟨vg (λp hp=>by rw [e2];exact List.mem_append_left _ hp) s q2,e3⟩):p:=h
def Z95(h:p:=by
 refine ⟨by rw [dM,if_pos Kc,dL];simp,by rw [closed,fU];trivial,λh=>?_⟩
 exact Z265):p:=h
def Z160(h:p:=by
 cases h
 exact ⟨[],by simp,by rw [dL];simp,by rw [fU];trivial,id⟩):p:=h
def Z265(h:p:=by
 rw [List.map_append]
 exact Db h (lH (jx hn).2.2.1)):p:=h
mutual
def dM:Sch->Env
 |.ref _ _=>[]
 |.mk k n _ _ kids _=>(if k=9\/k=10\/k=14 then [(n,k)] else [])++dL kids
def dL:List Sch->Env
 |[]=>[]
 |s::r=>dM s++dL r
end
mutual
def closed(E:Env):Sch->Prop
 |.ref k n=>(n,k)∈E
 |.mk _ _ _ _ kids _=>fU E kids
def fU(E:Env):List Sch->Prop
 |[]=>True
 |s::r=>closed E s/\fU E r
end
mutual
theorem vg{E E':Env}(h:∀p∈E,p∈E'):∀s:Sch,closed E s->closed E' s
 |.ref k n,hs=>by rw [closed] at hs ⊢;exact h _ hs
 |.mk k n ns size kids defs,hs=>by rw [closed] at hs ⊢;exact pT h kids hs
theorem pT{E E':Env}(h:∀p∈E,p∈E'):∀l:List Sch,fU E l->fU E' l
 |[],_=>by rw [fU];trivial
 |s::r,hs=>by rw [fU] at hs ⊢;exact ⟨vg h s hs.1,pT h r hs.2⟩
end
theorem pR:∀a b:List Sch,dL (a++b)=dL a++dL b
 |[],b=>by rw [dL];rfl
 |s::a,b=>by rw [List.cons_append,dL,dL,pR a b,List.append_assoc]
def wW(E:Env)(s:Sch)(E':Env):Prop:=E'=E++dM s/\closed E' s/\((E.map Prod.fst).Nodup->(E'.map Prod.fst).Nodup)
theorem lH{n:ByteArray} : ∀ {E:Env},E.kindOf? n=none->n ∉ E.map Prod.fst
 |[],_=>by simp
 |(m,k)::r,h=>by
  rw [Env.kindOf?] at h
  split at h
  ·cases h
  rename_i e
  have:=lH h
  rw [List.map_cons,List.mem_cons]
  rintro (e'|e')
  ·exact e e'.symm
  exact this e'
theorem Db{l:List ByteArray}{n:ByteArray}(h:l.Nodup)(hn:n ∉ l):(l++[n]).Nodup:=by
 rw [List.nodup_append]
 exact ⟨h,by simp,λa ha b hb=>by rw [List.mem_singleton.1 hb];exact λe=>hn (e ▸ ha)⟩
theorem vX(rd:J->Env->Option (Sch × Env))(hd:∀j E s E',rd j E=some (s,E')->wW E s E'):∀(l:List J) (acc:List Sch) (E:Env) (ss:List Sch) (E':Env),fD rd acc l E=some (ss,E')->∃new,ss=acc++new/\E'=E++dL new/\fU E' new/\((E.map Prod.fst).Nodup->(E'.map Prod.fst).Nodup)
 |[],acc,E,ss,E',h=>by
  rw [fD] at h
  exact Z160
 |j::r,acc,E,ss,E',h=>by
  rw [fD] at h
  cases hj:rd j E with
  |none=>exact Z239
  |some p=>
   obtain ⟨s,E1⟩:=p
   simp only [hj] at h
   split at h
   ·cases h
   split at h
   ·cases h
   obtain ⟨new,e1,e2,e3,e4⟩:=vX rd hd r _ E1 ss E' h
   obtain ⟨q1,q2,q3⟩:=hd j E s E1 hj
   exact Z87
theorem sF(rd:J->Env->Option (Sch × Env))(hd:∀j E s E',rd j E=some (s,E')->wW E s E'):∀(l:List J) (ns:List ByteArray) (acc:List Sch) (ds:List (Option J)) (E:Env) (fs:List ByteArray) (ss:List Sch) (dd:List (Option J)) (E':Env),eG rd ns acc ds l E=some (fs,ss,dd,E')->∃new,ss=acc++new/\E'=E++dL new/\fU E' new/\((E.map Prod.fst).Nodup->(E'.map Prod.fst).Nodup)
 |[],ns,acc,ds,E,fs,ss,dd,E',h=>by
  rw [eG] at h
  exact Z160
 |j::r,ns,acc,ds,E,fs,ss,dd,E',h=>by
  rw [eG] at h
  cases h0:j.textIn gm with
  |none=>exact Z240
  |some n=>
   simp only [h0] at h
   cases h1:gK dJ j with
   |none=>exact Z231
   |some al=>
    simp only [h1] at h
    split at h
    ·cases h3:j.named eW with
     |none=>exact Z229
     |some t=>
      simp only [h3] at h
      cases hj:rd t E with
      |none=>exact Z232
      |some p=>
       obtain ⟨s,E1⟩:=p
       simp only [hj] at h
       split at h
       ·cases h
       obtain ⟨new,e1,e2,e3,e4⟩:=sF rd hd r _ _ _ E1 fs ss dd E' h
       obtain ⟨q1,q2,q3⟩:=hd t E s E1 hj
       exact Z87
    cases h
theorem xY:∀(f:Nat) (j:J) (sp:ByteArray) (E:Env) (s:Sch) (E':Env),rdS f j sp E=some (s,E')->wW E s E':=by
 intro f
 induction f with
 |zero=>intro j sp E s E' h;rw [rdS] at h;cases h
 |succ f ih=>
  intro j sp E s E' h
  have hprim:∀t,eP t≠0->wW E (lQ (eP t)) E:=by
   intro t ht
   obtain ⟨h1,h2,_⟩:=iB ht
   unfold lQ
   exact ⟨by rw [dM,dL,if_neg Kc];simp,by rw [closed,fU];trivial,id⟩
  have hof:∀(k:Nat) (key:ByteArray) (j:J),ofS (rdS f) k key j sp E=some (s,E')->(k=11\/k=12)->wW E s E':=by
   intro k key j h hk
   obtain ⟨v,x,_,hr,rfl⟩:=mg h
   obtain ⟨q1,q2,q3⟩:=ih v sp E x E' hr
   exact ⟨by rw [q1,dM,dL,dL,if_neg Kc];simp,by rw [closed,fU,fU];exact ⟨q2,trivial⟩,q3⟩
  cases j with
  |null=>exact Z219
  |bool b=>exact Z219
  |num n=>exact Z219
  |str t=>
   rw [lW] at h
   obtain ⟨rfl,⟨h1,rfl⟩|⟨h1,k,hk,rfl⟩⟩:=jO h
   ·exact hprim t h1
   exact ⟨by rw [dM];simp,by rw [closed];exact lg hk,id⟩
  |arr l=>
   rw [nz] at h
   obtain ⟨ss,h1,h2,hu,rfl⟩:=jL h
   obtain ⟨new,e1,e2,e3,e4⟩:=vX _ (λj E s E' h=>ih j sp E s E' h) l [] E ss E' hu
   rw [List.nil_append] at e1
   subst e1
   exact ⟨by rw [e2,dM,if_neg Kc];simp,by rw [closed];exact e3,e4⟩
  |obj ns vs=>
   rw [jZ] at h
   obtain ⟨w,_,h⟩:=lX h
   rcases h with ⟨h1,rfl,rfl⟩|⟨_,h⟩|⟨_,h⟩|⟨_,h⟩|⟨_,h⟩|⟨_,h⟩
   ·exact hprim w h1
   ·exact hof 11 jm _ h (.inl rfl)
   ·exact hof 12 ig _ h (.inr rfl)
   ·obtain ⟨n,l,fs,ss,ds,hn,hl,hf,rfl⟩:=jN h
    obtain ⟨new,e1,e2,e3,e4⟩:=sF _ (λj E s E' h=>ih j (gi n) E s E' h) l [] [] [] _ fs ss ds E' hf
    rw [List.nil_append] at e1
    subst e1
    refine ⟨by rw [e2,dM,if_pos Kc,List.append_assoc],by rw [closed];exact e3,λh=>e4 ?_⟩
    exact Z265
   ·obtain ⟨n,l,sy,hn,hl,hsy,rfl,rfl⟩:=kU h
    exact Z95
   obtain ⟨n,z,hn,_,hz0,hz1,rfl,rfl⟩:=kF h
   exact Z95
mutual
def cnt:Sch->Nat
 |.ref _ _=>0
 |.mk _ _ _ _ kids _=>1+jk kids
def jk:List Sch->Nat
 |[]=>0
 |s::r=>cnt s+jk r
end
def idOf(D:ByteArray->Nat)(i:Nat):Sch->Nat
 |.ref _ n=>D n
 |.mk _ _ _ _ _ _=>i
def kw(D:ByteArray->Nat):Nat->List Sch->List Nat
 |_,[]=>[]
 |i,s::r=>idOf D i s::kw D (i+cnt s) r
def lF(k:Nat)(n:ByteArray)(ns:List ByteArray)(size:Nat)(ids:List Nat):TNode:=
 { kind:=k,name:=n,fields:=if k=9 then ns.zip ids else [],symbols:=if k=10 then ns else [],size:=size,item:=ids.headD 0,branches:=if k=13 then ids else [] }
mutual
def oM(D:ByteArray->Nat):Nat->Sch->List TNode
 |_,.ref _ _=>[]
 |i,.mk k n ns size kids _=>lF k n ns size (kw D (i+1) kids)::gZ D (i+1) kids
def gZ(D:ByteArray->Nat):Nat->List Sch->List TNode
 |_,[]=>[]
 |i,s::r=>oM D i s++gZ D (i+cnt s) r
end
mutual
def ni:Nat->Sch->List (ByteArray × Nat)
 |_,.ref _ _=>[]
 |i,.mk k n _ _ kids _=>(if k=9\/k=10\/k=14 then [(n,i)] else [])++iT (i+1) kids
def iT:Nat->List Sch->List (ByteArray × Nat)
 |_,[]=>[]
 |i,s::r=>ni i s++iT (i+cnt s) r
end
def look(l:List (ByteArray × Nat))(n:ByteArray):Nat:=
 match l with
 |[]=>0
 |(m,i)::r=>if m=n then i else look r n
def fH(s:Sch):List TNode:=oM (look (ni 0 s)) 0 s
mutual
theorem pM(D:ByteArray->Nat):∀(s:Sch) (i:Nat),(oM D i s).length=cnt s
 |.ref _ _,i=>by rw [oM,cnt];rfl
 |.mk k n ns size kids defs,i=>by rw [oM,cnt,List.length_cons,vz D kids];omega
theorem vz(D:ByteArray->Nat):∀(l:List Sch) (i:Nat),(gZ D i l).length=jk l
 |[],i=>by rw [gZ,jk];rfl
 |s::r,i=>by rw [gZ,jk,List.length_append,pM D s,vz D r]
end
mutual
theorem qj:∀s:Sch,cnt (eO s)=cnt s
 |.ref _ _=>by rw [eO]
 |.mk k n ns size kids defs=>by rw [eO,cnt,cnt,sQ kids]
theorem sQ:∀l:List Sch,jk (dS l)=jk l
 |[]=>by rw [dS]
 |s::r=>by rw [dS,jk,jk,qj s,sQ r]
end
theorem Ea(D:ByteArray->Nat)(i:Nat)(s:Sch):idOf D i (eO s)=idOf D i s:=MG
theorem sG(D:ByteArray->Nat):∀(l:List Sch) (i:Nat),kw D i (dS l)=kw D i l
 |[],_=>by rw [dS]
 |s::r,i=>by rw [dS,kw,kw,Ea,qj,sG D r]
mutual
theorem yH(D:ByteArray->Nat):∀(s:Sch) (i:Nat),oM D i (eO s)=oM D i s
 |.ref _ _,i=>by rw [eO]
 |.mk k n ns size kids defs,i=>by rw [eO,oM,oM,sG,qO D kids]
theorem qO(D:ByteArray->Nat):∀(l:List Sch) (i:Nat),gZ D i (dS l)=gZ D i l
 |[],i=>by rw [dS]
 |s::r,i=>by rw [dS,gZ,gZ,yH D s,qj,qO D r]
end
mutual
theorem yB:∀(s:Sch) (i:Nat),ni i (eO s)=ni i s
 |.ref _ _,i=>by rw [eO]
 |.mk k n ns size kids defs,i=>by rw [eO,ni,ni,qN kids]
theorem qN:∀(l:List Sch) (i:Nat),iT i (dS l)=iT i l
 |[],i=>by rw [dS]
 |s::r,i=>by rw [dS,iT,iT,yB s,qj,qN r]
end
theorem BH(s:Sch):fH (eO s)=fH s:=by
 unfold fH
 rw [yB,yH]
mutual
theorem uC:∀(s:Sch) (i:Nat),(ni i s).map Prod.fst=(dM s).map Prod.fst
 |.ref _ _,i=>by rw [ni,dM]
 |.mk k n ns size kids defs,i=>by
  rw [ni,dM,List.map_append,List.map_append,tF kids]
  split <;> rfl
theorem tF:∀(l:List Sch) (i:Nat),(iT i l).map Prod.fst=(dL l).map Prod.fst
 |[],i=>by rw [iT,dL]
 |s::r,i=>by rw [iT,dL,List.map_append,List.map_append,uC s,tF r]
end
theorem look_of{l:List (ByteArray × Nat)}{n:ByteArray}{i:Nat}(hn:(l.map Prod.fst).Nodup)(h:(n,i)∈l):look l n=i:=by
 induction l with
 |nil=>cases h
 |cons p r ih=>
  obtain ⟨m,k⟩:=p
  rw [look]
  rw [List.map_cons,List.nodup_cons] at hn
  rcases List.mem_cons.1 h with e|h
  ·cases e
   rw [if_pos rfl]
  rw [if_neg (λe=>hn.1 (by rw [show (m,k).1=n from e];exact List.mem_map.2 ⟨(n,i),h,rfl⟩))]
  exact ih hn.2 h
end
section
open Go Go.RowKit Go.Extern.Stop Go.Stop Go.Extern Go.Maps Go.WideMaps
def Y71(h:p:=by exact (show blk v≠some rb from λe=>(h.vW rb e).2.1 rfl)):p:=h
def Z44(h:p:=by
 obtain ⟨es,clock,h0,Ft,hs,hDD⟩:=hown
 have hownW:W.ownsMap prog 9 (plainElem prog 3) m ns.length D:=⟨es,clock,hW.trans h0,Ft,hs,hDD⟩
 obtain ⟨v,ps,hrun,hv⟩:=hownW.look_ok Tryz.keyLaw underlying74 (Tryz.zeroInt W) (plainElem_int underlying3 Ke) (qH F hF)
 obtain ⟨c,rfl,hc,_⟩:=plainElem_int_inv underlying3 hv
 rw [hhas F] at hrun
 exact ⟨c,hrun,congrArg Prod.fst hc⟩):p:=h
def Z189(h:p:=by
 obtain ⟨c',h1,h2⟩:=hex W hW
 rw [hc] at h2
 cases h2
 exact h1):p:=h
def tyB(k:Nat)(n:ByteArray)(c2 c3 c4:Value)(df sz:Int)(c7 c8:Value):Obj:=.cells #[.int .i64 k,.string n,c2,c3,c4,.int .i64 df,.int .i64 sz,c7,c8] 103 (0,0)
def kR(k:Nat)(n:ByteArray)(c2:Value):Obj:=tyB k n c2 (.slice none 0 0) (.slice none 0 0) 0 0 (.pointer none) (.slice none 0 0)
theorem gX{W:World}{B:Nat}{v0 v1 v2 v3 v4 v5 v6 v7 v8:Value}{T:TypeId}(h:W.heap[B]?=some (.cells #[v0,v1,v2,v3,v4,v5,v6,v7,v8] T (0,0))):
  W.cell? ⟨B,0,none⟩=some v0/\W.cell? ⟨B,1,none⟩=some v1/\W.cell? ⟨B,2,none⟩=some v2/\W.cell? ⟨B,3,none⟩=some v3/\W.cell? ⟨B,4,none⟩=some v4/\W.cell? ⟨B,5,none⟩=some v5/\W.cell? ⟨B,6,none⟩=some v6/\W.cell? ⟨B,7,none⟩=some v7/\W.cell? ⟨B,8,none⟩=some v8/\∀k,W.frozen? ⟨B,k,none⟩=false:=by
 refine ⟨?_,?_,?_,?_,?_,?_,?_,?_,?_,λk=>by unfold World.frozen?;rw [h];simp⟩
 all_goals (unfold World.cell?;rw [h];rfl)
theorem dw{P:Program}(w:World){tx e':TypeId}(hk:P.underlying tx=some (.slice e'))(g:Nat)(x:Value)(hc:w.cell? ⟨g,0,none⟩=some x)(h1:x.oneCell'=true):Src P 1 tx (.slice (some ⟨g,0,none⟩) 1 1) 1 [x] w:=by
 refine Src.ofSlice _ hk _ 1 1 [x] rfl (λj u hu=>?_) (λu hu=>by simp at hu;rw [hu];exact h1)
 match j,hu with
 |0,hu=>
  rw [Addr.add_lit,NV]
  have:u=x:=by simpa using hu.symm
  rw [this]
  exact hc
 |j+1,hu=>simp at hu
theorem aZ{X w':World}{v v':Value}(h:Grew X.drew v w' v'):Grew X v w' v':=⟨h.os,h.output,h.size,h.old,h.at'⟩
theorem DF{wA wr w8:World}{T k jj:Nat}{F:ByteArray}{av v8:Value}{cs:List Value}{o:Obj}(hT:T<wA.heap.size)(hty:wr.heap[T]?=some (kR k F av))(hvo:∀g,blk av=some g->wA.heap.size<=g)(hup:Upd T wA wr)(hg:Grew (wr.alloc o) av w8 v8)(hrow:Row w8 1 v8 (jj+1) cs):
  Row (w8.setCell ⟨T,2,none⟩ v8) 1 v8 (jj+1) cs/\(∀g,blk v8=some g->wA.heap.size<=g)/\Upd T wA (w8.setCell ⟨T,2,none⟩ v8)/\(w8.setCell ⟨T,2,none⟩ v8).heap[T]?=some (kR k F v8):=by
 have hTr:T<wr.heap.size:=NK hT hup.size
 have h8:w8.heap[T]?=some (kR k F av):=(hg.old T Km (λe=>by have:=hvo _ e;omega)).trans ((Oc wr o T hTr).trans hty)
 have hvo8:∀g,blk v8=some g->wA.heap.size<=g:=λg e=>by
  rcases hg.at' with h'|⟨g',h1,h2⟩
  ·exact hvo g (h' ▸ e)
  rw [h2] at e
  cases e
  rw [dE] at h1
  have:=hup.size
  omega
 refine ⟨hrow.carry λi hi=>NZ _ _ _ _ (by have:=hvo8 i hi;show i≠T;omega),hvo8,?_,dG h8 2 v8⟩
 have hu8:Upd T wA w8:=⟨hg.os.trans hup.os,hg.output.trans hup.output,by have:=hg.size;rw [dE] at this;have:=hup.size;omega,λi hi hn=>by
  have:=hup.size
  rw [hg.old i Km (λe=>by have:=hvo _ e;omega),Oc wr o i Kc,hup.old i hi hn]⟩
 exact hu8.trans (Upd.set _ _ _ _)
theorem yE(n sp:ByteArray):(fI n sp).size<=sp.size+1+n.size:=by
 unfold fI
 split
 ·omega
 rw [ByteArray.size_append,ByteArray.size_append];show sp.size+1+n.size<=_;omega
theorem vQ(n:ByteArray):(gi n).size<=n.size:=by
 unfold gi
 rw [ByteArray.size_extract];omega
theorem kS.look{w:World}{m:Nat}{ns:List ByteArray}(h:kS w m ns)(F:ByteArray)(hF:F.size<=70368744177000):∃c:Int,(∀W:World,W.heap[m]?=w.heap[m]? -> (Instr.lookup 74 (.map (some m)) (.string F) true).run prog W=.ok (.tuple #[.int .i64 c,.bool (dU F ns)]) W)/\∀i (h:i<ns.length),ns[i]=F->c=i:=by
 obtain ⟨D,hown,hD,hhas,hat⟩:=h
 have hex:∀W:World,W.heap[m]?=w.heap[m]? -> ∃c:Int,(Instr.lookup 74 (.map (some m)) (.string F) true).run prog W=.ok (.tuple #[.int .i64 c,.bool (dU F ns)]) W/\D.atKey (.string F.data.toList) (.lit (.int .i64 0))=.lit (.int .i64 c):=λW hW=>by
  exact Z44
 obtain ⟨c,_,hc⟩:=hex w rfl
 refine ⟨c,λW hW=>?_,λi hi he=>?_⟩
 ·exact Z189
 have:=hat i hi
 rw [he,hc] at this
 cases this
 rfl
theorem kS.upd{w:World}{m:Nat}{ns:List ByteArray}{F:ByteArray}(hF:F.size<=70368744177000)(h:kS w m ns)(hl:ns.length<=5000)(hnew:dU F ns=false)(x:Int)(hx:x=ns.length):
  ∃w',(Instr.mapUpdate 74 (.map (some m)) (.string F) (.int .i64 x)).run prog w=.ok () w'/\kS w' m (ns++[F])/\w.grownBy w' (some m):=by
 subst hx
 obtain ⟨D,hown,hD,hhas,hat⟩:=h
 obtain ⟨w',hrun,r1,r2⟩:=hown.update Tryz.keyLaw underlying74 Ki (qH F hF) (plainElem_int underlying3 (a:=(ns.length:Int)) (WalkArith.wf_i64 Kc))
 exact ⟨w',hrun,kS.put hF hD hhas hat hnew r1,r2⟩
theorem Tryz.infoP:(prog.info? 53).map (λi=>(i.zero,i.size))=some (some (.pointer none),1):=Kf
theorem Tryz.infoPb:(prog.info? 53).map (λi=>decide (i.bytes<=1000))=some true:=Kf
theorem Tryz.infoP1:∃i z,prog.info? 53=some i/\i.zero=some z/\i.size=1/\z.cells.size=1/\i.bytes<=1000:=by
 obtain ⟨i,h1,h2⟩:=Option.map_eq_some_iff.1 Tryz.infoP
 obtain ⟨i',h1',h3⟩:=Option.map_eq_some_iff.1 Tryz.infoPb
 obtain rfl:i=i':=by rw [h1] at h1';cases h1';rfl
 simp only [Prod.mk.injEq] at h2
 exact ⟨i,_,h1,h2.1,h2.2,rfl,by simpa using h3⟩
theorem Rs.named{W0:World}{rb m:Nat}{wr w6 w8:World}{v v8:Value}{E:Env}{Bs:List Nat}{T k:Nat}{F:ByteArray}{av:Value}{o:Obj}(h:Rs W0 rb m wr v E Bs)(hT:wr.heap[T]?=some (kR k F av))(hTW:W0.heap.size<=T)(hT1:T≠rb)(hT2:T≠m)(hT3:blk v≠some T)(hE:E.length<16)
  (hg6:wr.grownBy w6 (some m)) (hp:kS w6 m (E.map Prod.fst++[F])) (hg8:Grew (w6.alloc o) v w8 v8) (hrow:Row w8 1 v8 (E.length+1) (Bs.map ptr++[ptr T])):
  Rs W0 rb m (w8.setCell ⟨rb,0,none⟩ v8) v8 (E++[(F,k)]) (Bs++[T])/\Ru rb m wr v (w8.setCell ⟨rb,0,none⟩ v8) v8/\(w8.setCell ⟨rb,0,none⟩ v8).heap[T]?=some (kR k F av):=by
 have hTl:T<wr.heap.size:=(Oh hT).1
 have hs6:=hg6.size
 have hs8:=hg8.size
 rw [dE] at hs8
 have hrl:=h.lt
 have hb:∀i,i<wr.heap.size->i≠m->blk v≠some i->w8.heap[i]?=wr.heap[i]?:=λi hi hm hv=>by
  rw [hg8.old i Km hv,Oc w6 o i Kc,hg6.block i hi (λe=>hm LF)]
 have hk:∀i,i<wr.heap.size->i≠rb->i≠m->blk v≠some i->(w8.setCell ⟨rb,0,none⟩ v8).heap[i]?=wr.heap[i]?:=λi hi h1 h2 h3=>by
  rw [NZ w8 ⟨rb,0,none⟩ v8 i h1,hb i hi h2 h3]
 have hru:Ru rb m wr v (w8.setCell ⟨rb,0,none⟩ v8) v8:=⟨hg8.os.trans hg6.os,hg8.output.trans hg6.output,by simp;omega,hk,by
  rcases hg8.at' with e|⟨g,hg,e⟩
  ·exact .inl e
  rw [dE] at hg
  exact .inr ⟨g,by omega,e⟩⟩
 have hml:=h.pl.lt
 have hvW:∀g,blk v8=some g->W0.heap.size<=g/\g≠rb/\g≠m:=λg e=>by
  rcases hg8.at' with e'|⟨g',hg',e'⟩
  ·exact h.vW g (e' ▸ e)
  rw [e'] at e
  cases e
  rw [dE] at hg'
  have:=h.rbW;have:=h.mW
  omega
 have hv8T:∀b,b<wr.heap.size->blk v≠some b->blk v8≠some b:=λb hb' hv e=>by
  rcases hg8.at' with e'|⟨g',hg',e'⟩
  ·exact hv (e' ▸ e)
  rw [e'] at e
  cases e
  rw [dE] at hg'
  omega
 have hTe:=(hk T hTl hT1 hT2 hT3).trans hT
 refine ⟨⟨h.addRu hru,h.rbW,h.mW,hvW,h.rm,?_,?_,?_,?_,?_,by rw [List.length_append,List.length_append,h.len];rfl,by rw [List.length_append];show E.length+1<=16;omega,?_⟩,hru,hTe⟩
 ·have hvr:=Y71
  exact Oe _ _ _ ((NY (a:=⟨rb,0,none⟩) (hb rb hrl h.rm hvr)).trans h.c0)
 ·have hvr:=Y71
  rw [eU Ke,NY (a:=⟨rb,1,none⟩) (hb rb hrl h.rm hvr)]
  exact h.c1
 ·have hvr:=Y71
  rw [Od,Oa (a:=⟨rb,0,none⟩) (hb rb hrl h.rm hvr)]
  exact h.f0
 ·rw [List.length_append,List.map_append]
  exact hrow.carry λi hi=>NZ _ _ _ _ (by have:=(hvW i hi).2.1;show i≠rb;exact this)
 ·rw [List.map_append]
  refine hp.carry ?_
  rw [NZ w8 ⟨rb,0,none⟩ v8 m (by show m≠rb;exact λe=>h.rm e.symm),hg8.old m Km (λe=>(h.vW m e).2.2 rfl),Oc w6 o m Kc]
 intro i n' k' b' h1 h2
 by_cases hi:i<E.length
 ·rw [List.getElem?_append_left hi] at h1
  rw [List.getElem?_append_left (by rw [h.len];exact hi)] at h2
  obtain ⟨q1,q2,q3,q4,q5,q6,q7⟩:=h.types i n' k' b' h1 h2
  have hbb:=hk b' q1 q3 q4 q5
  exact ⟨NK q1 hru.size,q2,q3,q4,hv8T b' q1 q5,(NY (a:=⟨b',0,none⟩) hbb).trans q6,(NY (a:=⟨b',1,none⟩) hbb).trans q7⟩
 have hi':i=E.length:=by
  have:=(Oi h1).1
  rw [List.length_append] at this
  simp at this
  omega
 subst hi'
 rw [List.getElem?_append_right (NL _),Nat.sub_self] at h1
 rw [<-h.len,List.getElem?_append_right (NL _),Nat.sub_self] at h2
 cases h1
 cases h2
 obtain ⟨p0,p1,_⟩:=gX hTe
 exact ⟨NK hTl hru.size,hTW,hT1,hT2,hv8T _ hTl hT3,p0,p1⟩
end
end Go.Proofs.YtmphmjkinmkidaaGreatDoor
