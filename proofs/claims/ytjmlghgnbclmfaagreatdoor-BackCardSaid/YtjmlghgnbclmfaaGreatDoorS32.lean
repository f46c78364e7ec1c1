import Derived.Test.YtjmlghgnbclmfaaGreatDoorS31
set_option linter.defProp false
open Go.Proofs.Tryz
set_option maxRecDepth 8000
set_option maxHeartbeats 4000000
open Go Go.RowKit Go.Extern.Stop Go.Stop Go.Extern
namespace Go.Proofs.YtjmlghgnbclmfaaGreatDoor
variable{p:Prop}
section
structure Cx(W0 wL:World)(E:Env)(Bs:List Nat):Prop where
 refs:∀n k b,jA E Bs n k b->b<wL.heap.size/\wL.cell? ⟨b,0,none⟩=some (.int .i64 (k:Nat))/\wL.cell? ⟨b,1,none⟩=some (.string n)
 words:lS wL
 glob:16<wL.heap.size
 pow:Pow wL
theorem xD:∀(l:List Sch) (A:List ByteArray),jh l A->∀j (h:j<l.length),rdy l[j] (A++(dL (l.take j)).map Prod.fst)
 |[],A,_,j,h=>by simp at h
 |s::r,A,hr,0,h=>by
  rw [jh] at hr
  simpa [dL] using hr.1
 |s::r,A,hr,j+1,h=>by
  rw [jh] at hr
  have:=xD r _ hr.2 j Ky
  simpa [dL,List.append_assoc] using this
theorem oq(l:List Sch)(j:Nat)(h:j<l.length):dL (l.take (j+1))=dL (l.take j)++dM l[j]:=by
 rw [List.take_add_one,NP h,Option.toList_some,pR,dL,dL,List.append_nil]
theorem wj(l:List Sch):∀j,(dL (l.take j)).length<=(dL l).length:=by
 intro j
 conv=>rhs;rw [<-List.take_append_drop j l,pR]
 simp
theorem Dz{l:List Sch}(h:gH l)(j:Nat)(hj:j<l.length):shp l[j]:=ol.1 h _ (NS hj)
theorem vJ{M:Nat} : ∀ {l:List Sch},fP M l->∀j (hj:j<l.length),lU M l[j]
 |[],_,j,h=>by simp at h
 |s::r,h,0,_=>by rw [fP] at h;exact h.1
 |s::r,h,j+1,hj=>by rw [fP] at h;exact vJ h.2 j La
theorem sU:∀(l:List Sch) (j:Nat) (hj:j<l.length),jQ l[j]<=ft l
 |[],j,h=>by simp at h
 |s::r,0,_=>by rw [ft];simp
 |s::r,j+1,hj=>by
  rw [ft]
  have:=sU r j La
  simp only [List.getElem_cons_succ]
  omega
theorem Ip{n:ByteArray}{A:List ByteArray}(h:n∈A):dU n A=true:=by simp [dU,h]
theorem uP{n:ByteArray}{A:List ByteArray}(h:n ∉ A):dU n A=false:=by
 cases e:dU n A with
 |false=>rfl
 |true=>
  simp [dU] at e
  exact absurd e h
theorem Ay:∀(l:List Sch) (ns:List ByteArray),(dW ns l).length=l.length
 |[],ns=>by rw [dW];rfl
 |s::r,ns=>by rw [dW,List.length_cons,Ay r,List.length_cons]
theorem IB:∀(l:List Sch) (ns:List ByteArray) (j:Nat) (h:j<(dW ns l).length) (h1:j<ns.length) (h2:j<l.length),(dW ns l)[j]=fJ ns[j] l[j]
 |[],ns,j,h,_,h2=>by simp at h2
 |s::r,[],j,_,h1,_=>by simp at h1
 |s::r,n::ns,0,h,_,_=>by simp [dW,fJ]
 |s::r,n::ns,j+1,h,h1,h2=>by
  have:=IB r ns j (by rw [Ay] at h ⊢;simpa using h) (by simpa using h1) (by simpa using h2)
  simpa [dW] using this
theorem Row.at_pos{w:World}{size:Nat}{v:Value}{N:Nat}{cs:List Value}(h:Row w size v N cs)(hN:0<N):∃g c,v=.slice (some ⟨g,0,none⟩) N c/\g<w.heap.size/\∀j,j<N*size->w.cell? ⟨g,j,none⟩=cs[j]?:=by
 rcases h with ⟨_,h0,_⟩|⟨g,c,e,hg⟩
 ·omega
 exact ⟨g,c,e,hg.lt,hg.holds⟩
theorem Jc{ok:Nat->Prop}{W0 wL:World}{E:Env}{Bs:List Nat}{B wb mm:Nat}(hC:Cx W0 wL E Bs)(hBL:B=wL.heap.size):∀(N:Nat) (s:Sch),jQ s<=N->∀(b:Nat) (A:List ByteArray),s.at ok W0 wL E Bs b->shp s->rdy s A->lU 3000000 s->A.length+(dM s).length<=5000->WOk B wb mm wL s b A:=by
 intro N
 induction N with
 |zero=>intro s h;cases s <;> simp [jQ] at h
 |succ N ih=>
  intro s hN b A hat hs hr hnm hA acc w hW hO hlen
  cases s with
  |ref k n=>
   rw [Sch.at] at hat
   rw [shp] at hs
   rw [rdy] at hr
   rw [lU] at hnm
   obtain ⟨hlt,h0,h1⟩:=hC.refs n k b hat
   have e:A++(dM (Sch.ref k n)).map Prod.fst=A:=by rw [dM];simp
   rw [e,CW]
   rw [CW] at hlen
   exact Au hW hO hBL hlt h0 Kc _ _ (λW hW hO=>Gy hW hO hBL hlt h1 (Ip hr) hnm hlen)
  |mk k n ns size kids ds=>
   rw [Sch.at] at hat
   obtain ⟨bs,hnd,hall,-⟩:=hat
   rw [shp] at hs
   obtain ⟨hsk,hs⟩:=hs
   rw [rdy] at hr
   rw [lU] at hnm
   obtain ⟨hn,hns,hk⟩:=hnm
   rw [jQ] at hN
   have hbl:=cB kids bs hall
   have hag:=cz kids bs hall
   have hkid:∀(A':List ByteArray),jh kids A'->A'.length+(dL kids).length<=5000->∀j (h:j<kids.length) (h':j<bs.length),WOk B wb mm wL kids[j] bs[j] (A'++(dL (kids.take j)).map Prod.fst):=by
    intro A' hr' hA' j h h'
    refine ih kids[j] (by have:=sU kids j h;omega) bs[j] _ (hag j h h') (Dz hsk j h) (xD kids A' hr' j h) (vJ hk j h) ?_
    have h1:=wj kids (j+1)
    rw [oq kids j h] at h1
    simp at h1 ⊢
    omega
   have hlt:=hnd.lt
   have h0:=hnd.kind
   have hnn:=hnd.name
   rcases hs with ⟨h1,h2,-,-,-,rfl,-⟩|⟨rfl,hkl,hdl,hl12,-,hnm,-⟩|⟨rfl,rfl,-,hs1,hs12,-,-,-⟩|⟨rfl,rfl,-,-,hsz,-⟩|⟨h11,hk1,-,-,-,-⟩|⟨rfl,hk1,hk12,-,-,-,-⟩
   ·have e:A++(dM (Sch.mk k n ns size [] ds)).map Prod.fst=A:=by rw [dM,dL,if_neg Kc];simp
    rw [e]
    rw [Fh k n ns size [] ds h2] at hlen ⊢
    exact JC k hW hO hBL hlt h0 h1 h2 hC.words hC.glob hlen
   ·rw [if_pos Kc] at hr
    have e:A++(dM (Sch.mk 9 n ns size kids ds)).map Prod.fst=A++[n]++(dL (kids.take ns.length)).map Prod.fst:=by rw [dM,if_pos Kc,<-hkl,List.take_length];simp
    have hA':(A++[n]).length+(dL kids).length<=5000:=by rw [dM,if_pos Kc] at hA;simp at hA ⊢;omega
    have hkd:=hkid (A++[n]) hr.2 hA'
    rw [e]
    obtain ⟨v,cs,h3,hrow,-,hfa⟩:=hnd.fields
    rw [if_pos rfl] at hrow
    obtain ⟨hcl,hbl2,hdl2,hget⟩:=je ns bs ds cs (hfa rfl)
    obtain ⟨va,vc,rfl⟩:=hrow.shape
    refine Au hW hO hBL hlt h0 Kc _ _ (λW hW hO=>Gm hW hO hBL hlt h0 hnn (uP hr.1) hn (by simp at hA';omega) ns size kids ds va vc ns.length hl12 (by rw [Ay,hkl]) h3 hlen (λj=>A++[n]++(dL (kids.take j)).map Prod.fst) (by simp [dL]) (λj hj W' acc' hWj hbx hOj hlj=>?_))
    have hjn:j<ns.length:=by rw [Ay,hkl] at hj;exact hj
    have hjk:j<kids.length:=Kc
    rw [IB kids ns j hj hjn hjk] at hlj ⊢
    obtain ⟨g,c,ev,hg,hcell⟩:=hrow.at_pos Kc
    obtain ⟨aa,al,ac,k',i',t',a',na',l',c',nl',nc',m',hfc,-⟩:=hget j hjn Kc Kc
    cases ev
    have e2:A++[n]++(dL (kids.take (j+1))).map Prod.fst=(A++[n]++(dL (kids.take j)).map Prod.fst)++(dM kids[j]).map Prod.fst:=by
     rw [oq kids j hjk,List.map_append]
     simp
    rw [e2]
    exact clo_rec (hkd j hjk Kc) hbx hWj hOj hBL hlt h3 hg hjn ns[j] aa al ac k' i' t' a' na' l' c' nl' nc' m' ds[j].isSome (λf hf=>by rw [NV,hcell (j*10+f) Kc];exact hfc f hf) (hns _ (NS hjn)) hlj
   ·rw [if_pos Kc] at hr
    have e:A++(dM (Sch.mk 10 n ns size [] ds)).map Prod.fst=A++[n]:=by rw [dM,if_pos Kc,dL];simp
    rw [e]
    obtain ⟨v,h4,-,hrow⟩:=hnd.symbols
    rw [if_pos rfl,if_pos rfl] at hrow
    obtain ⟨va,vc,rfl⟩:=hrow.shape
    refine Au hW hO hBL hlt h0 Kc _ _ (λW hW hO=>Gp hW hO hBL hlt h0 hnn (uP hr.1) hn Kc ns size [] ds va vc ns.length hs12 Kh h4 hlen (λj hj W' acc' hWj hbx hOj hlj=>?_))
    have hjn:j<ns.length:=La
    rw [List.getElem_map] at hlj ⊢
    obtain ⟨g,c,ev,hg,hcell⟩:=hrow.at_pos Kc
    cases ev
    exact clo_enu hbx hWj hOj hBL hlt h4 hg hjn (by rw [NV,hcell j Kc];simp [hjn]) (hns _ (NS hjn)) hlj
   ·rw [if_pos Kc] at hr
    have e:A++(dM (Sch.mk 14 n ns size [] ds)).map Prod.fst=A++[n]:=by rw [dM,if_pos Kc,dL];simp
    rw [e]
    exact Au hW hO hBL hlt h0 Kc _ _ (λW hW hO=>Gr hW hO hBL hlt h0 hnn (uP hr.1) hn Kc ns size [] ds hnd.size hsz hC.pow hlen)
   ·obtain ⟨x,rfl⟩:∃x,kids=[x]:=by
     match kids,hk1 with
     |[x],_=>exact ⟨x,rfl⟩
    obtain ⟨x7,h7,hx7⟩:=hnd.item
    obtain ⟨c,rfl,rfl⟩:=hx7 h11
    rw [if_neg Kc] at hr
    have e:A++(dM (Sch.mk k n ns size [x] ds)).map Prod.fst=A++(dM x).map Prod.fst:=by rw [dM,if_neg Kc,dL,dL];simp
    have hA':A.length+(dL [x]).length<=5000:=by rw [dM,if_neg Kc] at hA;simpa using hA
    have hkd:=hkid A hr hA' 0 Kh Kh
    simp only [List.take_zero,dL,List.map_nil,List.append_nil,List.getElem_cons_zero] at hkd
    rw [e]
    rcases h11 with rfl|rfl
    ·exact sch_11 hW hO hBL hlt h0 n ns size x ds c h7 hkd hlen
    exact sch_12 hW hO hBL hlt h0 n ns size x ds c h7 hkd hlen
   rw [if_neg Kc] at hr
   have e:A++(dM (Sch.mk 13 n ns size kids ds)).map Prod.fst=A++(dL (kids.take kids.length)).map Prod.fst:=by rw [dM,if_neg Kc,List.take_length];simp
   have hA':A.length+(dL kids).length<=5000:=by rw [dM,if_neg Kc] at hA;simpa using hA
   have hkd:=hkid A hr hA'
   rw [e]
   obtain ⟨v,h8,-,hrow⟩:=hnd.branches
   rw [if_pos rfl,if_pos rfl,<-hbl] at hrow
   obtain ⟨va,vc,rfl⟩:=hrow.shape
   refine sch_13 hW hO hBL hlt h0 n ns size kids ds va vc kids.length hk12 (by rw [nL];simp) h8 hlen (λj=>A++(dL (kids.take j)).map Prod.fst) (by simp [dL]) (λj hj W' acc' hWj hbx hOj hlj=>?_)
   have hjk:j<kids.length:=by rw [nL] at hj;simpa using hj
   have ej:(jI kids)[j]=jOf kids[j]:=by simp only [nL,List.getElem_map]
   rw [ej] at hlj ⊢
   obtain ⟨g,c,ev,hg,hcell⟩:=hrow.at_pos Kc
   cases ev
   have e2:A++(dL (kids.take (j+1))).map Prod.fst=(A++(dL (kids.take j)).map Prod.fst)++(dM kids[j]).map Prod.fst:=by
    rw [oq kids j hjk,List.map_append]
    simp
   rw [e2]
   exact clo_un (hkd j hjk Kc) hbx hWj hOj hBL hlt h8 hg hjk (by rw [NV,hcell j Kc];simp [ptr]) hlj
end
section
variable{ok:Nat->Prop}{W0 w:World}{Bs:List Nat}
mutual
theorem EI{E:Env} : ∀(s:Sch) (b:Nat),s.at ok W0 w E Bs b->∀p∈dM s,∃b',jA E Bs p.1 p.2 b'/\b'<w.heap.size/\w.cell? ⟨b',0,none⟩=some (.int .i64 (p.2:Nat))/\w.cell? ⟨b',1,none⟩=some (.string p.1)
 |.ref k n,b,h,p,hp=>by rw [dM] at hp;cases hp
 |.mk k n ns size kids ds,b,h,p,hp=>by
  rw [Sch.at] at h
  obtain ⟨bs,hnd,hall,hrf⟩:=h
  rw [dM,List.mem_append] at hp
  rcases hp with hp|hp
  ·split at hp
   ·rename_i hk
    rw [List.mem_singleton] at hp
    subst hp
    exact ⟨b,hrf hk,hnd.lt,hnd.kind,hnd.name⟩
   cases hp
  exact xt kids bs hall p hp
theorem xt{E:Env} : ∀(l:List Sch) (bs:List Nat),bZ ok W0 w E Bs l bs->∀p∈dL l,∃b',jA E Bs p.1 p.2 b'/\b'<w.heap.size/\w.cell? ⟨b',0,none⟩=some (.int .i64 (p.2:Nat))/\w.cell? ⟨b',1,none⟩=some (.string p.1)
 |[],bs,h,p,hp=>by rw [dL] at hp;cases hp
 |s::r,[],h,p,hp=>by rw [bZ] at h;exact h.elim;all_goals simp
 |s::r,b::bs,h,p,hp=>by
  rw [bZ] at h
  rw [dL,List.mem_append] at hp
  rcases hp with hp|hp
  ·exact EI s b h.1 p hp
  exact xt r bs h.2 p hp
end
theorem refs_of{s:Sch}{b:Nat}(h:s.at ok W0 w (dM s) Bs b)(hn:((dM s).map Prod.fst).Nodup):∀n k b,jA (dM s) Bs n k b->b<w.heap.size/\w.cell? ⟨b,0,none⟩=some (.int .i64 (k:Nat))/\w.cell? ⟨b,1,none⟩=some (.string n):=by
 rintro n k b' ⟨i,h1,h2⟩
 obtain ⟨b2,⟨i2,h3,h4⟩,h5⟩:=EI s b h (n,k) (List.mem_of_getElem? h1)
 have e:i=i2:=uR hn (by rw [List.length_map];exact (Oi h1).1) LC (by rw [List.getElem_map,List.getElem_map,(Oi h1).2,(Oi h3).2])
 subst e
 rw [h2] at h4
 cases h4
 exact h5
theorem Wr.new(w:World):Wr w.heap.size (w.heap.size+1) w.heap.size ((w.alloc (.map #[] 0)).alloc (.cells #[.pointer none,.slice none 0 0,.map (some w.heap.size)] 80 (0,0))) [] []:=by
 have s1:=dE w (.map #[] 0)
 have hm:nH (w.alloc (.map #[] 0)) w.heap.size []:=⟨.map [],World.ownsMap_made _ _ _ _,⟨_,rfl⟩,λ_=>rfl⟩
 generalize w.alloc (.map #[] 0)=G at *
 have b2:=dD G (.cells #[.pointer none,.slice none 0 0,.map (some w.heap.size)] 80 (0,0))
 have ha:=ae G (.cells #[.pointer none,.slice none 0 0,.map (some w.heap.size)] 80 (0,0))
 have hm2:=hm.carry (ha.old w.heap.size Kc)
 rw [s1] at b2
 generalize G.alloc (.cells #[.pointer none,.slice none 0 0,.map (some w.heap.size)] 80 (0,0))=H at *
 have c0:H.cell? ⟨w.heap.size+1,0,none⟩=some (.pointer none):=KY
 have c1:H.cell? ⟨w.heap.size+1,1,none⟩=some (.slice none 0 0):=KY
 have c2:H.cell? ⟨w.heap.size+1,2,none⟩=some (.map (some w.heap.size)):=KY
 have fz:∀k,H.frozen? ⟨w.heap.size+1,k,none⟩=false:=λk=>by unfold World.frozen?;rw [b2];simp
 refine ⟨⟨by omega,.inr (by unfold World.shape?;rw [b2];rfl),⟨none,c0,.inl rfl⟩,⟨_,c1,⟨rfl,.inl ⟨rfl,rfl⟩⟩,by simp [Value.ownBlock]⟩,fz 0,fz 1,λ_=>c1⟩,c2,hm2,by omega,NL _⟩
theorem yQ{s:Sch}{b:Nat}(hat:s.at ok W0 w (dM s) Bs b)(hs:shp s)(hr:rdy s [])(hnm:lU 3000000 s)(hnd:((dM s).map Prod.fst).Nodup)(h16:(dM s).length<=5000)(hlen:(jB (jOf s)).length<=10000000000000)(hw:lS w)(hg:16<w.heap.size)(hpw:Pow w):
  Calls prog 17 #[.pointer (some ⟨b,0,none⟩)] w λe w'=>e=.returned (.string ⟨(jB (jOf s)).toArray⟩)/\Add w w':=by
 have hC:Cx W0 w (dM s) Bs:=⟨refs_of hat hnd,hw,hg,hpw⟩
 have hal:=(ae w (.map #[] 0)).trans (ae _ (.cells #[.pointer none,.slice none 0 0,.map (some w.heap.size)] 80 (0,0)))
 have hsc:=Jc (wb:=w.heap.size+1) (mm:=w.heap.size) hC rfl (jQ s) s (NL _) b [] hat hs hr hnm (by simpa using h16) [] _ (Wr.new w) (Old.add hal) (by simpa using hlen)
 have hmm:=@run_makeMap prog
 have HLEN:=bf hlen
 have HAL:=bf hal
 clear hC hat hs hr hnm hnd h16 hlen hw hg hpw hal
 go_enter func17,ntmps17
 go_wp2_with (first
  |(go_at_call 28;refine hsc.mono ?_;rintro e w2 ⟨rfl,hr2,hk2⟩;have hbs:=GH hr2.bld (by simpa using HLEN.out);have HK2:=bf hk2;clear hr2 hk2)
  |(go_at_call 29;refine hbs.mono ?_;rintro e w3 ⟨rfl,h1,h2,h3,h4⟩))
 go_ret
 exact ⟨by simp,h1.trans (HK2.out.os.trans HAL.out.os),h2.trans (HK2.out.output.trans HAL.out.output),NM HAL.out.size (NM HK2.out.size h3),λi hi=>(h4 i hi).trans ((HK2.out.below i hi).trans (HAL.out.old i hi))⟩
end
section
variable{ok:Nat->Prop}{W0 w:World}{s:Sch}{E:Env}{Bs:List Nat}
mutual
theorem ur : ∀(j:J) (cs:List Value),j.lies ok w cs->j.strs 65536
 |.null,_,_=>by rw [J.strs];trivial
 |.bool _,_,_=>by rw [J.strs];trivial
 |.num _,_,_=>by rw [J.strs];trivial
 |.str s,_,h=>by rw [J.lies] at h;rw [J.strs];exact h.2
 |.arr l,_,h=>by
  rw [J.lies] at h
  obtain ⟨a,c,_,_,h⟩:=h
  rw [J.strs]
  exact pF a 0 l h
 |.obj ns vs,_,h=>by
  rw [J.lies] at h
  obtain ⟨a,c,na,nc,m,_,_,_,_,_,_,_,h⟩:=h
  rw [J.strs]
  exact pF a 0 vs h
theorem pF(a:Option Addr):∀(i:Nat) (l:List J),J.lieAll ok w a i l->bU 65536 l
 |_,[],_=>by rw [bU];trivial
 |i,j::r,h=>by
  rw [J.lieAll] at h
  obtain ⟨⟨b,o,cs,_,_,_,_,_,h1⟩,h2⟩:=h
  rw [bU]
  exact ⟨ur j cs h1,pF a (i+1) r h2⟩
end
structure Good(s:Sch):Prop where
 shp:shp s
 closed:closed (dM s) s
 nodup:((dM s).map Prod.fst).Nodup
 cnt:0<cnt s
 rdy:rdy s []
 nm:lU 3000000 s
 len:(jB (jOf s)).length<=10000000000000
theorem EY{j:J}(h:rdS 33 j ByteArray.empty []=some (s,E))(hw:j.within 32)(hst:j.strs 65536)(hc:j.cost<=65536):Good s/\E=dM s:=by
 obtain ⟨d1,d2,d3⟩:=xY 33 j _ [] s E h
 rw [List.nil_append] at d1
 subst d1
 obtain ⟨b1,b2,b3⟩:=rdS_big 3000000 33 j ByteArray.empty [] s _ 32 h hw hst (λ_ h=>by cases h) Ke
 have hs:=rdS_shp 33 j ByteArray.empty [] s _ h (λ_ h=>by cases h)
 refine ⟨⟨hs,d2,d3 Kh,?_,b1,b2,?_⟩,rfl⟩
 ·cases s with
  |ref k n=>rw [Go.Proofs.YtjmlghgnbclmfaaGreatDoor.rdy] at b1;cases b1
  |mk k n ns size kids ds=>rw [Go.Proofs.YtjmlghgnbclmfaaGreatDoor.cnt];omega
 have h1:=zZ s hs b2
 have h2:jQ s*(14*(3000000+64))<=65536*(14*(3000000+64)):=Nat.mul_le_mul_right _ Kc
 exact NM h1 (NM h2 Ke)
mutual
theorem zO{D:ByteArray->Nat} : ∀(s:Sch) (i:Nat),shp s->lU 3000000 s->∀t∈oM D i s,(t.kind=13->t.branches≠[])/\∀f∈t.fields,f.1.size<=3000000
 |.ref _ _,i,_,_,t,h=>by rw [oM] at h;cases h
 |.mk k n ns size kids defs,i,hs,hn,t,h=>by
  rw [oM] at h
  rw [Go.Proofs.YtjmlghgnbclmfaaGreatDoor.shp] at hs
  rw [lU] at hn
  have hil:=rq D kids (i+1)
  rcases List.mem_cons.1 h with rfl|h
  ·refine ⟨λhk=>?_,λf hf=>?_⟩
   ·have hk':k=13:=by have:(k:Int)=13:=hk;omega
    show (if k=13 then kw D (i+1) kids else [])≠[]
    rw [if_pos hk']
    intro e
    rw [e] at hil
    simp at hil
    rcases hs.2 with ⟨q1,q2,_⟩|⟨q,_⟩|⟨q,_⟩|⟨q,_⟩|⟨q,_⟩|⟨q,q2,_⟩ <;> omega
   have:f∈(if k=9 then ns.zip (kw D (i+1) kids) else []):=hf
   split at this
   ·exact hn.2.1 _ (List.of_mem_zip this).1
   cases this
  exact xu kids (i+1) hs.1 hn.2.2 t h
theorem xu{D:ByteArray->Nat} : ∀(l:List Sch) (i:Nat),gH l->fP 3000000 l->∀t∈gZ D i l,(t.kind=13->t.branches≠[])/\∀f∈t.fields,f.1.size<=3000000
 |[],i,_,_,t,h=>by rw [gZ] at h;cases h
 |s::r,i,hs,hn,t,h=>by
  rw [gZ] at h
  rw [gH] at hs
  rw [fP] at hn
  rcases List.mem_append.1 h with h|h
  ·exact zO s i hs.1 hn.1 t h
  exact xu r _ hs.2 hn.2 t h
end
theorem Good.names(h:Good s):wE (fH s):=λ_ hi f hf=>(zO s 0 h.shp h.nm _ (NS hi)).2 f hf
theorem Good.brs(h:Good s):∀i (hi:i<(fH s).length),(fH s)[i].kind=13->(fH s)[i].branches≠[]:=λ_ hi=>(zO s 0 h.shp h.nm _ (NS hi)).1
mutual
def nF:Sch->Prop
 |.ref _ _=>True
 |.mk _ _ _ _ kids defs=>(∀d∈defs,d=none)/\pQ kids
def pQ:List Sch->Prop
 |[]=>True
 |s::r=>nF s/\pQ r
end
mutual
theorem uZ:∀s:Sch,nF (eO s)
 |.ref _ _=>by rw [eO,nF];trivial
 |.mk k n ns size kids defs=>by
  rw [eO,nF]
  exact ⟨λd hd=>by obtain ⟨_,_,e⟩:=List.mem_map.1 hd;exact e.symm,pq kids⟩
theorem pq:∀l:List Sch,pQ (dS l)
 |[]=>by rw [dS,pQ];trivial
 |s::r=>by rw [dS,pQ];exact ⟨uZ s,pq r⟩
end
def Aw(w:World)(b:Nat):Prop:=∀fb fo n fc,w.cell? ⟨b,3,none⟩=some (.slice (some ⟨fb,fo,none⟩) n fc)->∀i,i<n->w.cell? ⟨fb,fo+i*10+9,none⟩=some (.bool false)
theorem Im{k:Nat}{n:ByteArray}{ns:List ByteArray}{size:Nat}{bs:List Nat}{defs:List (Option J)}{b:Nat}(h:NodeAt ok W0 w k n ns size bs defs b)(hd:∀d∈defs,d=none):Aw w b:=by
 intro fb fo m fc hc i hi
 obtain ⟨v,cs,h3,hrow,-,hfa⟩:=h.fields
 rw [h3] at hc
 cases hc
 by_cases hk:k=9
 ·rw [if_pos hk] at hrow
  obtain ⟨a,c,e⟩:=hrow.shape
  cases e
  obtain ⟨g,c',e,-,hcell⟩:=hrow.at_pos Kc
  cases e
  obtain ⟨hcl,hbl,hdl,hget⟩:=je ns bs defs cs (hfa hk)
  obtain ⟨aa,al,ac,k',i',t',a',na',l',c',nl',nc',m',hfc,-⟩:=hget i hi Kc Kc
  have e:defs[i]' Kc=none:=hd _ (NS _)
  rw [NV,hcell _ Kc,hfc 9 Kc,e]
  rfl
 rw [if_neg hk] at hrow
 obtain ⟨a,c,e⟩:=hrow.shape
 cases e
 omega
mutual
theorem Hf : ∀(s:Sch) (b:Nat),s.at ok W0 w E Bs b->nF s->∀p∈dM s,∃b',jA E Bs p.1 p.2 b'/\Aw w b'
 |.ref k n,b,h,_,p,hp=>by rw [dM] at hp;cases hp
 |.mk k n ns size kids ds,b,h,hn,p,hp=>by
  rw [Sch.at] at h
  obtain ⟨bs,hnd,hall,hrf⟩:=h
  rw [nF] at hn
  rw [dM,List.mem_append] at hp
  rcases hp with hp|hp
  ·split at hp
   ·rename_i hk
    rw [List.mem_singleton] at hp
    subst hp
    exact ⟨b,hrf hk,Im hnd hn.1⟩
   cases hp
  exact zx kids bs hall hn.2 p hp
theorem zx : ∀(l:List Sch) (bs:List Nat),bZ ok W0 w E Bs l bs->pQ l->∀p∈dL l,∃b',jA E Bs p.1 p.2 b'/\Aw w b'
 |[],bs,h,_,p,hp=>by rw [dL] at hp;cases hp
 |s::r,[],h,_,p,hp=>by rw [bZ] at h;exact h.elim;all_goals simp
 |s::r,b::bs,h,hn,p,hp=>by
  rw [bZ] at h
  rw [pQ] at hn
  rw [dL,List.mem_append] at hp
  rcases hp with hp|hp
  ·exact Hf s b h.1 hn.1 p hp
  exact zx r bs h.2 hn.2 p hp
end
theorem JI{b:Nat}(h:s.at ok W0 w (dM s) Bs b)(hn:((dM s).map Prod.fst).Nodup)(hl:Bs.length=(dM s).length)(hd:nF s):Jf w Bs:=by
 intro b' hb'
 obtain ⟨i,hi,e⟩:=List.getElem_of_mem hb'
 obtain ⟨p,hp⟩:∃p,(dM s)[i]?=some p:=⟨_,NP Kc⟩
 obtain ⟨b2,⟨i2,h3,h4⟩,h5⟩:=Hf s b h hd p (List.mem_of_getElem? hp)
 have e2:i=i2:=uR hn (by rw [List.length_map];omega) LC (by rw [List.getElem_map,List.getElem_map,(Oi hp).2,(Oi h3).2])
 subst e2
 rw [NP hi,e] at h4
 cases h4
 exact h5
end
section
def Z86(h:p:=by
 go_enter func20,ntmps20
 go_wp2
 go_quiet (fail)
 go_wp2_with (go_at_call 35;refine (han _).mono ?_;rintro e w1 ⟨rfl,rfl⟩)
 exact Z266):p:=h
def Z94(h:p:=by
 go_enter func20,ntmps20
 go_wp2
 go_quiet (fail)
 go_wp2
 go_quiet ((go_at_call 20;exact hm' _ _))
 go_wp2
 exact Z266):p:=h
def Z163(h:p:=by
 go_wp2
 exact Z266):p:=h
def Z171(h:p:=by
 show Lib.lastIdx n 46 n.size+1<=_/\_<=Lib.lastIdx n 46 n.size
 omega):p:=h
def Z266(h:p:=by
 go_ret
 first|exact ⟨rfl,_,rfl⟩|exact ⟨rfl,_,World.drewN_drewN ..⟩):p:=h
def Jy(n:ByteArray):ByteArray:=n.extract (Lib.lastIndexByte n 46+1).toNat n.size
theorem zR(n:ByteArray)(w:World)(hn:n.size<=70368744177000):
  Calls prog 57 #[.string n] w λe w'=>e=.returned (.string (Jy n))/\w'=w:=by
 have hl:=AZ n w Kc
 have hb:Lib.lastIndexByte n 46+1<=(n.size:Int) /\ -1<=Lib.lastIndexByte n 46:=by
  rcases Lib.lastIdx_spec n 46 n.size with ⟨e,_⟩|⟨i,hi,e,_⟩
  ·exact Z171
  exact Z171
 unfold Jy
 generalize Lib.lastIndexByte n 46=i at *
 obtain ⟨m,hm⟩:∃m:Nat,i+1=(m:Int):=⟨(i+1).toNat,by omega⟩
 have hms:m<=n.size:=Kc
 have hw:wrap64 (i+1)=(m:Int):=by rw [hm];unfold wrap64;omega
 rw [hm,Int.toNat_natCast]
 clear hb hm
 unfold gC at hl
 go_enter func57,ntmps57
 go_wp2_with (go_at_call 85;refine hl.mono ?_;rintro e w1 ⟨rfl,hw1⟩;rw [hw1])
 go_ret
 exact ⟨rfl,rfl⟩
theorem zX{w:World}{b b':Nat}{n:ByteArray}(hn:n.size<=70368744177000)(h1:w.cell? ⟨b,1,none⟩=some (.string n))(h2:w.cell? ⟨b',1,none⟩=some (.string n)):
  Calls prog 35 #[.pointer (some ⟨b,0,none⟩),.pointer (some ⟨b',0,none⟩)] w λe w'=>e=.returned (.bool true)/\w'=w:=by
 have hl:=λW=>zR n W hn
 clear hn
 generalize Jy n=q at hl
 go_enter func35,ntmps35
 go_wp2_with (go_at_call 57;refine (hl _).mono ?_;rintro e w1 ⟨rfl,rfl⟩)
 go_ret
 exact ⟨rfl,rfl⟩
theorem Bz{ok ok':Nat->Prop}{W0 W1:World}{E E':Env}{Bs Bs':List Nat} : ∀(N:Nat) (s:Sch),jQ s<=N->shp s->rdy s []->lU 3000000 s->∀(w:World) (b b':Nat),s.at ok W0 w E Bs b->(eO s).at ok' W1 w E' Bs' b' ->
  Calls prog 20 #[.pointer (some ⟨b,0,none⟩),.pointer (some ⟨b',0,none⟩)] w λe w'=>e=.returned (.bool true)/\∃m,w'=w.drewN m
 |_,.ref _ _,_,_,hr,_=>by rw [rdy] at hr;cases hr
 |0,.mk _ _ _ _ _ _,h,_,_,_=>by rw [jQ] at h;omega
 |N+1,.mk k n ns size kids defs,h,hs,hr,hnm=>by
  have ih:=@Bz ok ok' W0 W1 E E' Bs Bs' N
  intro w b b' hat hat'
  rw [eO] at hat'
  rw [Sch.at] at hat hat'
  obtain ⟨bs,hN,hA,-⟩:=hat
  obtain ⟨bs',hN',hA',-⟩:=hat'
  have c0:=hN.kind
  have d0:=hN'.kind
  have c1:=hN.name
  have d1:=hN'.name
  have c6:=hN.size
  have d6:=hN'.size
  obtain ⟨x,c7,hx⟩:=hN.item
  obtain ⟨x',d7,hx'⟩:=hN'.item
  rw [lU] at hnm
  rw [rdy] at hr
  rw [shp] at hs
  rw [jQ] at h
  obtain ⟨hsk,hs⟩:=hs
  have han:=λq=>zX (w:=w.drewN q) (n:=n) Kc c1 d1
  have hk14:1<=k/\k<=14:=Nf
  by_cases hk:k=11\/k=12
  ·obtain ⟨c,rfl,rfl⟩:=hx hk
   obtain ⟨c',rfl,rfl⟩:=hx' hk
   rw [if_neg Kc] at hr
   have hkl:kids.length=1:=Nf
   match kids,hkl with
   |[t],_=>
    rw [dS,dS] at hA'
    rw [bZ] at hA hA'
    rw [jh] at hr
    rw [gH] at hsk
    rw [fP] at hnm
    rw [ft,ft] at h
    have hm:=λq=>ih t Kc hsk.1 hr.1 hnm.2.2.1 (w.drewN q) c c' (cO (w:=w) (w':=w.drewN q) ⟨NL _,λ_ _ _=>rfl⟩ (λ_ h _=>h) (NN _) (NN _) _ _ hA.1) (cO (w:=w) (w':=w.drewN q) ⟨NL _,λ_ _ _=>rfl⟩ (λ_ h _=>h) (NN _) (NN _) _ _ hA'.1)
    unfold ptr at c7 d7
    have hm':∀y q,Calls prog 20 #[.pointer (some ⟨c,0,none⟩),.pointer (some ⟨c',0,none⟩)] (w.drewN (q+y)) λe w'=>e=.returned (.bool true)/\∃m,w'=w.drewN (q+m):=λy q=>(hm (q+y)).mono λe w' h=>⟨h.1,h.2.elim λm hm=>⟨y+m,by rw [hm,World.drewN_drewN,Nat.add_assoc]⟩⟩
    clear hm ih hA hA' hN hN' hnm hr hs hsk h han hk14 hx hx' c1 d1 c6 d6
    rcases hk with rfl|rfl
    ·exact Z94
    exact Z94
  clear ih hA hA' hN hN' hnm hr hsk h hx hx' c7 d7
  by_cases h13:k=13
  ·subst h13
   clear han
   go_enter func20,ntmps20
   go_wp2
   go_ret
   exact ⟨rfl,0,rfl⟩
  by_cases h14:k=14
  ·subst h14
   have han':∀y q,Calls prog 35 #[.pointer (some ⟨b,0,none⟩),.pointer (some ⟨b',0,none⟩)] (w.drewN (q+y)) λe w'=>e=.returned (.bool true)/\∃m,w'=w.drewN (q+m):=λy q=>(han (q+y)).mono λe w' h=>⟨h.1,y,h.2⟩
   clear han hk h13
   go_enter func20,ntmps20
   go_wp2
   go_quiet (fail)
   go_wp2
   go_quiet ((go_at_call 35;exact han' _ _))
   exact Z163
  by_cases h9:k=9
  ·subst h9
   clear hk h13 h14
   exact Z86
  by_cases h10:k=10
  ·subst h10
   clear hk h13 h14 h9
   exact Z86
  have e9:((k:Int)=9)=False:=eq_false Kc
  have e10:((k:Int)=10)=False:=eq_false Kc
  have e11:((k:Int)=11)=False:=eq_false Kc
  have e12:((k:Int)=12)=False:=eq_false Kc
  have e13:((k:Int)=13)=False:=eq_false Kc
  have e14:((k:Int)=14)=False:=eq_false Kc
  have g9:((k:Int)==9)=false:=by simp only [beq_eq_false_iff_ne,ne_eq,e9,not_false_eq_true]
  have g10:((k:Int)==10)=false:=by simp only [beq_eq_false_iff_ne,ne_eq,e10,not_false_eq_true]
  have g11:((k:Int)==11)=false:=by simp only [beq_eq_false_iff_ne,ne_eq,e11,not_false_eq_true]
  have g12:((k:Int)==12)=false:=by simp only [beq_eq_false_iff_ne,ne_eq,e12,not_false_eq_true]
  have g13:((k:Int)==13)=false:=by simp only [beq_eq_false_iff_ne,ne_eq,e13,not_false_eq_true]
  have g14:((k:Int)==14)=false:=by simp only [beq_eq_false_iff_ne,ne_eq,e14,not_false_eq_true]
  clear hk h13 h14 h9 h10 hs han hk14
  go_enter func20,ntmps20
  go_wp2
  go_quiet (fail)
  exact Z163
end
end Go.Proofs.YtjmlghgnbclmfaaGreatDoor
