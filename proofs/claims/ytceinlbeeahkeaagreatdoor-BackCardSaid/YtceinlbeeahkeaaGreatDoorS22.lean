import Derived.Laws.Externs
import Derived.Test.YtceinlbeeahkeaaGreatDoorS21
set_option linter.defProp false
open Go.Proofs.Tryz
set_option maxRecDepth 8000
set_option maxHeartbeats 4000000
namespace Go.Proofs.YtceinlbeeahkeaaGreatDoor
variable{p:Prop}
section
open Go Go.RowKit
variable{W0 w:World}{ns:List ByteArray}{ok:Nat->Prop}{E:Env}{Bs:List Nat}{D:ByteArray->Nat}{M:Nat}
def Z165(h:p:=by
 rw [if_neg Kc,if_neg Kc];rw [if_neg Kc] at hfl;omega):p:=h
theorem JF{v:Value}(h:Row w 1 v ns.length (ns.map Value.string)):∃a c,v=.slice a ns.length c/\jE w a ns:=by
 rcases h with ⟨rfl,h0,_⟩|⟨g,c,rfl,h⟩
 ·exact Z180
 refine ⟨_,c,rfl,?_⟩
 by_cases hn:ns=[]
 ·exact .inl hn
 have hl:0<ns.length:=List.length_pos_iff.2 hn
 have h0:=h.holds 0 Kc
 refine .inr ⟨g,0,rfl,NW _ _ (h0.trans (by simp [hl];rfl)),λi hi=>?_⟩
 rw [NV,h.holds i Kc]
 simp [hi]
theorem JE{v:Value}{bs:List Nat}(h:Row w 1 v bs.length (bs.map ptr)):∃a c,v=.slice a bs.length c/\(bs=[]\/∃bb bo,a=some ⟨bb,bo,none⟩/\bb<w.heap.size/\∀i (hi:i<bs.length),w.cell? ⟨bb,bo+i,none⟩=some (.pointer (some ⟨bs[i],0,none⟩))):=by
 rcases h with ⟨rfl,h0,_⟩|⟨g,c,rfl,h⟩
 ·exact Z180
 refine ⟨_,c,rfl,?_⟩
 by_cases hn:bs=[]
 ·exact .inl hn
 have hl:0<bs.length:=List.length_pos_iff.2 hn
 have h0:=h.holds 0 Kc
 refine .inr ⟨g,0,rfl,NW _ _ (h0.trans (by simp [hl];rfl)),λi hi=>?_⟩
 rw [NV,h.holds i Kc]
 simp [hi,ptr]
theorem FT(a:Add W0 w){d:Option J}{cs:List Value}(h:nJ W0 d cs):nJ w d cs:=by
 cases d with
 |none=>exact h
 |some j=>exact bL h a
theorem zip_get{ids:List Nat}(i:Nat)(h:i<(ns.zip ids).length)(h1:i<ns.length)(h2:i<ids.length):(ns.zip ids)[i]=(ns[i],ids[i]):=Kh
theorem node_at{k:Nat}{n:ByteArray}{size:Nat}{bs:List Nat}{defs:List (Option J)}{b:Nat}{pl:Nat->Nat}{ids:List Nat}(h:NodeAt ok W0 w k n ns size bs defs b)(ha:Add W0 w)(hids:ids.map pl=bs)(h9:k=9->ns.length=bs.length):TypeAt w pl (lF k n ns size ids) b:=by
 have hil:ids.length=bs.length:=by rw [<-hids,List.length_map]
 have hget:∀i (h1:i<ids.length) (h2:i<bs.length),pl ids[i]=bs[i]:=λi h1 h2=>by
  have:bs[i]=(ids.map pl)[i]'(by rw [List.length_map];exact h1):=by simp only [hids]
  rw [this,List.getElem_map]
 obtain ⟨_,hlt,hk,hn,⟨v,cs,hc3,hrow3,_,hare⟩,⟨sv,hc4,_,hrow4⟩,hsz,⟨x,hc7,hx⟩,⟨bv,hc8,_,hrow8⟩⟩:=h
 refine ⟨hlt,hk,hn,?_,?_,hsz,?_,?_⟩
 ·by_cases e9:k=9
  ·rw [if_pos e9] at hrow3
   rw [show (lF k n ns size ids).fields=ns.zip ids from if_pos e9]
   have hzl:(ns.zip ids).length=ns.length:=by rw [List.length_zip,hil,<-h9 e9];omega
   rcases hrow3 with ⟨rfl,h0,_⟩|⟨g,c,rfl,hg⟩
   ·refine ⟨none,0,by rw [hc3,hzl,h0],.inl ?_⟩
    exact NT (by rw [hzl,h0])
   refine ⟨some ⟨g,0,none⟩,c,by rw [hc3,hzl],?_⟩
   by_cases hn0:ns=[]
   ·left;rw [hn0];rfl
   right
   obtain ⟨q1,q2,q3,q4⟩:=je ns bs defs cs (hare e9)
   have hl0:0<ns.length:=List.length_pos_iff.2 hn0
   have hcell:∀i (hi:i<ns.length) f,f<10->w.cell? ⟨g,i*10+f,none⟩=cs[i*10+f]?:=λi hi f hf=>hg.holds (i*10+f) Kc
   have hblt:g<w.heap.size:=by
    obtain ⟨aa,al,ac,kk,nn,t,a,na,l,c',nl,nc,m,hc,_⟩:=q4 0 hl0 Kc Kc
    exact NW _ _ ((hcell 0 hl0 0 Kc).trans (hc 0 Kc))
   refine ⟨g,0,rfl,hblt,λi hi=>?_⟩
   rw [hzl] at hi
   obtain ⟨aa,al,ac,kk,nn,t,a,na,l,c',nl,nc,m,hc,hd⟩:=q4 i hi Kc Kc
   have e1:(ns.zip ids)[i]'(by rw [hzl];exact hi)=(ns[i],ids[i]' Kc):=zip_get i _ hi Kc
   refine ⟨aa,al,ac,kk,nn,t,a,na,l,c',nl,nc,m,defs[i]' Kc,λf hf=>?_,FT ha hd⟩
   rw [NV,hcell i hi f hf,hc f hf]
   simp only [e1,hget i Kc Kc]
  rw [if_neg e9] at hrow3
  rw [show (lF k n ns size ids).fields=[] from if_neg e9]
  rcases hrow3 with ⟨rfl,h0,_⟩|⟨g,c,rfl,hg⟩
  ·exact ⟨none,0,hc3,.inl rfl⟩
  exact ⟨_,c,hc3,.inl rfl⟩
 ·by_cases e:k=10
  ·rw [if_pos e,if_pos e] at hrow4
   rw [show (lF k n ns size ids).symbols=ns from if_pos e]
   obtain ⟨a,c,rfl,hs⟩:=JF hrow4
   exact ⟨a,c,hc4,hs⟩
  rw [if_neg e,if_neg e] at hrow4
  rw [show (lF k n ns size ids).symbols=[] from if_neg e]
  obtain ⟨a,c,rfl⟩:=hrow4.shape
  exact ⟨a,c,hc4,.inl rfl⟩
 ·refine ⟨x,hc7,λhk'=>?_⟩
  have hk2:k=11\/k=12:=by
   rcases hk' with hk'|hk'
   ·left;have:(k:Int)=11:=hk';omega
   right;have:(k:Int)=12:=hk';omega
  obtain ⟨c,hbs,rfl⟩:=hx hk2
  show ptr c=.pointer (some ⟨pl (ids.headD 0),0,none⟩)
  cases ids with
  |nil=>rw [hbs] at hil;simp at hil
  |cons i0 r=>
   rw [List.map_cons,hbs] at hids
   injection hids with h1 _
   show ptr c=.pointer (some ⟨pl i0,0,none⟩)
   rw [h1]
   rfl
 by_cases e:k=13
 ·rw [if_pos e,if_pos e] at hrow8
  rw [show (lF k n ns size ids).branches=ids from if_pos e]
  obtain ⟨a,c,rfl,hs⟩:=JE hrow8
  refine ⟨a,c,by rw [hil];exact hc8,?_⟩
  rcases hs with hs|⟨bb,bo,h1,h2,h3⟩
  ·left;rw [hs] at hil;exact NT hil
  right
  exact ⟨bb,bo,h1,h2,λi hi=>by rw [h3 i Kc,hget i hi Kc]⟩
 rw [if_neg e,if_neg e] at hrow8
 rw [show (lF k n ns size ids).branches=[] from if_neg e]
 obtain ⟨a,c,rfl⟩:=hrow8.shape
 exact ⟨a,c,hc8,.inl rfl⟩
mutual
theorem at_PL(ha:Add W0 w):∀(s:Sch) (b i:Nat),shp s->s.at ok W0 w E Bs b->∃PL:List Nat,PL.length=cnt s/\(∀n p,(n,p)∈ni i s->i<=p/\∃k b',PL[p-i]?=some b'/\jA E Bs n k b')/\∀(D:ByteArray->Nat) (pl:Nat->Nat),(∀j b',PL[j]?=some b'->pl (i+j)=b')->(∀n k b',jA E Bs n k b'->pl (D n)=b')->pl (idOf D i s)=b/\∀j t,(oM D i s)[j]?=some t->TypeAt w pl t (pl (i+j))
 |.ref k n,b,i,_,h=>by
  rw [Sch.at] at h
  refine ⟨[],by rw [cnt];rfl,(λn p hp=>by rw [ni] at hp;cases hp),λD pl _ hr=>⟨hr n k b h,λj t hj=>by rw [oM] at hj;simp at hj⟩⟩
 |.mk k n ns size kids defs,b,i,hs,h=>by
  rw [Sch.at] at h
  obtain ⟨bs,hn,hall,href⟩:=h
  rw [shp] at hs
  obtain ⟨PL,h1,h2,h3⟩:=CF ha kids bs (i+1) hs.1 hall
  have hlen:=cB _ _ hall
  refine ⟨b::PL,by rw [cnt,List.length_cons,h1];omega,λm p hp=>?_,λD pl hpl hr=>?_⟩
  ·rw [ni] at hp
   rcases List.mem_append.1 hp with hp|hp
   ·by_cases hk:k=9\/k=10\/k=14
    ·rw [if_pos hk] at hp
     cases List.mem_singleton.1 hp
     exact ⟨NL _,k,b,by rw [Nat.sub_self];rfl,href hk⟩
    rw [if_neg hk] at hp;cases hp
   obtain ⟨q1,kk,b',q2,q3⟩:=h2 m p hp
   refine ⟨by omega,kk,b',?_,q3⟩
   have e:p-i=(p-(i+1))+1:=Kc
   rw [e]
   exact q2
  have hpl':∀j b',PL[j]?=some b'->pl (i+1+j)=b':=λj b' hj=>by
   have:=hpl (j+1) b' hj
   rw [show i+1+j=i+(j+1) by omega]
   exact this
  obtain ⟨g1,g2⟩:=h3 D pl hpl' hr
  have hb0:pl i=b:=hpl 0 b rfl
  refine ⟨hb0,λj t hj=>?_⟩
  rw [oM] at hj
  cases j with
  |zero=>
   cases hj
   show TypeAt w pl _ (pl i)
   rw [hb0]
   refine node_at hn ha g1 (λe=>?_)
   rcases hs.2 with ⟨q1,q2,_⟩|⟨_,q,_⟩|⟨q,_⟩|⟨q,_⟩|⟨q,_⟩|⟨q,_⟩
   ·omega
   ·omega
   ·omega
   ·omega
   ·omega
   omega
  |succ j=>
   rw [show i+(j+1)=i+1+j by omega]
   exact g2 j t hj
theorem CF(ha:Add W0 w):∀(l:List Sch) (bs:List Nat) (i:Nat),gH l->bZ ok W0 w E Bs l bs->∃PL:List Nat,PL.length=jk l/\(∀n p,(n,p)∈iT i l->i<=p/\∃k b',PL[p-i]?=some b'/\jA E Bs n k b')/\∀(D:ByteArray->Nat) (pl:Nat->Nat),(∀j b',PL[j]?=some b'->pl (i+j)=b')->(∀n k b',jA E Bs n k b'->pl (D n)=b')->(kw D i l).map pl=bs/\∀j t,(gZ D i l)[j]?=some t->TypeAt w pl t (pl (i+j))
 |[],[],i,_,_=>⟨[],by rw [jk];rfl,(λn p hp=>by rw [iT] at hp;cases hp),λD pl _ _=>⟨rfl,λj t hj=>by rw [gZ] at hj;simp at hj⟩⟩
 |s::r,b::bs,i,hs,h=>by
  rw [bZ] at h
  rw [gH] at hs
  obtain ⟨P1,a1,a2,a3⟩:=at_PL ha s b i hs.1 h.1
  obtain ⟨P2,b1,b2,b3⟩:=CF ha r bs (i+cnt s) hs.2 h.2
  refine ⟨P1++P2,by rw [List.length_append,a1,b1,jk],λm p hp=>?_,λD pl hpl hr=>?_⟩
  ·rw [iT] at hp
   rcases List.mem_append.1 hp with hp|hp
   ·obtain ⟨q1,k,b',q2,q3⟩:=a2 m p hp
    exact ⟨q1,k,b',by rw [List.getElem?_append_left (Oi q2).1];exact q2,q3⟩
   obtain ⟨q1,k,b',q2,q3⟩:=b2 m p hp
   refine ⟨by omega,k,b',?_,q3⟩
   rw [List.getElem?_append_right Kc,a1,show p-i-cnt s=p-(i+cnt s) by omega]
   exact q2
  obtain ⟨g1,g2⟩:=a3 D pl (λj b' hj=>hpl j b' (by rw [List.getElem?_append_left (Oi hj).1];exact hj)) hr
  obtain ⟨k1,k2⟩:=b3 D pl (λj b' hj=>by
   have:=hpl (P1.length+j) b' (by rw [List.getElem?_append_right Kc,Nat.add_sub_cancel_left];exact hj)
   rw [show i+cnt s+j=i+(P1.length+j) by omega]
   exact this) hr
  refine ⟨by rw [kw,List.map_cons,g1,k1],λj t hj=>?_⟩
  rw [gZ] at hj
  by_cases hlt:j<cnt s
  ·rw [List.getElem?_append_left (by rw [pM];exact hlt)] at hj
   exact g2 j t hj
  rw [List.getElem?_append_right (by rw [pM];omega),pM] at hj
  have:=k2 (j-cnt s) t hj
  rw [show i+cnt s+(j-cnt s)=i+j by omega] at this
  exact this
 |[],_::_,_,_,h=>by rw [bZ] at h;exact h.elim;all_goals simp
 |_::_,[],_,_,h=>by rw [bZ] at h;exact h.elim;all_goals simp
end
mutual
theorem yr:∀(s:Sch) (i p:Nat) (n:ByteArray),(n,p)∈ni i s->i<=p/\p<i+cnt s
 |.ref _ _,i,p,n,h=>by rw [ni] at h;cases h
 |.mk k m ns size kids defs,i,p,n,h=>by
  rw [ni] at h
  rw [cnt]
  rcases List.mem_append.1 h with h|h
  ·split at h
   ·cases List.mem_singleton.1 h;omega
   cases h
  have:=qZ kids (i+1) p n h
  omega
theorem qZ:∀(l:List Sch) (i p:Nat) (n:ByteArray),(n,p)∈iT i l->i<=p/\p<i+jk l
 |[],i,p,n,h=>by rw [iT] at h;cases h
 |s::r,i,p,n,h=>by
  rw [iT] at h
  rw [jk]
  rcases List.mem_append.1 h with h|h
  ·have:=yr s i p n h
   omega
  have:=qZ r (i+cnt s) p n h
  omega
end
theorem zm(hD:∀p∈E,D p.1<M):∀(l:List Sch) (i:Nat),fU E l->i+jk l<=M->∀x∈kw D i l,x<M
 |[],_,_,_,x,h=>by cases h
 |s::r,i,hc,hM,x,h=>by
  rw [fU] at hc
  rw [jk] at hM
  rw [kw] at h
  rcases List.mem_cons.1 h with rfl|h
  ·cases s with
   |ref k n=>rw [closed] at hc;exact hD _ hc.1
   |mk k n ns size kids defs=>
    rw [cnt] at hM
    show i<M
    omega
  exact zm hD r (i+cnt s) hc.2 Kc x h
theorem rq(D:ByteArray->Nat):∀(l:List Sch) (i:Nat),(kw D i l).length=l.length
 |[],_=>rfl
 |s::r,i=>by rw [kw,List.length_cons,rq D r];rfl
def Al(M:Nat)(t:TNode):Prop:=(1<=t.kind/\t.kind<=14)/\(t.size<=64/\t.symbols.length<=12/\t.branches.length<=12/\t.fields.length<=12)/\(t.kind=11\/t.kind=12->t.item<M)/\(∀k∈t.branches,k<M)/\∀f∈t.fields,f.2<M
mutual
theorem EX(hD:∀p∈E,D p.1<M):∀(s:Sch) (i:Nat),shp s->closed E s->i+cnt s<=M->∀t∈oM D i s,Al M t
 |.ref _ _,i,_,_,_,t,h=>by rw [oM] at h;cases h
 |.mk k n ns size kids defs,i,hs,hc,hM,t,h=>by
  rw [oM] at h
  rw [shp] at hs
  rw [closed] at hc
  rw [cnt] at hM
  have hib:=zm hD kids (i+1) hc Kc
  have hil:=rq D kids (i+1)
  rcases List.mem_cons.1 h with rfl|h
  ·generalize kw D (i+1) kids=ids at hib hil
   have hfb:∀f∈(lF k n ns size ids).fields,f.2<M:=λf hf=>by
    have:f∈(if k=9 then ns.zip ids else []):=hf
    split at this
    ·exact hib _ (List.of_mem_zip this).2
    cases this
   have hbb:∀x∈(lF k n ns size ids).branches,x<M:=λx hx=>by
    have:x∈(if k=13 then ids else []):=hx
    split at this
    ·exact hib _ this
    cases this
   have hkk:∀z:Int,(lF k n ns size ids).kind=z↔(k:Int)=z:=λz=>Iff.rfl
   have hit:ids≠[]->(lF k n ns size ids).item<M:=λhne=>by
    cases ids with
    |nil=>exact absurd rfl hne
    |cons x r=>exact hib x List.mem_cons_self
   have hfl:(lF k n ns size ids).fields.length<=(if k=9 then ns.length else 0):=by
    show (if k=9 then ns.zip ids else []).length<=_
    split
    ·rw [List.length_zip];omega
    exact NQ _
   have hsl:(lF k n ns size ids).symbols.length=(if k=10 then ns.length else 0):=by
    show (if k=10 then ns else []).length=_
    split <;> rfl
   have hbl:(lF k n ns size ids).branches.length=(if k=13 then ids.length else 0):=by
    show (if k=13 then ids else []).length=_
    split <;> rfl
   have hsz:(lF k n ns size ids).size=size:=rfl
   have hkd:(lF k n ns size ids).kind=(k:Int):=rfl
   unfold Al
   rw [hsz,hsl,hbl,hkd]
   refine ⟨?_,?_,?_,hbb,hfb⟩
   ·rcases hs.2 with ⟨q1,q2,_⟩|⟨q,_⟩|⟨q,_⟩|⟨q,_⟩|⟨q,_⟩|⟨q,_⟩ <;> omega
   ·rcases hs.2 with ⟨q1,q2,_,q4,q5,_⟩|⟨q,_,_,q4,q5,_⟩|⟨q,_,_,_,q5,q6,_⟩|⟨q,_,_,q4,q5,_⟩|⟨q,_,_,q4,q5,_⟩|⟨q,_,q3,_,q5,q6,_⟩
    ·exact Z165
    ·rw [if_neg Kc,if_neg Kc];rw [if_pos q] at hfl;omega
    ·rw [if_pos q,if_neg Kc];rw [if_neg Kc] at hfl;omega
    ·exact Z165
    ·exact Z165
    rw [if_neg Kc,if_pos q];rw [if_neg Kc] at hfl;omega
   intro hk
   refine hit ?_
   rcases hs.2 with ⟨q1,q2,_⟩|⟨q,_⟩|⟨q,_⟩|⟨q,_⟩|⟨_,q,_⟩|⟨q,_⟩
   ·omega
   ·omega
   ·omega
   ·omega
   ·intro e;rw [e] at hil;simp at hil;omega
   omega
  exact xN hD kids (i+1) hs.1 hc Kc t h
theorem xN(hD:∀p∈E,D p.1<M):∀(l:List Sch) (i:Nat),gH l->fU E l->i+jk l<=M->∀t∈gZ D i l,Al M t
 |[],i,_,_,_,t,h=>by rw [gZ] at h;cases h
 |s::r,i,hs,hc,hM,t,h=>by
  rw [gZ] at h
  rw [gH] at hs
  rw [fU] at hc
  rw [jk] at hM
  rcases List.mem_append.1 h with h|h
  ·exact EX hD s i hs.1 hc.1 Kc t h
  exact xN hD r (i+cnt s) hs.2 hc.2 Kc t h
end
theorem uR{l:List ByteArray}(h:l.Nodup){i j:Nat}(hi:i<l.length)(hj:j<l.length)(e:l[i]=l[j]):i=j:=by
 have hp:=List.pairwise_iff_getElem.1 h
 rcases Nat.lt_trichotomy i j with hlt|rfl|hlt
 ·exact absurd e (hp i j hi hj hlt)
 ·rfl
 exact absurd e.symm (hp j i hj hi hlt)
theorem Ho{s:Sch}{b:Nat}(ha:Add W0 w)(hs:shp s)(hc:closed (dM s) s)(hn:((dM s).map Prod.fst).Nodup)(hk:0<cnt s)(h:s.at ok W0 w (dM s) Bs b):∃pl,Lay w (fH s) pl/\pl 0=b/\0<(fH s).length/\∀n k b',jA (dM s) Bs n k b'->∃p,p<(fH s).length/\pl p=b':=by
 obtain ⟨PL,h1,h2,h3⟩:=at_PL ha s b 0 hs h
 have hnp:((ni 0 s).map Prod.fst).Nodup:=by rw [uC];exact hn
 have hlook:∀n∈(dM s).map Prod.fst,∃p,(n,p)∈ni 0 s/\look (ni 0 s) n=p:=λn hm=>by
  rw [<-uC s 0] at hm
  obtain ⟨q,hq,rfl⟩:=List.mem_map.1 hm
  exact ⟨q.2,hq,look_of hnp hq⟩
 have hr:∀n k b',jA (dM s) Bs n k b'->(λi=>PL.getD i 0) (look (ni 0 s) n)=b':=λn k b' ⟨i,e1,e2⟩=>by
  have hm:n∈(dM s).map Prod.fst:=List.mem_map.2 ⟨(n,k),List.mem_of_getElem? e1,rfl⟩
  obtain ⟨p,hp,hl⟩:=hlook n hm
  obtain ⟨_,k',b2,e3,⟨i2,e4,e5⟩⟩:=h2 n p hp
  have hi:i=i2:=by
   have f1:((dM s).map Prod.fst)[i]?=some n:=by rw [List.getElem?_map,e1];rfl
   have f2:((dM s).map Prod.fst)[i2]?=some n:=by rw [List.getElem?_map,e4];rfl
   obtain ⟨l1,g1⟩:=List.getElem?_eq_some_iff.1 f1
   obtain ⟨l2,g2⟩:=List.getElem?_eq_some_iff.1 f2
   exact uR hn l1 l2 (g1.trans g2.symm)
  rw [hl]
  rw [Nat.sub_zero] at e3
  rw [<-hi,e2] at e5
  cases e5
  show PL.getD p 0=b'
  rw [List.getD_eq_getElem?_getD,e3]
  rfl
 obtain ⟨g1,g2⟩:=h3 (look (ni 0 s)) (λi=>PL.getD i 0) (λj b' hj=>by
  show PL.getD (0+j) 0=b'
  rw [NV,List.getD_eq_getElem?_getD,hj]
  rfl) hr
 have hlen:(fH s).length=cnt s:=pM _ s 0
 have hD:∀p∈dM s,look (ni 0 s) p.1<cnt s:=λp hp=>by
  obtain ⟨q,hq,hl⟩:=hlook p.1 (List.mem_map.2 ⟨p,hp,rfl⟩)
  have:=yr s 0 q p.1 hq
  omega
 have hok:=EX hD s 0 hs hc Kc
 have hk2:∀i (hi:i<(fH s).length),Al (cnt s) (fH s)[i]:=λi hi=>hok _ (NS hi)
 refine ⟨λi=>PL.getD i 0,⟨λi hi=>?_,λi hi=>(hk2 i hi).1,λi hi=>(hk2 i hi).2.1,λi hi h=>by rw [hlen];exact (hk2 i hi).2.2.1 h,λi hi=>by rw [hlen];exact (hk2 i hi).2.2.2.1,λi hi=>by rw [hlen];exact (hk2 i hi).2.2.2.2⟩,?_,by omega,λn k b' hra=>⟨look (ni 0 s) n,by rw [hlen];obtain ⟨i,e1,_⟩:=hra;exact hD (n,k) (List.mem_of_getElem? e1),hr n k b' hra⟩⟩
 ·have:=g2 i _ (NP hi)
  rw [NV] at this
  exact this
 cases s with
 |ref k n=>rw [cnt] at hk;omega
 |mk k n ns size kids defs=>exact g1
end
section
open Go Go.RowKit Go.Extern.Stop Go.Stop Go.Extern
theorem sP{wB W:World}{B:Nat}(ha:Add wB W)(hB:wB.heap.size<=B)(v0 v1 v2 v3 v4 v5:Value):Add wB (dV W B v0 v1 v2 v3 v4 v5):=
 ⟨(iF W B v0 v1 v2 v3 v4 v5).trans ha.os,(eX W B v0 v1 v2 v3 v4 v5).trans ha.output,by rw [dP];exact ha.size,λi hi=>(dI W B v0 v1 v2 v3 v4 v5 i Kc).trans (ha.old i hi)⟩
theorem sH(k n:Int)(t:ByteArray)(a na:Option Addr)(l c nl nc:Nat)(m:Option Nat)(w:World):
  Calls prog 156 #[.agg (jc k n t a na l c nl nc m).toArray,.int .i64 k] w λe w'=>e=.returned (.agg (jc k n t a na l c nl nc m).toArray)/\Add w w':=by
 unfold jc
 go_enter func156,ntmps156
 go_wp2
 have hI:=qJ w (.cells #[.int .i64 k,.int .i64 n,.string t,.slice a l c,.slice na nl nc,.map m] 85 (0,0)) (.cells #[.int .i64 k,.int .i64 n,.string t,.slice a l c,.slice na nl nc,.map m] 85 (0,0))
 obtain ⟨r0,r1,r2,r3,r4,r5,rz⟩:=dF hI.2.2
 refine bodyPost_ret (v:=.agg #[.int .i64 k,.int .i64 n,.string t,.slice a l c,.slice na nl nc,.map m]) (by simp [results,results156,go_sem,r0,r1,r2,r3,r4,r5]) rfl ?_
 exact ⟨rfl,hI.1⟩
theorem qb(k k' n:Int)(t:ByteArray)(a na:Option Addr)(l c nl nc:Nat)(m:Option Nat)(w:World)(hk:k≠k'):
  Calls prog 156 #[.agg (jc k n t a na l c nl nc m).toArray,.int .i64 k'] w λe w'=>fV e/\Add w w':=by
 unfold jc
 have hkb:(k != k')=true:=by rw [bne_iff_ne];exact hk
 clear hk
 go_enter func156,ntmps156
 go_wp2_with (go_at_call 81;refine (dR _ _).mono ?_;rintro e w3 ⟨⟨T,v,rfl⟩,hb3⟩)
 exact ⟨rfl,⟨_,_,rfl⟩,((ae _ _).trans (ae _ _)).trans hb3⟩
theorem gU{P:Program}(w:World){ops:Array Oper}{rest:List Oper}{o:Oper}{a:Act}{Q:Exit->Act->World->Prop}(hgd:o.guard=none)(t:TypeId)(x:Operand)(i:Nat)(ho:o.op=.field t x i)(v:Value)(hrun:(Instr.field t (a.eval x) i).run P w=.ok v w)(hK:wpList P ops Q rest (a.put o.dst v) w):wpList P ops Q (o::rest) a w:=by
 exact Z135
theorem qa(k n:Int)(t:ByteArray)(a na:Option Addr)(l c nl nc:Nat)(m:Option Nat)(w:World):(Instr.field 85 (.agg #[.int .i64 k,.int .i64 n,.string t,.slice a l c,.slice na nl nc,.map m]) 1).run prog w=.ok (.int .i64 n) w:=Kf
theorem Ai(k n:Int)(t:ByteArray)(a na:Option Addr)(l c nl nc:Nat)(m:Option Nat)(w:World):(Instr.field 85 (.agg #[.int .i64 k,.int .i64 n,.string t,.slice a l c,.slice na nl nc,.map m]) 2).run prog w=.ok (.string t) w:=Kf
end
section
open Go Go.RowKit Go.Extern.Stop Go.Stop Go.Extern
variable{ok:Nat->Prop}{w:World}{j:J}{cs:List Value}
def Y89(h:p:=by exact (show tb≠w.heap.size from Nat.ne_of_lt (NW _ _ hk))):p:=h
def Z118(h:p:=by
 go_wp2_with (go_at_call 156;refine (hb _).mono ?_;rintro e w1 ⟨⟨T,v,rfl⟩,ha1⟩)
 exact ⟨rfl,.inl ⟨_,_,rfl⟩,(ae _ _).trans ha1⟩):p:=h
def Z190(h:p:=by
 go_ret
 exact ⟨.inr ⟨n,rfl,HN.out⟩,(ae _ _).trans ha1⟩):p:=h
def EG(w:World)(e:Ending)(w':World):Prop:=(fV e\/∃n:Int,e=.returned (.int .i64 n) /\ -9223372036854775808<=n/\n<=9223372036854775807)/\Add w w'
theorem bS(h:j.lies ok w cs):∃n t a na l c nl nc m,cs=jc j.kindI n t a na l c nl nc m /\ -9223372036854775808<=n/\n<=9223372036854775807/\t.size<=65536/\l<=65536/\nl<=65536:=by
 cases j <;> rw [J.lies] at h
 ·exact ⟨_,_,_,_,_,_,_,_,_,h,by decide,by decide,by decide,by decide,by decide⟩
 ·rename_i b
  refine ⟨_,_,_,_,_,_,_,_,_,h,?_,?_,by decide,by decide,by decide⟩ <;> (cases b <;> decide)
 ·exact ⟨_,_,_,_,_,_,_,_,_,h.1,by omega,by omega,by decide,by decide,by decide⟩
 ·exact ⟨_,_,_,_,_,_,_,_,_,h.1,by decide,by decide,h.2,by decide,by decide⟩
 ·obtain ⟨a,c,h,hl,_⟩:=h
  exact ⟨_,_,_,_,_,_,_,_,_,h,by decide,by decide,by decide,hl,by decide⟩
 obtain ⟨a,c,na,nc,m,h,h1,h2,_⟩:=h
 exact ⟨_,_,_,_,_,_,_,_,_,h,by decide,by decide,by decide,h2,by omega⟩
theorem Ao{tb:Nat}{kd:Int}(hl:j.lies ok w cs)(hk:w.cell? ⟨tb,0,none⟩=some (.int .i64 kd)):
  Calls prog 157 #[.pointer (some ⟨tb,0,none⟩),.agg cs.toArray] w λe w'=>EG w e w':=by
 obtain ⟨n,t,a,na,l,c,nl,nc,m,rfl,hn0,hn1,_,_,_⟩:=bS hl
 have HN:Hid (-9223372036854775808<=n/\n<=9223372036854775807):=⟨hn0,hn1⟩
 have hok:=sH 3 n t a na l c nl nc m
 have hbad:=λW (h:j.kindI≠3)=>qb j.kindI 3 n t a na l c nl nc m W h
 have hint:=λW=>qo n W
 have htl:=Y89
 have hka:∀o,(w.alloc o).cell? ⟨tb,0,none⟩=some (.int .i64 kd):=λo=>(ae w o).cell hk
 unfold jc at hok hbad ⊢
 clear hl hn0 hn1
 by_cases h3:j.kindI=3
 ·rw [h3]
  clear hbad h3
  by_cases hkd:kd=3
  ·subst hkd
   cases hi:Ak n with
   |true=>
    rw [hi] at hint
    go_enter func157,ntmps157
    go_wp2_with (first
     |(go_at_call 156;refine (hok _).mono ?_;rintro e w1 ⟨rfl,ha1⟩;have hk1:=ha1.cell (hka _))
     |(refine gU _ rfl _ _ _ rfl _ (qa _ _ _ _ _ _ _ _ _ _ _) ?_)
     |(go_at_call 90;refine (hint _).mono ?_;rintro e w2 ⟨rfl,rfl⟩))
    exact Z190
   |false=>
    rw [hi] at hint
    go_enter func157,ntmps157
    go_wp2_with (first
     |(go_at_call 156;refine (hok _).mono ?_;rintro e w1 ⟨rfl,ha1⟩;have hk1:=ha1.cell (hka _))
     |(refine gU _ rfl _ _ _ rfl _ (qa _ _ _ _ _ _ _ _ _ _ _) ?_)
     |(go_at_call 90;refine (hint _).mono ?_;rintro e w2 ⟨rfl,rfl⟩)
     |(go_at_call 81;refine (dR _ _).mono ?_;rintro e w3 ⟨⟨T,v,rfl⟩,hb3⟩))
    exact ⟨rfl,.inl ⟨_,_,rfl⟩,((ae _ _).trans ha1).trans hb3⟩
  have hkb:(kd==3)=false:=Nk
  clear hkd
  go_enter func157,ntmps157
  go_wp2_with (first
   |(go_at_call 156;refine (hok _).mono ?_;rintro e w1 ⟨rfl,ha1⟩;have hk1:=ha1.cell (hka _))
   |(refine gU _ rfl _ _ _ rfl _ (qa _ _ _ _ _ _ _ _ _ _ _) ?_))
  exact Z190
 have hb:=λW=>hbad W h3
 clear hok hbad h3
 go_enter func157,ntmps157
 exact Z118
theorem qV(x:ByteArray):∀(zs:List ByteArray) (i:Nat),-1<=Lib.idxFromS zs x i/\Lib.idxFromS zs x i<=((i+zs.length:Nat):Int)
 |[],i=>by
  rw [Lib.idxFromS]
  exact ⟨by omega,by omega⟩
 |z::r,i=>by
  have:=qV x r (i+1)
  rw [Lib.idxFromS]
  split
  ·simp;omega
  simp at this ⊢;omega
theorem Fp(ns:List ByteArray)(x:ByteArray)(h:ns.length<=12) : -9223372036854775808<=Lib.idxOfS ns x/\Lib.idxOfS ns x<=9223372036854775807:=by
 have:=qV x ns 0
 unfold Lib.idxOfS
 omega
theorem AO{tb:Nat}{sa:Option Addr}{sc:Nat}{ns:List ByteArray}(hl:j.lies ok w cs)(hk:w.cell? ⟨tb,4,none⟩=some (.slice sa ns.length sc))(hs:jE w sa ns)(hle:ns.length<=12):
  Calls prog 160 #[.pointer (some ⟨tb,0,none⟩),.agg cs.toArray] w λe w'=>EG w e w':=by
 obtain ⟨n,t,a,na,l,c,nl,nc,m,rfl,_,_,_,_,_⟩:=bS hl
 have hok:=sH 4 n t a na l c nl nc m
 have hbad:=λW (h:j.kindI≠4)=>qb j.kindI 4 n t a na l c nl nc m W h
 have HIR:=bf (Fp ns t hle)
 have hix:=λW (h:Add w W)=>ye sa sc ns t W Kc (by
  rcases hs with hs|⟨b,o,h1,h2,h3⟩
  ·exact .inl hs
  exact .inr ⟨b,o,h1,λi hi=>h.cell (h3 i hi)⟩)
 have hvf:=λW=>Ai 4 n t a na l c nl nc m W
 have htl:=Y89
 have hal:=ae w (.cells #[.int .i64 j.kindI,.int .i64 n,.string t,.slice a l c,.slice na nl nc,.map m] 85 (0,0))
 have hk1:=hal.cell hk
 obtain ⟨q0,q1,q2,q3,q4,q5,qz⟩:=dF (dD w (.cells #[.int .i64 j.kindI,.int .i64 n,.string t,.slice a l c,.slice na nl nc,.map m] 85 (0,0)))
 have HAL:=bf hal
 unfold jc at hok hbad ⊢
 generalize Lib.idxOfS ns t=ix at *
 clear hl hle hs hal qz
 go_enter func160,ntmps160
 go_upto_region 1 with fail
 generalize hW1:w.alloc (.cells #[.int .i64 j.kindI,.int .i64 n,.string t,.slice a l c,.slice na nl nc,.map m] 85 (0,0))=w1 at *
 clear hW1
 by_cases h4:j.kindI=4
 ·rw [h4] at q0 ⊢
  clear hbad h4
  go_cut [5] (λs5 wx=>s5=.int .i64 ix/\Add w1 wx)
  case first=>
   go_region_held (λw'=>w'.cell? ⟨tb,4,none⟩=some (.slice sa ns.length sc)/\w'.cell? ⟨w.heap.size,0,none⟩=some (.int .i64 4)/\w'.cell? ⟨w.heap.size,1,none⟩=some (.int .i64 n)/\w'.cell? ⟨w.heap.size,2,none⟩=some (.string t)/\w'.cell? ⟨w.heap.size,3,none⟩=some (.slice a l c)/\w'.cell? ⟨w.heap.size,4,none⟩=some (.slice na nl nc)/\w'.cell? ⟨w.heap.size,5,none⟩=some (.map m)) (first|(with_reducible exact ⟨k4,z0,z1,z2,z3,z4,z5⟩)|(with_reducible exact ⟨hk1,q0,q1,q2,q3,q4,q5⟩)|go_keep)
    (first
    |(go_at_call 156;refine (hok _).mono ?_;rintro e w2 ⟨rfl,ha2⟩;have HA2:Hid (Add w1 w2):=(af w1).trans ha2;clear ha2;have k4:=HA2.out.cell hk1;have z0:=HA2.out.cell q0;have z1:=HA2.out.cell q1;have z2:=HA2.out.cell q2;have z3:=HA2.out.cell q3;have z4:=HA2.out.cell q4;have z5:=HA2.out.cell q5)
    |(go_at_call 155;refine (hix _ (HAL.out.trans HA2.out)).mono ?_;rintro e w3 ⟨rfl,rfl⟩))
   all_goals (go_wp2;go_meet;exact ⟨rfl,HA2.out⟩)
  obtain ⟨rfl,ha⟩:=hcut
  clear hok hvf hix q0 q1 q2 q3 q4 q5 hk1
  by_cases hneg:ix<0
  ·have hn':(ix<0)=True:=eq_true hneg
   clear hneg
   go_wp2_with (go_at_call 81;refine (dR _ _).mono ?_;rintro e w3 ⟨⟨T,v,rfl⟩,hb3⟩)
   exact ⟨rfl,.inl ⟨_,_,rfl⟩,(HAL.out.trans ha).trans hb3⟩
  have hn':(ix<0)=False:=eq_false hneg
  have hw64:wrap64 ix=ix:=by have:=HIR.out;unfold wrap64;omega
  clear hneg
  go_wp2
  go_ret
  exact ⟨.inr ⟨ix,rfl,HIR.out⟩,HAL.out.trans ha⟩
 have hb:=λW=>hbad W h4
 clear hok hbad h4 hix hvf
 go_region_dies
 all_goals (go_wp2_with (go_at_call 156;refine (hb _).mono ?_;rintro e w2 ⟨⟨T,v,rfl⟩,ha2⟩))
 all_goals exact ⟨rfl,.inl ⟨_,_,rfl⟩,(HAL.out.trans (af w1)).trans ha2⟩
end
section
open Go Go.RowKit Go.Extern.Stop Go.Stop Go.Extern
def dcs(k n:Int)(b:Nat)(t:ByteArray)(na ka:Option Addr)(nl nc kl kc:Nat):List Value:=[.int .i64 k,.int .i64 n,.int .u64 (b:Int),.string t,.slice na nl nc,.slice ka kl kc]
def DatPost(e:Ending):Prop:=fV e\/∃k n b t na ka nl nc kl kc,e=.returned (.agg (dcs k n b t na ka nl nc kl kc).toArray)
theorem CX(b:Nat)(w:World):(callFunc 190 #[.float .f32 b]).run prog w=.ok (.value (.int .u32 (b:Int))) w:=by
 rw [@run_callFunc_extern prog 190 _ Extern.MathFloatBits.float32bits func190 Kf Kf Kf Kf]
 rfl
theorem DM(b:Nat)(w:World):(callFunc 191 #[.float .f64 b]).run prog w=.ok (.value (.int .u64 (b:Int))) w:=by
 rw [@run_callFunc_extern prog 191 _ Extern.MathFloatBits.float64bits func191 Kf Kf Kf Kf]
 rfl
theorem Iy(b:Nat):∃c:Nat,IntKind.u64.wrap (b:Int)=(c:Int):=by
 refine ⟨(IntKind.u64.wrap (b:Int)).toNat,?_⟩
 rw [Int.toNat_of_nonneg]
 simp only [IntKind.wrap_u64]
 exact Int.emod_nonneg _ Ke
theorem Dp(b:Nat)(w:World):
  Calls prog 177 #[.float .f32 b] w λe w'=>(∃c,e=.returned (.agg (dcs 5 0 c ByteArray.empty none none 0 0 0 0).toArray))/\Add w w':=by
 have hb32:∀b w,(callFunc 190 #[.float .f32 b]).run prog w=.ok (.value (.int .u32 (b:Int))) w:=CX
 obtain ⟨c,hc⟩:=Iy b
 go_enter func177,ntmps177
 go_wp2
 obtain ⟨r0,r1,r2,r3,r4,r5,rz⟩:=dF (dD w (.cells #[.int .i64 5,.int .i64 0,.int .u64 (c:Int),.string ⟨#[]⟩,.slice none 0 0,.slice none 0 0] 42 (0,0)))
 refine bodyPost_ret (v:=.agg #[.int .i64 5,.int .i64 0,.int .u64 (c:Int),.string ⟨#[]⟩,.slice none 0 0,.slice none 0 0]) (by simp [results,results177,go_sem,r0,r1,r2,r3,r4,r5]) rfl ?_
 exact ⟨⟨c,rfl⟩,ae _ _⟩
theorem DN(c:Nat)(w:World):
  Calls prog 178 #[.float .f64 c] w λe w'=>(∃c,e=.returned (.agg (dcs 6 0 c ByteArray.empty none none 0 0 0 0).toArray))/\Add w w':=by
 have hb32:∀b w,(callFunc 191 #[.float .f64 b]).run prog w=.ok (.value (.int .u64 (b:Int))) w:=DM
 go_enter func178,ntmps178
 go_wp2
 obtain ⟨r0,r1,r2,r3,r4,r5,rz⟩:=dF (dD w (.cells #[.int .i64 6,.int .i64 0,.int .u64 (c:Int),.string ⟨#[]⟩,.slice none 0 0,.slice none 0 0] 42 (0,0)))
 refine bodyPost_ret (v:=.agg #[.int .i64 6,.int .i64 0,.int .u64 (c:Int),.string ⟨#[]⟩,.slice none 0 0,.slice none 0 0]) (by simp [results,results178,go_sem,r0,r1,r2,r3,r4,r5]) rfl ?_
 exact ⟨⟨c,rfl⟩,ae _ _⟩
theorem BR{w w1:World}(o:Obj){v0 v1 v2 v3 v4 v5:Value}(ha:Add (w.alloc o) w1)(ho:∃a0 a1 a2 a3 a4 a5 T,o=.cells #[a0,a1,a2,a3,a4,a5] T (0,0)):
  (∃T,(dV w1 w.heap.size v0 v1 v2 v3 v4 v5).heap[w.heap.size]?=some (.cells #[v0,v1,v2,v3,v4,v5] T (0,0)))/\Add w (dV w1 w.heap.size v0 v1 v2 v3 v4 v5):=by
 obtain ⟨a0,a1,a2,a3,a4,a5,T,rfl⟩:=ho
 have h1:=dD w (.cells #[a0,a1,a2,a3,a4,a5] T (0,0))
 have h2:=(ha.old w.heap.size Kh).trans h1
 exact ⟨⟨T,fF h2 _ _ _ _ _ _⟩,sP ((ae _ _).trans ha) (NL _) _ _ _ _ _ _⟩
theorem vO(kd n:Int)(w:World):
  Calls prog 158 #[.int .i64 kd,.int .i64 n] w λe w'=>DatPost e/\Add w w':=by
 by_cases h5:kd=5
 ·subst h5
  generalize hf:floatOfInt .f32 n=b
  go_enter func158,ntmps158
  go_wp2_with (go_at_call 177;refine (Dp _ _).mono ?_;rintro e w1 ⟨⟨c,rfl⟩,ha1⟩;have ha:=bf ha1;obtain ⟨z0,z1,z2,z3,z4,z5,zz⟩:=dF ((ha1.old w.heap.size Kh).trans (dD w (.cells #[.int .i64 0,.int .i64 0,.int .u64 0,.string ⟨#[]⟩,.slice none 0 0,.slice none 0 0] 42 (0,0))));unfold dcs;clear ha1)
  obtain ⟨⟨T,h6⟩,hadd⟩:=BR _ ha.out ⟨_,_,_,_,_,_,_,rfl⟩ (v0:=.int .i64 5) (v1:=.int .i64 0) (v2:=.int .u64 (c:Int)) (v3:=.string ByteArray.empty) (v4:=.slice none 0 0) (v5:=.slice none 0 0)
  obtain ⟨r0,r1,r2,r3,r4,r5,rz⟩:=dF h6
  unfold dV at r0 r1 r2 r3 r4 r5 hadd
  refine bodyPost_ret (v:=.agg #[.int .i64 5,.int .i64 0,.int .u64 (c:Int),.string ByteArray.empty,.slice none 0 0,.slice none 0 0]) Li rfl ?_
  exact ⟨.inr ⟨_,_,_,_,_,_,_,_,_,_,rfl⟩,hadd⟩
 have hb:(kd==5)=false:=by rw [beq_eq_false_iff_ne];exact h5
 clear h5
 generalize hf:floatOfInt .f64 n=b
 go_enter func158,ntmps158
 go_wp2_with (go_at_call 178;refine (DN _ _).mono ?_;rintro e w1 ⟨⟨c,rfl⟩,ha1⟩;have ha:=bf ha1;obtain ⟨z0,z1,z2,z3,z4,z5,zz⟩:=dF ((ha1.old w.heap.size Kh).trans (dD w (.cells #[.int .i64 0,.int .i64 0,.int .u64 0,.string ⟨#[]⟩,.slice none 0 0,.slice none 0 0] 42 (0,0))));unfold dcs;clear ha1)
 obtain ⟨⟨T,h6⟩,hadd⟩:=BR _ ha.out ⟨_,_,_,_,_,_,_,rfl⟩ (v0:=.int .i64 6) (v1:=.int .i64 0) (v2:=.int .u64 (c:Int)) (v3:=.string ByteArray.empty) (v4:=.slice none 0 0) (v5:=.slice none 0 0)
 obtain ⟨r0,r1,r2,r3,r4,r5,rz⟩:=dF h6
 unfold dV at r0 r1 r2 r3 r4 r5 hadd
 refine bodyPost_ret (v:=.agg #[.int .i64 6,.int .i64 0,.int .u64 (c:Int),.string ByteArray.empty,.slice none 0 0,.slice none 0 0]) Li rfl ?_
 exact ⟨.inr ⟨_,_,_,_,_,_,_,_,_,_,rfl⟩,hadd⟩
end
end Go.Proofs.YtceinlbeeahkeaaGreatDoor
