import Derived.Test.YtmphmjkinmkidaaGreatDoorS11
set_option linter.defProp false
open Go.Proofs.Tryz
set_option maxRecDepth 8000
set_option maxHeartbeats 4000000
namespace Go.Proofs.YtmphmjkinmkidaaGreatDoor
variable{p:Prop}
section
open Go Go.RowKit Go.Extern.Stop Go.Stop Go.Extern
def fcs(n:ByteArray)(aa:Option Addr)(al ac b:Nat)(k i:Int)(t:ByteArray)(a na:Option Addr)(l c nl nc:Nat)(m:Option Nat)(d:Bool):List Value:=[.string n,.slice aa al ac,.pointer (some ⟨b,0,none⟩),.int .i64 k,.int .i64 i,.string t,.slice a l c,.slice na nl nc,.map m,.bool d]
theorem Bu{W0:World}{d:Option J}{js:List Value}(h:nJ W0 d js):∃k n t a na l c nl nc m,js=jc k n t a na l c nl nc m:=by
 cases d with
 |none=>exact ⟨_,_,_,_,_,_,_,_,_,_,h⟩
 |some j=>obtain ⟨n,t,a,na,l,c,nl,nc,m,h⟩:=J.lies_cells h;exact ⟨_,_,_,_,_,_,_,_,_,_,h⟩
theorem je{W0:World} : ∀(ns:List ByteArray) (bs:List Nat) (ds:List (Option J)) (cs:List Value),dZ W0 ns bs ds cs->cs.length=ns.length*10/\bs.length=ns.length/\ds.length=ns.length/\∀i (h:i<ns.length) (hb:i<bs.length) (hd:i<ds.length),∃aa al ac k n t a na l c nl nc m,(∀f,f<10->cs[i*10+f]?=(fcs ns[i] aa al ac bs[i] k n t a na l c nl nc m ds[i].isSome)[f]?)/\nJ W0 ds[i] (jc k n t a na l c nl nc m)
 |[],[],[],cs,h=>by rw [dZ] at h;subst h;exact ⟨rfl,rfl,rfl,λi h=>absurd h (Nat.not_lt_zero _)⟩
 |n::ns,b::bs,d::ds,cs,h=>by
  rw [dZ] at h
  obtain ⟨aa,al,ac,js,rest,rfl,hjs,hdj,hr⟩:=h
  obtain ⟨h1,h2,h3,h4⟩:=je ns bs ds rest hr
  obtain ⟨k,nn,t,a,na,l,c,nl,nc,m,rfl⟩:=Bu hdj
  refine ⟨by simp [jc,h1];omega,by simp [h2],by simp [h3],λi hi hb hd=>?_⟩
  cases i with
  |zero=>
   refine ⟨aa,al,ac,k,nn,t,a,na,l,c,nl,nc,m,λf hf=>?_,hdj⟩
   rw [List.getElem?_append_left NJ,Nat.zero_mul,NV]
   rfl
  |succ i=>
   obtain ⟨aa',al',ac',k',n',t',a',na',l',c',nl',nc',m',hc,hd'⟩:=h4 i ML (by simpa using hb) (by simpa using hd)
   refine ⟨aa',al',ac',k',n',t',a',na',l',c',nl',nc',m',λf hf=>?_,hd'⟩
   rw [List.getElem?_append_right NJ]
   have e:(i+1)*10+f-([Value.string n,Value.slice aa al ac,ptr b]++jc k nn t a na l c nl nc m++[Value.bool d.isSome]).length=i*10+f:=NJ
   rw [e]
   exact hc f hf
 |[],[],_::_,cs,h=>by rw [dZ] at h;exact h.elim;all_goals simp
 |[],_::_,_,cs,h=>by rw [dZ] at h;exact h.elim;all_goals simp
 |_::_,[],_,cs,h=>by rw [dZ] at h;exact h.elim;all_goals simp
 |_::_,_::_,[],cs,h=>by rw [dZ] at h;exact h.elim;all_goals simp
theorem FH(o s:ByteArray)(fc:Nat)(aa:Option Addr)(al ac b:Nat)(k i:Int)(t:ByteArray)(a na:Option Addr)(l c nl nc:Nat)(m:Option Nat)(d:Bool)(w:World)(hc:w.cell? ⟨fc,0,none⟩=some (.string s)):
  Calls prog 152 #[.agg (fcs o aa al ac b k i t a na l c nl nc m d).toArray,.pointer (some ⟨fc,0,none⟩)] w λe w'=>e=.returned (.bool (decide (o=s)))/\Add w w':=by
 unfold fcs
 have hc':∀o,(w.alloc o).cell? ⟨fc,0,none⟩=some (.string s):=λo=>(ae w o).cell hc
 have hfn:fc≠w.heap.size:=Nat.ne_of_lt (NW _ _ hc)
 go_enter func152,ntmps152
 go_wp2
 go_ret
 refine ⟨?_,ae _ _⟩
 show Ending.returned (.bool (o.toList==s.toList))=_
 rw [gB]
theorem Jz(ns:List ByteArray)(bs:List Nat)(ds:List (Option J))(cs:List Value)(s:ByteArray)(fc:Nat)(a:Option Addr)(cp:Nat)(W0 w:World)(hle:ns.length<=12)(hf:dZ W0 ns bs ds cs)(hrow:Row w 10 (.slice a ns.length cp) ns.length cs)(hc:w.cell? ⟨fc,0,none⟩=some (.string s)):
  Calls prog 175 #[.slice a ns.length cp,.func (.func 152) #[] #[.pointer (some ⟨fc,0,none⟩)]] w λe w'=>(∃x:Int,e=.returned (.int .i64 x)/\decide (0<=x)=dU s ns)/\Add w w':=by
 obtain ⟨h1,h2,h3,hget⟩:=je ns bs ds cs hf
 obtain ⟨N,hN⟩:∃N,ns.length=N:=⟨_,rfl⟩
 rw [hN] at hrow ⊢
 have HN:Hid (ns.length=N):=hN
 have HB:Hid (bs.length=ns.length):=h2
 have HD:Hid (ds.length=ns.length):=h3
 have HLE:Hid (N<=12):=Nb
 have HRW:Hid (Row w 10 (.slice a N cp) N cs):=hrow
 clear hN h1 h2 h3 hle hrow hf
 go_enter func175,ntmps175
 go_wp2
 go_loopw [5,8] (λ_ cnt wr=>∃(j:Nat),j<=N/\cnt=.int .i64 j/\Add w wr/\dU s (ns.take j)=false) (λ_ cnt _=>N-(intOf cnt).toNat)
 case atStart=>exact ⟨0,NQ _,rfl,Add.refl _,rfl⟩
 obtain ⟨j,hj,rfl,ha,hv⟩:=hrel
 have HA:Hid (Add w wr):=ha
 have HV:Hid (dU s (ns.take j)=false):=hv
 clear ha hv
 by_cases hlt:j<N
 ·have hlt':j<ns.length:=KC
  have ji:=Y51
  have hle:j<=12:=Ll
  obtain ⟨aa,al,ac,k,n,t,a6,na,l,c,nl,nc,m,hcs,_⟩:=hget j hlt' Le Lf
  have hrg:=HRW.out
  rcases hrg with ⟨he,h0,_⟩|⟨g,cg,he,hg⟩
  ·exfalso;rw [h0] at hlt;omega
  cases he
  have hcell:∀f,f<10->wr.cell? ⟨g,j*10+f,none⟩=(fcs ns[j] aa al ac (bs[j]' Le) k n t a6 na l c nl nc m (ds[j]' Lf).isSome)[f]?:=λf hf=>by
   have hx:=hcs f hf
   rw [<-hx]
   have:(fcs ns[j] aa al ac (bs[j]' Le) k n t a6 na l c nl nc m (ds[j]' Lf).isSome)[f]?=some ((fcs ns[j] aa al ac (bs[j]' Le) k n t a6 na l c nl nc m (ds[j]' Lf).isSome)[f]'(by simpa [fcs] using hf)):=NP _
   rw [hx,this]
   refine HA.out.cell ?_
   rw [hg.holds (j*10+f) Kc,hx,this]
  clear hg hget hcs
  have hca:=FH ns[j] s fc aa al ac (bs[j]' Le) k n t a6 na l c nl nc m (ds[j]' Lf).isSome wr (HA.out.cell hc)
  generalize hq:decide (ns[j]=s)=q at hca
  have HQ:Hid (decide (ns[j]=s)=q):=hq
  clear hq
  generalize hnj:ns[j]=nj at hcell hca
  have HNJ:Hid (ns[j]=nj):=hnj
  clear hnj
  generalize (ds[j]' Lf).isSome=dj at hcell hca
  generalize bs[j]' Le=bj at hcell hca
  unfold fcs at hcell hca
  have g0:wr.cell? ⟨g,j*10,none⟩=some (.string nj):=hcell 0 Kc
  have g1:wr.cell? ⟨g,j*10+1,none⟩=some (.slice aa al ac):=hcell 1 Kc
  have g2:wr.cell? ⟨g,j*10+2,none⟩=some (.pointer (some ⟨bj,0,none⟩)):=hcell 2 Kc
  have g3:wr.cell? ⟨g,j*10+3,none⟩=some (.int .i64 k):=hcell 3 Kc
  have g4:wr.cell? ⟨g,j*10+4,none⟩=some (.int .i64 n):=hcell 4 Kc
  have g5:wr.cell? ⟨g,j*10+5,none⟩=some (.string t):=hcell 5 Kc
  have g6:wr.cell? ⟨g,j*10+6,none⟩=some (.slice a6 l c):=hcell 6 Kc
  have g7:wr.cell? ⟨g,j*10+7,none⟩=some (.slice na nl nc):=hcell 7 Kc
  have g8:wr.cell? ⟨g,j*10+8,none⟩=some (.map m):=hcell 8 Kc
  have g9:wr.cell? ⟨g,j*10+9,none⟩=some (.bool dj):=hcell 9 Kc
  clear hcell
  cases q with
  |true=>
   go_wp2_with (go_at_call 152;refine hca.mono ?_;rintro e w1 ⟨rfl,ha1⟩)
   go_ret
   refine ⟨⟨(j:Int),rfl,?_⟩,HA.out.trans ha1⟩
   rw [decide_eq_true (by omega:(0:Int)<=(j:Int))]
   have e1:ns[j]=s:=of_decide_eq_true HQ.out
   unfold dU
   exact (List.any_eq_true.2 ⟨_,NS hlt',decide_eq_true e1.symm⟩).symm
  |false=>
   have HJ:Hid (j<N):=hlt
   clear hlt
   go_wp2_with (go_at_call 152;refine hca.mono ?_;rintro e w1 ⟨rfl,ha1⟩)
   refine ⟨⟨j+1,by have:=HJ.out;omega,?_,HA.out.trans ha1,?_⟩,?_⟩
   ·rfl
   ·have e1:¬ s=ns[j]:=λe=>of_decide_eq_false HQ.out e.symm
    unfold dU at *
    rw [List.take_succ_eq_append_getElem (by rw [HN.out];exact HJ.out),List.any_append,HV.out]
    simp [e1]
   exact Z169
 exact Z74
theorem GR(ns:List ByteArray)(bs:List Nat)(ds:List (Option J))(cs:List Value)(s:ByteArray)(fc:Nat)(a:Option Addr)(cp:Nat)(W0 w:World)(hle:ns.length<=12)(hf:dZ W0 ns bs ds cs)(hrow:Row w 10 (.slice a ns.length cp) ns.length cs)(hc:w.cell? ⟨fc,0,none⟩=some (.string s)):
  Calls prog 151 #[.slice a ns.length cp,.func (.func 152) #[] #[.pointer (some ⟨fc,0,none⟩)]] w λe w'=>e=.returned (.bool (dU s ns))/\Add w w':=by
 have hi:=Jz ns bs ds cs s fc a cp W0 w hle hf hrow hc
 clear hle hrow hf hc
 go_enter func151,ntmps151
 go_wp2_with (go_at_call 175;refine hi.mono ?_;rintro e w1 ⟨⟨x,rfl,hx⟩,ha1⟩;have HX:Hid (decide (0<=x)=dU s ns):=hx;clear hx)
 go_ret
 refine ⟨?_,ha1⟩
 rw [<-HX.out]
 rfl
structure TNode where
 kind:Int
 name:ByteArray
 fields:List (ByteArray × Nat)
 symbols:List ByteArray
 size:Nat
 item:Nat
 branches:List Nat
def wG(w:World)(b o:Nat)(f:ByteArray)(t:Nat):Prop:=∃aa al ac k i tt a na l c nl nc m,∃d:Option J,(∀g,g<10->w.cell? ⟨b,o+g,none⟩=(fcs f aa al ac t k i tt a na l c nl nc m d.isSome)[g]?)/\nJ w d (jc k i tt a na l c nl nc m)
theorem Fr{w w':World}(ho:Old w w'){d:Option J}{cs:List Value}(h:nJ w d cs):nJ w' d cs:=by
 cases d with
 |none=>exact h
 |some j=>exact J.lies_carry ⟨ho.size,λi _ hi=>ho.old i hi⟩ _ _ h
theorem wG.old{w w':World}{b o:Nat}{f:ByteArray}{t:Nat}(h:wG w b o f t)(hb:b<w.heap.size)(ho:Old w w'):wG w' b o f t:=by
 obtain ⟨aa,al,ac,k,i,tt,a,na,l,c,nl,nc,m,d,h1,h2⟩:=h
 exact ⟨aa,al,ac,k,i,tt,a,na,l,c,nl,nc,m,d,λg hg=>(ho.cell hb).trans (h1 g hg),Fr ho h2⟩
structure TypeAt(w:World)(pl:Nat->Nat)(n:TNode)(b:Nat):Prop where
 lt:b<w.heap.size
 kind:w.cell? ⟨b,0,none⟩=some (.int .i64 n.kind)
 name:w.cell? ⟨b,1,none⟩=some (.string n.name)
 fields:∃fa fc,w.cell? ⟨b,3,none⟩=some (.slice fa n.fields.length fc)/\(n.fields=[]\/∃fb fo,fa=some ⟨fb,fo,none⟩/\fb<w.heap.size/\∀i (h:i<n.fields.length),wG w fb (fo+i*10) n.fields[i].1 (pl n.fields[i].2))
 symbols:∃sa sc,w.cell? ⟨b,4,none⟩=some (.slice sa n.symbols.length sc)/\jE w sa n.symbols
 size:w.cell? ⟨b,6,none⟩=some (.int .i64 n.size)
 item:∃v,w.cell? ⟨b,7,none⟩=some v/\(n.kind=11\/n.kind=12->v=.pointer (some ⟨pl n.item,0,none⟩))
 branches:∃ba bc,w.cell? ⟨b,8,none⟩=some (.slice ba n.branches.length bc)/\(n.branches=[]\/∃bb bo,ba=some ⟨bb,bo,none⟩/\bb<w.heap.size/\∀i (h:i<n.branches.length),w.cell? ⟨bb,bo+i,none⟩=some (.pointer (some ⟨pl n.branches[i],0,none⟩)))
theorem TypeAt.old{w w':World}{pl:Nat->Nat}{n:TNode}{b:Nat}(h:TypeAt w pl n b)(ho:Old w w'):TypeAt w' pl n b:=by
 obtain ⟨hl,h0,h1,⟨fa,fc,h3,hf⟩,⟨sa,sc,h4,hs⟩,h6,⟨v,h7,hi⟩,⟨ba,bc,h8,hb⟩⟩:=h
 refine ⟨NK hl ho.size,(ho.cell hl).trans h0,(ho.cell hl).trans h1,⟨fa,fc,(ho.cell hl).trans h3,?_⟩,⟨sa,sc,(ho.cell hl).trans h4,hs.carry ho⟩,(ho.cell hl).trans h6,⟨v,(ho.cell hl).trans h7,hi⟩,⟨ba,bc,(ho.cell hl).trans h8,?_⟩⟩
 ·rcases hf with hf|⟨fb,fo,e,hlt,hc⟩
  ·exact .inl hf
  exact .inr ⟨fb,fo,e,NK hlt ho.size,λi hi=>(hc i hi).old hlt ho⟩
 rcases hb with hb|⟨bb,bo,e,hlt,hc⟩
 ·exact .inl hb
 exact .inr ⟨bb,bo,e,NK hlt ho.size,λi hi=>(ho.cell hlt).trans (hc i hi)⟩
structure Lay(w:World)(tab:List TNode)(pl:Nat->Nat):Prop where
 lies:∀i (h:i<tab.length),TypeAt w pl tab[i] (pl i)
 kinds:∀i (h:i<tab.length),1<=tab[i].kind/\tab[i].kind<=14
 sizes:∀i (h:i<tab.length),tab[i].size<=64/\tab[i].symbols.length<=12/\tab[i].branches.length<=12/\tab[i].fields.length<=12
 item:∀i (h:i<tab.length),tab[i].kind=11\/tab[i].kind=12->tab[i].item<tab.length
 branches:∀i (h:i<tab.length),∀k∈tab[i].branches,k<tab.length
 fields:∀i (h:i<tab.length),∀f∈tab[i].fields,f.2<tab.length
theorem Lay.old{w w':World}{tab:List TNode}{pl:Nat->Nat}(h:Lay w tab pl)(ho:Old w w'):Lay w' tab pl:=
 ⟨λi hi=>(h.lies i hi).old ho,h.kinds,h.sizes,h.item,h.branches,h.fields⟩
def gq(p:Int)(n:Int):Bool:=decide (0<=p)&&decide (p<n)
theorem ut(p n:Int)(w:World):
  Calls prog 98 #[.int .i64 p,.int .i64 n] w λe w'=>e=.returned (.bool (gq p n))/\w'=w:=by
 by_cases h:0<=p
 ·go_enter func98,ntmps98
  go_wp2
  go_ret
  exact ⟨mh (by simp [gq,h]),rfl⟩
 have h':(0<=p)=False:=Kt
 have H:Hid (gq p n=false):=by show _=_;unfold gq;rw [decide_eq_false h,Bool.false_and]
 clear h
 go_enter func98,ntmps98
 exact Z212
def Ak(n:Int):Bool:=decide (-2147483648<=n)&&decide (n<=2147483647)
theorem qo(n:Int)(w:World):
  Calls prog 90 #[.int .i64 n] w λe w'=>e=.returned (.bool (Ak n))/\w'=w:=by
 by_cases h : -2147483648<=n
 ·have h':(-2147483648<=n)=True:=by simp [h]
  have H:Hid (-2147483648<=n):=h
  clear h
  go_enter func90,ntmps90
  go_wp2
  go_ret
  exact ⟨mh (by simp [Ak,H.out]),rfl⟩
 have h':(-2147483648<=n)=False:=Kt
 have H:Hid (Ak n=false):=by show _=_;unfold Ak;rw [decide_eq_false h,Bool.false_and]
 clear h
 go_enter func90,ntmps90
 exact Z212
end
section
open Go
def Z127(h:p:=by
 rw [J.plain] at hp
 obtain ⟨m,rfl⟩:∃m:Nat,n=m:=⟨n.toNat,by omega⟩
 rw [jB]
 exact IA _ _ m Kc rest hr):p:=h
def Z201(h:p:=by
 rw [J.plain] at hp
 rw [jB]
 exact JQ _ _ s hp rest):p:=h
def Z226(h:p:=by
 rw [J.plain] at hp;exact hp.elim):p:=h
def qB(s:ByteArray):List UInt8:=34::(s.data.toList++[34])
mutual
def jB:J->List UInt8
 |.null=>[110,117,108,108]
 |.bool _=>[]
 |.num n=>Lib.itoa n
 |.str s=>qB s
 |.arr l=>91::(jBs true l++[93])
 |.obj ns vs=>123::(jBo true ns vs++[125])
def jBs:Bool->List J->List UInt8
 |_,[]=>[]
 |b,v::r=>(if b then [] else [44])++(jB v++jBs false r)
def jBo:Bool->List ByteArray->List J->List UInt8
 |_,_,[]=>[]
 |b,ns,v::r=>(if b then [] else [44])++(qB (ns.headD ByteArray.empty)++(58::(jB v++jBo false ns.tail r)))
end
def mD(b:UInt8):Bool:=decide (32<=b.toNat)&&decide (b.toNat<128)&&b.toNat != 34&&b.toNat != 92
def fM(s:ByteArray):Prop:=∀b∈s.data.toList,mD b=true
mutual
def J.plain:Nat->J->Prop
 |_,.null=>False
 |_,.bool _=>False
 |_,.num n=>0<=n/\n<=64
 |_,.str s=>fM s
 |0,.arr _=>False
 |k+1,.arr l=>bT k l
 |0,.obj _ _=>False
 |k+1,.obj ns vs=>ns.length=vs.length/\vs≠[]/\ns.Nodup/\(∀n∈ns,fM n)/\bT k vs
def bT:Nat->List J->Prop
 |_,[]=>True
 |k,v::r=>v.plain k/\bT k r
end
def rn(l:List UInt8):List Nat:=l.map UInt8.toNat
theorem JZ(a b:List UInt8):rn (a++b)=rn a++rn b:=by unfold rn;rw [List.map_append]
theorem zY(a:UInt8)(b:List UInt8):rn (a::b)=a.toNat::rn b:=rfl
theorem De:rn []=[]:=rfl
theorem Fw(b:UInt8)(h:b.toNat<128):Lib.encodeRune b.toNat=[b]:=by
 unfold Lib.encodeRune
 rw [Lib.encodeRuneZ_one Kc Kc]
 simp
theorem xH:∀(l:List UInt8) (f:Nat) (acc:List UInt8) (rest:List Nat),(∀b∈l,mD b=true)->l.length<f->mZ f acc (rn l++34::rest)=some (⟨(acc++l).toArray⟩,rest)
 |[],f+1,acc,rest,_,_=>by
  rw [De,List.nil_append,mZ,if_pos rfl,List.append_nil]
 |b::l,f+1,acc,rest,h,hf=>by
  have hb:=h b (List.mem_cons_self)
  unfold mD at hb
  simp only [Bool.and_eq_true,decide_eq_true_eq,bne_iff_ne,ne_eq] at hb
  obtain ⟨⟨⟨h1,h2⟩,h3⟩,h4⟩:=hb
  rw [zY,List.cons_append,mZ,if_neg h3,if_neg h4,if_neg Kc,Fw b h2,xH l f _ rest (λx hx=>h x (List.mem_cons_of_mem _ hx)) (by simpa using hf)]
  simp
theorem yx(s:ByteArray)(rest:List Nat)(h:fM s):qD (rn (qB s)++rest)=some (s,rest):=by
 unfold qB qD
 rw [zY,JZ]
 have e:dY 34 ((34:UInt8).toNat::(rn s.data.toList++rn [34])++rest)=some (rn s.data.toList++34::rest):=by
  show (if (34:Nat)=34 then some _ else none)=_
  rw [if_pos rfl]
  simp [rn]
 rw [e]
 show mZ _ _ _=_
 rw [xH _ _ _ _ h (by simp [rn];omega)]
 rfl
theorem BC(z:Bool)(c n:Nat)(rest:List Nat)(h:∀r l,rest=r::l->dig r=false):kZ z c n rest=some (n,rest):=by
 cases rest with
 |nil=>rfl
 |cons r l=>rw [kZ,h r l rfl];rfl
theorem wK(d:Nat)(h:d<10):dig (48+d)=true:=by unfold dig;simp;omega
theorem mH(n:Nat)(h:n<10):rn (Lib.itoa (n:Int))=[48+n]:=by
 unfold Lib.itoa
 rw [if_neg Kc,Lib.decDigits,dif_pos Kc]
 simp [rn];omega
theorem pX(n:Nat)(h:10<=n)(h1:n<100):rn (Lib.itoa (n:Int))=[48+n / 10,48+n % 10]:=by
 unfold Lib.itoa
 rw [if_neg Kc,Lib.decDigits,dif_neg Kc,Lib.decDigits,dif_pos Kt]
 simp [rn];omega
theorem FL(n:Nat)(hn:n<=64)(rest:List Nat)(hr:∀r l,rest=r::l->dig r=false):rU (rn (Lib.itoa (n:Int))++rest)=some ((n:Int),rest):=by
 by_cases h:n<10
 ·rw [mH n h]
  unfold rU
  have e1:dY 45 ([48+n]++rest)=none:=by show (if 48+n=45 then _ else _)=_;rw [if_neg Kc]
  have e2:jq ([48+n]++rest)=some (n,rest):=by
   show (if dig (48+n)=true then kZ (48+n==48) 1 0 ((48+n)::rest) else none)=_
   rw [if_pos (wK n h),kZ,if_pos (wK n h),if_neg Kc,if_neg Kc,BC _ _ _ _ hr]
   have e:0*10+(48+n-48)=n:=Kc
   rw [e]
  rw [e1]
  simp only [e2,Option.map_some]
 rw [pX n Kc Kc]
 unfold rU
 have e1:dY 45 ([48+n / 10,48+n % 10]++rest)=none:=by show (if 48+n / 10=45 then _ else _)=_;rw [if_neg Kc]
 have e2:jq ([48+n / 10,48+n % 10]++rest)=some (n,rest):=by
  show (if dig (48+n / 10)=true then kZ (48+n / 10==48) 1 0 ((48+n / 10)::(48+n % 10)::rest) else none)=_
  have ez:(48+n / 10==48)=false:=Kt
  rw [ez,if_pos (wK _ Kc),kZ,if_pos (wK _ Kc),if_neg Kc,if_neg Kc,kZ,if_pos (wK _ Kc),if_neg Kc,if_neg Kh,BC _ _ _ _ hr]
  have e:(0*10+(48+n / 10-48))*10+(48+n % 10-48)=n:=Kc
  rw [e]
 rw [e1]
 simp only [e2,Option.map_some]
def sM(c:Nat):Prop:=c=34\/c=91\/c=123\/(48<=c/\c<=57)
theorem ug(j:J)(k:Nat)(h:j.plain k):∃c l,rn (jB j)=c::l/\sM c:=by
 cases j with
 |null=>rw [J.plain] at h;exact h.elim
 |bool b=>rw [J.plain] at h;exact h.elim
 |num n=>
  rw [J.plain] at h
  obtain ⟨h0,h1⟩:=h
  obtain ⟨m,rfl⟩:∃m:Nat,n=m:=⟨n.toNat,by omega⟩
  rw [jB]
  by_cases hm:m<10
  ·exact ⟨_,_,mH m hm,.inr (.inr (.inr Kc))⟩
  exact ⟨_,_,pX m Kc Kc,.inr (.inr (.inr Kc))⟩
 |str s=>rw [jB];exact ⟨34,_,rfl,.inl rfl⟩
 |arr l=>rw [jB];exact ⟨91,_,rfl,.inr (.inl rfl)⟩
 |obj ns vs=>rw [jB];exact ⟨123,_,rfl,.inr (.inr (.inl rfl))⟩
theorem mX{c:Nat}(l:List Nat)(h:sM c):dK (c::l)=c::l:=by
 rw [dK,if_neg]
 unfold isB sM at *
 simp
 omega
theorem uk(c:Nat)(l:List Nat)(h:isB c=false):dK (c::l)=c::l:=by
 rw [dK,h];rfl
theorem lY(c:Nat)(l:List Nat):dY c (c::l)=some l:=by show (if c=c then _ else _)=_;rw [if_pos rfl]
theorem rj{c d:Nat}(l:List Nat)(h:d≠c):dY c (d::l)=none:=by show (if d=c then _ else _)=_;rw [if_neg h]
theorem zi(last:Nat)(l:List Nat):nX last (44::l)=some (false,l):=by
 unfold nX
 rw [uk 44 l rfl,lY]
theorem yY(last:Nat)(l:List Nat)(h:last≠44)(hb:isB last=false):nX last (last::l)=some (true,l):=by
 unfold nX
 rw [uk last l hb,rj l h]
 show (match dY last (last::l) with|some l=>some (true,l)|none=>none)=_
 rw [lY]
theorem uU(val:List Nat->Option (J × List Nat)):∀(r:List J) (v:J) (f:Nat) (acc:List J) (rest:List Nat),(∀x∈v::r,∀rest',(∀c l,rest'=c::l->dig c=false)->val (rn (jB x)++rest')=some (x,rest'))->r.length<f->iI val f acc (rn (jB v++jBs false r)++93::rest)=some (.arr (acc++v::r),rest)
 |[],v,f+1,acc,rest,hv,_=>by
  rw [jBs,List.append_nil,iI,hv v (List.mem_cons_self) _ (λc l e=>by cases e;rfl)]
  show (match nX 93 (93::rest) with|none=>none|some (true,l)=>some (J.arr (acc++[v]),l)|some (false,l)=>iI val f (acc++[v]) l)=_
  rw [yY 93 rest Ke rfl]
 |u::r,v,f+1,acc,rest,hv,hf=>by
  have e:rn (jB v++jBs false (u::r))++93::rest=rn (jB v)++44::(rn (jB u++jBs false r)++93::rest):=by
   rw [jBs]
   simp [rn]
  rw [e,iI,hv v (List.mem_cons_self) _ (λc l e=>by cases e;rfl)]
  show (match nX 93 (44::_) with|none=>none|some (true,l)=>some (J.arr (acc++[v]),l)|some (false,l)=>iI val f (acc++[v]) l)=_
  rw [zi]
  show iI val f (acc++[v]) _=_
  rw [uU val r u f (acc++[v]) rest (λx hx=>hv x (List.mem_cons_of_mem _ hx)) (by simpa using hf)]
  simp
theorem Bv{x:ByteArray}{l:List ByteArray}(h:x ∉ l):dU x l=false:=by
 unfold dU
 rw [List.any_eq_false]
 intro y hy
 simp
 exact λe=>h (e ▸ hy)
theorem vM(val:List Nat->Option (J × List Nat)):∀(r:List J) (ns:List ByteArray) (n:ByteArray) (v:J) (f:Nat) (an:List ByteArray) (av:List J) (rest:List Nat),(∀x∈v::r,∀rest',(∀c l,rest'=c::l->dig c=false)->val (rn (jB x)++rest')=some (x,rest'))->ns.length=r.length->(∀m∈n::ns,fM m)->(an++n::ns).Nodup->r.length<f->jC val f an av (rn (qB n++(58::(jB v++jBo false ns r)))++125::rest)=some (.obj (an++n::ns) (av++v::r),rest)
 |r,ns,n,v,f+1,an,av,rest,hv,hl,hp,hd,hf=>by
  have hn:dU n an=false:=Bv λh=>by
   rw [List.nodup_append] at hd
   exact hd.2.2 n h n (List.mem_cons_self) rfl
  have e0:rn (qB n++(58::(jB v++jBo false ns r)))++125::rest=rn (qB n)++(58::(rn (jB v)++(rn (jBo false ns r)++125::rest))):=by simp [rn]
  have e1:dK (rn (qB n)++(58::(rn (jB v)++(rn (jBo false ns r)++125::rest))))=rn (qB n)++(58::(rn (jB v)++(rn (jBo false ns r)++125::rest))):=mX _ (.inl rfl)
  rw [e0,jC,e1,yx n _ (hp n (List.mem_cons_self))]
  show (if dU n an=true then none else _)=_
  rw [hn,if_neg Ke]
  rw [uk 58 _ rfl,lY]
  have hre:∀c l,rn (jBo false ns r)++125::rest=c::l->dig c=false:=by
   intro c l e
   cases r with
   |nil=>rw [jBo] at e;cases e;rfl
   |cons u r=>rw [jBo] at e;simp [rn] at e;rw [<-e.1];rfl
  simp only [hv v (List.mem_cons_self) _ hre]
  cases r with
  |nil=>
   rw [jBo]
   have hns:ns=[]:=NT hl
   rw [De,List.nil_append,yY 125 rest Ke rfl,hns]
  |cons u r=>
   cases ns with
   |nil=>simp at hl
   |cons m ns=>
    have e2:rn (jBo false (m::ns) (u::r))++125::rest=44::(rn (qB m++(58::(jB u++jBo false ns r)))++125::rest):=by
     rw [jBo]
     simp [rn]
    rw [e2,zi]
    show jC val f (an++[n]) (av++[v]) _=_
    rw [vM val r ns m u f (an++[n]) (av++[v]) rest (λx hx=>hv x (List.mem_cons_of_mem _ hx)) LQ (λx hx=>hp x (List.mem_cons_of_mem _ hx)) (by simpa using hd) (by simpa using hf)]
    simp
theorem EW:∀(l:List J) (k:Nat) (b:Bool),bT k l->l.length<=(jBs b l).length
 |[],_,_,_=>by simp
 |v::r,k,b,h=>by
  rw [bT] at h
  rw [jBs]
  obtain ⟨c,l,e,_⟩:=ug v k h.1
  have e':1<=(jB v).length:=by have:=congrArg List.length e;simp [rn] at this;omega
  have:=EW r k false h.2
  simp only [List.length_append,List.length_cons]
  omega
theorem Ez:∀(l:List J) (ns:List ByteArray) (b:Bool),l.length<=(jBo b ns l).length
 |[],_,_=>by simp
 |v::r,ns,b=>by
  rw [jBo]
  have:=Ez r ns.tail false
  simp only [List.length_append,List.length_cons]
  omega
theorem oh:∀ {k:Nat} {l:List J},bT k l->∀x∈l,x.plain k
 |_,[],_,_,h=>by cases h
 |k,v::r,hp,x,h=>by
  rw [bT] at hp
  rcases List.mem_cons.1 h with rfl|h
  ·exact hp.1
  exact oh hp.2 x h
theorem Af(c:Nat)(l:List Nat):pk (c::l)=(c:Int):=rfl
theorem IA(ar ob:List Nat->Option (J × List Nat))(m:Nat)(hm:m<=64)(rest:List Nat)(hr:∀c l,rest=c::l->dig c=false):si ar ob (rn (Lib.itoa (m:Int))++rest)=some (.num m,rest):=by
 have hn:=FL m hm rest hr
 have hc:∃c l,rn (Lib.itoa (m:Int))++rest=c::l/\48<=c/\c<=57:=by
  by_cases h:m<10
  ·rw [mH m h];exact ⟨_,_,rfl,by omega,by omega⟩
  rw [pX m Kc Kc];exact ⟨_,_,rfl,by omega,by omega⟩
 obtain ⟨c,l,e,h1,h2⟩:=hc
 unfold si
 rw [e,Af,if_neg Kc,if_neg Kc,if_neg Kc,if_neg Kc,if_pos Kc,<-e,hn]
 rfl
theorem JQ(ar ob:List Nat->Option (J × List Nat))(s:ByteArray)(h:fM s)(rest:List Nat):si ar ob (rn (qB s)++rest)=some (.str s,rest):=by
 unfold si
 have e:pk (rn (qB s)++rest)=34:=rfl
 rw [e,if_pos rfl,yx s rest h]
 rfl
theorem Fy:∀(k:Nat) (j:J) (rest:List Nat),j.plain k->(∀c l,rest=c::l->dig c=false)->iQ k (rn (jB j)++rest)=some (j,rest):=by
 intro k
 induction k with
 |zero=>
  intro j rest hp hr
  obtain ⟨c,l,e,hc⟩:=ug j 0 hp
  have hs:dK (rn (jB j)++rest)=rn (jB j)++rest:=by rw [e];exact mX _ hc
  rw [iQ,hs]
  cases j with
  |null=>exact Z226
  |bool b=>exact Z226
  |num n=>
   exact Z127
  |str s=>
   exact Z201
  |arr l=>exact Z226
  |obj ns vs=>exact Z226
 |succ k ih=>
  intro j rest hp hr
  obtain ⟨c,l,e,hc⟩:=ug j _ hp
  have hs:dK (rn (jB j)++rest)=rn (jB j)++rest:=by rw [e];exact mX _ hc
  rw [iQ,hs]
  cases j with
  |null=>exact Z226
  |bool b=>exact Z226
  |num n=>
   exact Z127
  |str s=>
   exact Z201
  |arr l=>
   rw [J.plain] at hp
   rw [jB]
   have e0:rn (91::(jBs true l++[93]))++rest=91::(rn (jBs true l)++93::rest):=by simp [rn]
   rw [e0]
   unfold si
   rw [Af,if_neg Ke,if_pos Ke]
   unfold Bf lD
   rw [lY]
   cases l with
   |nil=>
    rw [jBs,De,List.nil_append]
    simp only [uk 93 rest rfl,lY]
   |cons v r=>
    have hpv:v.plain k:=oh hp v (List.mem_cons_self)
    obtain ⟨c,l,e,hc⟩:=ug v _ hpv
    have e1:rn (jBs true (v::r))++93::rest=rn (jB v++jBs false r)++93::rest:=by rw [jBs];rfl
    have e2:rn (jB v++jBs false r)++93::rest=c::(l++(rn (jBs false r)++93::rest)):=by rw [JZ,e];simp
    have e3:dY 93 (c::(l++(rn (jBs false r)++93::rest)))=none:=rj _ (by unfold sM at hc;omega)
    rw [e1]
    simp only [e2,mX _ hc,e3]
    rw [<-e2]
    have:=uU (iQ k) r v ((rn (jB v++jBs false r)++93::rest).length+1) [] rest (λx hx rest' hr'=>ih x rest' (oh hp x hx) hr') (by
     have:=EW r k false (by rw [bT] at hp;exact hp.2)
     simp [rn];omega)
    rw [this]
    rfl
  |obj ns vs=>
   rw [J.plain] at hp
   obtain ⟨hl,hne,hnd,hpn,hps⟩:=hp
   rw [jB]
   have e0:rn (123::(jBo true ns vs++[125]))++rest=123::(rn (jBo true ns vs)++125::rest):=by simp [rn]
   rw [e0]
   unfold si
   rw [Af,if_neg Ke,if_neg Ke,if_pos Ke]
   unfold BZ lD
   rw [lY]
   cases vs with
   |nil=>exact absurd rfl hne
   |cons v r=>
    cases ns with
    |nil=>simp at hl
    |cons n ns=>
     have e1:rn (jBo true (n::ns) (v::r))++125::rest=rn (qB n++(58::(jB v++jBo false ns r)))++125::rest:=by rw [jBo];rfl
     have e2:∃l,rn (qB n++(58::(jB v++jBo false ns r)))++125::rest=34::l:=⟨_,rfl⟩
     obtain ⟨l,e2⟩:=e2
     have hc:sM 34:=.inl rfl
     have e3:dY 125 (34::l)=none:=rj _ Ke
     rw [e1]
     simp only [e2,mX _ hc,e3]
     rw [<-e2]
     have:=vM (iQ k) r ns n v ((rn (qB n++(58::(jB v++jBo false ns r)))++125::rest).length+1) [] [] rest (λx hx rest' hr'=>ih x rest' (oh hps x hx) hr') LQ hpn hnd (by
      have:=Ez r ns false
      simp [rn];omega)
     rw [this]
     rfl
theorem wU(j:J)(h:j.plain 32):yG (rn (jB j))=some j:=by
 have:=Fy 32 j [] h (λc l e=>by cases e)
 rw [List.append_nil] at this
 unfold yG
 rw [this]
 rfl
def iU(j:J)(sp:ByteArray)(E:Env):Option (Sch × Env):=
 match gp j sp E with
 |none=>none
 |some n=>match j.named oL with
  |some (.num z)=>if 0<=z/\z<=64 then some (.mk 14 n [] z.toNat [] [],E++[(n,14)]) else none
  |_=>none
def jW(j:J)(sp:ByteArray)(E:Env):Option (Sch × Env):=
 match gp j sp E with
 |none=>none
 |some n=>match (j.listIn iY 1).bind (dQ dJ []) with
  |none=>none
  |some sy=>match j.named gD with
   |none=>some (.mk 10 n sy 0 [] [],E++[(n,10)])
   |some d=>match d.text with
    |none=>none
    |some t=>if dU t sy=true then some (.mk 10 n sy 0 [] [],E++[(n,10)]) else none
def il(rd:J->ByteArray->Env->Option (Sch × Env))(j:J)(sp:ByteArray)(E:Env):Option (Sch × Env):=
 match gp j sp E with
 |none=>none
 |some n=>match j.listIn kg 0 with
  |none=>none
  |some l=>match eG (λj E=>rd j (gi n) E) [] [] [] l (E++[(n,9)]) with
   |none=>none
   |some (fs,ss,ds,E)=>some (.mk 9 n fs 0 ss ds,E)
def iM(rd:J->ByteArray->Env->Option (Sch × Env))(l:List J)(sp:ByteArray)(E:Env):Option (Sch × Env):=
 if 1<=l.length/\l.length<=12 then (match fD (λj E=>rd j sp E) [] l E with
  |some (ss,E)=>some (.mk 13 ByteArray.empty [] 0 ss [],E)
  |none=>none)
 else none
def jJ(t sp:ByteArray)(E:Env):Option (Sch × Env):=
 if eP t≠0 then some (lQ (eP t),E) else (match E.kindOf? (fI t sp) with
  |some k=>some (.ref k (fI t sp),E)
  |none=>none)
def ofS(rd:J->ByteArray->Env->Option (Sch × Env))(k:Nat)(key:ByteArray)(j:J)(sp:ByteArray)(E:Env):Option (Sch × Env):=
 match j.named key with
 |none=>none
 |some v=>match rd v sp E with
  |none=>none
  |some (s,E)=>some (.mk k ByteArray.empty [] 0 [s] [],E)
def jl(rd:J->ByteArray->Env->Option (Sch × Env))(j:J)(sp:ByteArray)(E:Env):Option (Sch × Env):=
 match j.textIn eW with
 |none=>none
 |some w=>if eP w≠0 then some (lQ (eP w),E)
  else if w=lK then ofS rd 11 jm j sp E
  else if w=wh then ofS rd 12 ig j sp E
  else if w=kI then il rd j sp E
  else if w=oU then jW j sp E
  else if w=mQ then iU j sp E
  else none
theorem lW(f:Nat)(t sp:ByteArray)(E:Env):rdS (f+1) (.str t) sp E=jJ t sp E:=by rw [rdS];rfl
theorem nz(f:Nat)(l:List J)(sp:ByteArray)(E:Env):rdS (f+1) (.arr l) sp E=iM (rdS f) l sp E:=by rw [rdS];rfl
theorem jZ(f:Nat)(ns:List ByteArray)(vs:List J)(sp:ByteArray)(E:Env):rdS (f+1) (.obj ns vs) sp E=jl (rdS f) (.obj ns vs) sp E:=by rw [rdS];rfl
end
end Go.Proofs.YtmphmjkinmkidaaGreatDoor
