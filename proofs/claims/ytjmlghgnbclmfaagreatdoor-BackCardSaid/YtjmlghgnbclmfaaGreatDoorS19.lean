import Derived.Test.YtjmlghgnbclmfaaGreatDoorS18
set_option linter.defProp false
open Go.Proofs.Tryz
set_option maxRecDepth 20000
set_option maxHeartbeats 4000000
open Go Go.RowKit Go.Extern.Stop Go.Stop Go.Extern
namespace Go.Proofs.YtjmlghgnbclmfaaGreatDoor
variable{p:Prop}
section
def Y87(h:p:=by exact (cu (ok':=λi=>(w.heap.size<=i/\i≠t/\blk fv≠some i/\blk v'≠some i)/\i<wr.heap.size) (Keep.refl _ _) (λi h1 h2=>⟨h1,h2⟩) (NN _) (NN _) _ _ h.all)):p:=h
def Z93(h:p:=by
 cases a with
 |zero=>rw [J.within] at hj;exact hj.elim
 |succ a=>
  obtain ⟨b,rfl⟩:∃b',b=b'+1:=⟨b-1,by omega⟩
  rw [J.within] at hj ⊢
  exact bY Kc l hj):p:=h
theorem qI{W0:World}{n:ByteArray}{b:Nat}{d:Option J}{aa:Option Addr}{al ac:Nat}{k i:Int}{t:ByteArray}{a na:Option Addr}{l c nl nc:Nat}{m:Option Nat}(hd:nJ W0 d (jc k i t a na l c nl nc m)):∀(ns:List ByteArray) (bs:List Nat) (ds:List (Option J)) (cs:List Value),dZ W0 ns bs ds cs->dZ W0 (ns++[n]) (bs++[b]) (ds++[d]) (cs++fcs n aa al ac b k i t a na l c nl nc m d.isSome)
 |[],[],[],cs,h=>by
  rw [dZ] at h
  subst h
  show dZ W0 [n] [b] [d] _
  rw [dZ]
  exact ⟨aa,al,ac,jc k i t a na l c nl nc m,[],rfl,rfl,hd,by rw [dZ]⟩
 |x::ns,y::bs,z::ds,cs,h=>by
  rw [dZ] at h
  obtain ⟨aa',al',ac',js,rest,rfl,hjs,hdj,hr⟩:=h
  show dZ W0 (x::(ns++[n])) (y::(bs++[b])) (z::(ds++[d])) _
  rw [dZ]
  exact ⟨aa',al',ac',js,rest++fcs n aa al ac b k i t a na l c nl nc m d.isSome,by simp,hjs,hdj,qI hd ns bs ds rest hr⟩
 |[],[],_::_,cs,h=>by rw [dZ] at h;exact h.elim;all_goals simp
 |[],_::_,_,cs,h=>by rw [dZ] at h;exact h.elim;all_goals simp
 |_::_,[],_,cs,h=>by rw [dZ] at h;exact h.elim;all_goals simp
 |_::_,_::_,[],cs,h=>by rw [dZ] at h;exact h.elim;all_goals simp
structure RcI(W0 w wr:World)(rb m t:Nat)(v v':Value)(E E':Env)(Bs Bs':List Nat)(n:ByteArray)(av fv:Value)(ns:List ByteArray)(acc:List Sch)(bs:List Nat)(ds:List (Option J))(cs:List Value):Prop where
 r0:Rs W0 rb m w v E Bs
 rs:Rs W0 rb m wr v' E' Bs'
 ru:Ru rb m w v wr v'
 pe:E <+: E'
 pb:Bs <+: Bs'
 ref:jA E' Bs' n 9 t
 ty:wr.heap[t]?=some (tyB 9 n av fv (.slice none 0 0) 0 0 (.pointer none) (.slice none 0 0))
 tn:w.heap.size<=t
 tv:blk v'≠some t
 row:Row wr 10 fv ns.length cs
 fo:∀g,blk fv=some g->w.heap.size<=g/\g≠t/\blk v'≠some g
 fnil:ns=[]->blk fv=none
 are:dZ W0 ns bs ds cs
 all:bZ (λi=>w.heap.size<=i/\i≠t/\blk fv≠some i/\blk v'≠some i) W0 wr E' Bs' acc bs
variable {W0 w wr:World} {rb m t:Nat} {v v':Value} {E E':Env} {Bs Bs':List Nat} {n:ByteArray} {av fv:Value} {ns:List ByteArray} {acc:List Sch} {bs:List Nat} {ds:List (Option J)} {cs:List Value}
theorem RcI.tl(h:RcI W0 w wr rb m t v v' E E' Bs Bs' n av fv ns acc bs ds cs):t<wr.heap.size:=(Oh h.ty).1
theorem RcI.tW(h:RcI W0 w wr rb m t v v' E E' Bs Bs' n av fv ns acc bs ds cs):W0.heap.size<=t/\t≠rb/\t≠m:=by
 exact Z155
theorem RcI.read{w2:World}{v2:Value}{E2:Env}{Bs2:List Nat}(h:RcI W0 w wr rb m t v v' E E' Bs Bs' n av fv ns acc bs ds cs)(hr:Rs W0 rb m w2 v2 E2 Bs2)(hu:Ru rb m wr v' w2 v2)(hE:E' <+: E2)(hB:Bs' <+: Bs2):RcI W0 w w2 rb m t v v2 E E2 Bs Bs2 n av fv ns acc bs ds cs:=by
 obtain ⟨hW,ht1,ht2⟩:=h.tW
 have hv2:∀i,i<wr.heap.size->blk v'≠some i->blk v2≠some i:=λi hi hn e=>by
  exact Z156
 have hold:=Y76
 have hall:=Y87
 refine ⟨h.r0,hr,h.ru.trans hu,h.pe.trans hE,h.pb.trans hB,h.ref.app hE hB,(hold t h.tn h.tl h.tv).trans h.ty,h.tn,hv2 t h.tl h.tv,h.row.carry λi hi=>hold i (h.fo i hi).1 (h.row.blk_lt hi) (h.fo i hi).2.2,λg hg=>⟨(h.fo g hg).1,(h.fo g hg).2.1,hv2 g (h.row.blk_lt hg) (h.fo g hg).2.2⟩,h.fnil,h.are,?_⟩
 exact Z103
theorem RcI.add{w2:World}(h:RcI W0 w wr rb m t v v' E E' Bs Bs' n av fv ns acc bs ds cs)(a:Add wr w2):RcI W0 w w2 rb m t v v' E E' Bs Bs' n av fv ns acc bs ds cs:=h.read (h.rs.add' a) (a.ru rb m v') (NN _) (NN _)
theorem RcI.push{w8:World}{fv8:Value}{o:Obj}{s:Sch}{b T0:Nat}{f:ByteArray}{d:Option J}{aa:Option Addr}{al ac:Nat}{k i:Int}{tt:ByteArray}{a na:Option Addr}{l c nl nc:Nat}{mm:Option Nat}(h:RcI W0 w wr rb m t v v' E E' Bs Bs' n av fv ns acc bs ds cs)(hd:nJ W0 d (jc k i tt a na l c nl nc mm))(hs:s.at (λi=>T0<=i/\blk v'≠some i) W0 wr E' Bs' b)(hT1:t<T0)(hT2:∀g,blk fv=some g->g<T0)(hg:Grew (wr.alloc o) fv w8 fv8)(hrow:Row w8 10 fv8 (ns.length+1) (cs++fcs f aa al ac b k i tt a na l c nl nc mm d.isSome)):RcI W0 w (w8.setCell ⟨t,3,none⟩ fv8) rb m t v v' E E' Bs Bs' n av fv8 (ns++[f]) (acc++[s]) (bs++[b]) (ds++[d]) (cs++fcs f aa al ac b k i tt a na l c nl nc mm d.isSome):=by
 obtain ⟨hW,ht1,ht2⟩:=h.tW
 have hs8:=hg.size
 rw [dE] at hs8
 have hold:∀i,i<wr.heap.size->blk fv≠some i->w8.heap[i]?=wr.heap[i]?:=λi h1 h2=>by
  exact Z170
 have hbt:blk fv≠some t:=λe=>(h.fo t e).2.1 rfl
 have hb8:∀i,i<wr.heap.size->blk fv≠some i->blk fv8≠some i:=λi hi hn e=>by
  exact Z136
 have hvb:∀i,blk v'=some i->i<wr.heap.size/\blk fv≠some i:=λi hi=>⟨h.rs.row.blk_lt hi,λe=>(h.fo i e).2.2 hi⟩
 have hfo8:∀g,blk fv8=some g->w.heap.size<=g/\g≠t/\blk v'≠some g:=λg e=>by
  rcases hg.at' with e'|⟨g',hg',e'⟩
  ·exact h.fo g (e' ▸ e)
  exact Z113
 have hset:∀i,i≠t->(w8.setCell ⟨t,3,none⟩ fv8).heap[i]?=w8.heap[i]?:=λi hi=>NZ w8 ⟨t,3,none⟩ fv8 i hi
 have hR:Rs W0 rb m w8 v' E' Bs':=by
  have hnb:∀i,i<w.heap.size->blk fv≠some i:=λi hi e=>by have:=(h.fo i e).1;omega
  have hrb:=hold rb h.rs.lt (hnb rb h.r0.lt)
  have hm:=hold m h.rs.pl.lt (hnb m h.r0.pl.lt)
  refine ⟨⟨hg.os.trans h.rs.add.os,hg.output.trans h.rs.add.output,by have:=h.rs.add.size;omega,λi hi=>?_⟩,h.rs.rbW,h.rs.mW,h.rs.vW,h.rs.rm,(NY (a:=⟨rb,0,none⟩) hrb).trans h.rs.c0,(NY (a:=⟨rb,1,none⟩) hrb).trans h.rs.c1,(Oa (a:=⟨rb,0,none⟩) hrb).trans h.rs.f0,h.rs.row.carry λi hi=>hold i (hvb i hi).1 (hvb i hi).2,h.rs.pl.carry hm,h.rs.len,h.rs.small,?_⟩
  ·exact Z138
  intro i n' k' b' e1 e2
  obtain ⟨q1,q2,q3,q4,q5,q6,q7⟩:=h.rs.types i n' k' b' e1 e2
  have hne:blk fv≠some b':=λe=>by
   cases hns:ns with
   |nil=>rw [h.fnil hns] at e;cases e
   |cons x r=>
    rcases h.row with ⟨hv,_,_⟩|⟨g,cc,hbv,hgg⟩
    ·rw [hv] at e;cases e
    rw [hbv] at e
    cases e
    obtain ⟨g1,g2,g3,g4⟩:=je ns bs ds cs h.are
    obtain ⟨_,_,_,_,_,_,_,_,_,_,_,_,_,hc,_⟩:=g4 0 (by rw [hns];simp) (by rw [g2,hns];simp) (by rw [g3,hns];simp)
    have h0:=hgg.holds 0 (by rw [hns];simp)
    have hc0:=hc 0 Kc
    rw [Nat.zero_mul,NV] at hc0
    rw [hc0] at h0
    rw [h0] at q6
    cases q6
  exact Z100
 have hty8:=(hold t h.tl hbt).trans h.ty
 have hall:=Y87
 have hs':=cO (ok':=λi=>(w.heap.size<=i/\i≠t/\blk fv≠some i/\blk v'≠some i)/\i<wr.heap.size) (Keep.refl _ _) (λi h1 h2=>⟨⟨by have:=h.tn;omega,by omega,λe=>by have:=hT2 i e;omega,h1.2⟩,h2⟩) (NN _) (NN _) _ _ hs
 have hall2:=ct hs' _ _ hall
 have hru8:Ru rb m w v w8 v':=⟨hg.os.trans h.ru.os,hg.output.trans h.ru.output,by have:=h.ru.size;omega,λi hi h1 h2 h3=>by
  rw [hold i (by have:=h.ru.size;omega) (λe=>by have:=(h.fo i e).1;omega),h.ru.old i hi h1 h2 h3],h.ru.at'⟩
 refine ⟨h.r0,hR.store t 3 fv8 ht1 ht2 h.tv hW Kc,hru8.store t 3 fv8 h.tn,h.pe,h.pb,h.ref,dG hty8 3 fv8,h.tn,h.tv,?_,hfo8,λe=>by simp at e,qI hd _ _ _ _ h.are,?_⟩
 ·rw [List.length_append]
  exact hrow.carry λi hi=>hset i (hfo8 i hi).2.1
 exact Z81
theorem pairX{w5 X w3:World}{rb m:Nat}{v' v2:Value}(hu:Ru rb m X v' w5 v2)(hx:Add w3 X):Add w3 X/\Ru rb m X v' w5 v2:=⟨hx,hu⟩
theorem CA{w5 X:World}{v2:Value}(h:RcI W0 w wr rb m t v v' E E' Bs Bs' n av fv ns acc bs ds cs)(hx:Add wr X/\Ru rb m X v' w5 v2)(B:Nat)(h1:w.heap.size<=B)(h2:B<wr.heap.size)(h3:blk v'≠some B):w5.heap[B]?=wr.heap[B]?:=
 (hx.2.old B (NK h2 hx.1.size) (by have:=h.r0.lt;omega) (by have:=h.r0.pl.lt;omega) h3).trans (hx.1.old B h2)
theorem rec_t10{w5 X:World}{v2:Value}{o:Obj}(h:RcI W0 w wr rb m t v v' E E' Bs Bs' n av fv ns acc bs ds cs)(hx:Add wr X/\Ru rb m X v' w5 v2)(hz:X.heap[wr.heap.size]?=some o):w5.heap[wr.heap.size]?=some o/\wr.heap.size<X.heap.size:=by
 have hl:=(Oh hz).1
 have h1:=h.r0.lt
 have h2:=h.r0.pl.lt
 have h3:=h.ru.size
 exact ⟨(hx.2.old wr.heap.size hl Kc Kc (λe=>by have:=h.rs.row.blk_lt e;omega)).trans hz,hl⟩
theorem Hy{w5:World}{v2:Value}{o:Obj}(h:RcI W0 w wr rb m t v v' E E' Bs Bs' n av fv ns acc bs ds cs)(hx:Add wr (wr.alloc o).drew/\Ru rb m (wr.alloc o).drew v' w5 v2):w5.heap[wr.heap.size]?=some o/\wr.heap.size<(wr.alloc o).drew.heap.size:=rec_t10 h hx (dD wr o)
theorem Gq{w5 X:World}{v2:Value}{E2:Env}{Bs2:List Nat}{s:Sch}{br:Nat}(h:RcI W0 w wr rb m t v v' E E' Bs Bs' n av fv ns acc bs ds cs)(hx:Add wr X)(hr:Rs W0 rb m w5 v2 E2 Bs2)(hu:Ru rb m X v' w5 v2)(hE:E' <+: E2)(hB:Bs' <+: Bs2)(hat:s.at (λi=>X.heap.size<=i/\blk v2≠some i) W0 w5 E2 Bs2 br)(o:Obj):RcI W0 w (w5.alloc o) rb m t v v2 E E2 Bs Bs2 n av fv ns acc bs ds cs/\s.at (λi=>wr.heap.size<=i/\blk v2≠some i) W0 (w5.alloc o) E2 Bs2 br:=
 ⟨((h.add hx).read hr hu hE hB).add (ae _ _),cO ⟨(ae w5 o).size,λi _ hi=>(ae w5 o).old i hi⟩ (λ_ h1 _=>⟨NM hx.size h1.1,h1.2⟩) (NN _) (NN _) _ _ hat⟩
theorem Fq{w5 w6 X:World}{v2:Value}{E2:Env}{Bs2:List Nat}{s:Sch}{br:Nat}{o1 o2 o3 o4 o5 o6 o7 o8 o9:Value}{x:ByteArray}(h:RcI W0 w wr rb m t v v' E E' Bs Bs' n av fv ns acc bs ds cs)(hx:Add wr X)(hX:wr.heap.size<X.heap.size)(hr:Rs W0 rb m w5 v2 E2 Bs2)(hu:Ru rb m X v' w5 v2)(hE:E' <+: E2)(hB:Bs' <+: Bs2)(hat:s.at (λi=>X.heap.size<=i/\blk v2≠some i) W0 w5 E2 Bs2 br)(h5:w5.heap[wr.heap.size]?=some (fdB (.string x) o1 o2 o3 o4 o5 o6 o7 o8 o9))(u:Upd wr.heap.size w5 w6):RcI W0 w w6 rb m t v v2 E E2 Bs Bs2 n av fv ns acc bs ds cs/\s.at (λi=>wr.heap.size<=i/\blk v2≠some i) W0 w6 E2 Bs2 br:=by
 have hru:=h.ru.size
 have h1:=h.r0.lt
 have h2:=h.r0.pl.lt
 have h3:=h.r0.add.size
 have hv2:blk v2≠some wr.heap.size:=λe=>by
  rcases hu.at' with e'|⟨g,hg,e'⟩
  ·rw [e'] at e;have:=h.rs.row.blk_lt e;omega
  rw [e'] at e;cases e;omega
 have hr6:=hr.upd u Kc Kc Kc hv2 (dN h5).1
 have hu6:Ru rb m wr v' w6 v2:=by
  refine ⟨u.os.trans (hu.os.trans hx.os),u.output.trans (hu.output.trans hx.output),NM hx.size (NM hu.size u.size),λi hi a b c=>?_,?_⟩
  ·rw [u.old i (by have:=hx.size;have:=hu.size;omega) Kc,hu.old i (by have:=hx.size;omega) a b c,hx.old i hi]
  rcases hu.at' with e'|⟨g,hg,e'⟩
  ·exact .inl e'
  exact .inr ⟨g,NM hx.size hg,e'⟩
 exact ⟨h.read hr6 hu6 hE hB,cO (u.keepOk λi hi=>by omega) (λ_ hi _=>⟨by omega,hi.2⟩) (NN _) (NN _) _ _ hat⟩
mutual
theorem bW{a b:Nat}(h:a<=b):∀j:J,j.within a->j.within b
 |.null,_=>by rw [J.within];trivial
 |.bool _,_=>by rw [J.within];trivial
 |.num _,_=>by rw [J.within];trivial
 |.str _,_=>by rw [J.within];trivial
 |.arr l,hj=>by
  exact Z93
 |.obj ns l,hj=>by
  exact Z93
theorem bY{a b:Nat}(h:a<=b):∀l:List J,bX a l->bX b l
 |[],_=>by rw [bX];trivial
 |x::r,hl=>by
  rw [bX] at hl ⊢
  exact ⟨bW h x hl.1,bY h r hl.2⟩
end
theorem RcI.done(h:RcI W0 w wr rb m t v v' E E' Bs Bs' n av fv ns acc bs ds cs):(Sch.mk 9 n ns 0 acc ds).at (λi=>w.heap.size<=i/\blk v'≠some i) W0 wr E' Bs' t:=
 Gf h.ty ⟨h.tn,h.tv⟩ (λg hg=>⟨(h.fo g hg).1,(h.fo g hg).2.2⟩) h.row h.are (cu (Keep.refl _ _) (λ_ h1 _=>⟨h1.1,h1.2.2.2⟩) (NN _) (NN _) _ _ h.all) h.ref
end
section
def Z41(h:p:=by
 have hu10:=uL (W:=w5) (B:=w3.heap.size) (.string f) (.slice aa al ac) (.pointer (some ⟨br,0,none⟩)) (.int .i64 k') (.int .i64 i') (.string t') (.slice a' l' c') (.slice na' nl' nc') (.map mm) (.bool d.isSome)
 have hB:=Fq HI3.out HX.out.1 HT10.out.2 HR5.out HX.out.2 HEB.out.1 HEB.out.2 HAT5.out HT10.out.1 hu10
 exact ⟨w3.heap.size,aa,al,ac,br,k',i',t',a',na',l',c',nl',nc',mm,v2,Bs2,rfl,hB.1,hB.2,HDEF.out,mP HT10.out.1 _ _ _ _ _ _ _ _ _ _,NL _,HFZ.out⟩):p:=h
def Z207(h:p:=by
 rw [Addr.add_lit,NV,hc j hj]
 exact hu):p:=h
theorem Tryz.infoF:(prog.info? 150).map (λi=>(i.zero.map (λz=>z.cells.size),i.size))=some (some 10,10):=Kf
theorem Tryz.infoFb:(prog.info? 150).map (λi=>decide (i.bytes<=1000))=some true:=Kf
theorem Tryz.infoF10:∃i z,prog.info? 150=some i/\i.zero=some z/\i.size=10/\z.cells.size=10/\i.bytes<=1000:=by
 obtain ⟨i,h1,h2⟩:=Option.map_eq_some_iff.1 Tryz.infoF
 obtain ⟨i',h1',h3⟩:=Option.map_eq_some_iff.1 Tryz.infoFb
 exact Z91
theorem dB{P:Program}(w:World){tx e':TypeId}(hk:P.underlying tx=some (.slice e'))(g:Nat)(n:ByteArray)(aa:Option Addr)(al ac b:Nat)(k i:Int)(t:ByteArray)(a na:Option Addr)(l c nl nc:Nat)(m:Option Nat)(d:Bool)(hc:∀f,f<10->w.cell? ⟨g,f,none⟩=(fcs n aa al ac b k i t a na l c nl nc m d)[f]?):Src P 10 tx (.slice (some ⟨g,0,none⟩) 1 1) 1 (fcs n aa al ac b k i t a na l c nl nc m d) w:=by
 refine Src.ofSlice _ hk _ 1 1 _ rfl (λj u hu=>?_) (λu hu=>?_)
 ·have hj:j<10:=(Oi hu).1
  exact Z207
 unfold fcs at hu
 simp only [List.mem_cons,List.not_mem_nil,or_false] at hu
 rcases hu with rfl|rfl|rfl|rfl|rfl|rfl|rfl|rfl|rfl|rfl <;> rfl
theorem Gv(w:World)(v0 v1 v2 v3 v4 v5 v6 v7 v8 v9:Value)(T:TypeId):∀f,f<10->(w.alloc (.cells #[v0,v1,v2,v3,v4,v5,v6,v7,v8,v9] T)).drew.cell? ⟨w.heap.size,f,none⟩=[v0,v1,v2,v3,v4,v5,v6,v7,v8,v9][f]?:=λf _=>by
 show (w.alloc (.cells #[v0,v1,v2,v3,v4,v5,v6,v7,v8,v9] T)).cell? ⟨w.heap.size,f,none⟩=_
 rw [Og]
 simp
theorem sp_step{a b c k:Nat}(h1:a<=b)(h2:b<=max c 65536+65537)(h3:max c 65536+65537*(k+2)<=10000000000):max a 65536+65537*(k+1)<=10000000000/\b<=70368744177000:=Kc
theorem CY{rd:J->ByteArray->Env->Option (Sch × Env)}{j:J}{sp:ByteArray}{E:Env}{n:ByteArray}{l:List J}(hn:gp j sp E=some n)(hl:j.listIn kg 0=some l):il rd j sp E=(eG (λj E=>rd j (gi n) E) [] [] [] l (E++[(n,9)])).map λp=>(.mk 9 n p.1 0 p.2.1 p.2.2.1,p.2.2.2):=by
 unfold il
 rw [hn]
 simp only [hl]
 cases eG (λj E=>rd j (gi n) E) [] [] [] l (E++[(n,9)]) <;> rfl
theorem Gx{ok:Nat->Prop}{j:J}{cs:List Value}{W0 w:World}{rb m:Nat}{v:Value}{E:Env}{Bs:List Nat}{k:Nat}(hS:qR W0 k)(sp:ByteArray)(hT:STbl W0)(hl:j.lies ok W0 cs)(hw:j.within (k+1))(hR:Rs W0 rb m w v E Bs)(hsp:max sp.size 65536+65537*(k+2)<=10000000000):
  Calls prog 124 #[.pointer (some ⟨rb,0,none⟩),.agg cs.toArray,.string sp] w λe w'=>oP (il (rdS (k+1)) j sp E) W0 rb m w v E Bs e w':=by
 replace hl:j.lies (λb=>b<W0.heap.size) W0 cs:=bP (λ_ _ h=>h) _ _ hl
 have hnm:=λW (h:Add w W)=>xJ (ok:=λb=>b<W0.heap.size) 9 sp hT hl (hR.add' h) Kc
 have hli:=λW (h:Add W0 W)=>rC (ok:=λb=>b<W0.heap.size) kg 0 0 rfl W (hT.add h).tbl Ke Kc (bL hl h)
 have HR:=Y73
 have HS:Hid (qR W0 k):=hS
 have HTS:Hid (STbl W0):=hT
 have HW:Hid (j.within (k+1)):=hw
 have HSP:Hid (max sp.size 65536+65537*(k+2)<=10000000000):=hsp
 obtain ⟨n0,t0,a0,na0,l0,c0,nl0,nc0,m0,rfl⟩:=Y39
 unfold jc at hnm hli ⊢
 unfold mJ at hnm
 clear hT hl hR hsp hS hw
 cases hn:gp j sp E with
 |none=>
  have HE:Hid (il (rdS (k+1)) j sp E=none):=by show _=_;unfold il;rw [hn]
  rw [hn] at hnm
  clear hli
  go_enter func124,ntmps124
  exact Z69
 |some n=>
  rw [hn] at hnm
  cases hlv:j.listIn kg 0 with
  |none=>
   have HE:Hid (il (rdS (k+1)) j sp E=none):=by show _=_;unfold il;rw [hn];simp only [hlv]
   rw [hlv] at hli
   go_enter func124,ntmps124
   go_wp2_with (first
    |(go_at_call 147;refine (hnm _ (ae w (.cells #[.int .i64 j.kindI,.int .i64 n0,.string t0,.slice a0 l0 c0,.slice na0 nl0 nc0,.map m0] 85 (0,0)))).mono ?_;rintro e w1 ⟨t,v1,av,he,hR1,hu1,ht1,hty,hnz⟩;have he':e=.returned (.pointer (some ⟨t,0,none⟩)):=he;subst he';obtain ⟨q0,q1,q2,q3,q4,q5,ql⟩:=nZ hu1 HR.out;have HR1:Hid (Rs W0 rb m w1 v1 (E++[(n,9)]) (Bs++[t])):=hR1;clear hR1 hty hnz hu1 ht1)
    |(go_at_call 148;refine (hli _ HR1.out.add).mono ?_;rintro e w2 ⟨⟨T,v,rfl⟩,ha2⟩))
   exact Z185
  |some l=>
   rw [hlv] at hli
   obtain ⟨hjl,_,hl12⟩:=jy hlv
   have HWL:Hid (∀x∈l,J.within (k-1) x/\1<=k):=by
    obtain ⟨k',e,h⟩:=fZ hjl HW.out
    cases e
    cases k with
    |zero=>rw [J.within] at h;exact h.elim
    |succ k=>
     rw [J.within] at h
     exact λx hx=>⟨jF.1 h x hx,by omega⟩
   have HL12:Hid (l.length<=12):=hl12
   have HRE:=bf (CY (rd:=rdS (k+1)) hn hlv)
   generalize hV:eG (λj E=>rdS (k+1) j (gi n) E) [] [] [] l (E++[(n,9)])=V at HRE
   have HV:=bf hV
   obtain ⟨N,hN⟩:=Y55
   have HN:Hid (l.length=N):=hN
   clear hjl hl12 hn hlv hV
   go_enter func124,ntmps124
   go_wp2_with (first
    |(go_at_call 147;refine (hnm _ (ae w (.cells #[.int .i64 j.kindI,.int .i64 n0,.string t0,.slice a0 l0 c0,.slice na0 nl0 nc0,.map m0] 85 (0,0)))).mono ?_;rintro e w1 ⟨t,v1,av,he,hR1,hu1,ht1,hty,hnz⟩;have he':e=.returned (.pointer (some ⟨t,0,none⟩)):=he;subst he';obtain ⟨q0,q1,q2,q3,q4,q5,ql⟩:=nZ hu1 HR.out;have HR1:Hid (Rs W0 rb m w1 v1 (E++[(n,9)]) (Bs++[t])):=hR1;have HTY:Hid (w1.heap[t]?=some (kR 9 n av)):=hty;have HU:Hid (Ru rb m w v w1 v1):=((ae w _).ru rb m v).trans hu1;have HT':Hid (w.heap.size<=t):=(wX ht1);have HTN:Hid (w.heap.size≠t):=(BD ht1);have HNZ1:Hid (n.size<=max sp.size 65536+65537):=hnz;clear hR1 hty hnz hu1 ht1)
    |(go_at_call 148;refine (hli _ HR1.out.add).mono ?_;rintro e w2 ⟨⟨a2,c2,rfl,hll,hl12'⟩,ha2⟩;have HA2:Hid (Add w1 w2):=ha2;have HLL:=bf (bI (W0:=W0) (λi h=>h.1) (λi hi=>(HR1.out.add.trans ha2).old i hi) _ _ _ hll);clear hl12' ha2 hll;rw [hN]))
   have HI0:Hid (RcI W0 w w2 rb m t v v1 E (E++[(n,9)]) Bs (Bs++[t]) n av (.slice none 0 0) [] [] [] [] []):=by
    have hR2:=HR1.out.add' HA2.out
    obtain ⟨hra,hrl,hrW,hr1,hr2,hr3⟩:=hR2.last
    exact ⟨HR.out,hR2,HU.out.add HA2.out,List.prefix_append _ _,List.prefix_append _ _,hra,(HA2.out.old t (Oh HTY.out).1).trans HTY.out,HT'.out,hr3,Row.nil _ _,λ_ h=>Lm,λ_=>rfl,by rw [dZ],by rw [bZ];trivial⟩
   have HSP2:=bf (sp_step (vQ n) HNZ1.out HSP.out)
   clear hnm hli q0 q1 q2 q3 q4 q5 ql
   go_loopw [18] (λcnt wr=>∃(jj:Nat) (v':Value) (E':Env) (Bs':List Nat) (fv:Value) (ns:List ByteArray) (acc:List Sch) (bs:List Nat) (ds:List (Option J)) (cs:List Value),jj<=N/\cnt=.int .i64 jj/\ns.length=jj/\RcI W0 w wr rb m t v v' E E' Bs Bs' n av fv ns acc bs ds cs/\eG (λj E=>rdS (k+1) j (gi n) E) ns acc ds (l.drop jj) E'=V) (λcnt _=>N-(intOf cnt).toNat)
   case atStart=>exact ⟨0,v1,_,_,.slice none 0 0,[],[],[],[],[],NQ _,rfl,rfl,HI0.out,HV.out⟩
   obtain ⟨jj,v',E',Bs',fv,ns,acc,bs,ds,cs,hj,rfl,hnl,hI,hu⟩:=hrel
   have HI:=bf hI
   have HNL:Hid (ns.length=jj):=hnl
   clear hI hnl
   by_cases hlt:jj<N
   ·have hlt':jj<l.length:=KC
    have ji:((jj:Int)<(N:Int))=True:=eq_true Kc
    have j0:(0:Int)<=(jj:Int):=Kc
    have j1:(jj:Int)<(N:Int):=Kc
    have hj12:jj<=12:=by have:=HL12.out;rw [hN] at this;omega
    rw [List.drop_eq_getElem_cons hlt',Ah] at hu
    obtain ⟨b,o,cs6,rfl,hb1,hb2,h6,hcc,hlies⟩:=J.lieAll_get l 0 HLL.out jj hlt'
    have hwx:=bW (show k-1<=k+1 by omega) _ (HWL.out l[jj] (NS hlt')).1
    generalize hx:l[jj]=x at hu hlies hwx
    clear hx
    have hAr:=HI.out.rs.add
    have hcr:∀f,f<6->wr.cell? ⟨b,o+jj*6+f,none⟩=cs6[f]?:=λf hf=>by
     have:=hcc f hf
     rw [NV] at this
     exact (NY (a:=⟨b,o+jj*6+f,none⟩) (hAr.old b hb2)).trans this
    have hfd0:=λW (h:Add wr W)=>II HS.out (gi n) HTS.out hlies hwx (HI.out.rs.add' h) HSP2.out.1
    obtain ⟨n6,t6,a6,na6,l6,c6,nl6,nc6,m6,rfl⟩:=J.lies_cells hlies
    unfold jc at hcr hfd0
    have g0:wr.cell? ⟨b,o+jj*6,none⟩=some (.int .i64 x.kindI):=hcr 0 Kc
    have g1:wr.cell? ⟨b,o+jj*6+1,none⟩=some (.int .i64 n6):=hcr 1 Kc
    have g2:wr.cell? ⟨b,o+jj*6+2,none⟩=some (.string t6):=hcr 2 Kc
    have g3:wr.cell? ⟨b,o+jj*6+3,none⟩=some (.slice a6 l6 c6):=hcr 3 Kc
    have g4:wr.cell? ⟨b,o+jj*6+4,none⟩=some (.slice na6 nl6 nc6):=hcr 4 Kc
    have g5:wr.cell? ⟨b,o+jj*6+5,none⟩=some (.map m6):=hcr 5 Kc
    clear hcr hcc hlies hb1 hb2 h6 hwx HI0
    go_upto_region 5 with fail
    have hal3:=ae wr (.cells #[.int .i64 x.kindI,.int .i64 n6,.string t6,.slice a6 l6 c6,.slice na6 nl6 nc6,.map m6] 85 (0,0))
    have HI3:=bf (HI.out.add hal3)
    have hfd:=λW (h:Add _ W)=>hfd0 W (hal3.trans h)
    have hspo:=λW=>vV n W HSP2.out.2
    obtain ⟨q0,q1,q2,q3,q4,q5,q6⟩:=dF (dD wr (.cells #[.int .i64 x.kindI,.int .i64 n6,.string t6,.slice a6 l6 c6,.slice na6 nl6 nc6,.map m6] 85 (0,0)))
    have qt:=(gX HI3.out.ty).2.1
    have HSZ:Hid (wr.heap.size<(wr.alloc (.cells #[.int .i64 x.kindI,.int .i64 n6,.string t6,.slice a6 l6 c6,.slice na6 nl6 nc6,.map m6] 85 (0,0))).heap.size):=by show _<_;rw [dE];omega
    clear hfd0 hal3 g0 g1 g2 g3 g4 g5 q6
    generalize hW3:wr.alloc (.cells #[.int .i64 x.kindI,.int .i64 n6,.string t6,.slice a6 l6 c6,.slice na6 nl6 nc6,.map m6] 85 (0,0))=w3 at *
    clear hW3
    have hn3:w3.heap.size≠wr.heap.size:=NR HSZ.out
    have hn4:w3.heap.size≠t:=NR HI3.out.tl
    cases hfv:ku (λj E=>rdS (k+1) j (gi n) E) x E' with
    |none=>
     rw [hfv] at hfd hu
     have HE:Hid (il (rdS (k+1)) j sp E=none):=by show _=_;rw [HRE.out,<-hu];rfl
     clear hu hfv
     go_region_held (λw'=>w'.cell? ⟨wr.heap.size,0,none⟩=some (.int .i64 x.kindI)/\w'.cell? ⟨wr.heap.size,1,none⟩=some (.int .i64 n6)/\w'.cell? ⟨wr.heap.size,2,none⟩=some (.string t6)/\w'.cell? ⟨wr.heap.size,3,none⟩=some (.slice a6 l6 c6)/\w'.cell? ⟨wr.heap.size,4,none⟩=some (.slice na6 nl6 nc6)/\w'.cell? ⟨wr.heap.size,5,none⟩=some (.map m6)/\w'.cell? ⟨t,1,none⟩=some (.string n)) (first|(with_reducible exact ⟨k0,k1,k2,k3,k4,k5,kt⟩)|(with_reducible exact ⟨q0,q1,q2,q3,q4,q5,qt⟩)|go_keep)
      (first
      |(go_at_call 150;refine (hspo _).mono ?_;rintro e wS ⟨rfl,rfl⟩)
      |(go_at_call 149;refine ((hfd _ ?_).mono (λe w' h=>(Or.inl h:(fV e/\Add W0 w')\/(e=.returned (.agg (fcs ⟨#[]⟩ none 0 0 0 0 0 ⟨#[]⟩ none none 0 0 0 0 none false).toArray)/\Hid False)))).mono ?_;(repeat (first|(with_reducible exact af w3)|(with_reducible exact ae w3 _)|(with_reducible refine Add.trans ?_ (ae _ _))|(with_reducible refine Add.trans ?_ (af _))));rintro e w5 (⟨⟨T,v,rfl⟩,ha5⟩|⟨rfl,hno⟩);exact ⟨rfl,eV HE.out ⟨_,_,rfl⟩ ha5⟩;unfold fcs;have k0:w5.cell? ⟨wr.heap.size,0,none⟩=some (.int .i64 x.kindI):=hno.out.elim;have k1:w5.cell? ⟨wr.heap.size,1,none⟩=some (.int .i64 n6):=hno.out.elim;have k2:w5.cell? ⟨wr.heap.size,2,none⟩=some (.string t6):=hno.out.elim;have k3:w5.cell? ⟨wr.heap.size,3,none⟩=some (.slice a6 l6 c6):=hno.out.elim;have k4:w5.cell? ⟨wr.heap.size,4,none⟩=some (.slice na6 nl6 nc6):=hno.out.elim;have k5:w5.cell? ⟨wr.heap.size,5,none⟩=some (.map m6):=hno.out.elim;have kt:w5.cell? ⟨t,1,none⟩=some (.string n):=hno.out.elim;have HT10:w5.heap[w3.heap.size]?=some (fdB (.string ⟨#[]⟩) (.slice none 0 0) (.pointer none) (.int .i64 0) (.int .i64 0) (.string ⟨#[]⟩) (.slice none 0 0) (.slice none 0 0) (.map none) (.bool false)):=hno.out.elim;obtain ⟨f0,f1,f2,f3,f4,f5,f6,f7c,f8,f9,fz⟩:=dN HT10;have fn1:w3.heap.size≠wr.heap.size:=hno.out.elim;have fn2:w3.heap.size≠t:=hno.out.elim;have fn3:w5.heap.size≠wr.heap.size:=hno.out.elim;have fn4:w5.heap.size≠t:=hno.out.elim))
     all_goals exact hno.out.elim
    |some p=>
     obtain ⟨f,s,d,E2⟩:=p
     rw [hfv] at hfd
     simp only [hfv] at hu
     clear hfv
     go_cut [10] (λs10 wx=>∃f10 aa al ac br k' i' t' a' na' l' c' nl' nc' mm v2 Bs2,s10=.pointer (some ⟨f10,0,none⟩)/\RcI W0 w wx rb m t v v2 E E2 Bs Bs2 n av fv ns acc bs ds cs/\s.at (λi=>w3.heap.size<=i/\blk v2≠some i) W0 wx E2 Bs2 br/\nJ W0 d (jc k' i' t' a' na' l' c' nl' nc' mm)/\wx.heap[f10]?=some (fdB (.string f) (.slice aa al ac) (.pointer (some ⟨br,0,none⟩)) (.int .i64 k') (.int .i64 i') (.string t') (.slice a' l' c') (.slice na' nl' nc') (.map mm) (.bool d.isSome))/\w3.heap.size<=f10/\f.size<=65536)
     case first=>
      clear hu
      go_region_held (λw'=>w'.cell? ⟨wr.heap.size,0,none⟩=some (.int .i64 x.kindI)/\w'.cell? ⟨wr.heap.size,1,none⟩=some (.int .i64 n6)/\w'.cell? ⟨wr.heap.size,2,none⟩=some (.string t6)/\w'.cell? ⟨wr.heap.size,3,none⟩=some (.slice a6 l6 c6)/\w'.cell? ⟨wr.heap.size,4,none⟩=some (.slice na6 nl6 nc6)/\w'.cell? ⟨wr.heap.size,5,none⟩=some (.map m6)/\w'.cell? ⟨t,1,none⟩=some (.string n)) (first|(with_reducible exact ⟨k0,k1,k2,k3,k4,k5,kt⟩)|(with_reducible exact ⟨q0,q1,q2,q3,q4,q5,qt⟩)|go_keep)
       (first
       |(go_at_call 150;refine (hspo _).mono ?_;rintro e wS ⟨rfl,rfl⟩)
       |(go_at_call 149;refine (hfd _ ?_).mono ?_;(repeat (first|(with_reducible exact af w3)|(with_reducible exact ae w3 _)|(with_reducible refine Add.trans ?_ (ae _ _))|(with_reducible refine Add.trans ?_ (af _))));rintro e w5 ⟨aa,al,ac,br,k',i',t',a',na',l',c',nl',nc',mm,v2,Bs2,rfl,hdef,hR5,hu5,hE5,hB5,hat5,hfz⟩;unfold fcs;have HX:=bf (pairX (w3:=w3) hu5 (by repeat (first|(with_reducible exact af w3)|(with_reducible exact ae w3 _)|(with_reducible refine Add.trans ?_ (ae _ _))|(with_reducible refine Add.trans ?_ (af _)))));have HDEF:=bf hdef;have HR5:=bf hR5;have HEB:=bf (And.intro hE5 hB5);have HAT5:=bf hat5;have HFZ:=bf hfz;have hkb:=CA HI3.out HX.out wr.heap.size HI.out.ru.size HSZ.out (λe=>by have:=HI.out.rs.row.blk_lt e;omega);have hkt:=CA HI3.out HX.out t HI3.out.tn HI3.out.tl HI3.out.tv;have k0:=(NY (a:=⟨wr.heap.size,0,none⟩) hkb).trans q0;have k1:=(NY (a:=⟨wr.heap.size,1,none⟩) hkb).trans q1;have k2:=(NY (a:=⟨wr.heap.size,2,none⟩) hkb).trans q2;have k3:=(NY (a:=⟨wr.heap.size,3,none⟩) hkb).trans q3;have k4:=(NY (a:=⟨wr.heap.size,4,none⟩) hkb).trans q4;have k5:=(NY (a:=⟨wr.heap.size,5,none⟩) hkb).trans q5;have kt:=(NY (a:=⟨t,1,none⟩) hkt).trans qt;clear hdef hR5 hu5 hE5 hB5 hat5 hfz hkb hkt;(first|(with_reducible (have HT10:=bf (Hy HI3.out HX.out));obtain ⟨f0,f1,f2,f3,f4,f5,f6,f7c,f8,f9,fz⟩:=dN HT10.out.1)|skip);have fn3:w5.heap.size≠wr.heap.size:=NR (NW _ _ k0);have fn4:w5.heap.size≠t:=NR (NW _ _ kt)))
      all_goals (go_wp2;go_meet)
      ·have hA:=Gq HI3.out HX.out.1 HR5.out HX.out.2 HEB.out.1 HEB.out.2 HAT5.out (fdB (.string f) (.slice aa al ac) (.pointer (some ⟨br,0,none⟩)) (.int .i64 k') (.int .i64 i') (.string t') (.slice a' l' c') (.slice na' nl' nc') (.map mm) (.bool d.isSome))
       exact ⟨w5.heap.size,aa,al,ac,br,k',i',t',a',na',l',c',nl',nc',mm,v2,Bs2,rfl,hA.1,hA.2,HDEF.out,dD _ _,NM HX.out.1.size HX.out.2.size,HFZ.out⟩
      ·exact Z41
      exact Z41
     obtain ⟨f10,aa,al,ac,br,k',i',t',a',na',l',c',nl',nc',mm,v2,Bs2,rfl,hI5,hat,hdef,hb10,hf10,hfz⟩:=hcut
     have HI5:=bf hI5
     have HAT:=bf hat
     have HDEF:=bf hdef
     have HF10:Hid (t<f10/\∀g,blk fv=some g->g<w3.heap.size):=⟨NK HI3.out.tl hf10,λg hg=>HI3.out.row.blk_lt hg⟩
     have HT3:Hid (t<w3.heap.size):=HI3.out.tl
     have HFZ:=bf hfz
     obtain ⟨f0,f1,f2,f3,f4,f5,f6,f7c,f8,f9,fz⟩:=dN hb10
     have p3:=(gX hI5.ty).2.2.2.1
     obtain ⟨fa,fc,hfvs⟩:=hI5.row.shape
     have HA5:=bf hI5.rs.add
     subst hfvs
     rw [HNL.out] at p3
     have hcon:=GR ns bs ds cs f f10 fa fc W0 wc (by rw [HNL.out];exact hj12) hI5.are (by have:=hI5.row;exact this) f0
     rw [HNL.out] at hcon
     have HB10:=bf hb10
     clear hI5 hat hdef hf10 hb10 hfd q0 q1 q2 q3 q4 q5 qt hn3 hn4 hspo HI HI3 HSZ
     cases hin:dU f ns with
     |true=>
      rw [hin] at hcon hu
      have HE:Hid (il (rdS (k+1)) j sp E=none):=by show _=_;rw [HRE.out,<-hu,if_pos rfl];rfl
      clear hu hin
      have hc24:(9223372036854775807<24+f.size)=False:=eq_false Kc
      clear hfz
      go_wp2_with (first
       |(go_at_call 151;refine hcon.mono ?_;rintro e w6 ⟨rfl,ha6⟩;replace f0:=ha6.cell f0)
       |(go_at_call 81;refine (dR _ _).mono ?_;rintro e w7 ⟨⟨T,v,rfl⟩,hb7⟩))
      exact ⟨rfl,eV HE.out ⟨_,_,rfl⟩ ((HA5.out.trans ha6).trans hb7)⟩
     |false=>
      rw [hin] at hcon hu
      rw [if_neg Ke] at hu
      have HU:=bf hu
      clear hu hin hfz
      go_upto_region 8 with (go_at_call 151;refine hcon.mono ?_;rintro e w6 ⟨rfl,ha6⟩)
      have HI6:=bf (HI5.out.add ha6)
      have HAT6:Hid (s.at (λi=>w3.heap.size<=i/\blk v2≠some i) W0 w6 E2 Bs2 br):=cO ⟨ha6.size,λi _ hi=>ha6.old i hi⟩ (λi h _=>h) (NN _) (NN _) _ _ HAT.out
      have hb106:=(ha6.old f10 (Oh HB10.out).1).trans HB10.out
      have HL10:Hid (f10<w6.heap.size):=(Oh hb106).1
      clear f0 f1 f2 f3 f4 f5 f6 f7c f8 f9 fz p3 hcon
      obtain ⟨f0,f1,f2,f3,f4,f5,f6,f7c,f8,f9,fz⟩:=dN hb106
      have hn9:=gX HI6.out.ty
      have p3:=hn9.2.2.2.1
      have p3z:=hn9.2.2.2.2.2.2.2.2.2 3
      rw [HNL.out] at p3
      have HT6:Hid (t<w6.heap.size):=HI6.out.tl
      have hTne:t≠w6.heap.size:=Nat.ne_of_lt HT6.out
      have hFne:f10≠w6.heap.size:=Nat.ne_of_lt HL10.out
      have p3a:∀o,(w6.alloc o).cell? ⟨t,3,none⟩=some (.slice fa jj fc):=λo=>(ae _ _).cell p3
      have HRV:Hid (Row w6 10 (.slice fa jj fc) jj cs):=by have:=HI6.out.row;rw [HNL.out] at this;exact this
      have HBT:Hid (blk (.slice fa jj fc)≠some t):=λe=>(HI6.out.fo t (by rw [HNL.out];exact e)).2.1 rfl
      have HJ:Hid (jj<N):=hlt
      obtain ⟨iP,zP,hiP,hzP,hsP,hzz,hbP⟩:=Tryz.infoF10
      have hbyP:=Y75
      clear ha6 hb106 hn9 hlt hlt' hj
      go_region_law (
       (refine dO _ Kl _ _ 100 100 Kl Ke iP zP iP.bytes underlying100 hiP hzP hsP rfl hzz Kl KO _ 1 _ Kl (dB _ underlying100 w6.heap.size f aa al ac br k' i' t' a' na' l' c' nl' nc' mm d.isSome (Gv _ _ _ _ _ _ _ _ _ _ _ _)) Ki (hbyP _ Kc) ?_;intro v8 w8 hrow8 hg8;have hg9:Grew (w6.alloc (.cells #[.string f,.slice aa al ac,.pointer (some ⟨br,0,none⟩),.int .i64 k',.int .i64 i',.string t',.slice a' l' c',.slice na' nl' nc',.map mm,.bool d.isSome] 150)) (.slice fa jj fc) w8 v8:=aZ hg8;have hc82:=hg9.cell (b:=t) (o:=3) MV HBT.out ((ae _ _).cell p3);have hz82:w8.frozen? ⟨t,3,none⟩=false:=(hg9.frozen MV HBT.out).trans (((ae _ _).frozen HT6.out).trans p3z);obtain ⟨a8,c8,rfl⟩:=hrow8.shape))
      all_goals go_wp2
      all_goals (
       have hnl:=HNL.out
       subst hnl
       exact ⟨⟨ns.length+1,v2,E2,Bs2,_,ns++[f],acc++[s],bs++[br],ds++[d],_,HJ.out,rfl,by rw [List.length_append];rfl,HI6.out.push HDEF.out HAT6.out HT3.out HF10.out.2 hg9 hrow8,HU.out⟩,by have:=HJ.out;show N-((ns.length:Int)+1).toNat<N-(ns.length:Int).toNat;omega⟩)
   have ji:((jj:Int)<(N:Int))=False:=eq_false Kc
   rw [List.drop_eq_nil_of_le MS,eG] at hu
   have HE:Hid (il (rdS (k+1)) j sp E=some (.mk 9 n ns 0 acc ds,E')):=by show _=_;rw [HRE.out,<-hu];rfl
   clear hu hlt hj
   exact Z149
end
end Go.Proofs.YtjmlghgnbclmfaaGreatDoor
