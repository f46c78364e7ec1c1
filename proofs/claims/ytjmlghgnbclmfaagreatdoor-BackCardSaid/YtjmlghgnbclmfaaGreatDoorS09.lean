import Derived.Tactics
import Derived.Tactics2
import Derived.Defers
import Derived.Recover
import Derived.Laws.Pointers
import Derived.Laws.ResultCell
import Derived.Lib.Split
import Derived.Lib.LastIndexByte
import Derived.Lib.Bytealg
import Derived.Test.YtjmlghgnbclmfaaGreatDoorS08
set_option linter.defProp false
open Go.Proofs.Tryz
set_option maxRecDepth 8000
set_option maxHeartbeats 4000000
namespace Go.Proofs.YtjmlghgnbclmfaaGreatDoor
variable{p:Prop}
section
open Go Go.RowKit Go.Extern.Stop Go.Stop Go.Extern
def Y37(h:p:=by exact (show ∀(fn:Fn) (first cap:Array Value) (w:World),(Instr.makeFunc fn first cap).run prog w=.ok (.func fn first cap) w from λ_ _ _ _=>rfl)):p:=h
def Y38(h:p:=by exact (show (w1.setCell ⟨w.heap.size,0,none⟩ .nilIface).cell? ⟨w.heap.size,0,none⟩=some .nilIface from Oe _ _ _ hc1)):p:=h
theorem yA(p:Addr)(w:World):
  CallsD prog 69 #[.pointer (some p)] .returning w λe u' w'=>e=.returned (.tuple #[])/\u'=.returning/\w'=w:=by
 refine callsD_of_wpS func69 rfl λc₀ cs hu=>?_
 apply wpS_seq
 apply wpS_region
 simp [wpOpsS,go_sem,recoverD,hu,ntmps69,Exit.thenS]
 refine wpS_of_wp ?_
 go_wp2
 cases c₀
 simp_all [bodyPostS,results,results69]
theorem rQ(p:Addr)(old:Value)(T:TypeId)(v:Value)(older:List PanicEntry)(w:World)(hc:w.cell? p=some old)(hz:w.frozen? p=false)(hp:p.block<w.heap.size):
  CallsD prog 69 #[.pointer (some p)] (.panicking ({ v:=.iface 153 (.agg #[.iface T v]),recovered:=false } :: older)) w λe u' w'=>
   e=.returned (.tuple #[])/\u'=.panicking ({ v:=.iface 153 (.agg #[.iface T v]),recovered:=true } :: older)/\w'=(w.alloc (.cells #[.iface T v] 153)).setCell p (.iface T v):=by
 refine callsD_of_wpS func69 rfl λc₀ cs hu=>?_
 apply wpS_seq
 apply wpS_region
 simp [wpOpsS,go_sem,recoverD,hu,ntmps69,Exit.thenS]
 refine wpS_of_wp ?_
 have hfr:(#[Value.pointer (some p)]++(Array.replicate 11 undef).setIfInBounds 3 (.iface 153 (.agg #[.iface T v])))=#[.pointer (some p),undef,undef,undef,.iface 153 (.agg #[.iface T v]),undef,undef,undef,undef,undef,undef,undef]:=rfl
 rw [hfr]
 have hta:∀w:World,(Instr.typeAssert (.iface 153 (.agg #[.iface T v])) 20 153 true).run prog w=.ok (.tuple #[.agg #[.iface T v],.bool true]) w:=by intro w;kernel_rfl
 have hz':(w.alloc (.cells #[.iface T v] 153)).frozen? p=false:=by rw [World.frozen?_alloc_old _ _ p (Nat.ne_of_lt hp)];exact hz
 have hc':(w.alloc (.cells #[.iface T v] 153)).cell? p=some old:=by rw [World.cell?_alloc_lt _ _ p hp];exact hc
 clear hu hfr
 go_wp2
 simp [bodyPostS,results,results69]
theorem xE(a b:Value)(w:World)(post:World->Prop)
  (hread:Calls prog 46 #[a,b] (w.alloc (.cells #[.nilIface] 57)) λe w'=>e=.returned (.tuple #[])/\post w'/\w.heap.size<w'.heap.size/\w'.cell? ⟨w.heap.size,0,none⟩=some .nilIface/\w'.frozen? ⟨w.heap.size,0,none⟩=false):
  Calls prog 45 #[.func (.func 46) #[] #[a,b]] w λe w'=>e=.returned .nilIface/\∃w1,post w1/\w'=w1.setCell ⟨w.heap.size,0,none⟩ .nilIface:=by
 have hmf:=Y37
 have HR:Hid (Calls prog 46 #[a,b] (w.alloc (.cells #[.nilIface] 57)) λe w'=>e=.returned (.tuple #[])/\post w'/\w.heap.size<w'.heap.size/\w'.cell? ⟨w.heap.size,0,none⟩=some .nilIface/\w'.frozen? ⟨w.heap.size,0,none⟩=false):=hread
 clear hread
 go_enter_defers func45,ntmps45
 go_wp2_with (go_at_call 46;refine HR.out.mono ?_;rintro e w1 ⟨rfl,hp,hs1,hc1,hz1⟩)
 refine leaves_cons (f:=69) (args:=#[.pointer (some ⟨w.heap.size,0,none⟩)]) Kh MP ?_
 refine (yA ⟨w.heap.size,0,none⟩ _).mono ?_
 rintro e u' w'' ⟨rfl,rfl,rfl⟩
 have hcell:=Y38
 simp [Leaves,settle,results,results45,go_sem,hcell]
 exact ⟨w1,hp,rfl⟩
def Z173(h:p:=by
 simpa [Leaves,settle,results,results45,go_sem,hcell] using hd):p:=h
def Gs(O:Option J)(vb:Nat)(w:World)(e:Ending)(w':World):Prop:=
 match O with
 |some j=>e=.returned (.tuple #[])/\∃W n6 t6 a6 na6 l6 c6 nl6 nc6 m6,Add w W/\j.lies (λb=>w.heap.size<=b) W (jc j.kindI n6 t6 a6 na6 l6 c6 nl6 nc6 m6)/\w'=dV W vb (.int .i64 j.kindI) (.int .i64 n6) (.string t6) (.slice a6 l6 c6) (.slice na6 nl6 nc6) (.map m6)
 |none=>fV e/\Add w w'
theorem Add.six{w w':World}(h:Add w w'){b:Nat}(hs:Six w b):Six w' b:=hs.carry (h.old b hs.lt)
theorem Gu(t:ByteArray)(tb vb:Nat)(w:World)(hT:Tbl w)(hz:t.size<=70368744177000)(hc:w.cell? ⟨tb,0,none⟩=some (.string t))(hs:Six w vb):
  Calls prog 46 #[.pointer (some ⟨tb,0,none⟩),.pointer (some ⟨vb,0,none⟩)] w λe w'=>Gs (iN t) vb w e w':=by
 have hw:=FX t w hT hz
 cases hp:iN t with
 |none=>
  rw [hp] at hw
  go_enter func46,ntmps46
  go_wp2_with (go_at_call 47;refine hw.mono ?_;rintro e w1 ⟨⟨T,v,rfl⟩,ha⟩)
  exact ⟨rfl,⟨_,_,rfl⟩,ha⟩
 |some j=>
  rw [hp] at hw
  go_enter func46,ntmps46
  go_wp2_with (go_at_call 47;refine hw.mono ?_;rintro e w1 ⟨⟨cs,rfl,hcs⟩,ha⟩;obtain ⟨n6,t6,a6,na6,l6,c6,nl6,nc6,m6,rfl⟩:=J.lies_cells hcs;have hs1:=ha.six hs;obtain ⟨q0,h0⟩:=hs1.there 0 Kc;obtain ⟨q1,h1⟩:=hs1.there 1 Kc;obtain ⟨q2,h2⟩:=hs1.there 2 Kc;obtain ⟨q3,h3⟩:=hs1.there 3 Kc;obtain ⟨q4,h4⟩:=hs1.there 4 Kc;obtain ⟨q5,h5⟩:=hs1.there 5 Kc;have hth:=hs1.thaw;unfold jc)
  go_end0
  exact ⟨rfl,_,_,_,_,_,_,_,_,_,_,ha,hcs,rfl⟩
theorem sS(a b:Value)(w:World)(post:World->Prop)
  (hread:Calls prog 46 #[a,b] (w.alloc (.cells #[.nilIface] 57)) λe w'=>fV e/\post w'/\w.heap.size<w'.heap.size/\w'.cell? ⟨w.heap.size,0,none⟩=some .nilIface/\w'.frozen? ⟨w.heap.size,0,none⟩=false):
  Calls prog 45 #[.func (.func 46) #[] #[a,b]] w λe w'=>∃T v w1,e=.returned (.iface T v)/\post w1/\w'=(w1.alloc (.cells #[.iface T v] 153)).setCell ⟨w.heap.size,0,none⟩ (.iface T v):=by
 have hmf:=Y37
 have HR:Hid (Calls prog 46 #[a,b] (w.alloc (.cells #[.nilIface] 57)) λe w'=>fV e/\post w'/\w.heap.size<w'.heap.size/\w'.cell? ⟨w.heap.size,0,none⟩=some .nilIface/\w'.frozen? ⟨w.heap.size,0,none⟩=false):=hread
 clear hread
 go_enter_defers func45,ntmps45
 go_wp2_with (go_at_call 46;refine HR.out.mono ?_;rintro e w1 ⟨⟨T,v,rfl⟩,hp,hs1,hc1,hz1⟩)
 unfold gF
 refine leaves_cons (f:=69) (args:=#[.pointer (some ⟨w.heap.size,0,none⟩)]) Kh MP ?_
 refine (rQ ⟨w.heap.size,0,none⟩ .nilIface T v [] w1 hc1 hz1 hs1).mono ?_
 rintro e u' w'' ⟨rfl,rfl,rfl⟩
 have hcell:((w1.alloc (.cells #[.iface T v] 153)).setCell ⟨w.heap.size,0,none⟩ (.iface T v)).cell? ⟨w.heap.size,0,none⟩=some (.iface T v):=
  Oe _ _ _ ((World.cell?_alloc_lt w1 _ ⟨w.heap.size,0,none⟩ hs1).trans hc1)
 have hd:(∃T' v' w1',Ending.returned (Value.iface T v)=.returned (.iface T' v')/\post w1'/\(w1.alloc (.cells #[.iface T v] 153)).setCell ⟨w.heap.size,0,none⟩ (.iface T v)=(w1'.alloc (.cells #[.iface T' v'] 153)).setCell ⟨w.heap.size,0,none⟩ (.iface T' v')):=⟨T,v,w1,rfl,hp,rfl⟩
 exact Z173
theorem DE{W3 w1:World}{o:Obj}{x:Value}(h:Add W3 w1):Add W3 ((w1.alloc o).setCell ⟨W3.heap.size,0,none⟩ x):=
 ⟨h.os,h.output,by have h1:=h.size;have h2:=dE w1 o;simp;omega,λi hi=>by
  rw [NZ _ ⟨W3.heap.size,0,none⟩ x i (by show i≠W3.heap.size;omega),Oc _ _ i (NK hi h.size)]
  exact h.old i hi⟩
theorem yR{W3 w1 w5:World}{o p:Obj}{x:Value}(h:Add (W3.alloc p) w1)(e:w5=(w1.alloc o).setCell ⟨W3.heap.size,0,none⟩ x):Add W3 w5:=by
 rw [e]
 exact DE ((ae _ _).trans h)
def RdPost(O:Option J)(w:World)(e:Ending)(w':World):Prop:=
 match O with
 |some j=>(∃cs:List Value,e=.returned (.tuple #[.agg cs.toArray,.nilIface])/\j.lies (λb=>w.heap.size<=b) w' cs)/\Add w w'
 |none=>(∃T v,e=.returned (.tuple #[.agg #[.int .i64 0,.int .i64 0,.string ⟨#[]⟩,.slice none 0 0,.slice none 0 0,.map none],.iface T v]))/\Add w w'
theorem Dr(t:ByteArray)(w:World)(hT:Tbl w):let W3:=((w.alloc (.cells #[.string t] 9)).alloc (.cells #[.int .i64 0,.int .i64 0,.string ⟨#[]⟩,.slice none 0 0,.slice none 0 0,.map none] 85 (0,0))).alloc (.cells #[.int .i64 0,.int .i64 0,.string ⟨#[]⟩,.slice none 0 0,.slice none 0 0,.map none] 85 (0,0));let W4:=W3.alloc (.cells #[.nilIface] 57)
  W3.heap.size=w.heap.size+3/\(Six W3 (w.heap.size+1)/\Six W3 (w.heap.size+2))/\Add w W3/\Tbl W4/\W4.heap.size=w.heap.size+4/\W4.cell? ⟨w.heap.size,0,none⟩=some (.string t)/\Six W4 (w.heap.size+1)/\Six W4 (w.heap.size+2)/\W4.cell? ⟨w.heap.size+3,0,none⟩=some .nilIface/\W4.frozen? ⟨w.heap.size+3,0,none⟩=false:=by
 intro W3 W4
 obtain ⟨hA,h0,h1,h2⟩:=CJ w (.cells #[.string t] 9) (.cells #[.int .i64 0,.int .i64 0,.string ⟨#[]⟩,.slice none 0 0,.slice none 0 0,.map none] 85 (0,0)) (.cells #[.int .i64 0,.int .i64 0,.string ⟨#[]⟩,.slice none 0 0,.slice none 0 0,.map none] 85 (0,0))
 have s3:W3.heap.size=w.heap.size+3:=by
  show (World.alloc _ _).heap.size=_
  rw [dE,dE,dE]
 have s4:W4.heap.size=w.heap.size+4:=by
  show (World.alloc _ _).heap.size=_
  rw [dE,s3]
 have hA4:Add W3 W4:=ae _ _
 have k0:W4.heap[w.heap.size]?=_:=(hA4.old _ Kc).trans h0
 have k1:W4.heap[w.heap.size+1]?=_:=(hA4.old _ Kc).trans h1
 have k2:W4.heap[w.heap.size+2]?=_:=(hA4.old _ Kc).trans h2
 have k3:W4.heap[w.heap.size+3]?=some (.cells #[.nilIface] 57 (0,0)):=by
  rw [<-s3]
  exact dD _ _
 exact ⟨s3,⟨Six.of_heap h1,Six.of_heap h2⟩,hA,hT.add (hA.trans hA4),s4,by unfold World.cell?;rw [k0];rfl,Six.of_heap k1,Six.of_heap k2,by unfold World.cell?;rw [k3];rfl,by unfold World.frozen?;rw [k3];rfl⟩
theorem CV(w:World)(a:Addr)(v:Value):(w.setCell a v).os=w.os:=rfl
theorem yF(w:World)(a:Addr)(v:Value):(w.setCell a v).output=w.output:=rfl
theorem JW{w W3 W w5:World}{o:Obj}{j:J}{v0 v1 v2 v3 v4 v5 x:Value}{cs:List Value}(s3:W3.heap.size=w.heap.size+3)(s4:(W3.alloc o).heap.size=w.heap.size+4)(hA:Add (W3.alloc o) W)(x1:Six (W3.alloc o) (w.heap.size+1))(x2:Six (W3.alloc o) (w.heap.size+2))(hl:j.lies (λb=>(W3.alloc o).heap.size<=b) W cs)(hw5:w5=(dV W (w.heap.size+1+1) v0 v1 v2 v3 v4 v5).setCell ⟨W3.heap.size,0,none⟩ x):
  (w5.os=W3.os/\w5.output=W3.output/\W3.heap.size<=w5.heap.size/\∀i,i<W3.heap.size->i≠w.heap.size+1+1->w5.heap[i]?=W3.heap[i]?)/\Six w5 (w.heap.size+1)/\(w5.cell? ⟨w.heap.size+1+1,0,none⟩=some v0/\w5.cell? ⟨w.heap.size+1+1,1,none⟩=some v1/\w5.cell? ⟨w.heap.size+1+1,2,none⟩=some v2/\w5.cell? ⟨w.heap.size+1+1,3,none⟩=some v3/\w5.cell? ⟨w.heap.size+1+1,4,none⟩=some v4/\w5.cell? ⟨w.heap.size+1+1,5,none⟩=some v5/\True)/\j.lies (λb=>w.heap.size+3<b) w5 cs:=by
 have hk:∀i,i≠w.heap.size+1+1->i≠w.heap.size+3->w5.heap[i]?=W.heap[i]?:=λi h1 h2=>by
  rw [hw5,NZ _ ⟨W3.heap.size,0,none⟩ x i (by show i≠W3.heap.size;omega),dI _ _ _ _ _ _ _ _ i h1]
 have hsz:w5.heap.size=W.heap.size:=(congrArg (λw:World=>w.heap.size) hw5).trans ((by simp:((dV W (w.heap.size+1+1) v0 v1 v2 v3 v4 v5).setCell ⟨W3.heap.size,0,none⟩ x).heap.size=(dV W (w.heap.size+1+1) v0 v1 v2 v3 v4 v5).heap.size).trans (dP W _ v0 v1 v2 v3 v4 v5))
 have hA1:=hA.size
 have hvb:w5.heap[w.heap.size+1+1]?=(dV W (w.heap.size+1+1) v0 v1 v2 v3 v4 v5).heap[w.heap.size+1+1]?:=by
  rw [hw5]
  exact NZ _ ⟨W3.heap.size,0,none⟩ x _ (by show _≠W3.heap.size;omega)
 obtain ⟨c0,c1,c2,c3,c4,c5⟩:=fK (hA.six x2) v0 v1 v2 v3 v4 v5
 refine ⟨⟨?_,?_,by omega,λi hi hn=>?_⟩,(hA.six x1).carry (hk _ Kc Kc),⟨(NY (a:=⟨_,0,none⟩) hvb).trans c0,(NY (a:=⟨_,1,none⟩) hvb).trans c1,(NY (a:=⟨_,2,none⟩) hvb).trans c2,(NY (a:=⟨_,3,none⟩) hvb).trans c3,(NY (a:=⟨_,4,none⟩) hvb).trans c4,(NY (a:=⟨_,5,none⟩) hvb).trans c5,trivial⟩,?_⟩
 ·exact (congrArg World.os hw5).trans ((CV _ _ _).trans ((iF W _ v0 v1 v2 v3 v4 v5).trans hA.os))
 ·exact (congrArg World.output hw5).trans ((yF _ _ _).trans ((eX W _ v0 v1 v2 v3 v4 v5).trans hA.output))
 ·rw [hk i hn Kc,hA.old i Kc]
  exact Oc _ _ i hi
 refine J.lies_carry ⟨by omega,λi hi _=>hk i Kc Kc⟩ _ _ (bP (λb hb _=>by omega) _ _ hl)
theorem Jo(t:ByteArray)(w:World)(hT:Tbl w)(hz:t.size<=70368744177000):
  Calls prog 30 #[.string t] w λe w'=>RdPost (iN t) w e w':=by
 have hmf:=Y37
 obtain ⟨s3,xs3,hA3,hT4,s4,c0,x1,x2,ce,fe⟩:=Dr t w hT
 have hr1:=Gu t w.heap.size (w.heap.size+1+1) _ hT4 hz c0 x2
 generalize hW3:((w.alloc (.cells #[.string t] 9)).alloc (.cells #[.int .i64 0,.int .i64 0,.string ⟨#[]⟩,.slice none 0 0,.slice none 0 0,.map none] 85 (0,0))).alloc (.cells #[.int .i64 0,.int .i64 0,.string ⟨#[]⟩,.slice none 0 0,.slice none 0 0,.map none] 85 (0,0))=W3 at *
 have sB:w.heap.size+1+1≠w.heap.size+3:=Kc
 cases hp:iN t with
 |none=>
  rw [hp] at hr1
  have hca:=sS (.pointer (some ⟨w.heap.size,0,none⟩)) (.pointer (some ⟨w.heap.size+1+1,0,none⟩)) W3 (λw'=>Add (W3.alloc (.cells #[.nilIface] 57)) w') (hr1.mono λe w' h=>⟨h.1,h.2,by have:=h.2.size;omega,by rw [s3];exact h.2.cell ce,by rw [s3];exact (h.2.frozen Kc).trans fe⟩)
  clear hr1
  go_enter func30,ntmps30
  go_wp2_with (go_at_call 45;refine hca.mono ?_;rintro e w5 ⟨T,v,w1,rfl,hp1,hw5⟩;have hA5:Add W3 w5:=yR hp1 hw5;have x5:Six w5 (w.heap.size+1):=hA5.six (xs3.1);obtain ⟨q0,h0⟩:=x5.there 0 Kc;obtain ⟨q1,h1⟩:=x5.there 1 Kc;obtain ⟨q2,h2⟩:=x5.there 2 Kc;obtain ⟨q3,h3⟩:=x5.there 3 Kc;obtain ⟨q4,h4⟩:=x5.there 4 Kc;obtain ⟨q5,h5⟩:=x5.there 5 Kc;have hth:=x5.thaw;clear hw5)
  obtain ⟨r0,r1,r2,r3,r4,r5⟩:=fK x5 (.int .i64 0) (.int .i64 0) (.string ⟨#[]⟩) (.slice none 0 0) (.slice none 0 0) (.map none)
  have hAF:Add w (dV w5 (w.heap.size+1) (.int .i64 0) (.int .i64 0) (.string ⟨#[]⟩) (.slice none 0 0) (.slice none 0 0) (.map none)):=⟨(iF w5 _ (.int .i64 0) (.int .i64 0) (.string ⟨#[]⟩) (.slice none 0 0) (.slice none 0 0) (.map none)).trans (hA3.trans hA5).os,(eX w5 _ (.int .i64 0) (.int .i64 0) (.string ⟨#[]⟩) (.slice none 0 0) (.slice none 0 0) (.map none)).trans (hA3.trans hA5).output,by rw [dP];exact (hA3.trans hA5).size,λi hi=>(dI w5 _ (.int .i64 0) (.int .i64 0) (.string ⟨#[]⟩) (.slice none 0 0) (.slice none 0 0) (.map none) i Kc).trans ((hA3.trans hA5).old i hi)⟩
  clear h0 h1 h2 h3 h4 h5 hth x5 hW3
  unfold dV at r0 r1 r2 r3 r4 r5 hAF
  refine bodyPost_ret (v:=.tuple #[.agg #[.int .i64 0,.int .i64 0,.string ⟨#[]⟩,.slice none 0 0,.slice none 0 0,.map none],.iface T v]) Me rfl ?_
  exact ⟨⟨T,v,rfl⟩,hAF⟩
 |some j=>
  rw [hp] at hr1
  have hca:=xE (.pointer (some ⟨w.heap.size,0,none⟩)) (.pointer (some ⟨w.heap.size+1+1,0,none⟩)) W3 (λw'=>∃W n6 t6 a6 na6 l6 c6 nl6 nc6 m6,Add (W3.alloc (.cells #[.nilIface] 57)) W/\j.lies (λb=>(W3.alloc (.cells #[.nilIface] 57)).heap.size<=b) W (jc j.kindI n6 t6 a6 na6 l6 c6 nl6 nc6 m6)/\w'=dV W (w.heap.size+1+1) (.int .i64 j.kindI) (.int .i64 n6) (.string t6) (.slice a6 l6 c6) (.slice na6 nl6 nc6) (.map m6)) (hr1.mono λe w' h=>by
   obtain ⟨h1,W,n6,t6,a6,na6,l6,c6,nl6,nc6,m6,hA,hl,rfl⟩:=h
   have hk:=dI W (w.heap.size+1+1) (.int .i64 j.kindI) (.int .i64 n6) (.string t6) (.slice a6 l6 c6) (.slice na6 nl6 nc6) (.map m6) (w.heap.size+3) Kc
   refine ⟨h1,⟨W,n6,t6,a6,na6,l6,c6,nl6,nc6,m6,hA,hl,rfl⟩,by rw [dP];have:=hA.size;omega,?_,?_⟩
   ·rw [s3]
    exact (NY (a:=⟨w.heap.size+3,0,none⟩) hk).trans (hA.cell ce)
   rw [s3]
   exact (Oa (a:=⟨w.heap.size+3,0,none⟩) hk).trans ((hA.frozen Kc).trans fe))
  clear hr1
  go_enter func30,ntmps30
  go_wp2_with (go_at_call 45;refine hca.mono ?_;rintro e w5 ⟨rfl,w1,⟨W,n6,t6,a6,na6,l6,c6,nl6,nc6,m6,hA,hl,rfl⟩,hw5⟩;obtain ⟨⟨o1,o2,o3,o4⟩,x5,⟨p0,p1,p2,p3,p4,p5,pz⟩,hl5⟩:=JW s3 s4 hA x1 x2 hl hw5;obtain ⟨q0,h0⟩:=x5.there 0 Kc;obtain ⟨q1,h1⟩:=x5.there 1 Kc;obtain ⟨q2,h2⟩:=x5.there 2 Kc;obtain ⟨q3,h3⟩:=x5.there 3 Kc;obtain ⟨q4,h4⟩:=x5.there 4 Kc;obtain ⟨q5,h5⟩:=x5.there 5 Kc;have hth:=x5.thaw;clear hw5)
  obtain ⟨r0,r1,r2,r3,r4,r5⟩:=fK x5 (.int .i64 j.kindI) (.int .i64 n6) (.string t6) (.slice a6 l6 c6) (.slice na6 nl6 nc6) (.map m6)
  have hAF:Add w (dV w5 (w.heap.size+1) (.int .i64 j.kindI) (.int .i64 n6) (.string t6) (.slice a6 l6 c6) (.slice na6 nl6 nc6) (.map m6)):=⟨(iF w5 _ (.int .i64 j.kindI) (.int .i64 n6) (.string t6) (.slice a6 l6 c6) (.slice na6 nl6 nc6) (.map m6)).trans (o1.trans hA3.os),(eX w5 _ (.int .i64 j.kindI) (.int .i64 n6) (.string t6) (.slice a6 l6 c6) (.slice na6 nl6 nc6) (.map m6)).trans (o2.trans hA3.output),by rw [dP];have:=o3;have:=hA3.size;omega,λi hi=>(dI w5 _ (.int .i64 j.kindI) (.int .i64 n6) (.string t6) (.slice a6 l6 c6) (.slice na6 nl6 nc6) (.map m6) i Kc).trans ((o4 i Kc Kc).trans (hA3.old i hi))⟩
  have hLF:=sW (B0:=w.heap.size+1) (W:=w5) (bP (λb hb _=>by omega) _ _ hl5) (.int .i64 j.kindI) (.int .i64 n6) (.string t6) (.slice a6 l6 c6) (.slice na6 nl6 nc6) (.map m6)
  clear h0 h1 h2 h3 h4 h5 hth x5 hW3 p0 p1 p2 p3 p4 p5 pz
  unfold dV at r0 r1 r2 r3 r4 r5 hAF hLF
  refine bodyPost_ret (v:=.tuple #[.agg #[.int .i64 j.kindI,.int .i64 n6,.string t6,.slice a6 l6 c6,.slice na6 nl6 nc6,.map m6],.nilIface]) Me rfl ?_
  exact ⟨⟨_,rfl,bP (λb hb _=>by omega) _ _ hLF⟩,hAF⟩
end
section
open Go
inductive Sch where
 |ref (k:Nat) (name:ByteArray)
 |mk (k:Nat) (name:ByteArray) (names:List ByteArray) (size:Nat) (kids:List Sch) (defs:List (Option J))
namespace Sch
def kind:Sch->Nat|.ref k _=>k|.mk k _ _ _ _ _=>k
def name:Sch->ByteArray|.ref _ n=>n|.mk _ n _ _ _ _=>n
end Sch
def bs(l:List UInt8):ByteArray:=⟨l.toArray⟩
def kC:List ByteArray:=[bs [110,117,108,108],bs [98,111,111,108,101,97,110],bs [105,110,116],bs [108,111,110,103],bs [102,108,111,97,116],bs [100,111,117,98,108,101],bs [98,121,116,101,115],bs [115,116,114,105,110,103]]
def dX(t:ByteArray):Nat->List ByteArray->Nat
 |_,[]=>0
 |i,w::r=>if w=t then i else dX t (i+1) r
def eP(t:ByteArray):Nat:=dX t 1 kC
def rD(b:UInt8):Bool:=(decide (65<=b.toNat)&&decide (b.toNat<=90))||(decide (97<=b.toNat)&&decide (b.toNat<=122))||b.toNat==95
def uD(b:UInt8):Bool:=decide (48<=b.toNat)&&decide (b.toNat<=57)
def nS:List UInt8->Bool
 |[]=>true
 |b::l=>(rD b||uD b)&&nS l
def Eo:List UInt8->Bool
 |[]=>false
 |b::l=>rD b&&nS l
def dJ(t:ByteArray):Bool:=Eo t.data.toList
def gC:ByteArray:=⟨#[46]⟩
def eY(t:ByteArray):Bool:=(Lib.splitB gC 0 (Lib.countB t gC) t).all dJ
def fB(t:ByteArray):Bool:=decide (0<=Lib.indexByte t.data.toList 46)
def fI(name space:ByteArray):ByteArray:=if space.size=0\/fB name=true then name else space++gC++name
def gi(t:ByteArray):ByteArray:=t.extract 0 (max 0 (Lib.lastIndexByte t 46)).toNat
def ib(name:ByteArray):List ByteArray->List J->Option J
 |n::ns,v::vs=>if n=name then some v else ib name ns vs
 |_,_=>none
def J.named(name:ByteArray):J->Option J
 |.obj ns vs=>ib name ns vs
 |_=>none
def J.text:J->Option ByteArray
 |.str s=>some s
 |_=>none
def J.list(least:Nat):J->Option (List J)
 |.arr l=>if least<=l.length/\l.length<=12 then some l else none
 |_=>none
def J.textIn(name:ByteArray)(j:J):Option ByteArray:=(j.named name).bind J.text
def J.listIn(name:ByteArray)(least:Nat)(j:J):Option (List J):=(j.named name).bind (J.list least)
def dQ(ok:ByteArray->Bool):List ByteArray->List J->Option (List ByteArray)
 |acc,[]=>some acc
 |acc,.str t::r=>if ok t=true/\dU t acc=false then dQ ok (acc++[t]) r else none
 |_,_::_=>none
def eW:ByteArray:=bs [116,121,112,101]
def gm:ByteArray:=bs [110,97,109,101]
def kM:ByteArray:=bs [110,97,109,101,115,112,97,99,101]
def jY:ByteArray:=bs [97,108,105,97,115,101,115]
def kg:ByteArray:=bs [102,105,101,108,100,115]
def iY:ByteArray:=bs [115,121,109,98,111,108,115]
def gD:ByteArray:=bs [100,101,102,97,117,108,116]
def oL:ByteArray:=bs [115,105,122,101]
def jm:ByteArray:=bs [105,116,101,109,115]
def ig:ByteArray:=bs [118,97,108,117,101,115]
def lK:ByteArray:=bs [97,114,114,97,121]
def wh:ByteArray:=bs [109,97,112]
def kI:ByteArray:=bs [114,101,99,111,114,100]
def oU:ByteArray:=bs [101,110,117,109]
def mQ:ByteArray:=bs [102,105,120,101,100]
def gK(ok:ByteArray->Bool)(j:J):Option (List ByteArray):=
 match j.named jY with
 |none=>some []
 |some a=>(J.list 0 a).bind (dQ ok [])
def iG(j:J)(space:ByteArray):Option ByteArray:=
 match j.named kM with
 |none=>some space
 |some v=>match v.text with
  |none=>none
  |some t=>if t.size=0\/eY t=true then some t else none
abbrev Env:=List (ByteArray × Nat)
def Env.kindOf?(n:ByteArray):Env->Option Nat
 |[]=>none
 |(m,k)::r=>if m=n then some k else Env.kindOf? n r
def gp(j:J)(space:ByteArray)(E:Env):Option ByteArray:=
 match j.textIn gm with
 |none=>none
 |some n=>if eY n=true then (match iG j space with
   |none=>none
   |some sp=>match gK eY j with
    |none=>none
    |some _=>if (E.kindOf? (fI n sp)).isSome=true then none else if eP (fI n sp)≠0 then none else if E.length=16 then none else some (fI n sp))
  else none
def kL(a b:Sch):Bool:=decide (a.kind=b.kind)&&decide (a.name=b.name)
def fD(rd:J->Env->Option (Sch × Env)):List Sch->List J->Env->Option (List Sch × Env)
 |acc,[],E=>some (acc,E)
 |acc,j::r,E=>match rd j E with
  |none=>none
  |some (s,E)=>if s.kind=13 then none else if acc.any (λo=>kL o s)=true then none else fD rd (acc++[s]) r E
def eG(rd:J->Env->Option (Sch × Env)):List ByteArray->List Sch->List (Option J)->List J->Env->Option (List ByteArray × List Sch × List (Option J) × Env)
 |ns,ss,ds,[],E=>some (ns,ss,ds,E)
 |ns,ss,ds,j::r,E=>match j.textIn gm with
  |none=>none
  |some n=>match gK dJ j with
   |none=>none
   |some _=>if dJ n=true then (match j.named eW with
     |none=>none
     |some t=>match rd t E with
      |none=>none
      |some (s,E)=>if dU n ns=true then none else eG rd (ns++[n]) (ss++[s]) (ds++[j.named gD]) r E)
    else none
def lQ(k:Nat):Sch:=.mk k ByteArray.empty [] 0 [] []
def rdS:Nat->J->ByteArray->Env->Option (Sch × Env)
 |0,_,_,_=>none
 |f+1,j,sp,E=>match j with
  |.str t=>if eP t≠0 then some (lQ (eP t),E) else (match E.kindOf? (fI t sp) with
   |some k=>some (.ref k (fI t sp),E)
   |none=>none)
  |.arr l=>if 1<=l.length/\l.length<=12 then (match fD (λj E=>rdS f j sp E) [] l E with
    |some (ss,E)=>some (.mk 13 ByteArray.empty [] 0 ss [],E)
    |none=>none)
   else none
  |.obj ns vs=>match (J.obj ns vs).textIn eW with
   |none=>none
   |some w=>if eP w≠0 then some (lQ (eP w),E)
    else if w=lK then (match (J.obj ns vs).named jm with
     |none=>none
     |some v=>match rdS f v sp E with
      |none=>none
      |some (s,E)=>some (.mk 11 ByteArray.empty [] 0 [s] [],E))
    else if w=wh then (match (J.obj ns vs).named ig with
     |none=>none
     |some v=>match rdS f v sp E with
      |none=>none
      |some (s,E)=>some (.mk 12 ByteArray.empty [] 0 [s] [],E))
    else if w=kI then (match gp (J.obj ns vs) sp E with
     |none=>none
     |some n=>match (J.obj ns vs).listIn kg 0 with
      |none=>none
      |some l=>match eG (λj E=>rdS f j (gi n) E) [] [] [] l (E++[(n,9)]) with
       |none=>none
       |some (fs,ss,ds,E)=>some (.mk 9 n fs 0 ss ds,E))
    else if w=oU then (match gp (J.obj ns vs) sp E with
     |none=>none
     |some n=>match ((J.obj ns vs).listIn iY 1).bind (dQ dJ []) with
      |none=>none
      |some sy=>match (J.obj ns vs).named gD with
       |none=>some (.mk 10 n sy 0 [] [],E++[(n,10)])
       |some d=>match d.text with
        |none=>none
        |some t=>if dU t sy=true then some (.mk 10 n sy 0 [] [],E++[(n,10)]) else none)
    else if w=mQ then (match gp (J.obj ns vs) sp E with
     |none=>none
     |some n=>match (J.obj ns vs).named oL with
      |some (.num z)=>if 0<=z/\z<=64 then some (.mk 14 n [] z.toNat [] [],E++[(n,14)]) else none
      |_=>none)
    else none
  |_=>none
end
section
open Go Go.RowKit Go.Extern.Stop Go.Stop Go.Extern Go.Maps Go.WideMaps
variable{ok:Nat->Prop}{cs:List Value}{j:J}
def Y39(h:p:=by exact (J.lies_cells hl)):p:=h
theorem xK{name:ByteArray} : ∀ {ns:List ByteArray} {vs:List J},dU name ns=false->ib name ns vs=none
 |[],_,_=>by rw [ib];rintro _ _ _ _ ⟨⟩
 |n::ns,[],_=>by rw [ib];rintro _ _ _ _ _ ⟨⟩
 |n::ns,v::vs,h=>by
  have h':¬ name=n/\dU name ns=false:=by simpa [dU] using h
  rw [ib,if_neg (λe=>h'.1 e.symm),xK h'.2]
theorem BU{name:ByteArray} : ∀ {ns:List ByteArray} {vs:List J},ns.length=vs.length->dU name ns=true->∃i,∃(h:i<ns.length) (h':i<vs.length),ns[i]=name/\ib name ns vs=some vs[i]
 |[],_,_,h=>by cases h
 |n::ns,[],hl,_=>by cases hl
 |n::ns,v::vs,hl,h=>by
  rw [ib]
  by_cases e:n=name
  ·exact ⟨0,by simp,by simp,e,by rw [if_pos e];rfl⟩
  rw [if_neg e]
  have h':dU name ns=true:=by
   have:name=n\/dU name ns=true:=by simpa [dU] using h
   rcases this with h|h
   ·exact absurd h.symm e
   exact h
  obtain ⟨i,h1,h2,h3,h4⟩:=BU LQ h'
  exact ⟨i+1,by simpa using h1,by simpa using h2,by simpa using h3,by rw [h4];rfl⟩
theorem tC(name:ByteArray)(W:World)(hn:name.size<=70368744177000):(Instr.lookup 74 (.map none) (.string name) true).run prog W=.ok (.tuple #[.int .i64 0,.bool false]) W:=
 Maps.look_nil (P:=prog) (w:=W) true Tryz.keyLaw underlying74 (Tryz.zeroInt W) (qH name hn)
def Eg(O:Option J)(ok:Nat->Prop)(w:World)(e:Ending)(w':World):Prop:=
 (match O with
 |some v=>∃cs:List Value,e=.returned (.tuple #[.agg cs.toArray,.bool true])/\v.lies (λb=>ok b/\b<w.heap.size) w' cs
 |none=>e=.returned (.tuple #[.agg #[.int .i64 0,.int .i64 0,.string ⟨#[]⟩,.slice none 0 0,.slice none 0 0,.map none],.bool false]))/\Add w w'
theorem nT{k n:Int}{t:ByteArray}{a na:Option Addr}{l c nl nc:Nat}(name:ByteArray)(ok:Nat->Prop)(w:World)(hn:name.size<=70368744177000):
  Calls prog 146 #[.agg (jc k n t a na l c nl nc none).toArray,.string name] w λe w'=>Eg none ok w e w':=by
 have hlk:∀W,(Instr.lookup 74 (.map none) (.string name) true).run prog W=.ok (.tuple #[.int .i64 0,.bool false]) W:=λW=>tC name W hn
 have hI:=qJ w (.cells #[.int .i64 k,.int .i64 n,.string t,.slice a l c,.slice na nl nc,.map none] 85 (0,0)) (.cells #[.int .i64 0,.int .i64 0,.string ⟨#[]⟩,.slice none 0 0,.slice none 0 0,.map none] 85 (0,0))
 obtain ⟨p0,p1,p2,p3,p4,p5,pz⟩:=dF hI.2.2
 have HA:Hid (Add w _):=hI.1
 unfold jc
 go_enter func146,ntmps146
 go_wp2
 refine bodyPost_ret (v:=.tuple #[.agg #[.int .i64 0,.int .i64 0,.string ⟨#[]⟩,.slice none 0 0,.slice none 0 0,.map none],.bool false]) Ma rfl ?_
 exact ⟨rfl,HA.out⟩
theorem Gc{ns:List ByteArray}{vs:List J}(name:ByteArray)(w:World)(hn:name.size<=70368744177000)(hl:(J.obj ns vs).lies ok w cs):
  Calls prog 146 #[.agg cs.toArray,.string name] w λe w'=>Eg (ib name ns vs) ok w e w':=by
 rw [J.lies] at hl
 obtain ⟨a,c,na,nc,m,rfl,hnv,hmx,hsz,hok,⟨D,hown,hD,hhas,hat⟩,hst,hal⟩:=hl
 have hkey:=qH name hn
 have hhx:=hhas name
 have hI:=qJ w (.cells #[.int .i64 6,.int .i64 0,.string ByteArray.empty,.slice a vs.length c,.slice na ns.length nc,.map (some m)] 85 (0,0)) (.cells #[.int .i64 0,.int .i64 0,.string ⟨#[]⟩,.slice none 0 0,.slice none 0 0,.map none] 85 (0,0))
 obtain ⟨p0,p1,p2,p3,p4,p5,pz⟩:=dF hI.2.2
 unfold jc
 cases hin:dU name ns with
 |false=>
  rw [hin] at hhx
  rw [xK hin]
  clear hst hal hhas hat hsz hmx hnv
  go_enter func146,ntmps146
  go_wp2_with (at_lookup;refine wpList_lookup_own_ok_int _ rfl _ _ 74 rfl 9 3 .i64 Tryz.keyLaw underlying74 underlying3 (Tryz.zeroInt _) m ns.length D rfl (jX hown (hI.1.old _ hown.lt)) _ _ rfl hkey ?_;intro cL hatL hwc;rw [hhx])
  refine bodyPost_ret (v:=.tuple #[.agg #[.int .i64 0,.int .i64 0,.string ⟨#[]⟩,.slice none 0 0,.slice none 0 0,.map none],.bool false]) Ma rfl ?_
  exact ⟨rfl,hI.1⟩
 |true=>
  rw [hin] at hhx
  obtain ⟨i,h1,h2,h3,h4⟩:=BU hnv hin
  rw [h4]
  have hati:=hat i h1
  rw [h3] at hati
  obtain ⟨b,oo,cs,hb1,hb2,hb3,hb4,hb5,hb6⟩:=J.lieAll_get vs 0 hal i h2
  subst hb1
  obtain ⟨n6,t6,a6,na6,l6,c6,nl6,nc6,m6,rfl⟩:=J.lies_cells hb6
  have hcell:∀f,f<6->((w.alloc (.cells #[.int .i64 6,.int .i64 0,.string ByteArray.empty,.slice (some ⟨b,oo,none⟩) vs.length c,.slice na ns.length nc,.map (some m)] 85 (0,0))).alloc (.cells #[.int .i64 0,.int .i64 0,.string ⟨#[]⟩,.slice none 0 0,.slice none 0 0,.map none] 85 (0,0))).cell? ⟨b,oo+i*6+f,none⟩=(jc vs[i].kindI n6 t6 a6 na6 l6 c6 nl6 nc6 m6)[f]?:=λf hf=>by
   have:=hb5 f hf
   rw [NV] at this
   rw [<-this]
   exact NY (a:=⟨b,oo+i*6+f,none⟩) (hI.1.old b hb3)
  have hlF:=J.lies_carry (ok:=λb=>ok b/\b<w.heap.size) ⟨hI.1.size,λj hj hl=>hI.1.old j hl⟩ _ _ (bP (λb hb hl=>⟨hb,hl⟩) _ _ hb6)
  have hsix:Six _ (w.heap.size+1):=Six.of_heap hI.2.2
  have HI2:Hid (i<vs.length):=h2
  have hbi1:(0:Int)<=(i:Int):=Kc
  have hbi2:(i:Int)<(vs.length:Int):=Kc
  have hbne:b≠w.heap.size+1:=Kc
  generalize vs[i]=jv at *
  generalize hW:(w.alloc (.cells #[.int .i64 6,.int .i64 0,.string ByteArray.empty,.slice (some ⟨b,oo,none⟩) vs.length c,.slice na ns.length nc,.map (some m)] 85 (0,0))).alloc (.cells #[.int .i64 0,.int .i64 0,.string ⟨#[]⟩,.slice none 0 0,.slice none 0 0,.map none] 85 (0,0))=W at *
  have g0:W.cell? ⟨b,oo+i*6,none⟩=some (.int .i64 jv.kindI):=hcell 0 Kc
  have g1:W.cell? ⟨b,oo+i*6+1,none⟩=some (.int .i64 n6):=hcell 1 Kc
  have g2:W.cell? ⟨b,oo+i*6+2,none⟩=some (.string t6):=hcell 2 Kc
  have g3:W.cell? ⟨b,oo+i*6+3,none⟩=some (.slice a6 l6 c6):=hcell 3 Kc
  have g4:W.cell? ⟨b,oo+i*6+4,none⟩=some (.slice na6 nl6 nc6):=hcell 4 Kc
  have g5:W.cell? ⟨b,oo+i*6+5,none⟩=some (.map m6):=hcell 5 Kc
  obtain ⟨y0,y1,y2,y3,y4,y5,yz⟩:=dF hI.2.1
  have HNV:Hid (ns.length=vs.length):=hnv
  clear hst hal hhas hat hsz hb5 hb6 hcell hnv h1 h2 h3 h4 hb4 hin
  go_enter func146,ntmps146
  go_wp2_with (at_lookup;refine wpList_lookup_own_ok_int _ rfl _ _ 74 rfl 9 3 .i64 Tryz.keyLaw underlying74 underlying3 (Tryz.zeroInt _) m ns.length D rfl (jX hown (hI.1.old _ hown.lt)) _ _ rfl hkey ?_;intro cL hatL hwc;rw [hhx];obtain rfl:cL=(i:Int):=by (rw [hati] at hatL;simpa using hatL.symm))
  obtain ⟨r0,r1,r2,r3,r4,r5⟩:=fK hsix (.int .i64 jv.kindI) (.int .i64 n6) (.string t6) (.slice a6 l6 c6) (.slice na6 nl6 nc6) (.map m6)
  have hAF:Add w (dV W (w.heap.size+1) (.int .i64 jv.kindI) (.int .i64 n6) (.string t6) (.slice a6 l6 c6) (.slice na6 nl6 nc6) (.map m6)):=⟨(iF W _ (.int .i64 jv.kindI) (.int .i64 n6) (.string t6) (.slice a6 l6 c6) (.slice na6 nl6 nc6) (.map m6)).trans hI.1.os,(eX W _ (.int .i64 jv.kindI) (.int .i64 n6) (.string t6) (.slice a6 l6 c6) (.slice na6 nl6 nc6) (.map m6)).trans hI.1.output,by rw [dP];exact hI.1.size,λi hi=>(dI W _ (.int .i64 jv.kindI) (.int .i64 n6) (.string t6) (.slice a6 l6 c6) (.slice na6 nl6 nc6) (.map m6) i Kc).trans (hI.1.old i hi)⟩
  have hLF:jv.lies (λb=>ok b/\b<w.heap.size) (dV W (w.heap.size+1) (.int .i64 jv.kindI) (.int .i64 n6) (.string t6) (.slice a6 l6 c6) (.slice na6 nl6 nc6) (.map m6)) [.int .i64 jv.kindI,.int .i64 n6,.string t6,.slice a6 l6 c6,.slice na6 nl6 nc6,.map m6]:=(J.lies_carry ⟨by rw [dP];exact NL _,λi hi _=>dI W _ (.int .i64 jv.kindI) (.int .i64 n6) (.string t6) (.slice a6 l6 c6) (.slice na6 nl6 nc6) (.map m6) i Kc⟩ _ _ hlF)
  clear hsix hW p0 p1 p2 p3 p4 p5 pz g0 g1 g2 g3 g4 g5 y0 y1 y2 y3 y4 y5 yz
  unfold dV at r0 r1 r2 r3 r4 r5 hAF hLF
  refine bodyPost_ret (v:=.tuple #[.agg #[.int .i64 jv.kindI,.int .i64 n6,.string t6,.slice a6 l6 c6,.slice na6 nl6 nc6,.map m6],.bool true]) (by simp [results,results146,go_sem,r0,r1,r2,r3,r4,r5]) rfl ?_
  exact ⟨⟨_,rfl,hLF⟩,hAF⟩
theorem lZ(name:ByteArray)(w:World)(hn:name.size<=70368744177000)(hl:j.lies ok w cs):
  Calls prog 146 #[.agg cs.toArray,.string name] w λe w'=>Eg (j.named name) ok w e w':=by
 cases j with
 |obj ns vs=>exact Gc name w hn hl
 |null=>rw [J.lies] at hl;rw [hl];exact nT name ok w hn
 |bool b=>rw [J.lies] at hl;rw [hl];exact nT name ok w hn
 |num n=>rw [J.lies] at hl;rw [hl.1];exact nT name ok w hn
 |str s=>rw [J.lies] at hl;rw [hl.1];exact nT name ok w hn
 |arr l=>
  rw [J.lies] at hl
  obtain ⟨a,c,rfl,_⟩:=hl
  exact nT name ok w hn
theorem dR(s:ByteArray)(w:World):
  Calls prog 81 #[.string s] w λe w'=>fV e/\Add w w':=by
 go_enter func81,ntmps81
 go_wp2_with (first
  |(go_at_call 71;refine (ww _ _).mono ?_;rintro e w2 ⟨⟨v,rfl⟩,hb⟩)
  |(go_at_call 70;refine (oZ _ _ _).mono ?_;rintro e w3 ⟨rfl,rfl⟩))
 exact ⟨rfl,⟨_,_,rfl⟩,hb⟩
def InPost(O:Option J)(ok:Nat->Prop)(w:World)(e:Ending)(w':World):Prop:=
 (match O with
 |some v=>∃cs:List Value,e=.returned (.agg cs.toArray)/\v.lies (λb=>ok b/\b<w.heap.size) w' cs
 |none=>fV e)/\Add w w'
theorem bL{w w':World}(h:j.lies ok w cs)(a:Add w w'):j.lies ok w' cs:=J.lies_carry ⟨a.size,λi _ hl=>a.old i hl⟩ _ _ h
theorem Am(name:ByteArray)(w:World)(hn:name.size<=65536)(hl:j.lies ok w cs):
  Calls prog 123 #[.agg cs.toArray,.string name] w λe w'=>InPost (j.named name) ok w e w':=by
 have hnm:=λW (h:Add w W)=>lZ (ok:=λb=>ok b/\b<w.heap.size) name W Kc (bL (bP (λb hb hl=>⟨hb,hl⟩) _ _ hl) h)
 have hcat:(9223372036854775807<3+name.size)=False:=eq_false Kc
 obtain ⟨n0,t0,a0,na0,l0,c0,nl0,nc0,m0,rfl⟩:=Y39
 unfold jc at hnm ⊢
 clear hl hn
 cases hj:j.named name with
 |none=>
  rw [hj] at hnm
  go_enter func123,ntmps123
  go_wp2_with (first
   |(go_at_call 146;have hI:=qJ w (.cells #[.int .i64 j.kindI,.int .i64 n0,.string t0,.slice a0 l0 c0,.slice na0 nl0 nc0,.map m0] 85 (0,0)) (.cells #[.int .i64 0,.int .i64 0,.string ⟨#[]⟩,.slice none 0 0,.slice none 0 0,.map none] 85 (0,0));refine (hnm _ hI.1).mono ?_;rintro e w1 ⟨rfl,ha1⟩)
   |(go_at_call 81;refine (dR _ _).mono ?_;rintro e w3 ⟨⟨T,v,rfl⟩,hb⟩))
  exact ⟨rfl,⟨_,_,rfl⟩,((hI.1.trans ha1).trans (ae _ _)).trans hb⟩
 |some v=>
  rw [hj] at hnm
  go_enter func123,ntmps123
  go_wp2_with (go_at_call 146;have hI:=qJ w (.cells #[.int .i64 j.kindI,.int .i64 n0,.string t0,.slice a0 l0 c0,.slice na0 nl0 nc0,.map m0] 85 (0,0)) (.cells #[.int .i64 0,.int .i64 0,.string ⟨#[]⟩,.slice none 0 0,.slice none 0 0,.map none] 85 (0,0));refine (hnm _ hI.1).mono ?_;rintro e w1 ⟨⟨cs,rfl,hcs⟩,ha1⟩;obtain ⟨n6,t6,a6,na6,l6,c6,nl6,nc6,m6,rfl⟩:=J.lies_cells hcs;have hb1:=(ha1.old (w.heap.size+1) Mm).trans hI.2.2;have hb1':=(ae w1 (.cells #[.int .i64 v.kindI,.int .i64 n6,.string t6,.slice a6 l6 c6,.slice na6 nl6 nc6,.map m6] 85 (0,0))).old (w.heap.size+1) (Oh hb1).1 |>.trans hb1;obtain ⟨q0,q1,q2,q3,q4,q5,qz⟩:=dF hb1;have hlt1:w.heap.size+1<w1.heap.size:=(Oh hb1).1;unfold jc)
  have hsix:Six w1 (w.heap.size+1):=Six.of_heap hb1
  obtain ⟨r0,r1,r2,r3,r4,r5⟩:=fK hsix (.int .i64 v.kindI) (.int .i64 n6) (.string t6) (.slice a6 l6 c6) (.slice na6 nl6 nc6) (.map m6)
  have hA1:=hI.1.trans ha1
  have hAF:Add w (dV w1 (w.heap.size+1) (.int .i64 v.kindI) (.int .i64 n6) (.string t6) (.slice a6 l6 c6) (.slice na6 nl6 nc6) (.map m6)):=⟨(iF w1 _ (.int .i64 v.kindI) (.int .i64 n6) (.string t6) (.slice a6 l6 c6) (.slice na6 nl6 nc6) (.map m6)).trans hA1.os,(eX w1 _ (.int .i64 v.kindI) (.int .i64 n6) (.string t6) (.slice a6 l6 c6) (.slice na6 nl6 nc6) (.map m6)).trans hA1.output,by rw [dP];exact hA1.size,λi hi=>(dI w1 _ (.int .i64 v.kindI) (.int .i64 n6) (.string t6) (.slice a6 l6 c6) (.slice na6 nl6 nc6) (.map m6) i Kc).trans (hA1.old i hi)⟩
  have hLF:v.lies (λb=>ok b/\b<w.heap.size) (dV w1 (w.heap.size+1) (.int .i64 v.kindI) (.int .i64 n6) (.string t6) (.slice a6 l6 c6) (.slice na6 nl6 nc6) (.map m6)) [.int .i64 v.kindI,.int .i64 n6,.string t6,.slice a6 l6 c6,.slice na6 nl6 nc6,.map m6]:=J.lies_carry ⟨by rw [dP];exact NL _,λi hi _=>dI w1 _ (.int .i64 v.kindI) (.int .i64 n6) (.string t6) (.slice a6 l6 c6) (.slice na6 nl6 nc6) (.map m6) i Kc⟩ _ _ (bP (λb hb _=>hb.1) _ _ hcs)
  have hal:=ae (dV w1 (w.heap.size+1) (.int .i64 v.kindI) (.int .i64 n6) (.string t6) (.slice a6 l6 c6) (.slice na6 nl6 nc6) (.map m6)) (.cells #[.int .i64 v.kindI,.int .i64 n6,.string t6,.slice a6 l6 c6,.slice na6 nl6 nc6,.map m6] 85 (0,0))
  have k0:=hal.cell r0
  have k1:=hal.cell r1
  have k2:=hal.cell r2
  have k3:=hal.cell r3
  have k4:=hal.cell r4
  have k5:=hal.cell r5
  have hAF2:=hAF.trans hal
  have hLF2:=bL hLF hal
  clear hsix hb1 hb1' q0 q1 q2 q3 q4 q5 qz r0 r1 r2 r3 r4 r5 hAF hLF hal
  unfold dV at k0 k1 k2 k3 k4 k5 hAF2 hLF2
  refine bodyPost_ret (v:=.agg #[.int .i64 v.kindI,.int .i64 n6,.string t6,.slice a6 l6 c6,.slice na6 nl6 nc6,.map m6]) (by simp [results,results123,go_sem,k0,k1,k2,k3,k4,k5]) rfl ?_
  exact ⟨⟨_,rfl,hLF2⟩,hAF2⟩
end
end Go.Proofs.YtjmlghgnbclmfaaGreatDoor
