import Derived.Test.YtmphmjkinmkidaaGreatDoorS10
set_option linter.defProp false
open Go.Proofs.Tryz
set_option maxRecDepth 8000
set_option maxHeartbeats 4000000
open Go Go.RowKit Go.Extern.Stop Go.Stop Go.Extern
namespace Go.Proofs.YtmphmjkinmkidaaGreatDoor
variable{p:Prop}
section
def Y55(h:p:=by exact (show ∃N,l.length=N from ⟨_,rfl⟩)):p:=h
def Y56(h:p:=by exact (show Hid (∀g,blk (.slice an j cn)=some g->w.heap.size<=g) from hown)):p:=h
def Y57(h:p:=by exact (show wr.cell? ⟨b,o+j*6,none⟩=some (.int .i64 4) from hcr 0 Kc)):p:=h
def Y58(h:p:=by exact (show wr.cell? ⟨b,o+j*6+1,none⟩=some (.int .i64 0) from hcr 1 Kc)):p:=h
def Y59(h:p:=by exact (show wr.cell? ⟨b,o+j*6+2,none⟩=some (.string t) from hcr 2 Kc)):p:=h
def Y60(h:p:=by exact (show wr.cell? ⟨b,o+j*6+3,none⟩=some (.slice none 0 0) from hcr 3 Kc)):p:=h
def Y61(h:p:=by exact (show wr.cell? ⟨b,o+j*6+4,none⟩=some (.slice none 0 0) from hcr 4 Kc)):p:=h
def Y62(h:p:=by exact (show wr.cell? ⟨b,o+j*6+5,none⟩=some (.map none) from hcr 5 Kc)):p:=h
def Y63(h:p:=by exact (λo=>hal t (wr.alloc o) (ha.trans (ae _ _)) htz)):p:=h
def Y78(h:p:=by exact (show wr.cell? ⟨b,o+j*6,none⟩=some (.int .i64 x.kindI) from hcr 0 Kc)):p:=h
def Y79(h:p:=by exact (show wr.cell? ⟨b,o+j*6+1,none⟩=some (.int .i64 n6) from hcr 1 Kc)):p:=h
def Y80(h:p:=by exact (show wr.cell? ⟨b,o+j*6+2,none⟩=some (.string t6) from hcr 2 Kc)):p:=h
def Y81(h:p:=by exact (show wr.cell? ⟨b,o+j*6+3,none⟩=some (.slice a6 l6 c6) from hcr 3 Kc)):p:=h
def Y82(h:p:=by exact (show wr.cell? ⟨b,o+j*6+4,none⟩=some (.slice na6 nl6 nc6) from hcr 4 Kc)):p:=h
def Y83(h:p:=by exact (show wr.cell? ⟨b,o+j*6+5,none⟩=some (.map m6) from hcr 5 Kc)):p:=h
def Z30(h:p:=by
 have hk:=bE (λt h=>hst ⟨t,h⟩)
 rw [yL (λt h=>hst ⟨t,h⟩)] at hv
 subst hv
 have g0:=Y78
 have g1:=Y79
 have g2:=Y80
 have g3:=Y81
 have g4:=Y82
 have g5:=Y83
 generalize x.kindI=kk at *
 clear hst hcr hcc hal hrow hown hnl ha hlt hV hlies hl hbyS hlt' hj
 go_wp2_with (go_at_call 81;refine (dR _ _).mono ?_;rintro e w3 ⟨⟨T,v,rfl⟩,hb3⟩)
 exact ⟨rfl,⟨_,_,rfl⟩,(HA.out.trans (ae _ _)).trans hb3⟩):p:=h
def Z40(h:p:=by
 have hadd:=((HA.out.trans (ae _ _)).trans ha1).trans (ae _ (.cells #[.string t] 9))
 have hg6:Grew _ (.slice an j cn) w5 nv5:=hg5
 exact ⟨⟨j+1,ns++[t],HJ.out,rfl,by rw [List.length_append,HNL.out];rfl,HV.out,by rw [List.map_append];exact hrow5,Grew.own hadd hg6 HO.out,Grew.add hadd hg6 HO.out,λx hx=>by
  rcases List.mem_append.1 hx with h|h
  ·exact HSZ.out x h
  rw [List.mem_singleton] at h;rw [h];exact htz⟩,by have:=HJ.out;show N-((j:Int)+1).toNat<N-(j:Int).toNat;omega⟩):p:=h
def Z47(h:p:=by
 have ji:=Y54
 rw [List.drop_eq_nil_of_le MS,dQ] at hv
 subst hv
 have HR:Hid (Row wr 1 u5 ns.length (ns.map Value.string)):=by show Row _ _ _ _ _;rw [hnl];exact hrow
 have HL:Hid (ns.length<=12):=by show _<=_;have:=HLE.out;omega
 clear hrow hnl hV hlt hj
 go_wp2
 go_ret
 exact ⟨⟨_,rfl,HR.out,hown,HL.out,HSZ.out⟩,ha⟩):p:=h
def Z126(h:p:=by
 have:=hcc f hf
 rw [NV] at this
 exact (NY (a:=⟨b,o+j*6+f,none⟩) (ha.old b hb2)).trans this):p:=h
def Z166(h:p:=by
 exact ⟨rfl,⟨_,_,rfl⟩,((HA.out.trans (ae _ _)).trans ha1).trans hb3⟩):p:=h
def pU(O:Option (List ByteArray))(w:World)(e:Ending)(w':World):Prop:=
 (match O with
 |some ns=>∃v,e=.returned v/\Row w' 1 v ns.length (ns.map Value.string)/\(∀g,blk v=some g->w.heap.size<=g)/\ns.length<=12/\∀t∈ns,t.size<=65536
 |none=>fV e)/\Add w w'
theorem Grew.add{w w1 w2:World}{v v':Value}(h:Add w w1)(hg:Grew w1 v w2 v')(hv:∀g,blk v=some g->w.heap.size<=g):Add w w2:=
 ⟨hg.os.trans h.os,hg.output.trans h.output,NM h.size hg.size,λi hi=>(hg.old i (NK hi h.size) (λe=>by have:=hv i e;omega)).trans (h.old i hi)⟩
theorem Grew.own{w w1 w2:World}{v v':Value}(h:Add w w1)(hg:Grew w1 v w2 v')(hv:∀g,blk v=some g->w.heap.size<=g):∀g,blk v'=some g->w.heap.size<=g:=λg e=>by
 rcases hg.at' with h'|⟨g',h1,h2⟩
 ·exact hv g (h' ▸ e)
 rw [h2] at e
 cases e
 exact NM h.size h1
theorem Row.add{w w':World}{size:Nat}{v:Value}{N:Nat}{cs:List Value}(h:Row w size v N cs)(a:Add w w'):Row w' size v N cs:=h.carry λi hi=>a.old i (h.blk_lt hi)
theorem bE{j:J}(h:∀t,j≠.str t):(j.kindI != 4)=true:=by
 exact Z208
theorem yL{ok:ByteArray->Bool}{acc:List ByteArray}{j:J}{r:List J}(h:∀t,j≠.str t):dQ ok acc (j::r)=none:=by
 exact Z208
theorem tZ{ok:Nat->Prop}{l:List J}{a:Option Addr}{c:Nat}(w:World)(hT:STbl w)(hl:J.lieAll ok w a 0 l)(hle:l.length<=12):
  Calls prog 153 #[.slice a l.length c,.func (.func 154) #[] #[]] w λe w'=>pU (dQ dJ [] l) w e w':=by
 have hal:=λt W (h:Add w W) (hz:t.size<=65536)=>rk t W Kc
 obtain ⟨iS,zS,hiS,hzS,hsS,hz1,hbS⟩:=Tryz.infoS1
 have hbyS:=Y24
 generalize hV:dQ dJ [] l=V
 obtain ⟨N,hN⟩:=Y55
 rw [hN]
 have HN:Hid (l.length=N):=hN
 have HT:Hid (STbl w):=hT
 have HLE:Hid (N<=12):=Nb
 clear hT hN hle
 go_enter func153,ntmps153
 go_wp2
 go_loopw [5,10] (λnv cnt wr=>∃(j:Nat) (ns:List ByteArray),j<=N/\cnt=.int .i64 j/\ns.length=j/\dQ dJ ns (l.drop j)=V/\Row wr 1 nv j (ns.map Value.string)/\(∀g,blk nv=some g->w.heap.size<=g)/\Add w wr/\∀t∈ns,t.size<=65536) (λnv cnt _=>N-(intOf cnt).toNat)
 case atStart=>exact ⟨0,[],NQ _,rfl,rfl,hV,Row.nil _ _,(λ_ h=>by cases h),Add.refl _,λ_ h=>by cases h⟩
 obtain ⟨j,ns,hj,rfl,hnl,hv,hrow,hown,ha,hnsz⟩:=hrel
 have HSZ:Hid (∀t∈ns,t.size<=65536):=hnsz
 clear hnsz
 by_cases hlt:j<N
 ·have hlt':j<l.length:=KC
  have ji:=Y51
  have j0:=Y52
  have j1:=Y53
  rw [List.drop_eq_getElem_cons hlt'] at hv
  obtain ⟨b,o,cs,rfl,hb1,hb2,h6,hcc,hlies⟩:=J.lieAll_get l 0 hl j hlt'
  generalize l[j]=x at hv hlies
  have hcr:∀f,f<6->wr.cell? ⟨b,o+j*6+f,none⟩=cs[f]?:=λf hf=>by
   exact Z126
  obtain ⟨n6,t6,a6,na6,l6,c6,nl6,nc6,m6,rfl⟩:=J.lies_cells hlies
  obtain ⟨an,cn,rfl⟩:=hrow.shape
  have HR:Hid (Row wr 1 (.slice an j cn) j (ns.map Value.string)):=hrow
  have HO:=Y56
  have HNL:Hid (ns.length=j):=hnl
  have HA:Hid (Add w wr):=ha
  by_cases hst:∃t,x=.str t
  ·obtain ⟨t,ht⟩:=hst
   rw [ht] at hlies hv hcr
   rw [J.lies] at hlies
   obtain ⟨hcs,htz⟩:=hlies
   rw [hcs] at hcr
   rw [dQ] at hv
   have g0:=Y57
   have g1:=Y58
   have g2:=Y59
   have g3:=Y60
   have g4:=Y61
   have g5:=Y62
   have hcal:=Y63
   have hcon:=λW (hW:Add wr W)=>qQ an cn ns t W Ll (by
    have h1:=hrow.add hW
    rw [<-hnl] at h1
    obtain ⟨a',c',he,hs⟩:=sw.row h1
    cases he
    exact hs)
   rw [hnl] at hcon
   cases hok:dJ t with
   |false=>
    rw [if_neg (by rw [hok];simp)] at hv
    subst hv
    rw [hok] at hcal
    clear hcr hcc hal hrow hown hnl ha hlt hV hl hbyS hlt' hj ht hcs HR
    go_wp2_with (first
     |(go_at_call 154;refine (hcal _).mono ?_;rintro e w1 ⟨rfl,ha1⟩)
     |(go_at_call 81;refine (dR _ _).mono ?_;rintro e w3 ⟨⟨T,v,rfl⟩,hb3⟩))
    exact Z166
   |true=>
    rw [hok] at hcal
    cases hin:dU t ns with
    |true=>
     rw [if_neg (by rw [hin];simp)] at hv
     subst hv
     rw [hin] at hcon
     clear hcr hcc hal hrow hown hnl ha hlt hV hl hbyS hlt' hj ht hcs HR
     go_wp2_with (first
      |(go_at_call 154;refine (hcal _).mono ?_;rintro e w1 ⟨rfl,ha1⟩;have g2':=ha1.cell (Og (w:=wr) #[.int .i64 4,.int .i64 0,.string t,.slice none 0 0,.slice none 0 0,.map none] 85 2))
      |(go_at_call 176;refine (hcon _ ((ae _ _).trans ha1)).mono ?_;rintro e w2 ⟨rfl,rfl⟩)
      |(go_at_call 81;refine (dR _ _).mono ?_;rintro e w3 ⟨⟨T,v,rfl⟩,hb3⟩))
     exact Z166
    |false=>
     rw [if_pos ⟨hok,hin⟩] at hv
     rw [hin] at hcon
     have HV:Hid (dQ dJ (ns++[t]) (l.drop (j+1))=V):=hv
     have HJ:Hid (j<N):=hlt
     have hJ5:j<=12:=Ll
     clear hcr hcc hal hrow hown hnl ha hlt hV hl hlt' hj ht hcs hv h6 hb1 hb2
     go_wp2_with (first
      |(go_at_call 154;refine (hcal _).mono ?_;rintro e w1 ⟨rfl,ha1⟩;have g2':=ha1.cell (Og (w:=wr) #[.int .i64 4,.int .i64 0,.string t,.slice none 0 0,.slice none 0 0,.map none] 85 2))
      |(go_at_call 176;refine (hcon _ ((ae _ _).trans ha1)).mono ?_;rintro e w2 ⟨rfl,rfl⟩)
      |(at_builtin;refine dH _ rfl _ _ 31 31 rfl Ke iS zS iS.bytes underlying31 hiS hzS hsS rfl hz1 rfl ((HR.out.add ((ae _ _).trans ha1)).alloc _) _ 1 _ rfl (di _ underlying31 _ rfl 9 _ rfl) Ki (hbyS _ Kc) ?_;intro nv5 w5 hrow5 hg5))
     exact Z40
  exact Z30
 exact Z47
theorem AC{ok:Nat->Prop}{l:List J}{a:Option Addr}{c:Nat}(w:World)(hT:STbl w)(hl:J.lieAll ok w a 0 l)(hle:l.length<=12):
  Calls prog 153 #[.slice a l.length c,.func (.func 173) #[] #[]] w λe w'=>pU (dQ eY [] l) w e w':=by
 have hal:=λt W (h:Add w W) (hz:t.size<=65536)=>pG t W hz (hT.add h).max
 obtain ⟨iS,zS,hiS,hzS,hsS,hz1,hbS⟩:=Tryz.infoS1
 have hbyS:=Y24
 generalize hV:dQ eY [] l=V
 obtain ⟨N,hN⟩:=Y55
 rw [hN]
 have HN:Hid (l.length=N):=hN
 have HT:Hid (STbl w):=hT
 have HLE:Hid (N<=12):=Nb
 clear hT hN hle
 go_enter func153,ntmps153
 go_wp2
 go_loopw [5,10] (λnv cnt wr=>∃(j:Nat) (ns:List ByteArray),j<=N/\cnt=.int .i64 j/\ns.length=j/\dQ eY ns (l.drop j)=V/\Row wr 1 nv j (ns.map Value.string)/\(∀g,blk nv=some g->w.heap.size<=g)/\Add w wr/\∀t∈ns,t.size<=65536) (λnv cnt _=>N-(intOf cnt).toNat)
 case atStart=>exact ⟨0,[],NQ _,rfl,rfl,hV,Row.nil _ _,(λ_ h=>by cases h),Add.refl _,λ_ h=>by cases h⟩
 obtain ⟨j,ns,hj,rfl,hnl,hv,hrow,hown,ha,hnsz⟩:=hrel
 have HSZ:Hid (∀t∈ns,t.size<=65536):=hnsz
 clear hnsz
 by_cases hlt:j<N
 ·have hlt':j<l.length:=KC
  have ji:=Y51
  have j0:=Y52
  have j1:=Y53
  rw [List.drop_eq_getElem_cons hlt'] at hv
  obtain ⟨b,o,cs,rfl,hb1,hb2,h6,hcc,hlies⟩:=J.lieAll_get l 0 hl j hlt'
  generalize l[j]=x at hv hlies
  have hcr:∀f,f<6->wr.cell? ⟨b,o+j*6+f,none⟩=cs[f]?:=λf hf=>by
   exact Z126
  obtain ⟨n6,t6,a6,na6,l6,c6,nl6,nc6,m6,rfl⟩:=J.lies_cells hlies
  obtain ⟨an,cn,rfl⟩:=hrow.shape
  have HR:Hid (Row wr 1 (.slice an j cn) j (ns.map Value.string)):=hrow
  have HO:=Y56
  have HNL:Hid (ns.length=j):=hnl
  have HA:Hid (Add w wr):=ha
  by_cases hst:∃t,x=.str t
  ·obtain ⟨t,ht⟩:=hst
   rw [ht] at hlies hv hcr
   rw [J.lies] at hlies
   obtain ⟨hcs,htz⟩:=hlies
   rw [hcs] at hcr
   rw [dQ] at hv
   have g0:=Y57
   have g1:=Y58
   have g2:=Y59
   have g3:=Y60
   have g4:=Y61
   have g5:=Y62
   have hcal:=Y63
   have hcon:=λW (hW:Add wr W)=>qQ an cn ns t W Ll (by
    have h1:=hrow.add hW
    rw [<-hnl] at h1
    obtain ⟨a',c',he,hs⟩:=sw.row h1
    cases he
    exact hs)
   rw [hnl] at hcon
   cases hok:eY t with
   |false=>
    rw [if_neg (by rw [hok];simp)] at hv
    subst hv
    rw [hok] at hcal
    clear hcr hcc hal hrow hown hnl ha hlt hV hl hbyS hlt' hj ht hcs HR
    go_wp2_with (first
     |(go_at_call 173;refine (hcal _).mono ?_;rintro e w1 ⟨rfl,ha1⟩)
     |(go_at_call 81;refine (dR _ _).mono ?_;rintro e w3 ⟨⟨T,v,rfl⟩,hb3⟩))
    exact Z166
   |true=>
    rw [hok] at hcal
    cases hin:dU t ns with
    |true=>
     rw [if_neg (by rw [hin];simp)] at hv
     subst hv
     rw [hin] at hcon
     clear hcr hcc hal hrow hown hnl ha hlt hV hl hbyS hlt' hj ht hcs HR
     go_wp2_with (first
      |(go_at_call 173;refine (hcal _).mono ?_;rintro e w1 ⟨rfl,ha1⟩;have g2':=ha1.cell (Og (w:=wr) #[.int .i64 4,.int .i64 0,.string t,.slice none 0 0,.slice none 0 0,.map none] 85 2))
      |(go_at_call 176;refine (hcon _ ((ae _ _).trans ha1)).mono ?_;rintro e w2 ⟨rfl,rfl⟩)
      |(go_at_call 81;refine (dR _ _).mono ?_;rintro e w3 ⟨⟨T,v,rfl⟩,hb3⟩))
     exact Z166
    |false=>
     rw [if_pos ⟨hok,hin⟩] at hv
     rw [hin] at hcon
     have HV:Hid (dQ eY (ns++[t]) (l.drop (j+1))=V):=hv
     have HJ:Hid (j<N):=hlt
     have hJ5:j<=12:=Ll
     clear hcr hcc hal hrow hown hnl ha hlt hV hl hlt' hj ht hcs hv h6 hb1 hb2
     go_wp2_with (first
      |(go_at_call 173;refine (hcal _).mono ?_;rintro e w1 ⟨rfl,ha1⟩;have g2':=ha1.cell (Og (w:=wr) #[.int .i64 4,.int .i64 0,.string t,.slice none 0 0,.slice none 0 0,.map none] 85 2))
      |(go_at_call 176;refine (hcon _ ((ae _ _).trans ha1)).mono ?_;rintro e w2 ⟨rfl,rfl⟩)
      |(at_builtin;refine dH _ rfl _ _ 31 31 rfl Ke iS zS iS.bytes underlying31 hiS hzS hsS rfl hz1 rfl ((HR.out.add ((ae _ _).trans ha1)).alloc _) _ 1 _ rfl (di _ underlying31 _ rfl 9 _ rfl) Ki (hbyS _ Kc) ?_;intro nv5 w5 hrow5 hg5))
     exact Z40
  exact Z30
 exact Z47
def Y64(h:p:=by exact (λW (h:Add w W)=>lZ (ok:=ok) jY W Ke (bL hl h))):p:=h
def Y65(h:p:=by exact (λW (h:Add w W)=>rC (ok:=ok) jY 0 0 rfl W (hT.add h).tbl Ke Kc (bL hl h))):p:=h
def Y66(h:p:=by exact (show Hid (j.listIn jY 0=(j.named jY).bind (J.list 0)) from rfl)):p:=h
def Z27(h:p:=by
 go_enter func174,ntmps174
 go_wp2_with (first
  |(go_at_call 146;refine (hnm _ (ae w (.cells #[.int .i64 j.kindI,.int .i64 n0,.string t0,.slice a0 l0 c0,.slice na0 nl0 nc0,.map m0] 85 (0,0)))).mono ?_;rintro e w1 ⟨⟨cs,rfl,hcs⟩,ha1⟩;obtain ⟨n6,t6,a6,na6,l6,c6,nl6,nc6,m6,rfl⟩:=J.lies_cells hcs;unfold jc;obtain ⟨q0,q1,q2,q3,q4,q5,ql⟩:=iA ha1)
  |(go_at_call 148;refine (hli _ (((ae _ _).trans ha1).trans (ae _ _))).mono ?_;rintro e w2 ⟨⟨a2,c2,rfl,hll,hl12⟩,hb⟩;have HL2:Hid (l.length<=12):=hl12;clear hl12;have hno2:=hno l a2 c2 w2 ((((ae _ _).trans ha1).trans (ae _ _)).trans hb) (bJ (λb h _=>h.1) _ _ _ hll) HL2.out)
  |(go_at_call 153;refine hno2.mono ?_;rw [hns];rintro e w3 ⟨⟨v,rfl,hrow,hown,hn12,hnz⟩,hb3⟩))
 go_ret
 have hA:=(((ae _ _).trans ha1).trans (ae _ _)).trans hb
 exact ⟨⟨_,rfl,hrow,λg hg=>NM hA.size (hown g hg),hn12,hnz⟩,hA.trans hb3⟩):p:=h
def Z29(h:p:=by
 go_enter func174,ntmps174
 go_wp2_with (first
  |(go_at_call 146;refine (hnm _ (ae w (.cells #[.int .i64 j.kindI,.int .i64 n0,.string t0,.slice a0 l0 c0,.slice na0 nl0 nc0,.map m0] 85 (0,0)))).mono ?_;rintro e w1 ⟨⟨cs,rfl,hcs⟩,ha1⟩;obtain ⟨n6,t6,a6,na6,l6,c6,nl6,nc6,m6,rfl⟩:=J.lies_cells hcs;unfold jc;obtain ⟨q0,q1,q2,q3,q4,q5,ql⟩:=iA ha1)
  |(go_at_call 148;refine (hli _ (((ae _ _).trans ha1).trans (ae _ _))).mono ?_;rintro e w2 ⟨⟨a2,c2,rfl,hll,hl12⟩,hb⟩;have HL2:Hid (l.length<=12):=hl12;clear hl12;have hno2:=hno l a2 c2 w2 ((((ae _ _).trans ha1).trans (ae _ _)).trans hb) (bJ (λb h _=>h.1) _ _ _ hll) HL2.out)
  |(go_at_call 153;refine hno2.mono ?_;rw [hns];rintro e w3 ⟨⟨T,v,rfl⟩,hb3⟩))
 exact ⟨rfl,⟨_,_,rfl⟩,((((ae _ _).trans ha1).trans (ae _ _)).trans hb).trans hb3⟩):p:=h
def Z37(h:p:=by
 rw [hlv] at hli
 clear hl hT hno
 go_enter func174,ntmps174
 go_wp2_with (first
  |(go_at_call 146;refine (hnm _ (ae w (.cells #[.int .i64 j.kindI,.int .i64 n0,.string t0,.slice a0 l0 c0,.slice na0 nl0 nc0,.map m0] 85 (0,0)))).mono ?_;rintro e w1 ⟨⟨cs,rfl,hcs⟩,ha1⟩;obtain ⟨n6,t6,a6,na6,l6,c6,nl6,nc6,m6,rfl⟩:=J.lies_cells hcs;unfold jc;obtain ⟨q0,q1,q2,q3,q4,q5,ql⟩:=iA ha1)
  |(go_at_call 148;refine (hli _ (((ae _ _).trans ha1).trans (ae _ _))).mono ?_;rintro e w2 ⟨⟨T,v,rfl⟩,hb⟩))
 exact Z263):p:=h
def Z46(h:p:=by
 rw [hj] at hnm
 clear hl hT hli hno
 go_enter func174,ntmps174
 go_wp2_with (go_at_call 146;refine (hnm _ (ae w (.cells #[.int .i64 j.kindI,.int .i64 n0,.string t0,.slice a0 l0 c0,.slice na0 nl0 nc0,.map m0] 85 (0,0)))).mono ?_;rintro e w1 ⟨rfl,ha1⟩)
 go_ret
 exact ⟨⟨_,rfl,Row.nil _ _,(λ_ h=>by cases h),by decide,λ_ h=>by cases h⟩,((ae _ _).trans ha1).trans (ae _ _)⟩):p:=h
theorem iA{w w1:World}{v0 v1 v2 v3 v4 v5:Value}{T:TypeId}(h:Add (w.alloc (.cells #[v0,v1,v2,v3,v4,v5] T)) w1):w1.cell? ⟨w.heap.size,0,none⟩=some v0/\w1.cell? ⟨w.heap.size,1,none⟩=some v1/\w1.cell? ⟨w.heap.size,2,none⟩=some v2/\w1.cell? ⟨w.heap.size,3,none⟩=some v3/\w1.cell? ⟨w.heap.size,4,none⟩=some v4/\w1.cell? ⟨w.heap.size,5,none⟩=some v5/\w.heap.size<w1.heap.size:=
 ⟨h.cell (Og _ _ _ 0),h.cell (Og _ _ _ 1),h.cell (Og _ _ _ 2),h.cell (Og _ _ _ 3),h.cell (Og _ _ _ 4),h.cell (Og _ _ _ 5),by have:=h.size;rw [dE] at this;omega⟩
theorem xe{ok:Nat->Prop}{j:J}{cs:List Value}(w:World)(hT:STbl w)(hl:j.lies ok w cs):
  Calls prog 174 #[.agg cs.toArray,.func (.func 154) #[] #[]] w λe w'=>pU (gK dJ j) w e w':=by
 have hnm:=Y64
 have hli:=Y65
 have hno:=λ(l:List J) a c W (h:Add w W) (h2:J.lieAll (λb=>ok b) W a 0 l) (h3:l.length<=12)=>tZ (c:=c) W (hT.add h) h2 h3
 obtain ⟨n0,t0,a0,na0,l0,c0,nl0,nc0,m0,rfl⟩:=Y39
 unfold jc at hnm hli ⊢
 unfold gK
 have HE:=Y66
 cases hj:j.named jY with
 |none=>
  exact Z46
 |some v=>
  rw [hj] at hnm
  have hjl:j.listIn jY 0=J.list 0 v:=by rw [HE.out,hj];rfl
  rw [hjl] at hli
  show Calls _ _ _ _ λe w'=>pU ((J.list 0 v).bind (dQ dJ [])) w e w'
  cases hlv:J.list 0 v with
  |none=>
   exact Z37
  |some l=>
   rw [hlv] at hli
   show Calls _ _ _ _ λe w'=>pU (dQ dJ [] l) w e w'
   clear hl hT
   cases hns:dQ dJ [] l with
   |none=>
    exact Z29
   |some ns=>
    exact Z27
theorem yg{ok:Nat->Prop}{j:J}{cs:List Value}(w:World)(hT:STbl w)(hl:j.lies ok w cs):
  Calls prog 174 #[.agg cs.toArray,.func (.func 173) #[] #[]] w λe w'=>pU (gK eY j) w e w':=by
 have hnm:=Y64
 have hli:=Y65
 have hno:=λ(l:List J) a c W (h:Add w W) (h2:J.lieAll (λb=>ok b) W a 0 l) (h3:l.length<=12)=>AC (c:=c) W (hT.add h) h2 h3
 obtain ⟨n0,t0,a0,na0,l0,c0,nl0,nc0,m0,rfl⟩:=Y39
 unfold jc at hnm hli ⊢
 unfold gK
 have HE:=Y66
 cases hj:j.named jY with
 |none=>
  exact Z46
 |some v=>
  rw [hj] at hnm
  have hjl:j.listIn jY 0=J.list 0 v:=by rw [HE.out,hj];rfl
  rw [hjl] at hli
  show Calls _ _ _ _ λe w'=>pU ((J.list 0 v).bind (dQ eY [])) w e w'
  cases hlv:J.list 0 v with
  |none=>
   exact Z37
  |some l=>
   rw [hlv] at hli
   show Calls _ _ _ _ λe w'=>pU (dQ eY [] l) w e w'
   clear hl hT
   cases hns:dQ eY [] l with
   |none=>
    exact Z29
   |some ns=>
    exact Z27
end
section
variable{b k m rb size:Nat}{W0 w w':World}{v:Value}{E E':Env}{Bs Bs':List Nat}{n:ByteArray}{ok ok':Nat->Prop}
def ptr(b:Nat):Value:=.pointer (some ⟨b,0,none⟩)
structure Ru(rb m:Nat)(w:World)(v:Value)(w':World)(v':Value):Prop where
 os:w'.os=w.os
 output:w'.output=w.output
 size:w.heap.size<=w'.heap.size
 old:∀i,i<w.heap.size->i≠rb->i≠m->blk v≠some i->w'.heap[i]?=w.heap[i]?
 at':blk v'=blk v\/∃g,w.heap.size<=g/\blk v'=some g
theorem Ru.trans{w1 w2:World}{v1 v2:Value}(h:Ru rb m w v w1 v1)(k:Ru rb m w1 v1 w2 v2):Ru rb m w v w2 v2:=by
 refine ⟨k.os.trans h.os,k.output.trans h.output,NM h.size k.size,λi hi h1 h2 hne=>?_,?_⟩
 ·have h3:blk v1≠some i:=by
   exact Z153
  rw [k.old i (NK hi h.size) h1 h2 h3,h.old i hi h1 h2 hne]
 exact Z98
theorem Add.ru(h:Add w w')(rb m:Nat)(v:Value):Ru rb m w v w' v:=⟨h.os,h.output,h.size,λi hi _ _ _=>h.old i hi,.inl rfl⟩
def jA(E:Env)(Bs:List Nat)(n:ByteArray)(k b:Nat):Prop:=∃i:Nat,E[i]?=some (n,k)/\Bs[i]?=some b
theorem jA.app(h:jA E Bs n k b)(hE:E <+: E')(hB:Bs <+: Bs'):jA E' Bs' n k b:=by
 obtain ⟨i,h1,h2⟩:=h
 obtain ⟨x,rfl⟩:=hE
 obtain ⟨y,rfl⟩:=hB
 exact ⟨i,by rw [List.getElem?_append_left (Oi h1).1];exact h1,by rw [List.getElem?_append_left (Oi h2).1];exact h2⟩
structure Rs(W0:World)(rb m:Nat)(w:World)(v:Value)(E:Env)(Bs:List Nat):Prop where
 add:Add W0 w
 rbW:W0.heap.size<=rb
 mW:W0.heap.size<=m
 vW:∀g,blk v=some g->W0.heap.size<=g/\g≠rb/\g≠m
 rm:rb≠m
 c0:w.cell? ⟨rb,0,none⟩=some v
 c1:w.cell? ⟨rb,1,none⟩=some (.map (some m))
 f0:w.frozen? ⟨rb,0,none⟩=false
 row:Row w 1 v E.length (Bs.map ptr)
 pl:kS w m (E.map Prod.fst)
 len:Bs.length=E.length
 small:E.length<=16
 types:∀(i:Nat) (n:ByteArray) (k b:Nat),E[i]?=some (n,k)->Bs[i]?=some b->b<w.heap.size/\W0.heap.size<=b/\b≠rb/\b≠m/\blk v≠some b/\w.cell? ⟨b,0,none⟩=some (.int .i64 k)/\w.cell? ⟨b,1,none⟩=some (.string n)
theorem Rs.add'(h:Rs W0 rb m w v E Bs)(a:Add w w'):Rs W0 rb m w' v E Bs:=by
 have hf:w'.frozen? ⟨rb,0,none⟩=false:=(Oa (a:=⟨rb,0,none⟩) (a.old rb (NW _ _ h.c0))).trans h.f0
 exact ⟨h.add.trans a,h.rbW,h.mW,h.vW,h.rm,a.cell h.c0,a.cell h.c1,hf,h.row.add a,h.pl.carry (a.old m h.pl.lt),h.len,h.small,λi n k b h1 h2=>by
  obtain ⟨q1,q2,q3,q4,q5,q6,q7⟩:=h.types i n k b h1 h2
  exact ⟨NK q1 a.size,q2,q3,q4,q5,a.cell q6,a.cell q7⟩⟩
theorem Rs.lt(h:Rs W0 rb m w v E Bs):rb<w.heap.size:=NW _ _ h.c0
theorem Rs.addRu{v':Value}(h:Rs W0 rb m w v E Bs)(u:Ru rb m w v w' v'):Add W0 w':=
 ⟨u.os.trans h.add.os,u.output.trans h.add.output,NM h.add.size u.size,λi hi=>(u.old i (NK hi h.add.size) (by have:=h.rbW;omega) (by have:=h.mW;omega) (λe=>by have:=(h.vW i e).1;omega)).trans (h.add.old i hi)⟩
def nJ(W0:World):Option J->List Value->Prop
 |some j,cs=>j.lies (λ_=>True) W0 cs
 |none,cs=>cs=jc 0 0 ⟨#[]⟩ none none 0 0 0 0 none
def dZ(W0:World):List ByteArray->List Nat->List (Option J)->List Value->Prop
 |[],[],[],cs=>cs=[]
 |n::ns,b::bs,d::ds,cs=>∃aa al ac js rest,cs=[.string n,.slice aa al ac,ptr b]++js++[.bool d.isSome]++rest/\js.length=6/\nJ W0 d js/\dZ W0 ns bs ds rest
 |_,_,_,_=>False
structure NodeAt(ok:Nat->Prop)(W0 w:World)(k:Nat)(n:ByteArray)(ns:List ByteArray)(size:Nat)(bs:List Nat)(defs:List (Option J))(b:Nat):Prop where
 okb:ok b
 lt:b<w.heap.size
 kind:w.cell? ⟨b,0,none⟩=some (.int .i64 k)
 name:w.cell? ⟨b,1,none⟩=some (.string n)
 fields:∃v cs,w.cell? ⟨b,3,none⟩=some v/\Row w 10 v (if k=9 then ns.length else 0) cs/\(∀g,blk v=some g->ok g)/\(k=9->dZ W0 ns bs defs cs)
 symbols:∃v,w.cell? ⟨b,4,none⟩=some v/\(∀g,blk v=some g->ok g)/\Row w 1 v (if k=10 then ns.length else 0) (if k=10 then ns.map Value.string else [])
 size:w.cell? ⟨b,6,none⟩=some (.int .i64 size)
 item:∃x,w.cell? ⟨b,7,none⟩=some x/\(k=11\/k=12->∃c,bs=[c]/\x=ptr c)
 branches:∃v,w.cell? ⟨b,8,none⟩=some v/\(∀g,blk v=some g->ok g)/\Row w 1 v (if k=13 then bs.length else 0) (if k=13 then bs.map ptr else [])
theorem Keep.row(k:Keep ok w w'){N:Nat}{cs:List Value}(h:Row w size v N cs)(hv:∀g,blk v=some g->ok g):Row w' size v N cs:=h.carry λi hi=>k.old i (hv i hi) (h.blk_lt hi)
theorem NodeAt.carry{ns:List ByteArray}{bs:List Nat}{defs:List (Option J)}(h:NodeAt ok W0 w k n ns size bs defs b)(kp:Keep ok w w'):NodeAt ok W0 w' k n ns size bs defs b:=by
 obtain ⟨h1,h2,h3,h4,⟨v,cs,h5,h6,h7,h8⟩,⟨vs,h9,h10,h11⟩,h12,⟨x,h13,h14⟩,⟨vb,h15,h16,h17⟩⟩:=h
 exact ⟨h1,NK h2 kp.size,(kp.cell h1 h2).trans h3,(kp.cell h1 h2).trans h4,⟨v,cs,(kp.cell h1 h2).trans h5,kp.row h6 h7,h7,h8⟩,⟨vs,(kp.cell h1 h2).trans h9,h10,kp.row h11 h10⟩,(kp.cell h1 h2).trans h12,⟨x,(kp.cell h1 h2).trans h13,h14⟩,⟨vb,(kp.cell h1 h2).trans h15,h16,kp.row h17 h16⟩⟩
theorem NodeAt.mono{ns:List ByteArray}{bs:List Nat}{defs:List (Option J)}(h:NodeAt ok W0 w k n ns size bs defs b)(hm:∀i,ok i->i<w.heap.size->ok' i):NodeAt ok' W0 w k n ns size bs defs b:=by
 obtain ⟨h1,h2,h3,h4,⟨v,cs,h5,h6,h7,h8⟩,⟨vs,h9,h10,h11⟩,h12,⟨x,h13,h14⟩,⟨vb,h15,h16,h17⟩⟩:=h
 exact ⟨hm _ h1 h2,h2,h3,h4,⟨v,cs,h5,h6,λg hg=>hm _ (h7 g hg) (h6.blk_lt hg),h8⟩,⟨vs,h9,λg hg=>hm _ (h10 g hg) (h11.blk_lt hg),h11⟩,h12,⟨x,h13,h14⟩,⟨vb,h15,λg hg=>hm _ (h16 g hg) (h17.blk_lt hg),h17⟩⟩
def wt(k:Nat):Prop:=k=9\/k=10\/k=14
mutual
def Sch.at(ok:Nat->Prop)(W0 w:World)(E:Env)(Bs:List Nat):Sch->Nat->Prop
 |.ref k n,b=>jA E Bs n k b
 |.mk k n ns size kids defs,b=>∃bs,NodeAt ok W0 w k n ns size bs defs b/\bZ ok W0 w E Bs kids bs/\(wt k->jA E Bs n k b)
def bZ(ok:Nat->Prop)(W0 w:World)(E:Env)(Bs:List Nat):List Sch->List Nat->Prop
 |[],[]=>True
 |s::ss,b::bs=>s.at ok W0 w E Bs b/\bZ ok W0 w E Bs ss bs
 |_,_=>False
end
mutual
theorem cO(kp:Keep ok w w')(hm:∀i,ok i->i<w'.heap.size->ok' i)(hE:E <+: E')(hB:Bs <+: Bs'):∀(s:Sch) (b:Nat),s.at ok W0 w E Bs b->s.at ok' W0 w' E' Bs' b
 |.ref k n,b,h=>by
  rw [Sch.at] at h ⊢
  exact h.app hE hB
 |.mk k n ns size kids defs,b,h=>by
  rw [Sch.at] at h ⊢
  obtain ⟨bs,h1,h2,h3⟩:=h
  exact ⟨bs,(h1.carry kp).mono hm,cu kp hm hE hB kids bs h2,λq=>(h3 q).app hE hB⟩
theorem cu(kp:Keep ok w w')(hm:∀i,ok i->i<w'.heap.size->ok' i)(hE:E <+: E')(hB:Bs <+: Bs'):∀(ss:List Sch) (bs:List Nat),bZ ok W0 w E Bs ss bs->bZ ok' W0 w' E' Bs' ss bs
 |[],[],_=>by rw [bZ];trivial
 |[],_::_,h=>by rw [bZ] at h;exact h.elim;all_goals simp
 |_::_,[],h=>by rw [bZ] at h;exact h.elim;all_goals simp
 |s::ss,b::bs,h=>by
  rw [bZ] at h ⊢
  exact ⟨cO kp hm hE hB s b h.1,cu kp hm hE hB ss bs h.2⟩
end
def oP(O:Option (Sch × Env))(W0:World)(rb m:Nat)(w:World)(v:Value)(E:Env)(Bs:List Nat)(e:Ending)(w':World):Prop:=
 match O with
 |some (s,E')=>∃b v' Bs',e=.returned (ptr b)/\Rs W0 rb m w' v' E' Bs'/\Ru rb m w v w' v'/\E <+: E'/\Bs <+: Bs'/\s.at (λi=>w.heap.size<=i/\blk v'≠some i) W0 w' E' Bs' b
 |none=>fV e/\Add W0 w'
end
section
def Z74(h:p:=by
 have ji:=Y54
 have HJ:Hid (j=N):=by show j=N;omega
 clear hlt
 go_wp2
 go_ret
 refine ⟨⟨-1,rfl,?_⟩,HA.out⟩
 have:=HV.out
 rw [HJ.out,<-HN.out,List.take_length] at this
 rw [this]
 rfl):p:=h
def Z169(h:p:=by
 have:=HJ.out
 show N-((j:Int)+1).toNat<N-(j:Int).toNat
 omega):p:=h
def yJ(w:World)(b:Nat)(s:Sch):Prop:=w.cell? ⟨b,0,none⟩=some (.int .i64 s.kind)/\w.cell? ⟨b,1,none⟩=some (.string s.name)
theorem yJ.add{w w':World}{b:Nat}{s:Sch}(h:yJ w b s)(a:Add w w'):yJ w' b s:=⟨a.cell h.1,a.cell h.2⟩
theorem Gt(o s:Sch)(ob t c:Nat)(w:World)(ho:yJ w ob o)(hs:yJ w t s)(hc:w.cell? ⟨c,0,none⟩=some (.pointer (some ⟨t,0,none⟩))):
  Calls prog 120 #[.pointer (some ⟨ob,0,none⟩),.pointer (some ⟨c,0,none⟩)] w λe w'=>e=.returned (.bool (kL o s))/\Add w w':=by
 obtain ⟨h0,h1⟩:=ho
 obtain ⟨g0,g1⟩:=hs
 have HE:Hid (kL o s=(decide (o.kind=s.kind)&&decide (o.name=s.name))):=rfl
 generalize kL o s=S at *
 generalize o.kind=k1 at *
 generalize s.kind=k2 at *
 generalize o.name=n1 at *
 generalize s.name=n2 at *
 by_cases hk:k1=k2
 ·subst hk
  go_enter func120,ntmps120
  go_wp2
  go_quiet (fail)
  go_wp2
  go_ret
  refine ⟨?_,Add.drewN _ _⟩
  rw [HE.out]
  show Ending.returned (.bool (n1.toList==n2.toList))=_
  rw [gB]
  simp
 have hki:((k1:Int)==(k2:Int))=false:=Kr
 have HK:Hid (¬ k1=k2):=hk
 clear hk
 go_enter func120,ntmps120
 go_wp2
 go_quiet (fail)
 go_wp2
 go_ret
 refine ⟨?_,Add.drewN _ _⟩
 rw [HE.out]
 show Ending.returned (.bool false)=_
 rw [decide_eq_false HK.out]
 rfl
theorem Ig(ss:List Sch)(bs:List Nat)(s:Sch)(t c:Nat)(a:Option Addr)(cp:Nat)(w:World)(hl:bs.length=ss.length)(hle:ss.length<=12)(hrow:Row w 1 (.slice a ss.length cp) ss.length (bs.map ptr))(hall:∀i (h:i<ss.length) (h':i<bs.length),yJ w bs[i] ss[i])(hc:w.cell? ⟨c,0,none⟩=some (.pointer (some ⟨t,0,none⟩)))(hs:yJ w t s):
  Calls prog 145 #[.slice a ss.length cp,.func (.func 120) #[] #[.pointer (some ⟨c,0,none⟩)]] w λe w'=>(∃x:Int,e=.returned (.int .i64 x)/\decide (0<=x)=ss.any (λo=>kL o s))/\Add w w':=by
 obtain ⟨N,hN⟩:∃N,ss.length=N:=⟨_,rfl⟩
 rw [hN] at hrow ⊢
 have HN:Hid (ss.length=N):=hN
 have HL:Hid (bs.length=ss.length):=hl
 have HLE:Hid (N<=12):=Nb
 have HRW:Hid (Row w 1 (.slice a N cp) N (bs.map ptr)):=hrow
 clear hN hl hle hrow
 go_enter func145,ntmps145
 go_wp2
 go_loopw [5,8] (λ_ cnt wr=>∃(j:Nat),j<=N/\cnt=.int .i64 j/\Add w wr/\(ss.take j).any (λo=>kL o s)=false) (λ_ cnt _=>N-(intOf cnt).toNat)
 case atStart=>exact ⟨0,NQ _,rfl,Add.refl _,rfl⟩
 obtain ⟨j,hj,rfl,ha,hv⟩:=hrel
 have HA:Hid (Add w wr):=ha
 have HV:Hid ((ss.take j).any (λo=>kL o s)=false):=hv
 clear ha hv
 by_cases hlt:j<N
 ·have hlt':j<ss.length:=KC
  have hltb:j<bs.length:=by rw [HL.out];exact hlt'
  have ji:=Y51
  have hle:j<=12:=Ll
  have hrg:=HRW.out
  rcases hrg with ⟨he,h0,_⟩|⟨g,cg,he,hg⟩
  ·exfalso;rw [h0] at hlt;omega
  cases he
  have hcell:wr.cell? ⟨g,j,none⟩=some (.pointer (some ⟨bs[j],0,none⟩)):=by
   refine HA.out.cell ?_
   rw [hg.holds j Kc]
   simp [hltb,ptr]
  have hca:=Gt ss[j] s bs[j] t c wr ((hall j hlt' hltb).add HA.out) (hs.add HA.out) (HA.out.cell hc)
  clear hg hall
  generalize hx:kL ss[j] s=x at hca
  have HX:Hid (kL ss[j] s=x):=hx
  clear hx
  generalize bs[j]=bj at hcell hca
  cases x with
  |true=>
   go_wp2_with (go_at_call 120;refine hca.mono ?_;rintro e w1 ⟨rfl,ha1⟩)
   go_ret
   refine ⟨⟨(j:Int),rfl,?_⟩,HA.out.trans ha1⟩
   rw [decide_eq_true (by omega:(0:Int)<=(j:Int))]
   exact (List.any_eq_true.2 ⟨_,NS hlt',HX.out⟩).symm
  |false=>
   have HJ:Hid (j<N):=hlt
   clear hlt
   go_wp2_with (go_at_call 120;refine hca.mono ?_;rintro e w1 ⟨rfl,ha1⟩)
   refine ⟨⟨j+1,by have:=HJ.out;omega,?_,HA.out.trans ha1,?_⟩,?_⟩
   ·rfl
   ·rw [List.take_succ_eq_append_getElem (by rw [HN.out];exact HJ.out),List.any_append,HV.out]
    simp [HX.out]
   exact Z169
 exact Z74
theorem GJ(ss:List Sch)(bs:List Nat)(s:Sch)(t c:Nat)(a:Option Addr)(cp:Nat)(w:World)(hl:bs.length=ss.length)(hle:ss.length<=12)(hrow:Row w 1 (.slice a ss.length cp) ss.length (bs.map ptr))(hall:∀i (h:i<ss.length) (h':i<bs.length),yJ w bs[i] ss[i])(hc:w.cell? ⟨c,0,none⟩=some (.pointer (some ⟨t,0,none⟩)))(hs:yJ w t s):
  Calls prog 121 #[.slice a ss.length cp,.func (.func 120) #[] #[.pointer (some ⟨c,0,none⟩)]] w λe w'=>e=.returned (.bool (ss.any (λo=>kL o s)))/\Add w w':=by
 have hi:=Ig ss bs s t c a cp w hl hle hrow hall hc hs
 clear hl hle hrow hall hc hs
 go_enter func121,ntmps121
 go_wp2_with (go_at_call 145;refine hi.mono ?_;rintro e w1 ⟨⟨x,rfl,hx⟩,ha1⟩;have HX:Hid (decide (0<=x)=ss.any (λo=>kL o s)):=hx;clear hx)
 go_ret
 refine ⟨?_,ha1⟩
 rw [<-HX.out]
 rfl
end
end Go.Proofs.YtmphmjkinmkidaaGreatDoor
