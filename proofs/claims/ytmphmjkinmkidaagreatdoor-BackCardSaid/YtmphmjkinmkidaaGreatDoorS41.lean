import Derived.LaidEql
import Derived.Stop.Asserts
import Derived.RowKitTokens
import Derived.Test.YtmphmjkinmkidaaGreatDoorS40
set_option linter.defProp false
open Go.Proofs.Tryz
set_option maxRecDepth 8000
set_option maxHeartbeats 4000000
namespace Go.Proofs.YtmphmjkinmkidaaGreatDoor
variable{p:Prop}
section
open Go Go.RowKit Go.Extern.Stop Go.Stop Go.Extern
theorem dde_new(w:World)(pid:Nat)(t:ByteArray):∃w5,w5=(((((w.alloc (.cells #[.pointer (some ⟨pid,0,none⟩)] 53 (0,0))).alloc (.cells #[.int .i64 0,.int .i64 0,.int .u64 0,.string ⟨#[]⟩,.slice none 0 0,.slice none 0 0] 42 (0,0))).alloc (.cells #[.int .i64 0,.int .i64 0,.int .u64 0,.string ⟨#[]⟩,.slice none 0 0,.slice none 0 0] 42 (0,0))).alloc (.cells #[.string t,.int .i64 0,.int .i64 0] 140 (0,0))).alloc (.cells #[.pointer (some ⟨w.heap.size+1+1+1,0,none⟩)] 138 (0,0)))/\Add w w5/\w5.heap.size=w.heap.size+5/\w5.heap[w.heap.size]?=some (.cells #[.pointer (some ⟨pid,0,none⟩)] 53 (0,0))/\w5.heap[w.heap.size+1]?=some (.cells #[.int .i64 0,.int .i64 0,.int .u64 0,.string ⟨#[]⟩,.slice none 0 0,.slice none 0 0] 42 (0,0))/\w5.heap[w.heap.size+2]?=some (.cells #[.int .i64 0,.int .i64 0,.int .u64 0,.string ⟨#[]⟩,.slice none 0 0,.slice none 0 0] 42 (0,0))/\w5.heap[w.heap.size+3]?=some (.cells #[.string t,.int .i64 0,.int .i64 0] 140 (0,0))/\w5.heap[w.heap.size+4]?=some (.cells #[.pointer (some ⟨w.heap.size+1+1+1,0,none⟩)] 138 (0,0)):=by
 refine ⟨_,rfl,?_⟩
 have a1:=ae w (.cells #[.pointer (some ⟨pid,0,none⟩)] 53 (0,0))
 have b1:=dD w (.cells #[.pointer (some ⟨pid,0,none⟩)] 53 (0,0))
 have s1:=dE w (.cells #[.pointer (some ⟨pid,0,none⟩)] 53 (0,0))
 generalize w.alloc (.cells #[.pointer (some ⟨pid,0,none⟩)] 53 (0,0))=w1 at *
 have a2:=ae w1 (.cells #[.int .i64 0,.int .i64 0,.int .u64 0,.string ⟨#[]⟩,.slice none 0 0,.slice none 0 0] 42 (0,0))
 have b2:=dD w1 (.cells #[.int .i64 0,.int .i64 0,.int .u64 0,.string ⟨#[]⟩,.slice none 0 0,.slice none 0 0] 42 (0,0))
 have s2:=dE w1 (.cells #[.int .i64 0,.int .i64 0,.int .u64 0,.string ⟨#[]⟩,.slice none 0 0,.slice none 0 0] 42 (0,0))
 generalize w1.alloc (.cells #[.int .i64 0,.int .i64 0,.int .u64 0,.string ⟨#[]⟩,.slice none 0 0,.slice none 0 0] 42 (0,0))=w2 at *
 have a3:=ae w2 (.cells #[.int .i64 0,.int .i64 0,.int .u64 0,.string ⟨#[]⟩,.slice none 0 0,.slice none 0 0] 42 (0,0))
 have b3:=dD w2 (.cells #[.int .i64 0,.int .i64 0,.int .u64 0,.string ⟨#[]⟩,.slice none 0 0,.slice none 0 0] 42 (0,0))
 have s3:=dE w2 (.cells #[.int .i64 0,.int .i64 0,.int .u64 0,.string ⟨#[]⟩,.slice none 0 0,.slice none 0 0] 42 (0,0))
 generalize w2.alloc (.cells #[.int .i64 0,.int .i64 0,.int .u64 0,.string ⟨#[]⟩,.slice none 0 0,.slice none 0 0] 42 (0,0))=w3 at *
 have a4:=ae w3 (.cells #[.string t,.int .i64 0,.int .i64 0] 140 (0,0))
 have b4:=dD w3 (.cells #[.string t,.int .i64 0,.int .i64 0] 140 (0,0))
 have s4:=dE w3 (.cells #[.string t,.int .i64 0,.int .i64 0] 140 (0,0))
 generalize w3.alloc (.cells #[.string t,.int .i64 0,.int .i64 0] 140 (0,0))=w4 at *
 have a5:=ae w4 (.cells #[.pointer (some ⟨w.heap.size+1+1+1,0,none⟩)] 138 (0,0))
 have b5:=dD w4 (.cells #[.pointer (some ⟨w.heap.size+1+1+1,0,none⟩)] 138 (0,0))
 have s5:=dE w4 (.cells #[.pointer (some ⟨w.heap.size+1+1+1,0,none⟩)] 138 (0,0))
 generalize w4.alloc (.cells #[.pointer (some ⟨w.heap.size+1+1+1,0,none⟩)] 138 (0,0))=w5 at *
 have e1:w1.heap.size=w.heap.size+1:=s1
 have e2:w2.heap.size=w.heap.size+2:=Kc
 have e3:w3.heap.size=w.heap.size+3:=Kc
 have e4:w4.heap.size=w.heap.size+4:=Kc
 rw [e1] at b2
 rw [e2] at b3
 rw [e3] at b4
 rw [e4] at b5
 have a45:=a4.trans a5
 have a35:=a3.trans a45
 have a25:=a2.trans a35
 exact ⟨a1.trans a25,by omega,(a25.old _ Kc).trans b1,(a35.old _ Kc).trans b2,(a45.old _ Kc).trans b3,(a5.old _ Kc).trans b4,b5⟩
theorem rdr_new{w:World}{rb:Nat}{t:ByteArray}(h:w.heap[rb]?=some (.cells #[.string t,.int .i64 0,.int .i64 0] 140 (0,0))):Rdr w rb t (0:Nat) (0:Nat):=by
 constructor
 all_goals first|(unfold World.cell?;rw [h];rfl)|(unfold World.frozen?;rw [h];simp)
theorem dde_ok{w w2 w5 w6 w7 w8:World}{v0 v1 v2 v3 v4 v5:Value}{j:Nat}{l:Int}{t:ByteArray}(hS:w5.heap.size=w.heap.size+5/\w6.heap.size=w5.heap.size+1)(hB1:w6.heap[w.heap.size+1]?=some (.cells #[.int .i64 0,.int .i64 0,.int .u64 0,.string ⟨#[]⟩,.slice none 0 0,.slice none 0 0] 42 (0,0)))(hB2:w6.heap[w.heap.size+2]?=some (.cells #[.int .i64 0,.int .i64 0,.int .u64 0,.string ⟨#[]⟩,.slice none 0 0,.slice none 0 0] 42 (0,0)))(hB4:w6.heap[w.heap.size+4]?=some (.cells #[.pointer (some ⟨w.heap.size+1+1+1,0,none⟩)] 138 (0,0)))
  (hu:Upd (w.heap.size+3) w6 w2) (hd:Rdr w2 (w.heap.size+3) t j l) (hw7:w7=dV w2 (w.heap.size+2) v0 v1 v2 v3 v4 v5) (hw8:w8=w7.setCell ⟨w5.heap.size,0,none⟩ .nilIface):
  (∀i,i≠w5.heap.size->i≠w.heap.size+2->w8.heap[i]?=w2.heap[i]?)/\w8.heap.size=w2.heap.size/\w8.os=w2.os/\w8.output=w2.output/\w8.heap[w.heap.size+1]?=some (.cells #[.int .i64 0,.int .i64 0,.int .u64 0,.string ⟨#[]⟩,.slice none 0 0,.slice none 0 0] 42 (0,0))/\w8.heap[w.heap.size+1+1]?=some (.cells #[v0,v1,v2,v3,v4,v5] 42 (0,0))/\w8.cell? ⟨w.heap.size+1+1+1+1,0,none⟩=some (.pointer (some ⟨w.heap.size+1+1+1,0,none⟩))/\w8.cell? ⟨w.heap.size+1+1+1,1,none⟩=some (.int .i64 (j:Int)):=by
 have hz7:=hu.size
 have e8:∀i,i≠w5.heap.size->i≠w.heap.size+2->w8.heap[i]?=w2.heap[i]?:=λi h1 h2=>by
  rw [hw8,NZ _ _ _ _ (by exact h1),hw7]
  exact dI _ _ _ _ _ _ _ _ i h2
 have s8:w8.heap.size=w2.heap.size:=by
  rw [hw8,(CG w7 w5.heap.size 0 .nilIface).2.1,hw7,dP]
 have ho:w8.os=w2.os:=by rw [hw8];show w7.os=w2.os;rw [hw7,iF]
 have hp:w8.output=w2.output:=by rw [hw8];show w7.output=w2.output;rw [hw7,eX]
 have hb1:=(e8 (w.heap.size+1) Kc Kc).trans ((hu.old _ Kc Kc).trans hB1)
 have hb4:=(e8 (w.heap.size+4) Kc Kc).trans ((hu.old _ Kc Kc).trans hB4)
 have hb2:w8.heap[w.heap.size+2]?=some (.cells #[v0,v1,v2,v3,v4,v5] 42 (0,0)):=by
  rw [hw8,NZ _ _ _ _ (by show w.heap.size+2≠w5.heap.size;omega),hw7]
  exact fF ((hu.old _ Kc Kc).trans hB2) _ _ _ _ _ _
 have hc3:w8.cell? ⟨w.heap.size+3,1,none⟩=some (.int .i64 (j:Int)):=(NY (a:=⟨w.heap.size+3,1,none⟩) (e8 (w.heap.size+3) Kc Kc)).trans hd.c1
 have hc4:w8.cell? ⟨w.heap.size+4,0,none⟩=some (.pointer (some ⟨w.heap.size+1+1+1,0,none⟩)):=by unfold World.cell?;rw [hb4];rfl
 exact ⟨e8,s8,ho,hp,hb1,hb2,hc4,hc3⟩
theorem EB{v0 v1 v2 v3 v4 v5 u0 u1 u2 u3 u4 u5:Value}(h:[v0,v1,v2,v3,v4,v5]=[u0,u1,u2,u3,u4,u5]):v0=u0/\v1=u1/\v2=u2/\v3=u3/\v4=u4/\v5=u5:=by
 simpa using h
theorem FW(w:World)(a:Addr):w.drew.cell? a=w.cell? a:=rfl
theorem IL{W:World}{B:Nat}{v0 v1 v2 v3 v4 v5:Value}{T:TypeId}(h:W.heap[B]?=some (.cells #[v0,v1,v2,v3,v4,v5] T (0,0))):
  W.drew.cell? ⟨B,0,none⟩=some v0/\W.drew.cell? ⟨B,1,none⟩=some v1/\W.drew.cell? ⟨B,2,none⟩=some v2/\W.drew.cell? ⟨B,3,none⟩=some v3/\W.drew.cell? ⟨B,4,none⟩=some v4/\W.drew.cell? ⟨B,5,none⟩=some v5/\∀k,W.drew.frozen? ⟨B,k,none⟩=false:=dF (W:=W.drew) h
def DecPost(O:DR)(t:ByteArray)(s r d m:Value)(w:World)(e:Ending)(w':World):Prop:=
 Add w w'/\((O=none/\∃x,zf s r d m x/\e=.returned (.tuple #[.agg #[.int .i64 0,.int .i64 0,.int .u64 0,.string ⟨#[]⟩,.slice none 0 0,.slice none 0 0],.int .i64 0,x]))\/∃x j l v0 v1 v2 v3 v4 v5,O=some (x,j,l)/\e=.returned (.tuple #[.agg #[v0,v1,v2,v3,v4,v5],.int .i64 (j:Int),.nilIface])/\x.liesO (λb=>w.heap.size<=b) w' [v0,v1,v2,v3,v4,v5]/\j<=t.size)
theorem Cs{w:World}{tab:List TNode}{pl:Nat->Nat}{t:ByteArray}{s r d m:Value}{id:Nat}(hid:id<tab.length)(hL:Lay w tab pl)(hE:WErr w s r d m)(hT:mq w)(hN:34<=w.heap.size)(hz:t.size<=70368744177000):
  Calls prog 36 #[.pointer (some ⟨pl id,0,none⟩),.string t] w λe w'=>DecPost (jt t tab 64 id 0 0) t s r d m w e w':=by
 have hmf:=Y37
 obtain ⟨w5,hw5,hA5,s5,b0,b1,b2,b3,b4⟩:=dde_new w (pl id) t
 have hAE:=ae w5 (.cells #[.nilIface] 57)
 have hbE:=dD w5 (.cells #[.nilIface] 57)
 have hsE:=dE w5 (.cells #[.nilIface] 57)
 have hA6:=hA5.trans hAE
 have b0E:=(hAE.old _ Kc).trans b0
 have b2E:=(hAE.old _ Kc).trans b2
 have b3E:=(hAE.old _ Kc).trans b3
 have b4E:=(hAE.old _ Kc).trans b4
 have hD:Dcd w (w5.alloc (.cells #[.nilIface] 57)) tab pl (w.heap.size+3) t s r d m 0 0:=⟨hL,hE,hT,hN,Old.add hA6,by omega,rdr_new b3E,NQ _,hz,by decide⟩
 have h1:=Bp (rv:=w.heap.size+4) (tx:=w.heap.size) (db:=w.heap.size+2) hid (λn hn=>by obtain ⟨i,hi,rfl⟩:=List.getElem_of_mem hn;exact hL.kinds i hi) hD (by unfold World.cell?;rw [b4E];rfl) (by unfold World.cell?;rw [b0E];rfl) b2E Kc
 have hce:(w5.alloc (.cells #[.nilIface] 57)).cell? ⟨w5.heap.size,0,none⟩=some .nilIface:=by unfold World.cell?;rw [hbE];rfl
 have hfe:(w5.alloc (.cells #[.nilIface] 57)).frozen? ⟨w5.heap.size,0,none⟩=false:=by unfold World.frozen?;rw [hbE];simp
 have hca:=tJ (.pointer (some ⟨w.heap.size+4,0,none⟩)) (.pointer (some ⟨w.heap.size,0,none⟩)) (.pointer (some ⟨w.heap.size+2,0,none⟩)) w5 (λT v w'=>zf s r d m (.iface T v)/\Upd (w.heap.size+3) (w5.alloc (.cells #[.nilIface] 57)) w'/\jt t tab 64 id 0 0=none) (λw'=>∃x j l v0 v1 v2 v3 v4 v5 w2,jt t tab 64 id 0 0=some (x,j,l)/\Upd (w.heap.size+3) (w5.alloc (.cells #[.nilIface] 57)) w2/\x.liesO (λb=>(w5.alloc (.cells #[.nilIface] 57)).heap.size<=b) w2 [v0,v1,v2,v3,v4,v5]/\Dcd w w2 tab pl (w.heap.size+3) t s r d m j l/\w'=dV w2 (w.heap.size+2) v0 v1 v2 v3 v4 v5) (h1.mono λe w' h=>by
  rcases h with ⟨x,hx,he,hu,hO⟩|⟨he,x,j,l,v0,v1,v2,v3,v4,v5,w2,hO,hu,hl,hd,hw'⟩
  ·obtain ⟨v,rfl⟩:=hE.iface hx
   exact ⟨.inl ⟨_,v,he,hx,hu,hO⟩,by have:=hu.size;omega,hu.cell Kc hce,(Oa (a:=⟨w5.heap.size,0,none⟩) (hu.old w5.heap.size Kc Kc)).trans hfe⟩
  have hb:w'.heap[w5.heap.size]?=(w5.alloc (.cells #[.nilIface] 57)).heap[w5.heap.size]?:=by rw [hw',dI _ _ _ _ _ _ _ _ _ Kc];exact hu.old _ Kc Kc
  exact ⟨.inr ⟨he,x,j,l,v0,v1,v2,v3,v4,v5,w2,hO,hu,hl,hd,hw'⟩,by rw [hw',dP];have:=hu.size;omega,(NY (a:=⟨w5.heap.size,0,none⟩) hb).trans hce,(Oa (a:=⟨w5.heap.size,0,none⟩) hb).trans hfe⟩)
 generalize hW6:w5.alloc (.cells #[.nilIface] 57)=w6 at *
 have HA6:=bf hA6
 have HS:Hid (w5.heap.size=w.heap.size+5/\w6.heap.size=w5.heap.size+1):=⟨s5,hsE⟩
 have HB1:=bf ((hAE.old _ Kc).trans b1)
 have HB2:=bf b2E
 have HB4:=bf b4E
 clear hW6 hA5 hAE hbE hsE hA6 b0E b2E b3E b4E hD h1 hce hfe b0 b1 b2 b3 b4 s5 hid hL hT hN hz
 go_enter func36,ntmps36
 go_upto_region 3 with fail
 rw [<-hw5]
 clear hw5
 go_wp2_with (go_at_call 45;(refine hca.mono ?_;rintro e w8 (⟨T,v,w7,rfl,⟨hx,hu,hO⟩,hw8⟩|⟨rfl,w7,⟨x,j,l,v0,v1,v2,v3,v4,v5,w2,hO,hu,hl,hd,hw7⟩,hw8⟩);(have hz7:=hu.size;have hb8:w8.heap[w.heap.size+1]?=some (.cells #[.int .i64 0,.int .i64 0,.int .u64 0,.string ⟨#[]⟩,.slice none 0 0,.slice none 0 0] 42 (0,0)):=(by rw [hw8];exact (NZ _ _ _ _ (by show w.heap.size+1≠w5.heap.size;have:=HS.out;omega)).trans (((ae w7 _).old _ (by have:=HS.out;omega)).trans ((hu.old _ (by have:=HS.out;omega) Kc).trans HB1.out)));obtain ⟨q0,q1,q2,q3,q4,q5,qz⟩:=dF hb8;have y0:=qz 0;have y1:=qz 1;have y2:=qz 2;have y3:=qz 3;have y4:=qz 4;have y5:=qz 5;have hA8:Add w w8:=(by rw [hw8];have h7:=(hu.add HA6.out Kc).trans (ae w7 (.cells #[.iface T v] 153));exact ⟨h7.os,h7.output,by simpa using h7.size,λi hi=>(NZ _ _ _ _ (by show i≠w5.heap.size;have:=HS.out;omega)).trans (h7.old i hi)⟩);have HB8:=bf hb8;have HA8:=bf hA8;have HX:=bf hx;have HO:=bf hO;clear hw8 qz hb8 hA8 hx hO hu hz7);rotate_left;(obtain ⟨dk,dn,db,dt,dna,dka,dnl,dnc,dkl,dkc,hcs⟩:=aO hl;obtain ⟨rfl,rfl,rfl,rfl,rfl,rfl⟩:=EB hcs;clear hcs;obtain ⟨e8,s8,ho8,hp8,hb8,hb82,p4,p3⟩:=dde_ok HS.out HB1.out HB2.out HB4.out hu hd.rdr hw7 hw8;obtain ⟨t0,t1,t2,t3,t4,t5,-⟩:=dF hb82;have HE8:=bf e8;have HS8:=bf s8;have HB8:=bf hb8;have HU:=bf hu;have HO:=bf hO;have HL:=bf hl;have HD:=bf hd;have HO8:Hid (w8.os=w2.os/\w8.output=w2.output):=⟨ho8,hp8⟩;clear hw8 hw7 e8 s8 hb8 hb82 hu hO hl hd ho8 hp8);rotate_right))
 ·obtain ⟨r0,r1,r2,r3,r4,r5,-⟩:=dF (fF HB8.out (.int .i64 0) (.int .i64 0) (.int .u64 0) (.string ⟨#[]⟩) (.slice none 0 0) (.slice none 0 0))
  have hAF:Add w (dV w8 (w.heap.size+1) (.int .i64 0) (.int .i64 0) (.int .u64 0) (.string ⟨#[]⟩) (.slice none 0 0) (.slice none 0 0)):=⟨by rw [iF];exact HA8.out.os,by rw [eX];exact HA8.out.output,by rw [dP];exact HA8.out.size,λi hi=>(dI _ _ _ _ _ _ _ _ i Kc).trans (HA8.out.old i hi)⟩
  clear q0 q1 q2 q3 q4 q5 y0 y1 y2 y3 y4 y5
  unfold dV at r0 r1 r2 r3 r4 r5 hAF
  refine bodyPost_ret (v:=.tuple #[.agg #[.int .i64 0,.int .i64 0,.int .u64 0,.string ⟨#[]⟩,.slice none 0 0,.slice none 0 0],.int .i64 0,.iface T v]) Mh rfl ?_
  exact ⟨hAF,.inl ⟨HO.out,_,HX.out,rfl⟩⟩
 have hb1:=HB8.out
 obtain ⟨q0,q1,q2,q3,q4,q5,qz⟩:=dF hb1
 have y0:=qz 0
 have y1:=qz 1
 have y2:=qz 2
 have y3:=qz 3
 have y4:=qz 4
 have y5:=qz 5
 have hF:∀ {b o:Nat} {x:Value},b≠w.heap.size+1->w8.cell? ⟨b,o,none⟩=some x->(dV w8 (w.heap.size+1) (.int .i64 dk) (.int .i64 dn) (.int .u64 (db:Int)) (.string dt) (.slice dna dnl dnc) (.slice dka dkl dkc)).drew.cell? ⟨b,o,none⟩=some x:=λhb hx=>(FW _ _).trans ((NY (a:=⟨_,_,none⟩) (dI _ _ _ _ _ _ _ _ _ hb)).trans hx)
 have u0:=hF Kc t0
 have u1:=hF Kc t1
 have u2:=hF Kc t2
 have u3:=hF Kc t3
 have u4:=hF Kc t4
 have u5:=hF Kc t5
 have u6:=hF Kc p4
 have u7:=hF Kc p3
 obtain ⟨r0,r1,r2,r3,r4,r5,-⟩:=IL (fF (W:=w8) hb1 (.int .i64 dk) (.int .i64 dn) (.int .u64 (db:Int)) (.string dt) (.slice dna dnl dnc) (.slice dka dkl dkc))
 have hAF:Add w (dV w8 (w.heap.size+1) (.int .i64 dk) (.int .i64 dn) (.int .u64 (db:Int)) (.string dt) (.slice dna dnl dnc) (.slice dka dkl dkc)):=(by
  have h2:=HU.out.add HA6.out Kc
  have h8:=HE8.out
  have hs:=HS.out
  exact ⟨by rw [iF];exact HO8.out.1.trans h2.os,by rw [eX];exact HO8.out.2.trans h2.output,by rw [dP];show _<=w8.heap.size;rw [HS8.out];exact h2.size,λi hi=>(dI _ _ _ _ _ _ _ _ i Kc).trans ((h8 i Kc Kc).trans (h2.old i hi))⟩)
 have hLF:x.liesO (λb=>w.heap.size<=b) (dV w8 (w.heap.size+1) (.int .i64 dk) (.int .i64 dn) (.int .u64 (db:Int)) (.string dt) (.slice dna dnl dnc) (.slice dka dkl dkc)) [.int .i64 dk,.int .i64 dn,.int .u64 (db:Int),.string dt,.slice dna dnl dnc,.slice dka dkl dkc]:=(by
  have hs:=HS.out
  refine aP (λb hb _=>?_) _ _ (aN (ok:=λb=>w6.heap.size<=b) ⟨?_,λi hi hl=>?_⟩ _ _ HL.out)
  ·show _<=_;have:w6.heap.size<=b:=hb;omega
  ·rw [dP];show _<=w8.heap.size;rw [HS8.out];exact NL _
  have hi':w6.heap.size<=i:=hi
  exact (dI _ _ _ _ _ _ _ _ i Kc).trans (HE8.out i Kc Kc))
 have HAF:=bf (hAF.trans (af _))
 have HLF:Hid (x.liesO (λb=>w.heap.size<=b) (dV w8 (w.heap.size+1) (.int .i64 dk) (.int .i64 dn) (.int .u64 (db:Int)) (.string dt) (.slice dna dnl dnc) (.slice dka dkl dkc)).drew [.int .i64 dk,.int .i64 dn,.int .u64 (db:Int),.string dt,.slice dna dnl dnc,.slice dka dkl dkc]):=aN ⟨(af _).size,λi _ hl=>(af _).old i hl⟩ _ _ hLF
 clear qz hb1 hF hAF hLF
 unfold dV at u0 u1 u2 u3 u4 u5 u6 u7 r0 r1 r2 r3 r4 r5 HAF HLF
 refine wp_region_held_drew (S:=(λw'=>w'.cell? ⟨w.heap.size+1+1,0,none⟩=some (.int .i64 dk)/\w'.cell? ⟨w.heap.size+1+1,1,none⟩=some (.int .i64 dn)/\w'.cell? ⟨w.heap.size+1+1,2,none⟩=some (.int .u64 (db:Int))/\w'.cell? ⟨w.heap.size+1+1,3,none⟩=some (.string dt)/\w'.cell? ⟨w.heap.size+1+1,4,none⟩=some (.slice dna dnl dnc)/\w'.cell? ⟨w.heap.size+1+1,5,none⟩=some (.slice dka dkl dkc)/\w'.cell? ⟨w.heap.size+1+1+1+1,0,none⟩=some (.pointer (some ⟨w.heap.size+1+1+1,0,none⟩))/\w'.cell? ⟨w.heap.size+1+1+1,1,none⟩=some (.int .i64 (j:Int)))) Kf ?_ (λhH=>?_)
 ·exact ⟨t0,t1,t2,t3,t4,t5,p4,p3⟩
 apply tk 0
 apply tk 1
 apply tk 2
 apply tk 3
 apply tk 4
 apply rd 5
 intro K hK
 go_simp
 generalize ((((((w8.setCell ⟨w.heap.size+1,0,none⟩ (.int .i64 dk)).setCell ⟨w.heap.size+1,1,none⟩ (.int .i64 dn)).setCell ⟨w.heap.size+1,2,none⟩ (.int .u64 (db:Int))).setCell ⟨w.heap.size+1,3,none⟩ (.string dt)).setCell ⟨w.heap.size+1,4,none⟩ (.slice dna dnl dnc)).setCell ⟨w.heap.size+1,5,none⟩ (.slice dka dkl dkc)).drew=wF at u0 u1 u2 u3 u4 u5 u6 u7 r0 r1 r2 r3 r4 r5 HAF HLF ⊢
 refine hK.out _ _ ⟨u0,u1,u2,u3,u4,u5,u6,u7⟩ (λhH=>?_)
 clear hK K
 try simp only [Act.put,List.getElem_toArray,List.getElem_cons_zero,List.getElem_cons_succ,List.setIfInBounds_toArray,List.set_cons_zero,List.set_cons_succ]
 apply tk 6
 apply tk 7
 clear hH
 refine wpAnyH_done Kf ?_ _
 go_wp2
 refine bodyPost_ret (v:=.tuple #[.agg #[.int .i64 dk,.int .i64 dn,.int .u64 (db:Int),.string dt,.slice dna dnl dnc,.slice dka dkl dkc],.int .i64 (j:Int),.nilIface]) Mh rfl ?_
 exact ⟨HAF.out,.inr ⟨x,j,l,_,_,_,_,_,_,HO.out,rfl,HLF.out,HD.out.le⟩⟩
end
section
open Go.RowKit Go.Extern.Stop Go.Stop Go.Extern
def Y205(h:p:=by exact (Option.map_eq_some_iff.1 Tryz.isComp)):p:=h
def Y206(h:p:=by exact (Option.map_eq_some_iff.1 Tryz.isSize)):p:=h
def Y207(h:p:=by exact (run_eql_iface_ptr_other (P:=prog) w underlying57 underlying200 hi hcmp hj (by rw [hjs];decide) hne ha hb)):p:=h
def Z105(h:p:=by
 rw [@run_callFunc_extern prog 51 _ Extern.ReflectliteType.typeOf func51 (by kernel_rfl) (by kernel_rfl) (by kernel_rfl) (by kernel_rfl)]
 kernel_rfl):p:=h
def Z132(h:p:=by
 go_enter func32,ntmps32
 go_wp2
 refine wp_loop_rounds 1 ?_
 rw [rounds_succ]
 go_wp2
 go_ret
 exact ⟨rfl,rfl⟩):p:=h
theorem Tryz.call8E(v:Value)(w:World):(callFunc 51 #[.iface 200 v]).run prog w=.ok (.value (.iface 169 (.agg #[.pointer (some ⟨34,200,none⟩)]))) w:=by
 exact Z105
theorem Tryz.call54(w:World):(callFunc 240 #[.agg #[.pointer (some ⟨34,200,none⟩)]]).run prog w=.ok (.value (.bool true)) w:=by
 rw [@run_callFunc_extern prog 240 _ (Extern.ReflectliteType.method λt=>do Extern.Rtype.noPackHeld "Comparable" t;pure (.bool (<-typeInfo t).comparable)) func240 (by kernel_rfl) (by kernel_rfl) (by kernel_rfl) (by kernel_rfl)]
 kernel_rfl
theorem Tryz.isMethodComparable(v:Value)(w:World):(Go.method 413 169 v "Comparable").run prog w=.ok (240,v) w:=by kernel_rfl
theorem Tryz.isComp:(prog.info? 200).map (·.comparable)=some true:=by kernel_rfl
theorem Tryz.isSize:(prog.info? 202).map (·.size)=some 1:=by kernel_rfl
theorem Tryz.noIsE(v:Value)(xT:TypeId)(w:World):(Instr.typeAssert (.iface 200 v) xT 171 true).run prog w=.ok (.tuple #[.nilIface,.bool false]) w:=run_typeAssert_lacksB underlying171 (by kernel_rfl) (by kernel_rfl) v xT w
theorem Tryz.noUnwrapE(v:Value)(xT:TypeId)(w:World):(Instr.typeAssert (.iface 200 v) xT 174 true).run prog w=.ok (.tuple #[.nilIface,.bool false]) w:=run_typeAssert_lacksB underlying174 (by kernel_rfl) (by kernel_rfl) v xT w
theorem Tryz.noUnwrapsE(v:Value)(xT:TypeId)(w:World):(Instr.typeAssert (.iface 200 v) xT 176 true).run prog w=.ok (.tuple #[.nilIface,.bool false]) w:=run_typeAssert_lacksB underlying176 (by kernel_rfl) (by kernel_rfl) v xT w
theorem wD(a:Addr)(w:World):
  Calls prog 32 #[.iface 200 (.pointer (some a)),.iface 200 (.pointer (some a))] w λe w'=>e=.returned (.bool true)/\w'=w:=by
 obtain ⟨i,hi,hcmp⟩:=Y205
 obtain ⟨j,hj,hjs⟩:=Y206
 have c8:=Tryz.call8E
 have c54:=Tryz.call54
 have mR:=Tryz.isMethodComparable
 have heq:=run_eql_iface_ptr_same (P:=prog) w a underlying57 underlying200 hi hcmp hj
 exact Z132
theorem sZ(a b:Addr)(ca cb:Array Value)(ta tb:TypeId)(w:World)(hne:a≠b)(ha:w.heap[a.block]?=some (.cells ca ta (0,0)))(hb:w.heap[b.block]?=some (.cells cb tb (0,0))):
  Calls prog 32 #[.iface 200 (.pointer (some a)),.iface 200 (.pointer (some b))] w λe w'=>e=.returned (.bool false)/\w'=w:=by
 obtain ⟨i,hi,hcmp⟩:=Y205
 obtain ⟨j,hj,hjs⟩:=Y206
 have c8:=Tryz.call8E
 have c54:=Tryz.call54
 have mR:=Tryz.isMethodComparable
 have nE:=Tryz.noIsE
 have uE:=Tryz.noUnwrapE
 have vE:=Tryz.noUnwrapsE
 have heq:=Y207
 exact Z132
def Z88(h:p:=by
 rw [@run_callFunc_extern prog 226 _ (ReflectliteType.abiMethod λt=>do pure (.int .u8 (<-Rtype.kind t))) func226 (by kernel_rfl) (by kernel_rfl) (by kernel_rfl) (by kernel_rfl)]
 kernel_rfl):p:=h
def Z89(h:p:=by
 rw [@run_callFunc_extern prog 239 _ (ReflectliteType.relation "AssignableTo" ReflectliteType.assignableTo) func239 (by kernel_rfl) (by kernel_rfl) (by kernel_rfl) (by kernel_rfl)]
 kernel_rfl):p:=h
def Ext(w w':World):Prop:=w'.os=w.os/\w'.output=w.output/\w.heap.size<=w'.heap.size/\∀i:Nat,i<w.heap.size->w'.heap[i]?=w.heap[i]?
theorem Ext.refl(w:World):Ext w w:=⟨rfl,rfl,NL _,λ_ _=>rfl⟩
theorem Ext.trans{a b c:World}(h:Ext a b)(k:Ext b c):Ext a c:=
 ⟨k.1.trans h.1,k.2.1.trans h.2.1,NM h.2.2.1 k.2.2.1,λi hi=>(k.2.2.2 i (NK hi h.2.2.1)).trans (h.2.2.2 i hi)⟩
theorem Ext.alloc(w:World)(o:Obj):Ext w (w.alloc o):=by
 refine ⟨rfl,rfl,?_,λi hi=>?_⟩
 ·show w.heap.size<=(w.heap.push o).size
  rw [Array.size_push];omega
 show (w.heap.push o)[i]?=w.heap[i]?
 rw [Array.getElem?_push,if_neg (Nat.ne_of_lt hi)]
theorem Ext.cell{w w':World}(h:Ext w w')(a:Addr)(v:Value)(hv:w.cell? a=some v):w'.cell? a=some v:=by
 have hlt:a.block<w.heap.size:=by
  rcases Nat.lt_or_ge a.block w.heap.size with h|h
  ·exact h
  simp [World.cell?,Array.getElem?_eq_none h] at hv
 rw [<-hv]
 unfold World.cell?
 rw [h.2.2.2 _ hlt]
theorem Ext.row{w w':World}(h:Ext w w')(b:Nat)(o:Obj)(hv:w.heap[b]?=some o):w'.heap[b]?=some o:=by
 have hlt:b<w.heap.size:=by
  rcases Nat.lt_or_ge b w.heap.size with h|h
  ·exact h
  simp [Array.getElem?_eq_none h] at hv
 rw [h.2.2.2 _ hlt,hv]
theorem Ext.kept{w w':World}(h:Ext w w')(may:MemPlace->Prop):w.keptBut w' may:=by
 refine ⟨h.1,h.2.1,λi hi=>?_⟩
 rw [h.2.2.2 i hi]
 cases w.heap[i]? with
 |none=>rfl
 |some o=>
  cases o <;> simp
theorem Tryz.call10(t:Addr)(w:World):(callFunc 53 #[.iface 97 (.pointer (some t))]).run prog w
  = .ok (.value (.agg #[.pointer (some ⟨34,97,none⟩),.pointer (some ⟨w.heap.size,0,none⟩),.int .u64 150])) (w.alloc (.cells #[.pointer (some t)] 97)):=by
 rw [@run_callFunc_extern prog 53 _ (λargs=>ReflectliteValue.unpack (args.getD 0 (.tuple #[]))) func53 (by kernel_rfl) (by kernel_rfl) (by kernel_rfl) (by kernel_rfl)]
 kernel_rfl
theorem Tryz.call11(a:Addr)(w:World):(callFunc 54 #[.agg #[.pointer (some ⟨34,97,none⟩),.pointer (some a),.int .u64 150]]).run prog w
  = .ok (.value (.iface 169 (.agg #[.pointer (some ⟨34,97,none⟩)]))) w:=by
 rw [@run_callFunc_extern prog 54 _ (ReflectliteValue.methodAny (ReflectliteValue.valueError "reflectlite.Value.Type" 0) (λt _ _ _=>ReflectliteType.toType t)) func54 (by kernel_rfl) (by kernel_rfl) (by kernel_rfl) (by kernel_rfl)]
 kernel_rfl
theorem Tryz.methodKind(h:Value)(w:World):(Go.method 413 169 (.agg #[h]) "Kind").run prog w=.ok (226,h) w:=by kernel_rfl
theorem Tryz.methodElem(h:Value)(w:World):(Go.method 413 169 (.agg #[h]) "Elem").run prog w=.ok (241,.agg #[h]) w:=by kernel_rfl
theorem Tryz.methodImplements(h:Value)(w:World):(Go.method 413 169 (.agg #[h]) "Implements").run prog w=.ok (242,.agg #[h]) w:=by kernel_rfl
theorem Tryz.methodAssignableTo(h:Value)(w:World):(Go.method 413 169 (.agg #[h]) "AssignableTo").run prog w=.ok (239,.agg #[h]) w:=by kernel_rfl
theorem Tryz.call30(w:World):(callFunc 226 #[.pointer (some ⟨34,97,none⟩)]).run prog w=.ok (.value (.int .u8 22)) w:=by
 exact Z88
theorem Tryz.call30F(w:World):(callFunc 226 #[.pointer (some ⟨34,95,none⟩)]).run prog w=.ok (.value (.int .u8 22)) w:=by
 exact Z88
theorem Tryz.call55(w:World):(callFunc 241 #[.agg #[.pointer (some ⟨34,97,none⟩)]]).run prog w=.ok (.value (.iface 169 (.agg #[.pointer (some ⟨34,95,none⟩)]))) w:=by
 rw [@run_callFunc_extern prog 241 _ (ReflectliteType.method ReflectliteType.elem) func241 (by kernel_rfl) (by kernel_rfl) (by kernel_rfl) (by kernel_rfl)]
 kernel_rfl
theorem Tryz.call56(w:World):(callFunc 242 #[.agg #[.pointer (some ⟨34,95,none⟩)],.iface 169 (.agg #[.pointer (some ⟨34,57,none⟩)])]).run prog w=.ok (.value (.bool true)) w:=by
 rw [@run_callFunc_extern prog 242 _ (ReflectliteType.relation "Implements" ReflectliteType.implements_) func242 (by kernel_rfl) (by kernel_rfl) (by kernel_rfl) (by kernel_rfl)]
 kernel_rfl
theorem Tryz.call53E(w:World):(callFunc 239 #[.agg #[.pointer (some ⟨34,200,none⟩)],.iface 169 (.agg #[.pointer (some ⟨34,95,none⟩)])]).run prog w=.ok (.value (.bool false)) w:=by
 exact Z89
theorem Tryz.noAsE(v:Value)(xT:TypeId)(w:World):(Instr.typeAssert (.iface 200 v) xT 180 true).run prog w=.ok (.tuple #[.nilIface,.bool false]) w:=run_typeAssert_lacksB underlying180 (by kernel_rfl) (by kernel_rfl) v xT w
theorem Tryz.parts36(a:Addr)(w:World):(ReflectliteValue.parts (.agg #[.pointer (some ⟨34,97,none⟩),.pointer (some a),.int .u64 150])).run prog w=.ok (some (97,a,150)) w:=by kernel_rfl
theorem Tryz.call12(a p:Addr)(W:World)(ha:W.cell? a=some (.pointer (some p))):
  (callFunc 55 #[.agg #[.pointer (some ⟨34,97,none⟩),.pointer (some a),.int .u64 150]]).run prog W=.ok (.value (.bool false)) W:=by
 rw [@run_callFunc_extern prog 55 _ (ReflectliteValue.method (ReflectliteValue.valueError "reflectlite.Value.IsNil" 0) ReflectliteValue.isNil) func55 (by kernel_rfl) (by kernel_rfl) (by kernel_rfl) (by kernel_rfl)]
 change (Sem.run prog (ReflectliteValue.parts (.agg #[.pointer (some ⟨34,97,none⟩),.pointer (some a),.int .u64 150]) >>= _) W).andThen _=_
 simp only [Sem.run_bind,Tryz.parts36,Result.andThen]
 simp [ReflectliteValue.isNil,loadVar,isAgg,underlying,underlying97,ha,Result.andThen]
def Y208(h:p:=by exact (Tryz.call12 ⟨w.heap.size,0,none⟩ t ((w.alloc (.cells #[.pointer (some t)] 97)).alloc (.cells #[.pointer (some ⟨34,97,none⟩),.pointer (some ⟨w.heap.size,0,none⟩),.int .u64 150] 131)) Kh)):p:=h
def Z101(h:p:=by
 rw [rounds_succ]
 go_wp2
 go_ret
 exact ⟨rfl,by repeat first|exact Ext.refl _|exact Ext.trans (Ext.alloc _ _) (Ext.refl _)|refine Ext.trans ?_ (Ext.alloc _ _)⟩):p:=h
def Z134(h:p:=by
 rw [World.cell?_alloc_lt _ _ ⟨17,0,none⟩ Kt,World.cell?_alloc_lt _ _ ⟨17,0,none⟩ hlt];exact hg):p:=h
def Z137(h:p:=by
 rcases Nat.lt_or_ge 17 w.heap.size with h|h
 ·exact h
 simp [World.cell?,Array.getElem?_eq_none h] at hg):p:=h
theorem as_miss(e t:Addr)(w:World)(hg:w.cell? ⟨17,0,none⟩=some (.iface 169 (.agg #[.pointer (some ⟨34,57,none⟩)]))):
  Calls prog 33 #[.iface 200 (.pointer (some e)),.iface 97 (.pointer (some t))] w λev w'=>ev=.returned (.bool false)/\Ext w w':=by
 have c8:=Tryz.call8E
 have mA:=Tryz.methodAssignableTo
 have a53:=Tryz.call53E
 have f10:=Tryz.call10
 have f11:=Tryz.call11
 have mK:=Tryz.methodKind
 have mE:=Tryz.methodElem
 have mI:=Tryz.methodImplements
 have k36:=Tryz.call30
 have k28:=Tryz.call30F
 have e36:=Tryz.call55
 have i28:=Tryz.call56
 have nA:=Tryz.noAsE
 have uE:=Tryz.noUnwrapE
 have vE:=Tryz.noUnwrapsE
 have n12:=Y208
 have hlt:17<w.heap.size:=by
  exact Z137
 have hg2:((w.alloc (.cells #[.pointer (some t)] 97)).alloc (.cells #[.pointer (some ⟨34,97,none⟩),.pointer (some ⟨w.heap.size,0,none⟩),.int .u64 150] 131)).cell? ⟨17,0,none⟩=some (.iface 169 (.agg #[.pointer (some ⟨34,57,none⟩)])):=by
  exact Z134
 go_enter func33,ntmps33
 go_wp2
 refine wp_loop_rounds 1 ?_
 exact Z101
def Y209(h:p:=by exact (show Ext w (w.alloc (.cells #[.iface 200 (.pointer (some (a 0))),.iface 200 (.pointer (some (a 1))),.iface 200 (.pointer (some (a 2))),.iface 200 (.pointer (some (a 3))),.iface 200 (.pointer (some (a 4))),.iface 200 (.pointer (some (a 5))),.iface 200 (.pointer (some (a 6))),.iface 200 (.pointer (some (a 7))),.iface 200 (.pointer (some (a 8))),.iface 200 (.pointer (some (a 9))),.iface 200 (.pointer (some (a 10))),.iface 200 (.pointer (some (a 11))),.iface 200 (.pointer (some (a 12))),.iface 200 (.pointer (some (a 13))),.iface 200 (.pointer (some (a 14))),.iface 200 (.pointer (some (a 15)))] 57)) from Ext.alloc _ _)):p:=h
def Y210(h:p:=by exact (show Ext w ((w.alloc (.cells #[.iface 200 (.pointer (some (a 0))),.iface 200 (.pointer (some (a 1))),.iface 200 (.pointer (some (a 2))),.iface 200 (.pointer (some (a 3))),.iface 200 (.pointer (some (a 4))),.iface 200 (.pointer (some (a 5))),.iface 200 (.pointer (some (a 6))),.iface 200 (.pointer (some (a 7))),.iface 200 (.pointer (some (a 8))),.iface 200 (.pointer (some (a 9))),.iface 200 (.pointer (some (a 10))),.iface 200 (.pointer (some (a 11))),.iface 200 (.pointer (some (a 12))),.iface 200 (.pointer (some (a 13))),.iface 200 (.pointer (some (a 14))),.iface 200 (.pointer (some (a 15)))] 57)).alloc (.cells #[.pointer none] 95)) from hx1.trans (Ext.alloc _ _))):p:=h
def Y211(h:p:=by exact (show (if k<16 then (k:Int)+1 else 0)=(k:Int)+1 from by rw [if_pos hk])):p:=h
def Z139(h:p:=by
 go_round
 case rel=>exact ⟨j+1,by omega,by go_num,by rw [hz]⟩
 simp [intOf];omega):p:=h
def Z142(h:p:=by
 go_round
 case rel=>exact ⟨j+1,by omega,by go_num,by simp⟩
 simp [intOf];omega):p:=h
def Z154(h:p:=by
 by_cases h:k<j
 ·rw [if_pos h,if_pos Kc]
 rw [if_neg h,if_neg Kc]):p:=h
structure Met(a:Nat->Addr)(w:World):Prop where
 cell:∀i,i<16->w.cell? ⟨i,0,none⟩=some (.iface 200 (.pointer (some (a i))))
 apart:∀i j,i<16->j<16->i≠j->a i≠a j
 row:∀i,i<16->∃c t,w.heap[(a i).block]?=some (.cells c t (0,0))
 text:∀i,i<16->∃s:ByteArray,w.cell? (a i)=some (.string s)/\s.toList.isEmpty=false/\s.size<1000
 handle:w.cell? ⟨17,0,none⟩=some (.iface 169 (.agg #[.pointer (some ⟨34,57,none⟩)]))
theorem Met.ext{a:Nat->Addr}{w w':World}(M:Met a w)(h:Ext w w'):Met a w':=
 ⟨λi hi=>h.cell _ _ (M.cell i hi),M.apart,λi hi=>by obtain ⟨c,t,hr⟩:=M.row i hi;exact ⟨c,t,h.row _ _ hr⟩,
 λi hi=>by obtain ⟨s,hs,hz⟩:=M.text i hi;exact ⟨s,h.cell _ _ hs,hz⟩,h.cell _ _ M.handle⟩
def EL(a:Nat->Addr):Array Value:=#[.iface 200 (.pointer (some (a 0))),.iface 200 (.pointer (some (a 1))),.iface 200 (.pointer (some (a 2))),.iface 200 (.pointer (some (a 3))),.iface 200 (.pointer (some (a 4))),.iface 200 (.pointer (some (a 5))),.iface 200 (.pointer (some (a 6))),.iface 200 (.pointer (some (a 7))),.iface 200 (.pointer (some (a 8))),.iface 200 (.pointer (some (a 9))),.iface 200 (.pointer (some (a 10))),.iface 200 (.pointer (some (a 11))),.iface 200 (.pointer (some (a 12))),.iface 200 (.pointer (some (a 13))),.iface 200 (.pointer (some (a 14))),.iface 200 (.pointer (some (a 15)))]
theorem DX(a:Nat->Addr)(j:Nat)(hj:j<16):(EL a)[j]?=some (.iface 200 (.pointer (some (a j)))):=by
 match j,hj with
 |0,_=>rfl
 |1,_=>rfl
 |2,_=>rfl
 |3,_=>rfl
 |4,_=>rfl
 |5,_=>rfl
 |6,_=>rfl
 |7,_=>rfl
 |8,_=>rfl
 |9,_=>rfl
 |10,_=>rfl
 |11,_=>rfl
 |12,_=>rfl
 |13,_=>rfl
 |14,_=>rfl
 |15,_=>rfl
 |n+16,h=>exact absurd h Kc
theorem En(w:World)(a:Nat->Addr)(j:Nat)(hj:j<16):(w.alloc (.cells (EL a) 57)).cell? ⟨w.heap.size,j,none⟩=some (.iface 200 (.pointer (some (a j)))):=by
 rw [World.cell?_alloc_at _ _ _ _ rfl,DX a j hj]
theorem Ap(a:Nat->Addr)(k:Nat)(hk:k<16)(w:World)(M:Met a w):
  Calls prog 19 #[.iface 200 (.pointer (some (a k)))] w λe w'=>e=.returned (.tuple #[.int .i64 (k+1),.int .i64 (-1)])/\Ext w w':=by
 have e0:=M.cell 0 Ke
 have e1:=M.cell 1 Ke
 have e2:=M.cell 2 Ke
 have e3:=M.cell 3 Ke
 have e4:=M.cell 4 Ke
 have e5:=M.cell 5 Ke
 have e6:=M.cell 6 Ke
 have e7:=M.cell 7 Ke
 have e8:=M.cell 8 Ke
 have e9:=M.cell 9 Ke
 have e10:=M.cell 10 Ke
 have e11:=M.cell 11 Ke
 have e12:=M.cell 12 Ke
 have e13:=M.cell 13 Ke
 have e14:=M.cell 14 Ke
 have e15:=M.cell 15 Ke
 have hrows:=M.row
 have hap:=M.apart
 have hg:=M.handle
 have hx1:=Y209
 have hx2:=Y210
 have hgA:=hx2.cell _ _ hg
 obtain ⟨ck,tk,hrk0⟩:=hrows k hk
 have hrk:=hx1.row _ _ hrk0
 clear M
 go_enter func19,ntmps19
 go_wp2_with fail
 clear e0 e1 e2 e3 e4 e5 e6 e7 e8 e9 e10 e11 e12 e13 e14 e15
 go_loop [4,28] (λn i=>∃j:Nat,j<=16/\i=.int .i64 j/\n=.int .i64 (if k<j then (k:Int)+1 else 0)) (λ_ i=>16-(intOf i).toNat)
 case atStart=>exact ⟨0,by omega,rfl,by simp⟩
 obtain ⟨j,hj,rfl,rfl⟩:=hrel
 by_cases hend:j<16
 ·have hcell:=DX a j hend
  obtain ⟨cj,tj,hrj0⟩:=hrows j hend
  have hrj:=hx1.row _ _ hrj0
  have hnew:=En w a j hend
  simp only [EL] at hcell hnew
  by_cases hjk:j=k
  ·subst hjk
   have hz:(if j<j then (j:Int)+1 else 0)=0:=Kh
   rw [hz]
   go_wp2_with (go_at_call 32;refine (wD _ _).mono ?_;rintro e w' ⟨rfl,rfl⟩)
   exact Z142
  have hne:=hap k j hk hend (λh=>hjk h.symm)
  have hz:(if k<j+1 then (k:Int)+1 else 0)=(if k<j then (k:Int)+1 else 0):=by
   exact Z154
  generalize hn:(if k<j then (k:Int)+1 else 0)=n0 at hz ⊢
  go_wp2_with (go_at_call 32;refine (sZ _ _ _ _ _ _ _ hne hrk hrj).mono ?_;rintro e w' ⟨rfl,rfl⟩)
  exact Z139
 obtain rfl:j=16:=Kc
 have hz:=Y211
 rw [hz]
 go_wp2_with (go_at_call 33;refine (as_miss _ _ _ hgA).mono ?_;rintro e w' ⟨rfl,hx⟩)
 go_ret2
 exact ⟨rfl,hx2.trans hx⟩
end
end Go.Proofs.YtmphmjkinmkidaaGreatDoor
