import Derived.Test.YtjglgbepobmjhaaGreatDoorP39
import Derived.Test.YtjglgbepobmjhaaGreatDoorP18
set_option linter.unusedVariables false
set_option linter.unusedSimpArgs false
set_option maxRecDepth 20000
set_option maxHeartbeats 8000000
namespace Go.Proofs.YtjglgbepobmjhaaGreatDoor.M
open Go.RowKit
attribute [local go_sem] run_store_float
def watV:Value:=.func (.func 17) #[] #[]
def mach0 (pv:Value) (t d c:Int):MachD:={ protos:=pv,ticks:=t,depth:=d,cells:=c,watch:=watV,code:=0,recs:=.slice none 0 0,vals:=.slice none 0 0,err:=⟨#[]⟩,trace:=⟨#[]⟩,rticks:=0,made:=0,tables:=.slice none 0 0,tasks:=.slice none 0 0,running:=.pointer none,living:=0,since:=0 }
theorem build_mach (W:World) (a:Option Addr) (n cap:Nat) (t d c:Int):(Instr.build 109 #[(0,.slice a n cap),(1,.agg #[.slice none 0 0,.slice none 0 0,.int .i64 t,.int .i64 d,.int .i64 c]),(2,.func (.func 17) #[] #[]),(4,.agg instA),(5,.agg buiA)]).run Tryz.prog W=.ok (.agg (mach0 (.slice a n cap) t d c).arr) W:=by kernel_rfl
theorem wp_build_run {P:Program} {o:Oper} {a:Act} {w:World} {K:Act→World→Prop} {Q:Exit→Act→World→Prop} (t:TypeId) (parts:Array (Nat × Operand)) (hop:o.op=Op.build t parts) (ps:Array (Nat × Value)) (hp:(parts.map fun (i,x)=>(i,a.eval x))=ps) (v:Value)
  (hrun:(Instr.build t ps).run P w=.ok v w) (hK:K (a.put o.dst v) w):Oper.wp P o a w K Q:=by
 unfold Oper.wp
 simp only[execOp,hop,hp,Sem.run_bind,hrun,Result.andThen_ok,Sem.run_pure,Oper.upon_value]
 exact hK
structure RMac (W:World) (B:Nat) (a:Option Addr) (n cap:Nat) (t d c:Int) (w':World) (b0 b1 b2 b3 b4 b5 b6 b7 b8:Bool) (x0 x1 x2 x3 x4 x5 x6 x7 x8:Value):Prop where
 P:Below W.heap.size W w'
 m6:b6=true→b4=true∧b5=true
 m7:b7=true→b6=true∧∃g,x7=.pointer (some ⟨g,0,none⟩)∧W.heap.size≤g∧MachAt w' g (mach0 (.slice a n cap) t d c)
 m8:b8=true→b7=true∧x8=x7
 f0:b0=true→x0=.pointer (some ⟨B,0,none⟩)
 f1:b1=true→x1=.slice a n cap
 f2:b2=true→x2=.agg #[.slice none 0 0,.slice none 0 0,.int .i64 t,.int .i64 d,.int .i64 c]
 f3:b3=true→x3=.func (.func 17) #[] #[]
 f4:b4=true→x4=.agg instA
 f5:b5=true→x5=.agg buiA
 f6:b6=true→x6=.agg (mach0 (.slice a n cap) t d c).arr
theorem newMachine_any (a:Option Addr) (n cap:Nat) (t d c:Int) (w:World) :
  Calls Tryz.prog 24 #[.agg #[.slice a n cap],.agg #[.slice none 0 0,.slice none 0 0,.int .i64 t,.int .i64 d,.int .i64 c],.func (.func 17) #[] #[]] w fun e w'=>∃gm gt gk gch cap',e=.returned (.pointer (some ⟨gm,0,none⟩))∧w.heap.size≤gm∧MachAt w' gm { mach0 (.slice a n cap) t d c with tasks:=.slice (some ⟨gk,0,none⟩) 1 cap',running:=.pointer (some ⟨gt,0,none⟩) }∧w'.heap[gt]?=some (.cells (taskA (.slice none 0 0) gch 2) 145)∧w.heap.size≤gt∧w'.heap[gch]?=some (.chan 0 #[] false 0 0 false)∧w.heap.size≤gch∧ORow w' w.heap.size 97 1 pC (.slice (some ⟨gk,0,none⟩) 1 cap') [gt]∧Below w.heap.size w w':=by
 obtain⟨W,hW⟩:∃W,(w.alloc (.cells #[.slice a n cap] 26)).alloc (.cells #[.slice none 0 0,.slice none 0 0,.int .i64 t,.int .i64 d,.int .i64 c] 37)=W:=⟨_,rfl⟩
 have hb:Below w.heap.size w W:=by rw[←hW];exact bw2 _ _ _
 have HB0:Hid (W.heap[w.heap.size]?=some (.cells #[.slice a n cap] 26)):=by show _=_;rw[←hW];exact blk_old (blk_new _ _) _
 have HB1:Hid (W.heap[w.heap.size+1]?=some (.cells #[.slice none 0 0,.slice none 0 0,.int .i64 t,.int .i64 d,.int .i64 c] 37)):=by show _=_;rw[←hW];exact blk_newn (by simp) _
 have HC:Hid (∀wk,Below W.heap.size W wk→wk.cell? ⟨w.heap.size,0,none⟩=some (.slice a n cap)∧wk.cell? ⟨w.heap.size+1,0,none⟩=some (.slice none 0 0)∧wk.cell? ⟨w.heap.size+1,1,none⟩=some (.slice none 0 0)∧wk.cell? ⟨w.heap.size+1,2,none⟩=some (.int .i64 t)∧wk.cell? ⟨w.heap.size+1,3,none⟩=some (.int .i64 d)∧wk.cell? ⟨w.heap.size+1,4,none⟩=some (.int .i64 c)):=by
  intro wk hk
  refine⟨?_,?_,?_,?_,?_,?_⟩
  ·rw[blk_cell (blk_later hk HB0.out)];rfl
  all_goals (rw[blk_cell (blk_later hk HB1.out)];rfl)
 obtain⟨x0,x1,x2,x3,x4,x5⟩:=HC.out W (Below.refl _ _)
 have HB:Hid (Below w.heap.size w W):=hb
 have HWb:Hid (Below W.heap.size W W):=Below.refl _ _
 clear hb HB0 HB1
 go_enter Tryz.func24,Tryz.ntmps24
 go_wp2_with fail
 clear hW
 go_cut [7] from 8 to 15 (fun s7 wx=>∃gm,s7=.pointer (some ⟨gm,0,none⟩)∧W.heap.size≤gm∧Hid (MachAt wx gm (mach0 (.slice a n cap) t d c))∧Hid (Below W.heap.size W wx))
 case first =>
  refine wp_region_inv (by kernel_rfl) (fun base listed a' w'=>∃b0 b1 b2 b3 b4 b5 b6 b7 b8 x0 x1 x2 x3 x4 x5 x6 x7 x8,listed=#[b0,b1,b2,b3,b4,b5,b6,b7,b8]∧a'=(((((((((base.put (some 8) x0).put (some 9) x1).put (some 10) x2).put (some 11) x3).put (some 12) x4).put (some 13) x5).put (some 14) x6).put (some 15) x7).put (some 7) x8)∧RMac W w.heap.size a n cap t d c w' b0 b1 b2 b3 b4 b5 b6 b7 b8 x0 x1 x2 x3 x4 x5 x6 x7 x8) ?_ ?_ ?_
  ·exact⟨false,false,false,false,false,false,false,false,false,undef,undef,undef,undef,undef,undef,undef,undef,undef,rfl,by kernel_rfl,⟨(Below.refl _ _).drew,nofun,nofun,nofun,nofun,nofun,nofun,nofun,nofun,nofun,nofun⟩⟩
  ·rintro i listed a' w' ⟨b0,b1,b2,b3,b4,b5,b6,b7,b8,x0,x1,x2,x3,x4,x5,x6,x7,x8,rfl,rfl,hI⟩ hr
   have hi:=ready_lt hr
   have hun:=(mem_ready.1 hr).1
   simp only[List.size_toArray,List.length_cons,List.length_nil,Nat.zero_add,Nat.reduceAdd]at hi
   have hi':i=0∨i=1∨i=2∨i=3∨i=4∨i=5∨i=6∨i=7∨i=8:=by omega
   clear hi
   rcases hi' with rfl | rfl | rfl | rfl | rfl | rfl | rfl | rfl | rfl
   ·have hbi:b0=false:=by simpa using hun
    subst hbi 
    clear hr hun
    refine wpOp_step rfl (fun K hK=>?_)
    go_simp
    exact hK _ _ ⟨true,b1,b2,b3,b4,b5,b6,b7,b8,(.pointer (some ⟨w.heap.size,0,none⟩)),x1,x2,x3,x4,x5,x6,x7,x8,rfl,by kernel_rfl,{ hI with f0:=fun _=>rfl }⟩
   ·have hbi:b1=false:=by simpa using hun
    have e0:b0=true:=by simpa using ready_dep hr rfl ⟨0,.data⟩ (by simp) rfl
    subst hbi e0
    clear hr hun
    obtain rfl:=hI.f0 rfl
    obtain⟨y0,y1,y2,y3,y4,y5⟩:=HC.out w' hI.P
    refine wpOp_step rfl (fun K hK=>?_)
    go_simp
    exact hK _ _ ⟨true,true,b2,b3,b4,b5,b6,b7,b8,(.pointer (some ⟨w.heap.size,0,none⟩)),(.slice a n cap),x2,x3,x4,x5,x6,x7,x8,rfl,by kernel_rfl,{ hI with f1:=fun _=>rfl }⟩
   ·have hbi:b2=false:=by simpa using hun
    subst hbi 
    clear hr hun
    obtain⟨y0,y1,y2,y3,y4,y5⟩:=HC.out w' hI.P
    refine wpOp_step rfl (fun K hK=>?_)
    go_simp
    exact hK _ _ ⟨b0,b1,true,b3,b4,b5,b6,b7,b8,x0,x1,(.agg #[.slice none 0 0,.slice none 0 0,.int .i64 t,.int .i64 d,.int .i64 c]),x3,x4,x5,x6,x7,x8,rfl,by kernel_rfl,{ hI with f2:=fun _=>rfl }⟩
   ·have hbi:b3=false:=by simpa using hun
    subst hbi 
    clear hr hun
    refine wpOp_step rfl (fun K hK=>?_)
    go_simp
    exact hK _ _ ⟨b0,b1,b2,true,b4,b5,b6,b7,b8,x0,x1,x2,(.func (.func 17) #[] #[]),x4,x5,x6,x7,x8,rfl,by kernel_rfl,{ hI with f3:=fun _=>rfl }⟩
   ·have hbi:b4=false:=by simpa using hun
    have n6:b6=false:=by
     cases hg:b6 with
     | false=>rfl
     | true=>have h9:=(hI.m6 hg).1;rw[hbi]at h9;cases h9
    have n7:b7=false:=by
     cases hg:b7 with
     | false=>rfl
     | true=>have h9:=(hI.m6 (hI.m7 hg).1).1;rw[hbi]at h9;cases h9
    have n8:b8=false:=by
     cases hg:b8 with
     | false=>rfl
     | true=>have h9:=(hI.m6 (hI.m7 (hI.m8 hg).1).1).1;rw[hbi]at h9;cases h9
    subst hbi n6 n7 n8
    clear hr hun
    refine wpOp_step rfl (fun K hK=>?_)
    go_simp
    refine (instr_any _).mono ?_
    rintro e w1 ⟨rfl,hx⟩
    have hP1:Below W.heap.size W w1:=hI.P.trans (hx.mono hI.P.size)
    exact hK _ _ ⟨b0,b1,b2,b3,true,b5,false,false,false,x0,x1,x2,x3,(.agg instA),x5,x6,x7,x8,rfl,by kernel_rfl,{ hI with P:=hP1,m6:=nofun,m7:=nofun,m8:=nofun,f4:=fun _=>rfl,f6:=nofun }⟩
   ·have hbi:b5=false:=by simpa using hun
    have e4:b4=true:=by simpa using ready_dep hr rfl ⟨4,.chain⟩ (by simp) rfl
    have n6:b6=false:=by
     cases hg:b6 with
     | false=>rfl
     | true=>have h9:=(hI.m6 hg).2;rw[hbi]at h9;cases h9
    have n7:b7=false:=by
     cases hg:b7 with
     | false=>rfl
     | true=>have h9:=(hI.m6 (hI.m7 hg).1).2;rw[hbi]at h9;cases h9
    have n8:b8=false:=by
     cases hg:b8 with
     | false=>rfl
     | true=>have h9:=(hI.m6 (hI.m7 (hI.m8 hg).1).1).2;rw[hbi]at h9;cases h9
    subst hbi e4 n6 n7 n8
    clear hr hun
    obtain rfl:=hI.f4 rfl
    refine wpOp_step rfl (fun K hK=>?_)
    go_simp
    refine (built_any _).mono ?_
    rintro e w1 ⟨rfl,hx⟩
    have hP1:Below W.heap.size W w1:=hI.P.trans (hx.mono hI.P.size)
    exact hK _ _ ⟨b0,b1,b2,b3,true,true,false,false,false,x0,x1,x2,x3,(.agg instA),(.agg buiA),x6,x7,x8,rfl,by kernel_rfl,{ hI with P:=hP1,m6:=nofun,m7:=nofun,m8:=nofun,f5:=fun _=>rfl,f6:=nofun }⟩
   ·have hbi:b6=false:=by simpa using hun
    have e1:b1=true:=by simpa using ready_dep hr rfl ⟨1,.data⟩ (by simp) rfl
    have e2:b2=true:=by simpa using ready_dep hr rfl ⟨2,.data⟩ (by simp) rfl
    have e3:b3=true:=by simpa using ready_dep hr rfl ⟨3,.data⟩ (by simp) rfl
    have e4:b4=true:=by simpa using ready_dep hr rfl ⟨4,.data⟩ (by simp) rfl
    have e5:b5=true:=by simpa using ready_dep hr rfl ⟨5,.data⟩ (by simp) rfl
    have n7:b7=false:=by
     cases hg:b7 with
     | false=>rfl
     | true=>have h9:=(hI.m7 hg).1;rw[hbi]at h9;cases h9
    have n8:b8=false:=by
     cases hg:b8 with
     | false=>rfl
     | true=>have h9:=(hI.m7 (hI.m8 hg).1).1;rw[hbi]at h9;cases h9
    subst hbi e1 e2 e3 e4 e5 n7 n8
    clear hr hun
    obtain rfl:=hI.f1 rfl
    obtain rfl:=hI.f2 rfl
    obtain rfl:=hI.f3 rfl
    obtain rfl:=hI.f4 rfl
    obtain rfl:=hI.f5 rfl
    refine wpOp_step rfl (fun K hK=>?_)
    refine wp_build_run 109 #[(0,.tmp 9),(1,.tmp 10),(2,.tmp 11),(4,.tmp 12),(5,.tmp 13)] rfl #[(0,.slice a n cap),(1,.agg #[.slice none 0 0,.slice none 0 0,.int .i64 t,.int .i64 d,.int .i64 c]),(2,.func (.func 17) #[] #[]),(4,.agg instA),(5,.agg buiA)] (by simp only[List.map_toArray,List.map_cons,List.map_nil];kernel_rfl) (.agg (mach0 (.slice a n cap) t d c).arr) (build_mach _ a n cap t d c) ?_
    exact hK _ _ ⟨b0,true,true,true,true,true,true,false,false,x0,(.slice a n cap),(.agg #[.slice none 0 0,.slice none 0 0,.int .i64 t,.int .i64 d,.int .i64 c]),(.func (.func 17) #[] #[]),(.agg instA),(.agg buiA),(.agg (mach0 (.slice a n cap) t d c).arr),x7,x8,rfl,by kernel_rfl,{ hI with m6:=fun _=>⟨rfl,rfl⟩,m7:=nofun,m8:=nofun,f6:=fun _=>rfl }⟩
   ·have hbi:b7=false:=by simpa using hun
    have e6:b6=true:=by simpa using ready_dep hr rfl ⟨6,.data⟩ (by simp) rfl
    have n8:b8=false:=by
     cases hg:b8 with
     | false=>rfl
     | true=>have h9:=(hI.m8 hg).1;rw[hbi]at h9;cases h9
    subst hbi e6 n8
    clear hr hun
    obtain rfl:=hI.f6 rfl
    refine wpOp_step rfl (fun K hK=>?_)
    go_simp
    exact hK _ _ ⟨b0,b1,b2,b3,b4,b5,true,true,false,x0,x1,x2,x3,x4,x5,(.agg (mach0 (.slice a n cap) t d c).arr),(.pointer (some ⟨w'.heap.size,0,none⟩)),x8,rfl,by kernel_rfl,{ hI with P:=hI.P.trans ((bw1 _ _).mono hI.P.size),m7:=fun _=>⟨rfl,_,rfl,hI.P.size,blk_new _ _⟩,m8:=nofun }⟩
   ·have hbi:b8=false:=by simpa using hun
    have e7:b7=true:=by simpa using ready_dep hr rfl ⟨7,.data⟩ (by simp) rfl
    subst hbi e7
    clear hr hun
    obtain⟨_,g7,rfl,h7a,h7b⟩:=hI.m7 rfl
    refine wpOp_step rfl (fun K hK=>?_)
    go_simp
    exact hK _ _ ⟨b0,b1,b2,b3,b4,b5,b6,true,true,x0,x1,x2,x3,x4,x5,x6,(.pointer (some ⟨g7,0,none⟩)),(.pointer (some ⟨g7,0,none⟩)),rfl,by kernel_rfl,{ hI with m8:=fun _=>⟨rfl,rfl⟩ }⟩
  ·rintro listed a' w' ⟨b0,b1,b2,b3,b4,b5,b6,b7,b8,x0,x1,x2,x3,x4,x5,x6,x7,x8,rfl,rfl,hI⟩ hrd
   have e0:b0=true:=by simpa using ready_nextb hrd 0 rfl (by simp[Region.binds])
   have e1:b1=true:=by simpa using ready_nextb hrd 1 rfl (by simp[Region.binds,e0])
   have e2:b2=true:=by simpa using ready_nextb hrd 2 rfl (by simp[Region.binds,e0,e1])
   have e3:b3=true:=by simpa using ready_nextb hrd 3 rfl (by simp[Region.binds,e0,e1,e2])
   have e4:b4=true:=by simpa using ready_nextb hrd 4 rfl (by simp[Region.binds,e0,e1,e2,e3])
   have e5:b5=true:=by simpa using ready_nextb hrd 5 rfl (by simp[Region.binds,e0,e1,e2,e3,e4])
   have e6:b6=true:=by simpa using ready_nextb hrd 6 rfl (by simp[Region.binds,e0,e1,e2,e3,e4,e5])
   have e7:b7=true:=by simpa using ready_nextb hrd 7 rfl (by simp[Region.binds,e0,e1,e2,e3,e4,e5,e6])
   have e8:b8=true:=by simpa using ready_nextb hrd 8 rfl (by simp[Region.binds,e0,e1,e2,e3,e4,e5,e6,e7])
   subst e0 e1 e2 e3 e4 e5 e6 e7 e8
   clear hrd
   obtain⟨_,rfl⟩:=hI.m8 rfl
   obtain⟨_,g7,rfl,h7a,h7b⟩:=hI.m7 rfl
   have hP:=hI.P
   clear hI
   go_wp2_with fail
   go_simp
   go_meet
   exact⟨g7,rfl,h7a,h7b,hP⟩
 case rest =>
  obtain⟨gm,rfl,hgm,HM,HX⟩:=hcut
  clear x0 x1 x2 x3 x4 x5 HC HWb
  go_wp2_with fail
  refine (newTask_any gm _ _ HM.out rfl).mono ?_
  rintro e w2 ⟨gt,gk,gch,cap',rfl,hm2,ht2,hc2,g1,g2,ho2,hb2⟩
  have q75:w2.cell? ⟨gm,75,none⟩=some (.pointer none):=by rw[MachAt.cell hm2];rfl
  have z2:=blk_frozen hm2
  have hm3:MachAt (w2.setCell ⟨gm,75,none⟩ (.pointer (some ⟨gt,0,none⟩))) gm { mach0 (.slice a n cap) t d c with tasks:=.slice (some ⟨gk,0,none⟩) 1 cap',running:=.pointer (some ⟨gt,0,none⟩) }:=by
   have h9:=blk_set hm2 75 (.pointer (some ⟨gt,0,none⟩))
   rw[MachD.set_running]at h9
   exact h9
  have hne:gm≠gt:=ne_ty hm2 ht2 (by decide)
  have ht3:(w2.setCell ⟨gm,75,none⟩ (.pointer (some ⟨gt,0,none⟩))).heap[gt]?=some (.cells (taskA (.slice none 0 0) gch 0) 145):=blk_other ht2 hne _ _
  obtain⟨W3,hW3⟩:∃W3,w2.setCell ⟨gm,75,none⟩ (.pointer (some ⟨gt,0,none⟩))=W3:=⟨_,rfl⟩
  have hc3:W3.heap[gch]?=some (.chan 0 #[] false 0 0 false):=by rw[←hW3];exact blk_other hc2 (fun e=>by rw[e]at hm2;rw[show w2.heap[gch]?=_ from hm2]at hc2;cases hc2) _ _
  have ho3:ORow W3 wc.heap.size 97 1 pC (.slice (some ⟨gk,0,none⟩) 1 cap') [gt]:=by rw[←hW3];exact ORow.set_own ho2 (own_ne ho2 hm2 (by decide)) _ _
  have hb3:ButL [gm] wc W3:=by rw[←hW3];exact hb2.set (by simp) _ _
  rw[hW3]at hm3 ht3
  have r75:W3.cell? ⟨gm,75,none⟩=some (.pointer (some ⟨gt,0,none⟩)):=by rw[MachAt.cell hm3];rfl
  have r2:W3.cell? ⟨gt,2,none⟩=some (.int .i64 0):=by rw[blk_cell ht3];rfl
  have z3:=blk_frozen ht3
  have HE:Hid (MachAt (W3.setCell ⟨gt,2,none⟩ (.int .i64 2)) gm { mach0 (.slice a n cap) t d c with tasks:=.slice (some ⟨gk,0,none⟩) 1 cap',running:=.pointer (some ⟨gt,0,none⟩) }∧(W3.setCell ⟨gt,2,none⟩ (.int .i64 2)).heap[gt]?=some (.cells (taskA (.slice none 0 0) gch 2) 145)∧w.heap.size≤gt∧(W3.setCell ⟨gt,2,none⟩ (.int .i64 2)).heap[gch]?=some (.chan 0 #[] false 0 0 false)∧w.heap.size≤gch∧ORow (W3.setCell ⟨gt,2,none⟩ (.int .i64 2)) w.heap.size 97 1 pC (.slice (some ⟨gk,0,none⟩) 1 cap') [gt]∧Below w.heap.size w (W3.setCell ⟨gt,2,none⟩ (.int .i64 2))):=by
   have hs1:=HB.out.size
   have hs2:=HX.out.size
   have hbw:Below w.heap.size w wc:=HB.out.trans (HX.out.mono hs1)
   refine⟨blk_other hm3 hne.symm _ _,blk_set ht3 2 _,by omega,blk_other hc3 (fun e=>by rw[e]at ht3;rw[ht3]at hc3;cases hc3) _ _,by omega,(ORow.set_own ho3 (own_ne ho3 ht3 (by decide)) _ _).mono (by omega),?_⟩
   exact (hb3.below hbw (fun g hg=>by simp at hg;subst hg;omega) (by omega)).setCell (p:=⟨gt,2,none⟩) (by show w.heap.size≤gt;omega) _
  have hgm2:w.heap.size≤gm:=by have:=HB.out.size;omega
  clear hm2 ht2 hc2 ho2 hb2 hm3 ht3 hc3 ho3 hb3
  go_wp2_with fail
  go_ret
  exact⟨gm,gt,gk,gch,cap',rfl,hgm2,HE.out⟩
end Go.Proofs.YtjglgbepobmjhaaGreatDoor.M
