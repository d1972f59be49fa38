import Derived.Test.YtjglgbepobmjhaaGreatDoorP25
import Derived.Test.YtjglgbepobmjhaaGreatDoorP07
import Derived.Test.YtjglgbepobmjhaaGreatDoorP11
import Derived.Test.YtjglgbepobmjhaaGreatDoorP04
import Derived.Test.YtjglgbepobmjhaaGreatDoorP03
set_option linter.unusedVariables false
set_option linter.unusedSimpArgs false
set_option maxRecDepth 20000
set_option maxHeartbeats 8000000
namespace Go.Proofs.YtjglgbepobmjhaaGreatDoor
open Go.RowKit
theorem psil_20 (na nc nd:Int) (m:Nat) (t:Nat) (w:World) (hla:LayAt w) (h0:1≤(20:Int)) (h1:(20:Int)≤42) (ht:t≤6000) :
  Calls Tryz.prog 155 #[IV ⟨20,na,(m:Int),nc,nd⟩,.int .i64 t] w fun e w'=>SlR w [t+1,m] e w':=by
 have HLY:Hid (LayAt w):=hla
 have HT:Hid (tgtI ⟨20,na,(m:Int),nc,nd⟩=(m:Int)):=by show tgtI _=_;unfold tgtI;simp
 clear hla
 have hwr:IntKind.i64.wrap ((t:Int)+1)=(t:Int)+1:=by rw[IntKind.wrap_i64];omega
 obtain⟨g1,cap1,w2,hr,ho2,hg2,_⟩:=OI.app (w:=w.alloc (.cells #[.int .i64 (20:Int),.int .i64 na,.int .i64 (m:Int),.int .i64 nc,.int .i64 nd] 47)) (ORow.nil _ w.heap.size _ _ _) ((t:Int)+1) (by simp) (by simp)
 rw[show (w.alloc (.cells #[.int .i64 (20:Int),.int .i64 na,.int .i64 (m:Int),.int .i64 nc,.int .i64 nd] 47)).heap.size=w.heap.size+1 by simp]at hr
 have HB2:Hid (Below w.heap.size w w2):=(bw1 _ _).trans ((grown_nil (B:=0) (ts:=[]) hg2).mono (by simp))
 have hb2:w2.heap[w.heap.size]?=some (.cells #[.int .i64 (20:Int),.int .i64 na,.int .i64 (m:Int),.int .i64 nc,.int .i64 nd] 47):=blk_later (grown_nil (B:=0) (ts:=[]) hg2) (blk_new _ _)
 have k0:w2.cell? ⟨w.heap.size,0,none⟩=some (.int .i64 (20:Int)):=by rw[blk_cell hb2];rfl
 have k1:w2.cell? ⟨w.heap.size,1,none⟩=some (.int .i64 na):=by rw[blk_cell hb2];rfl
 have k2:w2.cell? ⟨w.heap.size,2,none⟩=some (.int .i64 (m:Int)):=by rw[blk_cell hb2];rfl
 have k3:w2.cell? ⟨w.heap.size,3,none⟩=some (.int .i64 nc):=by rw[blk_cell hb2];rfl
 have k4:w2.cell? ⟨w.heap.size,4,none⟩=some (.int .i64 nd):=by rw[blk_cell hb2];rfl
 have HO2:Hid (OI w2 w.heap.size (.slice (some ⟨g1,0,none⟩) 1 cap1) [(t:Int)+1]):=ho2
 clear hb2 hg2 ho2
 go_enter Tryz.func155,Tryz.ntmps155
 go_wp2_with (first
  | (go_at_call 58;refine (goes_any _ _).mono ?_;rw[show endsB (20:Int)=false from rfl];rintro e w9 ⟨rfl,rfl⟩)
  | (go_at_call 153;refine (target_any ⟨20,na,(m:Int),nc,nd⟩ _ h0 h1 (HLY.out.later HB2.out)).mono ?_;rw[HT.out];rintro e w3 ⟨rfl,hx⟩;have HB3:Hid (Below w.heap.size w w3):=HB2.out.trans (hx.mono HB2.out.size);have HO3:Hid (OI w3 w.heap.size (.slice (some ⟨g1,0,none⟩) 1 cap1) [(t:Int)+1]):=HO2.out.later hx;obtain⟨g3,cap3,w4,hr,ho4,hg4,_⟩:=OI.app (w:=w3) HO3.out (m:Int) (by simp) HB3.out.size;clear hx)
  | (at_builtin;refine wpList_append_run rfl _ _ _ rfl _ _ _ _ rfl rfl hr ?_;clear hr))
 go_ret
 exact⟨⟨_,rfl,ho4⟩,grown_own (B:=0) HO3.out HB3.out hg4⟩
theorem psil_21 (na nc nd:Int) (m:Nat) (t:Nat) (w:World) (hla:LayAt w) (h0:1≤(21:Int)) (h1:(21:Int)≤42) (ht:t≤6000) :
  Calls Tryz.prog 155 #[IV ⟨21,na,(m:Int),nc,nd⟩,.int .i64 t] w fun e w'=>SlR w [t+1,m] e w':=by
 have HLY:Hid (LayAt w):=hla
 have HT:Hid (tgtI ⟨21,na,(m:Int),nc,nd⟩=(m:Int)):=by show tgtI _=_;unfold tgtI;simp
 clear hla
 have hwr:IntKind.i64.wrap ((t:Int)+1)=(t:Int)+1:=by rw[IntKind.wrap_i64];omega
 obtain⟨g1,cap1,w2,hr,ho2,hg2,_⟩:=OI.app (w:=w.alloc (.cells #[.int .i64 (21:Int),.int .i64 na,.int .i64 (m:Int),.int .i64 nc,.int .i64 nd] 47)) (ORow.nil _ w.heap.size _ _ _) ((t:Int)+1) (by simp) (by simp)
 rw[show (w.alloc (.cells #[.int .i64 (21:Int),.int .i64 na,.int .i64 (m:Int),.int .i64 nc,.int .i64 nd] 47)).heap.size=w.heap.size+1 by simp]at hr
 have HB2:Hid (Below w.heap.size w w2):=(bw1 _ _).trans ((grown_nil (B:=0) (ts:=[]) hg2).mono (by simp))
 have hb2:w2.heap[w.heap.size]?=some (.cells #[.int .i64 (21:Int),.int .i64 na,.int .i64 (m:Int),.int .i64 nc,.int .i64 nd] 47):=blk_later (grown_nil (B:=0) (ts:=[]) hg2) (blk_new _ _)
 have k0:w2.cell? ⟨w.heap.size,0,none⟩=some (.int .i64 (21:Int)):=by rw[blk_cell hb2];rfl
 have k1:w2.cell? ⟨w.heap.size,1,none⟩=some (.int .i64 na):=by rw[blk_cell hb2];rfl
 have k2:w2.cell? ⟨w.heap.size,2,none⟩=some (.int .i64 (m:Int)):=by rw[blk_cell hb2];rfl
 have k3:w2.cell? ⟨w.heap.size,3,none⟩=some (.int .i64 nc):=by rw[blk_cell hb2];rfl
 have k4:w2.cell? ⟨w.heap.size,4,none⟩=some (.int .i64 nd):=by rw[blk_cell hb2];rfl
 have HO2:Hid (OI w2 w.heap.size (.slice (some ⟨g1,0,none⟩) 1 cap1) [(t:Int)+1]):=ho2
 clear hb2 hg2 ho2
 go_enter Tryz.func155,Tryz.ntmps155
 go_wp2_with (first
  | (go_at_call 58;refine (goes_any _ _).mono ?_;rw[show endsB (21:Int)=false from rfl];rintro e w9 ⟨rfl,rfl⟩)
  | (go_at_call 153;refine (target_any ⟨21,na,(m:Int),nc,nd⟩ _ h0 h1 (HLY.out.later HB2.out)).mono ?_;rw[HT.out];rintro e w3 ⟨rfl,hx⟩;have HB3:Hid (Below w.heap.size w w3):=HB2.out.trans (hx.mono HB2.out.size);have HO3:Hid (OI w3 w.heap.size (.slice (some ⟨g1,0,none⟩) 1 cap1) [(t:Int)+1]):=HO2.out.later hx;obtain⟨g3,cap3,w4,hr,ho4,hg4,_⟩:=OI.app (w:=w3) HO3.out (m:Int) (by simp) HB3.out.size;clear hx)
  | (at_builtin;refine wpList_append_run rfl _ _ _ rfl _ _ _ _ rfl rfl hr ?_;clear hr))
 go_ret
 exact⟨⟨_,rfl,ho4⟩,grown_own (B:=0) HO3.out HB3.out hg4⟩
theorem psil_38 (na nc nd:Int) (m:Nat) (t:Nat) (w:World) (hla:LayAt w) (h0:1≤(38:Int)) (h1:(38:Int)≤42) (ht:t≤6000) :
  Calls Tryz.prog 155 #[IV ⟨38,na,(m:Int),nc,nd⟩,.int .i64 t] w fun e w'=>SlR w [t+1,m] e w':=by
 have HLY:Hid (LayAt w):=hla
 have HT:Hid (tgtI ⟨38,na,(m:Int),nc,nd⟩=(m:Int)):=by show tgtI _=_;unfold tgtI;simp
 clear hla
 have hwr:IntKind.i64.wrap ((t:Int)+1)=(t:Int)+1:=by rw[IntKind.wrap_i64];omega
 obtain⟨g1,cap1,w2,hr,ho2,hg2,_⟩:=OI.app (w:=w.alloc (.cells #[.int .i64 (38:Int),.int .i64 na,.int .i64 (m:Int),.int .i64 nc,.int .i64 nd] 47)) (ORow.nil _ w.heap.size _ _ _) ((t:Int)+1) (by simp) (by simp)
 rw[show (w.alloc (.cells #[.int .i64 (38:Int),.int .i64 na,.int .i64 (m:Int),.int .i64 nc,.int .i64 nd] 47)).heap.size=w.heap.size+1 by simp]at hr
 have HB2:Hid (Below w.heap.size w w2):=(bw1 _ _).trans ((grown_nil (B:=0) (ts:=[]) hg2).mono (by simp))
 have hb2:w2.heap[w.heap.size]?=some (.cells #[.int .i64 (38:Int),.int .i64 na,.int .i64 (m:Int),.int .i64 nc,.int .i64 nd] 47):=blk_later (grown_nil (B:=0) (ts:=[]) hg2) (blk_new _ _)
 have k0:w2.cell? ⟨w.heap.size,0,none⟩=some (.int .i64 (38:Int)):=by rw[blk_cell hb2];rfl
 have k1:w2.cell? ⟨w.heap.size,1,none⟩=some (.int .i64 na):=by rw[blk_cell hb2];rfl
 have k2:w2.cell? ⟨w.heap.size,2,none⟩=some (.int .i64 (m:Int)):=by rw[blk_cell hb2];rfl
 have k3:w2.cell? ⟨w.heap.size,3,none⟩=some (.int .i64 nc):=by rw[blk_cell hb2];rfl
 have k4:w2.cell? ⟨w.heap.size,4,none⟩=some (.int .i64 nd):=by rw[blk_cell hb2];rfl
 have HO2:Hid (OI w2 w.heap.size (.slice (some ⟨g1,0,none⟩) 1 cap1) [(t:Int)+1]):=ho2
 clear hb2 hg2 ho2
 go_enter Tryz.func155,Tryz.ntmps155
 go_wp2_with (first
  | (go_at_call 58;refine (goes_any _ _).mono ?_;rw[show endsB (38:Int)=false from rfl];rintro e w9 ⟨rfl,rfl⟩)
  | (go_at_call 153;refine (target_any ⟨38,na,(m:Int),nc,nd⟩ _ h0 h1 (HLY.out.later HB2.out)).mono ?_;rw[HT.out];rintro e w3 ⟨rfl,hx⟩;have HB3:Hid (Below w.heap.size w w3):=HB2.out.trans (hx.mono HB2.out.size);have HO3:Hid (OI w3 w.heap.size (.slice (some ⟨g1,0,none⟩) 1 cap1) [(t:Int)+1]):=HO2.out.later hx;obtain⟨g3,cap3,w4,hr,ho4,hg4,_⟩:=OI.app (w:=w3) HO3.out (m:Int) (by simp) HB3.out.size;clear hx)
  | (at_builtin;refine wpList_append_run rfl _ _ _ rfl _ _ _ _ rfl rfl hr ?_;clear hr))
 go_ret
 exact⟨⟨_,rfl,ho4⟩,grown_own (B:=0) HO3.out HB3.out hg4⟩
theorem psil_39 (na nc nd:Int) (m:Nat) (t:Nat) (w:World) (hla:LayAt w) (h0:1≤(39:Int)) (h1:(39:Int)≤42) (ht:t≤6000) :
  Calls Tryz.prog 155 #[IV ⟨39,na,(m:Int),nc,nd⟩,.int .i64 t] w fun e w'=>SlR w [t+1,m] e w':=by
 have HLY:Hid (LayAt w):=hla
 have HT:Hid (tgtI ⟨39,na,(m:Int),nc,nd⟩=(m:Int)):=by show tgtI _=_;unfold tgtI;simp
 clear hla
 have hwr:IntKind.i64.wrap ((t:Int)+1)=(t:Int)+1:=by rw[IntKind.wrap_i64];omega
 obtain⟨g1,cap1,w2,hr,ho2,hg2,_⟩:=OI.app (w:=w.alloc (.cells #[.int .i64 (39:Int),.int .i64 na,.int .i64 (m:Int),.int .i64 nc,.int .i64 nd] 47)) (ORow.nil _ w.heap.size _ _ _) ((t:Int)+1) (by simp) (by simp)
 rw[show (w.alloc (.cells #[.int .i64 (39:Int),.int .i64 na,.int .i64 (m:Int),.int .i64 nc,.int .i64 nd] 47)).heap.size=w.heap.size+1 by simp]at hr
 have HB2:Hid (Below w.heap.size w w2):=(bw1 _ _).trans ((grown_nil (B:=0) (ts:=[]) hg2).mono (by simp))
 have hb2:w2.heap[w.heap.size]?=some (.cells #[.int .i64 (39:Int),.int .i64 na,.int .i64 (m:Int),.int .i64 nc,.int .i64 nd] 47):=blk_later (grown_nil (B:=0) (ts:=[]) hg2) (blk_new _ _)
 have k0:w2.cell? ⟨w.heap.size,0,none⟩=some (.int .i64 (39:Int)):=by rw[blk_cell hb2];rfl
 have k1:w2.cell? ⟨w.heap.size,1,none⟩=some (.int .i64 na):=by rw[blk_cell hb2];rfl
 have k2:w2.cell? ⟨w.heap.size,2,none⟩=some (.int .i64 (m:Int)):=by rw[blk_cell hb2];rfl
 have k3:w2.cell? ⟨w.heap.size,3,none⟩=some (.int .i64 nc):=by rw[blk_cell hb2];rfl
 have k4:w2.cell? ⟨w.heap.size,4,none⟩=some (.int .i64 nd):=by rw[blk_cell hb2];rfl
 have HO2:Hid (OI w2 w.heap.size (.slice (some ⟨g1,0,none⟩) 1 cap1) [(t:Int)+1]):=ho2
 clear hb2 hg2 ho2
 go_enter Tryz.func155,Tryz.ntmps155
 go_wp2_with (first
  | (go_at_call 58;refine (goes_any _ _).mono ?_;rw[show endsB (39:Int)=false from rfl];rintro e w9 ⟨rfl,rfl⟩)
  | (go_at_call 153;refine (target_any ⟨39,na,(m:Int),nc,nd⟩ _ h0 h1 (HLY.out.later HB2.out)).mono ?_;rw[HT.out];rintro e w3 ⟨rfl,hx⟩;have HB3:Hid (Below w.heap.size w w3):=HB2.out.trans (hx.mono HB2.out.size);have HO3:Hid (OI w3 w.heap.size (.slice (some ⟨g1,0,none⟩) 1 cap1) [(t:Int)+1]):=HO2.out.later hx;obtain⟨g3,cap3,w4,hr,ho4,hg4,_⟩:=OI.app (w:=w3) HO3.out (m:Int) (by simp) HB3.out.size;clear hx)
  | (at_builtin;refine wpList_append_run rfl _ _ _ rfl _ _ _ _ rfl rfl hr ?_;clear hr))
 go_ret
 exact⟨⟨_,rfl,ho4⟩,grown_own (B:=0) HO3.out HB3.out hg4⟩
theorem psil_31 (nb nc nd:Int) (m:Nat) (t:Nat) (w:World) (hla:LayAt w) (h0:1≤(31:Int)) (h1:(31:Int)≤42) (ht:t≤6000) :
  Calls Tryz.prog 155 #[IV ⟨31,(m:Int),nb,nc,nd⟩,.int .i64 t] w fun e w'=>SlR w [t+1,m] e w':=by
 have HLY:Hid (LayAt w):=hla
 have HT:Hid (tgtI ⟨31,(m:Int),nb,nc,nd⟩=(m:Int)):=by show tgtI _=_;unfold tgtI;simp
 clear hla
 have hwr:IntKind.i64.wrap ((t:Int)+1)=(t:Int)+1:=by rw[IntKind.wrap_i64];omega
 obtain⟨g1,cap1,w2,hr,ho2,hg2,_⟩:=OI.app (w:=w.alloc (.cells #[.int .i64 (31:Int),.int .i64 (m:Int),.int .i64 nb,.int .i64 nc,.int .i64 nd] 47)) (ORow.nil _ w.heap.size _ _ _) ((t:Int)+1) (by simp) (by simp)
 rw[show (w.alloc (.cells #[.int .i64 (31:Int),.int .i64 (m:Int),.int .i64 nb,.int .i64 nc,.int .i64 nd] 47)).heap.size=w.heap.size+1 by simp]at hr
 have HB2:Hid (Below w.heap.size w w2):=(bw1 _ _).trans ((grown_nil (B:=0) (ts:=[]) hg2).mono (by simp))
 have hb2:w2.heap[w.heap.size]?=some (.cells #[.int .i64 (31:Int),.int .i64 (m:Int),.int .i64 nb,.int .i64 nc,.int .i64 nd] 47):=blk_later (grown_nil (B:=0) (ts:=[]) hg2) (blk_new _ _)
 have k0:w2.cell? ⟨w.heap.size,0,none⟩=some (.int .i64 (31:Int)):=by rw[blk_cell hb2];rfl
 have k1:w2.cell? ⟨w.heap.size,1,none⟩=some (.int .i64 (m:Int)):=by rw[blk_cell hb2];rfl
 have k2:w2.cell? ⟨w.heap.size,2,none⟩=some (.int .i64 nb):=by rw[blk_cell hb2];rfl
 have k3:w2.cell? ⟨w.heap.size,3,none⟩=some (.int .i64 nc):=by rw[blk_cell hb2];rfl
 have k4:w2.cell? ⟨w.heap.size,4,none⟩=some (.int .i64 nd):=by rw[blk_cell hb2];rfl
 have HO2:Hid (OI w2 w.heap.size (.slice (some ⟨g1,0,none⟩) 1 cap1) [(t:Int)+1]):=ho2
 clear hb2 hg2 ho2
 go_enter Tryz.func155,Tryz.ntmps155
 go_wp2_with (first
  | (go_at_call 58;refine (goes_any _ _).mono ?_;rw[show endsB (31:Int)=false from rfl];rintro e w9 ⟨rfl,rfl⟩)
  | (go_at_call 153;refine (target_any ⟨31,(m:Int),nb,nc,nd⟩ _ h0 h1 (HLY.out.later HB2.out)).mono ?_;rw[HT.out];rintro e w3 ⟨rfl,hx⟩;have HB3:Hid (Below w.heap.size w w3):=HB2.out.trans (hx.mono HB2.out.size);have HO3:Hid (OI w3 w.heap.size (.slice (some ⟨g1,0,none⟩) 1 cap1) [(t:Int)+1]):=HO2.out.later hx;obtain⟨g3,cap3,w4,hr,ho4,hg4,_⟩:=OI.app (w:=w3) HO3.out (m:Int) (by simp) HB3.out.size;clear hx)
  | (at_builtin;refine wpList_append_run rfl _ _ _ rfl _ _ _ _ rfl rfl hr ?_;clear hr))
 go_ret
 exact⟨⟨_,rfl,ho4⟩,grown_own (B:=0) HO3.out HB3.out hg4⟩
theorem psil_s (op:Int) (na nb nc nd:Int) (t:Nat) (w:World) (hla:LayAt w) (h0:1≤(op:Int)) (h1:(op:Int)≤42) (ht:t≤6000) (t1:(op == 1)=false) (t3:(op == 3)=false) (t28:(op == 28)=false) (t18:(op == 18)=false) (t41:(op != 41)=true) (hgo:endsB op=false) (htg:¬(op=19∨op=31)∧¬(op=20∨op=21∨op=38∨op=39∨op=41)) :
  Calls Tryz.prog 155 #[IV ⟨op,na,nb,nc,nd⟩,.int .i64 t] w fun e w'=>SlR w [t+1] e w':=by
 have HLY:Hid (LayAt w):=hla
 have HT:Hid (tgtI ⟨op,na,nb,nc,nd⟩=-1):=by show tgtI _=_;unfold tgtI;dsimp only;rw[if_neg (by omega),if_neg (by omega)]
 clear hla htg
 have hwr:IntKind.i64.wrap ((t:Int)+1)=(t:Int)+1:=by rw[IntKind.wrap_i64];omega
 obtain⟨g1,cap1,w2,hr,ho2,hg2,_⟩:=OI.app (w:=w.alloc (.cells #[.int .i64 op,.int .i64 na,.int .i64 nb,.int .i64 nc,.int .i64 nd] 47)) (ORow.nil _ w.heap.size _ _ _) ((t:Int)+1) (by simp) (by simp)
 rw[show (w.alloc (.cells #[.int .i64 op,.int .i64 na,.int .i64 nb,.int .i64 nc,.int .i64 nd] 47)).heap.size=w.heap.size+1 by simp]at hr
 have HB2:Hid (Below w.heap.size w w2):=(bw1 _ _).trans ((grown_nil (B:=0) (ts:=[]) hg2).mono (by simp))
 have hb2:w2.heap[w.heap.size]?=some (.cells #[.int .i64 op,.int .i64 na,.int .i64 nb,.int .i64 nc,.int .i64 nd] 47):=blk_later (grown_nil (B:=0) (ts:=[]) hg2) (blk_new _ _)
 have k0:w2.cell? ⟨w.heap.size,0,none⟩=some (.int .i64 op):=by rw[blk_cell hb2];rfl
 have k1:w2.cell? ⟨w.heap.size,1,none⟩=some (.int .i64 na):=by rw[blk_cell hb2];rfl
 have k2:w2.cell? ⟨w.heap.size,2,none⟩=some (.int .i64 nb):=by rw[blk_cell hb2];rfl
 have k3:w2.cell? ⟨w.heap.size,3,none⟩=some (.int .i64 nc):=by rw[blk_cell hb2];rfl
 have k4:w2.cell? ⟨w.heap.size,4,none⟩=some (.int .i64 nd):=by rw[blk_cell hb2];rfl
 have HO2:Hid (OI w2 w.heap.size (.slice (some ⟨g1,0,none⟩) 1 cap1) [(t:Int)+1]):=ho2
 clear hb2 hg2 ho2
 go_enter Tryz.func155,Tryz.ntmps155
 go_wp2_with (first
  | (go_at_call 58;refine (goes_any _ _).mono ?_;rw[hgo];rintro e w9 ⟨rfl,rfl⟩)
  | (go_at_call 153;refine (target_any ⟨op,na,nb,nc,nd⟩ _ h0 h1 (HLY.out.later HB2.out)).mono ?_;rw[HT.out];rintro e w3 ⟨rfl,hx⟩;have HB3:Hid (Below w.heap.size w w3):=HB2.out.trans (hx.mono HB2.out.size);have HO3:Hid (OI w3 w.heap.size (.slice (some ⟨g1,0,none⟩) 1 cap1) [(t:Int)+1]):=HO2.out.later hx;clear hx)
  | (at_builtin;refine wpList_append_run rfl _ _ _ rfl _ _ _ _ rfl rfl hr ?_;clear hr))
 go_ret
 exact⟨⟨_,rfl,HO3.out⟩,HB3.out⟩
theorem psil_j (na nb nc nd:Int) (t:Nat) (w:World) (hla:LayAt w) (h0:1≤(18:Int)) (h1:(18:Int)≤42) (ht:t≤6000) (t12:(nb == 12)=false) :
  Calls Tryz.prog 155 #[IV ⟨18,na,nb,nc,nd⟩,.int .i64 t] w fun e w'=>SlR w [t+1] e w':=by
 have HLY:Hid (LayAt w):=hla
 have HT:Hid (tgtI ⟨18,na,nb,nc,nd⟩=-1):=by show tgtI _=_;unfold tgtI;simp
 clear hla
 have hwr:IntKind.i64.wrap ((t:Int)+1)=(t:Int)+1:=by rw[IntKind.wrap_i64];omega
 obtain⟨g1,cap1,w2,hr,ho2,hg2,_⟩:=OI.app (w:=w.alloc (.cells #[.int .i64 (18:Int),.int .i64 na,.int .i64 nb,.int .i64 nc,.int .i64 nd] 47)) (ORow.nil _ w.heap.size _ _ _) ((t:Int)+1) (by simp) (by simp)
 rw[show (w.alloc (.cells #[.int .i64 (18:Int),.int .i64 na,.int .i64 nb,.int .i64 nc,.int .i64 nd] 47)).heap.size=w.heap.size+1 by simp]at hr
 have HB2:Hid (Below w.heap.size w w2):=(bw1 _ _).trans ((grown_nil (B:=0) (ts:=[]) hg2).mono (by simp))
 have hb2:w2.heap[w.heap.size]?=some (.cells #[.int .i64 (18:Int),.int .i64 na,.int .i64 nb,.int .i64 nc,.int .i64 nd] 47):=blk_later (grown_nil (B:=0) (ts:=[]) hg2) (blk_new _ _)
 have k0:w2.cell? ⟨w.heap.size,0,none⟩=some (.int .i64 (18:Int)):=by rw[blk_cell hb2];rfl
 have k1:w2.cell? ⟨w.heap.size,1,none⟩=some (.int .i64 na):=by rw[blk_cell hb2];rfl
 have k2:w2.cell? ⟨w.heap.size,2,none⟩=some (.int .i64 nb):=by rw[blk_cell hb2];rfl
 have k3:w2.cell? ⟨w.heap.size,3,none⟩=some (.int .i64 nc):=by rw[blk_cell hb2];rfl
 have k4:w2.cell? ⟨w.heap.size,4,none⟩=some (.int .i64 nd):=by rw[blk_cell hb2];rfl
 have HO2:Hid (OI w2 w.heap.size (.slice (some ⟨g1,0,none⟩) 1 cap1) [(t:Int)+1]):=ho2
 clear hb2 hg2 ho2
 go_enter Tryz.func155,Tryz.ntmps155
 go_wp2_with (first
  | (go_at_call 58;refine (goes_any _ _).mono ?_;rw[show endsB (18:Int)=false from rfl];rintro e w9 ⟨rfl,rfl⟩)
  | (go_at_call 153;refine (target_any ⟨18,na,nb,nc,nd⟩ _ h0 h1 (HLY.out.later HB2.out)).mono ?_;rw[HT.out];rintro e w3 ⟨rfl,hx⟩;have HB3:Hid (Below w.heap.size w w3):=HB2.out.trans (hx.mono HB2.out.size);have HO3:Hid (OI w3 w.heap.size (.slice (some ⟨g1,0,none⟩) 1 cap1) [(t:Int)+1]):=HO2.out.later hx;clear hx)
  | (at_builtin;refine wpList_append_run rfl _ _ _ rfl _ _ _ _ rfl rfl hr ?_;clear hr))
 go_ret
 exact⟨⟨_,rfl,HO3.out⟩,HB3.out⟩
theorem sil_any (n:ID) (t nI regs:Nat) (w:World) (hn:InsOk regs nI n) (hla:LayAt w) (ht:t≤6000) :
  Calls Tryz.prog 155 #[IV n,.int .i64 t] w fun e w'=>SlR w (silentV n t) e w':=by
 have h0:=hn.op1
 have h1:=hn.op2
 have ha:=hn.ta
 have hb:=hn.tb
 obtain⟨op,na,nb,nc,nd⟩:=n
 dsimp only at h0 h1 ha hb
 have f:∀k:Int,op≠k→(op == k)=false:=fun k h=>by simpa using h
 by_cases c1:op=1
 ·subst c1;exact psil_1 na nb nc nd t w hla h0 h1 ht
 by_cases c3:op=3
 ·subst c3;exact psil_3 na nb nc nd t w hla h0 h1 ht
 by_cases c28:op=28
 ·subst c28;exact psil_28 na nb nc nd t w hla h0 h1 ht
 by_cases c29:op=29
 ·subst c29;exact psil_29 na nb nc nd t w hla h0 h1 ht
 by_cases c30:op=30
 ·subst c30;exact psil_30 na nb nc nd t w hla h0 h1 ht
 by_cases c19:op=19
 ·subst c19
  obtain⟨m,rfl⟩:∃m:Nat,na=m:=⟨na.toNat,by have:=(ha (.inl rfl)).1;omega⟩
  exact psil_19 nb nc nd m t w hla h0 h1 ht
 by_cases c41:op=41
 ·subst c41
  obtain⟨m,rfl⟩:∃m:Nat,nb=m:=⟨nb.toNat,by have:=(hb (by omega)).1;omega⟩
  exact psil_41 na nc nd m t w hla h0 h1 ht
 by_cases c31:op=31
 ·subst c31
  obtain⟨m,rfl⟩:∃m:Nat,na=m:=⟨na.toNat,by have:=(ha (.inr rfl)).1;omega⟩
  exact psil_31 nb nc nd m t w hla h0 h1 ht
 by_cases c20:op=20
 ·subst c20
  obtain⟨m,rfl⟩:∃m:Nat,nb=m:=⟨nb.toNat,by have:=(hb (by omega)).1;omega⟩
  exact psil_20 na nc nd m t w hla h0 h1 ht
 by_cases c21:op=21
 ·subst c21
  obtain⟨m,rfl⟩:∃m:Nat,nb=m:=⟨nb.toNat,by have:=(hb (by omega)).1;omega⟩
  exact psil_21 na nc nd m t w hla h0 h1 ht
 by_cases c38:op=38
 ·subst c38
  obtain⟨m,rfl⟩:∃m:Nat,nb=m:=⟨nb.toNat,by have:=(hb (by omega)).1;omega⟩
  exact psil_38 na nc nd m t w hla h0 h1 ht
 by_cases c39:op=39
 ·subst c39
  obtain⟨m,rfl⟩:∃m:Nat,nb=m:=⟨nb.toNat,by have:=(hb (by omega)).1;omega⟩
  exact psil_39 na nc nd m t w hla h0 h1 ht
 by_cases c18:op=18
 ·subst c18
  by_cases c12:nb=12
  ·subst c12;exact psil_18 na nc nd t w hla h0 h1 ht
  ·have e:silentV ⟨18,na,nb,nc,nd⟩ t=[t+1]:=by simp[silentV,goesV,endsB,targetV,c12]
   rw[e]
   exact psil_j na nb nc nd t w hla h0 h1 ht (by simpa using c12)
 have hen:endsB op=false:=by simp[endsB,c19,c29,c30]
 have e:silentV ⟨op,na,nb,nc,nd⟩ t=[t+1]:=by
  unfold silentV targetV goesV
  dsimp only
  rw[if_neg (c:=op=19∨op=31) (by omega),if_neg (c:=op=20∨op=21∨op=38∨op=39∨op=41) (by omega)]
  simp[hen,c1,c3,c28,c41,c18]
 rw[e]
 exact psil_s op na nb nc nd t w hla h0 h1 ht (f _ c1) (f _ c3) (f _ c28) (f _ c18) (by simpa using c41) hen (by omega)
end Go.Proofs.YtjglgbepobmjhaaGreatDoor
