import Derived.Test.YtjglgbepobmjhaaGreatDoorP20
import Derived.Test.YtjglgbepobmjhaaGreatDoorP07
import Derived.Test.YtjglgbepobmjhaaGreatDoorP11
import Derived.Test.YtjglgbepobmjhaaGreatDoorP04
set_option linter.unusedVariables false
set_option linter.unusedSimpArgs false
set_option maxRecDepth 20000
set_option maxHeartbeats 8000000
namespace Go.Proofs.YtjglgbepobmjhaaGreatDoor
open Go.RowKit
def SlR (w:World) (l:List Nat) (e:Ending) (w':World):Prop:=(∃sv,e=.returned sv∧OI w' w.heap.size sv (nz l))∧Below w.heap.size w w'
theorem grown_nil {w w':World} {B:Nat} {ts:List Int} {o:Obj} (hg:(w.alloc o).grownBy w' (Value.slice none 0 0).ownBlock):Below w.heap.size w w':=ButL.nil (ButL.grown (S:=[]) ((ButL.refl [] w).alloc o) hg (fun b e=>by cases e))
theorem grown_own {w w':World} {B:Nat} {W:World} {sv:Value} {ts:List Int} {o:Obj} (ho:OI w W.heap.size sv ts) (hb:Below W.heap.size W w) (hg:(w.alloc o).grownBy w' sv.ownBlock):Below W.heap.size W w':=ButL.nil (ButL.grown (S:=[]) ((ButL.of_below hb).alloc o) hg (fun b e=>.inr (ho.own_lt e).1))
theorem psil_1 (na nb nc nd:Int) (t:Nat) (w:World) (hla:LayAt w) (h0:1≤(1:Int)) (h1:(1:Int)≤42) (ht:t≤6000) :
  Calls Tryz.prog 155 #[IV ⟨1,na,nb,nc,nd⟩,.int .i64 t] w fun e w'=>SlR w [] e w':=by
 have HLY:Hid (LayAt w):=hla
 have HT:Hid (tgtI ⟨1,na,nb,nc,nd⟩=-1):=by show tgtI _=_;unfold tgtI;simp
 clear hla
 go_enter Tryz.func155,Tryz.ntmps155
 go_wp2_with (first
  | (go_at_call 58;refine (goes_any _ _).mono ?_;rw[show endsB (1:Int)=false from rfl];rintro e w9 ⟨rfl,rfl⟩)
  | (go_at_call 153;refine (target_any ⟨1,na,nb,nc,nd⟩ _ h0 h1 (HLY.out.later (bw1 _ _))).mono ?_;rw[HT.out];rintro e w3 ⟨rfl,hx⟩;have HB3:Hid (Below w.heap.size w w3):=(bw1 _ _).trans (hx.mono (by simp));clear hx)
  | (at_builtin;refine wpList_append_run rfl _ _ _ rfl _ _ _ _ rfl rfl hr ?_;clear hr))
 go_ret
 exact⟨⟨_,rfl,ORow.nil _ _ _ _ _⟩,HB3.out⟩
theorem psil_3 (na nb nc nd:Int) (t:Nat) (w:World) (hla:LayAt w) (h0:1≤(3:Int)) (h1:(3:Int)≤42) (ht:t≤6000) :
  Calls Tryz.prog 155 #[IV ⟨3,na,nb,nc,nd⟩,.int .i64 t] w fun e w'=>SlR w [] e w':=by
 have HLY:Hid (LayAt w):=hla
 have HT:Hid (tgtI ⟨3,na,nb,nc,nd⟩=-1):=by show tgtI _=_;unfold tgtI;simp
 clear hla
 go_enter Tryz.func155,Tryz.ntmps155
 go_wp2_with (first
  | (go_at_call 58;refine (goes_any _ _).mono ?_;rw[show endsB (3:Int)=false from rfl];rintro e w9 ⟨rfl,rfl⟩)
  | (go_at_call 153;refine (target_any ⟨3,na,nb,nc,nd⟩ _ h0 h1 (HLY.out.later (bw1 _ _))).mono ?_;rw[HT.out];rintro e w3 ⟨rfl,hx⟩;have HB3:Hid (Below w.heap.size w w3):=(bw1 _ _).trans (hx.mono (by simp));clear hx)
  | (at_builtin;refine wpList_append_run rfl _ _ _ rfl _ _ _ _ rfl rfl hr ?_;clear hr))
 go_ret
 exact⟨⟨_,rfl,ORow.nil _ _ _ _ _⟩,HB3.out⟩
theorem psil_28 (na nb nc nd:Int) (t:Nat) (w:World) (hla:LayAt w) (h0:1≤(28:Int)) (h1:(28:Int)≤42) (ht:t≤6000) :
  Calls Tryz.prog 155 #[IV ⟨28,na,nb,nc,nd⟩,.int .i64 t] w fun e w'=>SlR w [] e w':=by
 have HLY:Hid (LayAt w):=hla
 have HT:Hid (tgtI ⟨28,na,nb,nc,nd⟩=-1):=by show tgtI _=_;unfold tgtI;simp
 clear hla
 go_enter Tryz.func155,Tryz.ntmps155
 go_wp2_with (first
  | (go_at_call 58;refine (goes_any _ _).mono ?_;rw[show endsB (28:Int)=false from rfl];rintro e w9 ⟨rfl,rfl⟩)
  | (go_at_call 153;refine (target_any ⟨28,na,nb,nc,nd⟩ _ h0 h1 (HLY.out.later (bw1 _ _))).mono ?_;rw[HT.out];rintro e w3 ⟨rfl,hx⟩;have HB3:Hid (Below w.heap.size w w3):=(bw1 _ _).trans (hx.mono (by simp));clear hx)
  | (at_builtin;refine wpList_append_run rfl _ _ _ rfl _ _ _ _ rfl rfl hr ?_;clear hr))
 go_ret
 exact⟨⟨_,rfl,ORow.nil _ _ _ _ _⟩,HB3.out⟩
theorem psil_29 (na nb nc nd:Int) (t:Nat) (w:World) (hla:LayAt w) (h0:1≤(29:Int)) (h1:(29:Int)≤42) (ht:t≤6000) :
  Calls Tryz.prog 155 #[IV ⟨29,na,nb,nc,nd⟩,.int .i64 t] w fun e w'=>SlR w [] e w':=by
 have HLY:Hid (LayAt w):=hla
 have HT:Hid (tgtI ⟨29,na,nb,nc,nd⟩=-1):=by show tgtI _=_;unfold tgtI;simp
 clear hla
 go_enter Tryz.func155,Tryz.ntmps155
 go_wp2_with (first
  | (go_at_call 58;refine (goes_any _ _).mono ?_;rw[show endsB (29:Int)=true from rfl];rintro e w9 ⟨rfl,rfl⟩)
  | (go_at_call 153;refine (target_any ⟨29,na,nb,nc,nd⟩ _ h0 h1 (HLY.out.later (bw1 _ _))).mono ?_;rw[HT.out];rintro e w3 ⟨rfl,hx⟩;have HB3:Hid (Below w.heap.size w w3):=(bw1 _ _).trans (hx.mono (by simp));clear hx)
  | (at_builtin;refine wpList_append_run rfl _ _ _ rfl _ _ _ _ rfl rfl hr ?_;clear hr))
 go_ret
 exact⟨⟨_,rfl,ORow.nil _ _ _ _ _⟩,HB3.out⟩
theorem psil_30 (na nb nc nd:Int) (t:Nat) (w:World) (hla:LayAt w) (h0:1≤(30:Int)) (h1:(30:Int)≤42) (ht:t≤6000) :
  Calls Tryz.prog 155 #[IV ⟨30,na,nb,nc,nd⟩,.int .i64 t] w fun e w'=>SlR w [] e w':=by
 have HLY:Hid (LayAt w):=hla
 have HT:Hid (tgtI ⟨30,na,nb,nc,nd⟩=-1):=by show tgtI _=_;unfold tgtI;simp
 clear hla
 go_enter Tryz.func155,Tryz.ntmps155
 go_wp2_with (first
  | (go_at_call 58;refine (goes_any _ _).mono ?_;rw[show endsB (30:Int)=true from rfl];rintro e w9 ⟨rfl,rfl⟩)
  | (go_at_call 153;refine (target_any ⟨30,na,nb,nc,nd⟩ _ h0 h1 (HLY.out.later (bw1 _ _))).mono ?_;rw[HT.out];rintro e w3 ⟨rfl,hx⟩;have HB3:Hid (Below w.heap.size w w3):=(bw1 _ _).trans (hx.mono (by simp));clear hx)
  | (at_builtin;refine wpList_append_run rfl _ _ _ rfl _ _ _ _ rfl rfl hr ?_;clear hr))
 go_ret
 exact⟨⟨_,rfl,ORow.nil _ _ _ _ _⟩,HB3.out⟩
theorem psil_18 (na nc nd:Int) (t:Nat) (w:World) (hla:LayAt w) (h0:1≤(18:Int)) (h1:(18:Int)≤42) (ht:t≤6000) :
  Calls Tryz.prog 155 #[IV ⟨18,na,12,nc,nd⟩,.int .i64 t] w fun e w'=>SlR w [] e w':=by
 have HLY:Hid (LayAt w):=hla
 have HT:Hid (tgtI ⟨18,na,12,nc,nd⟩=-1):=by show tgtI _=_;unfold tgtI;simp
 clear hla
 go_enter Tryz.func155,Tryz.ntmps155
 go_wp2_with (first
  | (go_at_call 58;refine (goes_any _ _).mono ?_;rw[show endsB (18:Int)=false from rfl];rintro e w9 ⟨rfl,rfl⟩)
  | (go_at_call 153;refine (target_any ⟨18,na,12,nc,nd⟩ _ h0 h1 (HLY.out.later (bw1 _ _))).mono ?_;rw[HT.out];rintro e w3 ⟨rfl,hx⟩;have HB3:Hid (Below w.heap.size w w3):=(bw1 _ _).trans (hx.mono (by simp));clear hx)
  | (at_builtin;refine wpList_append_run rfl _ _ _ rfl _ _ _ _ rfl rfl hr ?_;clear hr))
 go_ret
 exact⟨⟨_,rfl,ORow.nil _ _ _ _ _⟩,HB3.out⟩
theorem psil_19 (nb nc nd:Int) (m:Nat) (t:Nat) (w:World) (hla:LayAt w) (h0:1≤(19:Int)) (h1:(19:Int)≤42) (ht:t≤6000) :
  Calls Tryz.prog 155 #[IV ⟨19,(m:Int),nb,nc,nd⟩,.int .i64 t] w fun e w'=>SlR w [m] e w':=by
 have HLY:Hid (LayAt w):=hla
 have HT:Hid (tgtI ⟨19,(m:Int),nb,nc,nd⟩=(m:Int)):=by show tgtI _=_;unfold tgtI;simp
 clear hla
 go_enter Tryz.func155,Tryz.ntmps155
 go_wp2_with (first
  | (go_at_call 58;refine (goes_any _ _).mono ?_;rw[show endsB (19:Int)=true from rfl];rintro e w9 ⟨rfl,rfl⟩)
  | (go_at_call 153;refine (target_any ⟨19,(m:Int),nb,nc,nd⟩ _ h0 h1 (HLY.out.later (bw1 _ _))).mono ?_;rw[HT.out];rintro e w3 ⟨rfl,hx⟩;have HB3:Hid (Below w.heap.size w w3):=(bw1 _ _).trans (hx.mono (by simp));obtain⟨g3,cap3,w4,hr,ho4,hg4,_⟩:=OI.app (w:=w3) (ORow.nil _ w.heap.size _ _ _) (m:Int) (by simp) HB3.out.size;clear hx)
  | (at_builtin;refine wpList_append_run rfl _ _ _ rfl _ _ _ _ rfl rfl hr ?_;clear hr))
 go_ret
 exact⟨⟨_,rfl,ho4⟩,grown_own (B:=0) (sv:=.slice none 0 0) (ORow.nil _ w.heap.size _ _ _) HB3.out hg4⟩
theorem psil_41 (na nc nd:Int) (m:Nat) (t:Nat) (w:World) (hla:LayAt w) (h0:1≤(41:Int)) (h1:(41:Int)≤42) (ht:t≤6000) :
  Calls Tryz.prog 155 #[IV ⟨41,na,(m:Int),nc,nd⟩,.int .i64 t] w fun e w'=>SlR w [m] e w':=by
 have HLY:Hid (LayAt w):=hla
 have HT:Hid (tgtI ⟨41,na,(m:Int),nc,nd⟩=(m:Int)):=by show tgtI _=_;unfold tgtI;simp
 clear hla
 go_enter Tryz.func155,Tryz.ntmps155
 go_wp2_with (first
  | (go_at_call 58;refine (goes_any _ _).mono ?_;rw[show endsB (41:Int)=false from rfl];rintro e w9 ⟨rfl,rfl⟩)
  | (go_at_call 153;refine (target_any ⟨41,na,(m:Int),nc,nd⟩ _ h0 h1 (HLY.out.later (bw1 _ _))).mono ?_;rw[HT.out];rintro e w3 ⟨rfl,hx⟩;have HB3:Hid (Below w.heap.size w w3):=(bw1 _ _).trans (hx.mono (by simp));obtain⟨g3,cap3,w4,hr,ho4,hg4,_⟩:=OI.app (w:=w3) (ORow.nil _ w.heap.size _ _ _) (m:Int) (by simp) HB3.out.size;clear hx)
  | (at_builtin;refine wpList_append_run rfl _ _ _ rfl _ _ _ _ rfl rfl hr ?_;clear hr))
 go_ret
 exact⟨⟨_,rfl,ho4⟩,grown_own (B:=0) (sv:=.slice none 0 0) (ORow.nil _ w.heap.size _ _ _) HB3.out hg4⟩
theorem psil_20 (na nc nd:Int) (m:Nat) (t:Nat) (w:World) (hla:LayAt w) (h0:1≤(20:Int)) (h1:(20:Int)≤42) (ht:t≤6000) :
  Calls Tryz.prog 155 #[IV ⟨20,na,(m:Int),nc,nd⟩,.int .i64 t] w fun e w'=>SlR w [t+1,m] e w':=by
 have HLY:Hid (LayAt w):=hla
 have HT:Hid (tgtI ⟨20,na,(m:Int),nc,nd⟩=(m:Int)):=by show tgtI _=_;unfold tgtI;simp
 clear hla
 have hwr:IntKind.i64.wrap ((t:Int)+1)=(t:Int)+1:=by rw[IntKind.wrap_i64];omega
 obtain⟨g1,cap1,w2,hr,ho2,hg2,_⟩:=OI.app (w:=w.alloc (.cells #[.int .i64 (20:Int),.int .i64 na,.int .i64 (m:Int),.int .i64 nc,.int .i64 nd] 47)) (ORow.nil _ w.heap.size _ _ _) ((t:Int)+1) (by simp) (by simp)
 rw[show (w.alloc (.cells #[.int .i64 (20:Int),.int .i64 na,.int .i64 (m:Int),.int .i64 nc,.int .i64 nd] 47)).heap.size=w.heap.size+1 by simp]at hr
 have HB2:Hid (Below w.heap.size w w2):=(bw1 _ _).trans ((grown_nil (B:=0) (ts:=[]) hg2).mono (by simp))
 have hb2:w2.heap[w.heap.size]?=some (.cells #[.int .i64 (20:Int),.int .i64 na,.int .i64 (m:Int),.int .i64 nc,.int .i64 nd] 47):=blk_later (grown_nil (B:=0) (ts:=[]) hg2) (blk_new _ _)
 have k0:w2.cell? ⟨w.heap.size,0,none⟩=some (.int .i64 (20:Int)):=by rw[blk_cell hb2];rfl
 have k1:w2.cell? ⟨w.heap.size,1,none⟩=some (.int .i64 na):=by rw[blk_cell hb2];rfl
 have k2:w2.cell? ⟨w.heap.size,2,none⟩=some (.int .i64 (m:Int)):=by rw[blk_cell hb2];rfl
 have k3:w2.cell? ⟨w.heap.size,3,none⟩=some (.int .i64 nc):=by rw[blk_cell hb2];rfl
 have k4:w2.cell? ⟨w.heap.size,4,none⟩=some (.int .i64 nd):=by rw[blk_cell hb2];rfl
 have HO2:Hid (OI w2 w.heap.size (.slice (some ⟨g1,0,none⟩) 1 cap1) [(t:Int)+1]):=ho2
 clear hb2 hg2 ho2
 go_enter Tryz.func155,Tryz.ntmps155
 go_wp2_with (first
  | (go_at_call 58;refine (goes_any _ _).mono ?_;rw[show endsB (20:Int)=false from rfl];rintro e w9 ⟨rfl,rfl⟩)
  | (go_at_call 153;refine (target_any ⟨20,na,(m:Int),nc,nd⟩ _ h0 h1 (HLY.out.later HB2.out)).mono ?_;rw[HT.out];rintro e w3 ⟨rfl,hx⟩;have HB3:Hid (Below w.heap.size w w3):=HB2.out.trans (hx.mono HB2.out.size);have HO3:Hid (OI w3 w.heap.size (.slice (some ⟨g1,0,none⟩) 1 cap1) [(t:Int)+1]):=HO2.out.later hx;obtain⟨g3,cap3,w4,hr,ho4,hg4,_⟩:=OI.app (w:=w3) HO3.out (m:Int) (by simp) HB3.out.size;clear hx)
  | (at_builtin;refine wpList_append_run rfl _ _ _ rfl _ _ _ _ rfl rfl hr ?_;clear hr))
 go_ret
 exact⟨⟨_,rfl,ho4⟩,grown_own (B:=0) HO3.out HB3.out hg4⟩
theorem psil_21 (na nc nd:Int) (m:Nat) (t:Nat) (w:World) (hla:LayAt w) (h0:1≤(21:Int)) (h1:(21:Int)≤42) (ht:t≤6000) :
  Calls Tryz.prog 155 #[IV ⟨21,na,(m:Int),nc,nd⟩,.int .i64 t] w fun e w'=>SlR w [t+1,m] e w':=by
 have HLY:Hid (LayAt w):=hla
 have HT:Hid (tgtI ⟨21,na,(m:Int),nc,nd⟩=(m:Int)):=by show tgtI _=_;unfold tgtI;simp
 clear hla
 have hwr:IntKind.i64.wrap ((t:Int)+1)=(t:Int)+1:=by rw[IntKind.wrap_i64];omega
 obtain⟨g1,cap1,w2,hr,ho2,hg2,_⟩:=OI.app (w:=w.alloc (.cells #[.int .i64 (21:Int),.int .i64 na,.int .i64 (m:Int),.int .i64 nc,.int .i64 nd] 47)) (ORow.nil _ w.heap.size _ _ _) ((t:Int)+1) (by simp) (by simp)
 rw[show (w.alloc (.cells #[.int .i64 (21:Int),.int .i64 na,.int .i64 (m:Int),.int .i64 nc,.int .i64 nd] 47)).heap.size=w.heap.size+1 by simp]at hr
 have HB2:Hid (Below w.heap.size w w2):=(bw1 _ _).trans ((grown_nil (B:=0) (ts:=[]) hg2).mono (by simp))
 have hb2:w2.heap[w.heap.size]?=some (.cells #[.int .i64 (21:Int),.int .i64 na,.int .i64 (m:Int),.int .i64 nc,.int .i64 nd] 47):=blk_later (grown_nil (B:=0) (ts:=[]) hg2) (blk_new _ _)
 have k0:w2.cell? ⟨w.heap.size,0,none⟩=some (.int .i64 (21:Int)):=by rw[blk_cell hb2];rfl
 have k1:w2.cell? ⟨w.heap.size,1,none⟩=some (.int .i64 na):=by rw[blk_cell hb2];rfl
 have k2:w2.cell? ⟨w.heap.size,2,none⟩=some (.int .i64 (m:Int)):=by rw[blk_cell hb2];rfl
 have k3:w2.cell? ⟨w.heap.size,3,none⟩=some (.int .i64 nc):=by rw[blk_cell hb2];rfl
 have k4:w2.cell? ⟨w.heap.size,4,none⟩=some (.int .i64 nd):=by rw[blk_cell hb2];rfl
 have HO2:Hid (OI w2 w.heap.size (.slice (some ⟨g1,0,none⟩) 1 cap1) [(t:Int)+1]):=ho2
 clear hb2 hg2 ho2
 go_enter Tryz.func155,Tryz.ntmps155
 go_wp2_with (first
  | (go_at_call 58;refine (goes_any _ _).mono ?_;rw[show endsB (21:Int)=false from rfl];rintro e w9 ⟨rfl,rfl⟩)
  | (go_at_call 153;refine (target_any ⟨21,na,(m:Int),nc,nd⟩ _ h0 h1 (HLY.out.later HB2.out)).mono ?_;rw[HT.out];rintro e w3 ⟨rfl,hx⟩;have HB3:Hid (Below w.heap.size w w3):=HB2.out.trans (hx.mono HB2.out.size);have HO3:Hid (OI w3 w.heap.size (.slice (some ⟨g1,0,none⟩) 1 cap1) [(t:Int)+1]):=HO2.out.later hx;obtain⟨g3,cap3,w4,hr,ho4,hg4,_⟩:=OI.app (w:=w3) HO3.out (m:Int) (by simp) HB3.out.size;clear hx)
  | (at_builtin;refine wpList_append_run rfl _ _ _ rfl _ _ _ _ rfl rfl hr ?_;clear hr))
 go_ret
 exact⟨⟨_,rfl,ho4⟩,grown_own (B:=0) HO3.out HB3.out hg4⟩
theorem psil_38 (na nc nd:Int) (m:Nat) (t:Nat) (w:World) (hla:LayAt w) (h0:1≤(38:Int)) (h1:(38:Int)≤42) (ht:t≤6000) :
  Calls Tryz.prog 155 #[IV ⟨38,na,(m:Int),nc,nd⟩,.int .i64 t] w fun e w'=>SlR w [t+1,m] e w':=by
 have HLY:Hid (LayAt w):=hla
 have HT:Hid (tgtI ⟨38,na,(m:Int),nc,nd⟩=(m:Int)):=by show tgtI _=_;unfold tgtI;simp
 clear hla
 have hwr:IntKind.i64.wrap ((t:Int)+1)=(t:Int)+1:=by rw[IntKind.wrap_i64];omega
 obtain⟨g1,cap1,w2,hr,ho2,hg2,_⟩:=OI.app (w:=w.alloc (.cells #[.int .i64 (38:Int),.int .i64 na,.int .i64 (m:Int),.int .i64 nc,.int .i64 nd] 47)) (ORow.nil _ w.heap.size _ _ _) ((t:Int)+1) (by simp) (by simp)
 rw[show (w.alloc (.cells #[.int .i64 (38:Int),.int .i64 na,.int .i64 (m:Int),.int .i64 nc,.int .i64 nd] 47)).heap.size=w.heap.size+1 by simp]at hr
 have HB2:Hid (Below w.heap.size w w2):=(bw1 _ _).trans ((grown_nil (B:=0) (ts:=[]) hg2).mono (by simp))
 have hb2:w2.heap[w.heap.size]?=some (.cells #[.int .i64 (38:Int),.int .i64 na,.int .i64 (m:Int),.int .i64 nc,.int .i64 nd] 47):=blk_later (grown_nil (B:=0) (ts:=[]) hg2) (blk_new _ _)
 have k0:w2.cell? ⟨w.heap.size,0,none⟩=some (.int .i64 (38:Int)):=by rw[blk_cell hb2];rfl
 have k1:w2.cell? ⟨w.heap.size,1,none⟩=some (.int .i64 na):=by rw[blk_cell hb2];rfl
 have k2:w2.cell? ⟨w.heap.size,2,none⟩=some (.int .i64 (m:Int)):=by rw[blk_cell hb2];rfl
 have k3:w2.cell? ⟨w.heap.size,3,none⟩=some (.int .i64 nc):=by rw[blk_cell hb2];rfl
 have k4:w2.cell? ⟨w.heap.size,4,none⟩=some (.int .i64 nd):=by rw[blk_cell hb2];rfl
 have HO2:Hid (OI w2 w.heap.size (.slice (some ⟨g1,0,none⟩) 1 cap1) [(t:Int)+1]):=ho2
 clear hb2 hg2 ho2
 go_enter Tryz.func155,Tryz.ntmps155
 go_wp2_with (first
  | (go_at_call 58;refine (goes_any _ _).mono ?_;rw[show endsB (38:Int)=false from rfl];rintro e w9 ⟨rfl,rfl⟩)
  | (go_at_call 153;refine (target_any ⟨38,na,(m:Int),nc,nd⟩ _ h0 h1 (HLY.out.later HB2.out)).mono ?_;rw[HT.out];rintro e w3 ⟨rfl,hx⟩;have HB3:Hid (Below w.heap.size w w3):=HB2.out.trans (hx.mono HB2.out.size);have HO3:Hid (OI w3 w.heap.size (.slice (some ⟨g1,0,none⟩) 1 cap1) [(t:Int)+1]):=HO2.out.later hx;obtain⟨g3,cap3,w4,hr,ho4,hg4,_⟩:=OI.app (w:=w3) HO3.out (m:Int) (by simp) HB3.out.size;clear hx)
  | (at_builtin;refine wpList_append_run rfl _ _ _ rfl _ _ _ _ rfl rfl hr ?_;clear hr))
 go_ret
 exact⟨⟨_,rfl,ho4⟩,grown_own (B:=0) HO3.out HB3.out hg4⟩
theorem psil_39 (na nc nd:Int) (m:Nat) (t:Nat) (w:World) (hla:LayAt w) (h0:1≤(39:Int)) (h1:(39:Int)≤42) (ht:t≤6000) :
  Calls Tryz.prog 155 #[IV ⟨39,na,(m:Int),nc,nd⟩,.int .i64 t] w fun e w'=>SlR w [t+1,m] e w':=by
 have HLY:Hid (LayAt w):=hla
 have HT:Hid (tgtI ⟨39,na,(m:Int),nc,nd⟩=(m:Int)):=by show tgtI _=_;unfold tgtI;simp
 clear hla
 have hwr:IntKind.i64.wrap ((t:Int)+1)=(t:Int)+1:=by rw[IntKind.wrap_i64];omega
 obtain⟨g1,cap1,w2,hr,ho2,hg2,_⟩:=OI.app (w:=w.alloc (.cells #[.int .i64 (39:Int),.int .i64 na,.int .i64 (m:Int),.int .i64 nc,.int .i64 nd] 47)) (ORow.nil _ w.heap.size _ _ _) ((t:Int)+1) (by simp) (by simp)
 rw[show (w.alloc (.cells #[.int .i64 (39:Int),.int .i64 na,.int .i64 (m:Int),.int .i64 nc,.int .i64 nd] 47)).heap.size=w.heap.size+1 by simp]at hr
 have HB2:Hid (Below w.heap.size w w2):=(bw1 _ _).trans ((grown_nil (B:=0) (ts:=[]) hg2).mono (by simp))
 have hb2:w2.heap[w.heap.size]?=some (.cells #[.int .i64 (39:Int),.int .i64 na,.int .i64 (m:Int),.int .i64 nc,.int .i64 nd] 47):=blk_later (grown_nil (B:=0) (ts:=[]) hg2) (blk_new _ _)
 have k0:w2.cell? ⟨w.heap.size,0,none⟩=some (.int .i64 (39:Int)):=by rw[blk_cell hb2];rfl
 have k1:w2.cell? ⟨w.heap.size,1,none⟩=some (.int .i64 na):=by rw[blk_cell hb2];rfl
 have k2:w2.cell? ⟨w.heap.size,2,none⟩=some (.int .i64 (m:Int)):=by rw[blk_cell hb2];rfl
 have k3:w2.cell? ⟨w.heap.size,3,none⟩=some (.int .i64 nc):=by rw[blk_cell hb2];rfl
 have k4:w2.cell? ⟨w.heap.size,4,none⟩=some (.int .i64 nd):=by rw[blk_cell hb2];rfl
 have HO2:Hid (OI w2 w.heap.size (.slice (some ⟨g1,0,none⟩) 1 cap1) [(t:Int)+1]):=ho2
 clear hb2 hg2 ho2
 go_enter Tryz.func155,Tryz.ntmps155
 go_wp2_with (first
  | (go_at_call 58;refine (goes_any _ _).mono ?_;rw[show endsB (39:Int)=false from rfl];rintro e w9 ⟨rfl,rfl⟩)
  | (go_at_call 153;refine (target_any ⟨39,na,(m:Int),nc,nd⟩ _ h0 h1 (HLY.out.later HB2.out)).mono ?_;rw[HT.out];rintro e w3 ⟨rfl,hx⟩;have HB3:Hid (Below w.heap.size w w3):=HB2.out.trans (hx.mono HB2.out.size);have HO3:Hid (OI w3 w.heap.size (.slice (some ⟨g1,0,none⟩) 1 cap1) [(t:Int)+1]):=HO2.out.later hx;obtain⟨g3,cap3,w4,hr,ho4,hg4,_⟩:=OI.app (w:=w3) HO3.out (m:Int) (by simp) HB3.out.size;clear hx)
  | (at_builtin;refine wpList_append_run rfl _ _ _ rfl _ _ _ _ rfl rfl hr ?_;clear hr))
 go_ret
 exact⟨⟨_,rfl,ho4⟩,grown_own (B:=0) HO3.out HB3.out hg4⟩
theorem psil_31 (nb nc nd:Int) (m:Nat) (t:Nat) (w:World) (hla:LayAt w) (h0:1≤(31:Int)) (h1:(31:Int)≤42) (ht:t≤6000) :
  Calls Tryz.prog 155 #[IV ⟨31,(m:Int),nb,nc,nd⟩,.int .i64 t] w fun e w'=>SlR w [t+1,m] e w':=by
 have HLY:Hid (LayAt w):=hla
 have HT:Hid (tgtI ⟨31,(m:Int),nb,nc,nd⟩=(m:Int)):=by show tgtI _=_;unfold tgtI;simp
 clear hla
 have hwr:IntKind.i64.wrap ((t:Int)+1)=(t:Int)+1:=by rw[IntKind.wrap_i64];omega
 obtain⟨g1,cap1,w2,hr,ho2,hg2,_⟩:=OI.app (w:=w.alloc (.cells #[.int .i64 (31:Int),.int .i64 (m:Int),.int .i64 nb,.int .i64 nc,.int .i64 nd] 47)) (ORow.nil _ w.heap.size _ _ _) ((t:Int)+1) (by simp) (by simp)
 rw[show (w.alloc (.cells #[.int .i64 (31:Int),.int .i64 (m:Int),.int .i64 nb,.int .i64 nc,.int .i64 nd] 47)).heap.size=w.heap.size+1 by simp]at hr
 have HB2:Hid (Below w.heap.size w w2):=(bw1 _ _).trans ((grown_nil (B:=0) (ts:=[]) hg2).mono (by simp))
 have hb2:w2.heap[w.heap.size]?=some (.cells #[.int .i64 (31:Int),.int .i64 (m:Int),.int .i64 nb,.int .i64 nc,.int .i64 nd] 47):=blk_later (grown_nil (B:=0) (ts:=[]) hg2) (blk_new _ _)
 have k0:w2.cell? ⟨w.heap.size,0,none⟩=some (.int .i64 (31:Int)):=by rw[blk_cell hb2];rfl
 have k1:w2.cell? ⟨w.heap.size,1,none⟩=some (.int .i64 (m:Int)):=by rw[blk_cell hb2];rfl
 have k2:w2.cell? ⟨w.heap.size,2,none⟩=some (.int .i64 nb):=by rw[blk_cell hb2];rfl
 have k3:w2.cell? ⟨w.heap.size,3,none⟩=some (.int .i64 nc):=by rw[blk_cell hb2];rfl
 have k4:w2.cell? ⟨w.heap.size,4,none⟩=some (.int .i64 nd):=by rw[blk_cell hb2];rfl
 have HO2:Hid (OI w2 w.heap.size (.slice (some ⟨g1,0,none⟩) 1 cap1) [(t:Int)+1]):=ho2
 clear hb2 hg2 ho2
 go_enter Tryz.func155,Tryz.ntmps155
 go_wp2_with (first
  | (go_at_call 58;refine (goes_any _ _).mono ?_;rw[show endsB (31:Int)=false from rfl];rintro e w9 ⟨rfl,rfl⟩)
  | (go_at_call 153;refine (target_any ⟨31,(m:Int),nb,nc,nd⟩ _ h0 h1 (HLY.out.later HB2.out)).mono ?_;rw[HT.out];rintro e w3 ⟨rfl,hx⟩;have HB3:Hid (Below w.heap.size w w3):=HB2.out.trans (hx.mono HB2.out.size);have HO3:Hid (OI w3 w.heap.size (.slice (some ⟨g1,0,none⟩) 1 cap1) [(t:Int)+1]):=HO2.out.later hx;obtain⟨g3,cap3,w4,hr,ho4,hg4,_⟩:=OI.app (w:=w3) HO3.out (m:Int) (by simp) HB3.out.size;clear hx)
  | (at_builtin;refine wpList_append_run rfl _ _ _ rfl _ _ _ _ rfl rfl hr ?_;clear hr))
 go_ret
 exact⟨⟨_,rfl,ho4⟩,grown_own (B:=0) HO3.out HB3.out hg4⟩
theorem psil_s (op:Int) (na nb nc nd:Int) (t:Nat) (w:World) (hla:LayAt w) (h0:1≤(op:Int)) (h1:(op:Int)≤42) (ht:t≤6000) (t1:(op == 1)=false) (t3:(op == 3)=false) (t28:(op == 28)=false) (t18:(op == 18)=false) (t41:(op != 41)=true) (hgo:endsB op=false) (htg:¬(op=19∨op=31)∧¬(op=20∨op=21∨op=38∨op=39∨op=41)) :
  Calls Tryz.prog 155 #[IV ⟨op,na,nb,nc,nd⟩,.int .i64 t] w fun e w'=>SlR w [t+1] e w':=by
 have HLY:Hid (LayAt w):=hla
 have HT:Hid (tgtI ⟨op,na,nb,nc,nd⟩=-1):=by show tgtI _=_;unfold tgtI;dsimp only;rw[if_neg (by omega),if_neg (by omega)]
 clear hla htg
 have hwr:IntKind.i64.wrap ((t:Int)+1)=(t:Int)+1:=by rw[IntKind.wrap_i64];omega
 obtain⟨g1,cap1,w2,hr,ho2,hg2,_⟩:=OI.app (w:=w.alloc (.cells #[.int .i64 op,.int .i64 na,.int .i64 nb,.int .i64 nc,.int .i64 nd] 47)) (ORow.nil _ w.heap.size _ _ _) ((t:Int)+1) (by simp) (by simp)
 rw[show (w.alloc (.cells #[.int .i64 op,.int .i64 na,.int .i64 nb,.int .i64 nc,.int .i64 nd] 47)).heap.size=w.heap.size+1 by simp]at hr
 have HB2:Hid (Below w.heap.size w w2):=(bw1 _ _).trans ((grown_nil (B:=0) (ts:=[]) hg2).mono (by simp))
 have hb2:w2.heap[w.heap.size]?=some (.cells #[.int .i64 op,.int .i64 na,.int .i64 nb,.int .i64 nc,.int .i64 nd] 47):=blk_later (grown_nil (B:=0) (ts:=[]) hg2) (blk_new _ _)
 have k0:w2.cell? ⟨w.heap.size,0,none⟩=some (.int .i64 op):=by rw[blk_cell hb2];rfl
 have k1:w2.cell? ⟨w.heap.size,1,none⟩=some (.int .i64 na):=by rw[blk_cell hb2];rfl
 have k2:w2.cell? ⟨w.heap.size,2,none⟩=some (.int .i64 nb):=by rw[blk_cell hb2];rfl
 have k3:w2.cell? ⟨w.heap.size,3,none⟩=some (.int .i64 nc):=by rw[blk_cell hb2];rfl
 have k4:w2.cell? ⟨w.heap.size,4,none⟩=some (.int .i64 nd):=by rw[blk_cell hb2];rfl
 have HO2:Hid (OI w2 w.heap.size (.slice (some ⟨g1,0,none⟩) 1 cap1) [(t:Int)+1]):=ho2
 clear hb2 hg2 ho2
 go_enter Tryz.func155,Tryz.ntmps155
 go_wp2_with (first
  | (go_at_call 58;refine (goes_any _ _).mono ?_;rw[hgo];rintro e w9 ⟨rfl,rfl⟩)
  | (go_at_call 153;refine (target_any ⟨op,na,nb,nc,nd⟩ _ h0 h1 (HLY.out.later HB2.out)).mono ?_;rw[HT.out];rintro e w3 ⟨rfl,hx⟩;have HB3:Hid (Below w.heap.size w w3):=HB2.out.trans (hx.mono HB2.out.size);have HO3:Hid (OI w3 w.heap.size (.slice (some ⟨g1,0,none⟩) 1 cap1) [(t:Int)+1]):=HO2.out.later hx;clear hx)
  | (at_builtin;refine wpList_append_run rfl _ _ _ rfl _ _ _ _ rfl rfl hr ?_;clear hr))
 go_ret
 exact⟨⟨_,rfl,HO3.out⟩,HB3.out⟩
theorem psil_j (na nb nc nd:Int) (t:Nat) (w:World) (hla:LayAt w) (h0:1≤(18:Int)) (h1:(18:Int)≤42) (ht:t≤6000) (t12:(nb == 12)=false) :
  Calls Tryz.prog 155 #[IV ⟨18,na,nb,nc,nd⟩,.int .i64 t] w fun e w'=>SlR w [t+1] e w':=by
 have HLY:Hid (LayAt w):=hla
 have HT:Hid (tgtI ⟨18,na,nb,nc,nd⟩=-1):=by show tgtI _=_;unfold tgtI;simp
 clear hla
 have hwr:IntKind.i64.wrap ((t:Int)+1)=(t:Int)+1:=by rw[IntKind.wrap_i64];omega
 obtain⟨g1,cap1,w2,hr,ho2,hg2,_⟩:=OI.app (w:=w.alloc (.cells #[.int .i64 (18:Int),.int .i64 na,.int .i64 nb,.int .i64 nc,.int .i64 nd] 47)) (ORow.nil _ w.heap.size _ _ _) ((t:Int)+1) (by simp) (by simp)
 rw[show (w.alloc (.cells #[.int .i64 (18:Int),.int .i64 na,.int .i64 nb,.int .i64 nc,.int .i64 nd] 47)).heap.size=w.heap.size+1 by simp]at hr
 have HB2:Hid (Below w.heap.size w w2):=(bw1 _ _).trans ((grown_nil (B:=0) (ts:=[]) hg2).mono (by simp))
 have hb2:w2.heap[w.heap.size]?=some (.cells #[.int .i64 (18:Int),.int .i64 na,.int .i64 nb,.int .i64 nc,.int .i64 nd] 47):=blk_later (grown_nil (B:=0) (ts:=[]) hg2) (blk_new _ _)
 have k0:w2.cell? ⟨w.heap.size,0,none⟩=some (.int .i64 (18:Int)):=by rw[blk_cell hb2];rfl
 have k1:w2.cell? ⟨w.heap.size,1,none⟩=some (.int .i64 na):=by rw[blk_cell hb2];rfl
 have k2:w2.cell? ⟨w.heap.size,2,none⟩=some (.int .i64 nb):=by rw[blk_cell hb2];rfl
 have k3:w2.cell? ⟨w.heap.size,3,none⟩=some (.int .i64 nc):=by rw[blk_cell hb2];rfl
 have k4:w2.cell? ⟨w.heap.size,4,none⟩=some (.int .i64 nd):=by rw[blk_cell hb2];rfl
 have HO2:Hid (OI w2 w.heap.size (.slice (some ⟨g1,0,none⟩) 1 cap1) [(t:Int)+1]):=ho2
 clear hb2 hg2 ho2
 go_enter Tryz.func155,Tryz.ntmps155
 go_wp2_with (first
  | (go_at_call 58;refine (goes_any _ _).mono ?_;rw[show endsB (18:Int)=false from rfl];rintro e w9 ⟨rfl,rfl⟩)
  | (go_at_call 153;refine (target_any ⟨18,na,nb,nc,nd⟩ _ h0 h1 (HLY.out.later HB2.out)).mono ?_;rw[HT.out];rintro e w3 ⟨rfl,hx⟩;have HB3:Hid (Below w.heap.size w w3):=HB2.out.trans (hx.mono HB2.out.size);have HO3:Hid (OI w3 w.heap.size (.slice (some ⟨g1,0,none⟩) 1 cap1) [(t:Int)+1]):=HO2.out.later hx;clear hx)
  | (at_builtin;refine wpList_append_run rfl _ _ _ rfl _ _ _ _ rfl rfl hr ?_;clear hr))
 go_ret
 exact⟨⟨_,rfl,HO3.out⟩,HB3.out⟩
end Go.Proofs.YtjglgbepobmjhaaGreatDoor
