import Derived.Test.YtfejmalmnjmanaaGreatDoorS14
import Derived.Test.YtfejmalmnjmanaaGreatDoorS10
set_option linter.unusedVariables false
set_option linter.unusedSimpArgs false
set_option maxRecDepth 20000
set_option maxHeartbeats 8000000
namespace Go.Proofs.YtfejmalmnjmanaaGreatDoor
open Go.RowKit
theorem nat_apps {w:World}{B:Nat}{sv:Value}{xs:List Nat} (h:ORow w B 3 1 natC sv xs) (m:Nat) (hm:w.heap.size=m) (r:Nat) (z:Int) (hz:(r:Int)=z) (hl:xs.length≤1000000) (hB:B≤w.heap.size) :
  ∃ g' cap' w2,(Builtin.append_ #[55,55] 55 #[sv,.slice (some ⟨m,0,none⟩) 1 1]).run Tryz.prog (w.alloc (.cells #[.int .i64 z] 3))=.ok (.slice (some ⟨g',0,none⟩) (xs.length+1) cap') w2∧Hid (ORow w2 B 3 1 natC (.slice (some ⟨g',0,none⟩) (xs.length+1) cap') (xs++[r]))∧Hid (∀ w0,Below w0.heap.size w0 w→w0.heap.size≤B→Below w0.heap.size w0 w2):=by
 subst hm
 exact nat_app h r z hz hl hB
set_option maxRecDepth 100000 in
theorem sil_18 (na nb nc nd:Int) (nI i b off ci:Nat) (name:ByteArray) (line params regs:Int) (rest:Bool) (au ac an:Option Addr) (lu cu lc cc ln cn:Nat) (w:World) (hi:i<nI) (hI:nI≤1048576) (hbw:b<w.heap.size)
  (d0:w.cell? ⟨b,off+i*5,none⟩=some (.int .i64 18)) (d1:w.cell? ⟨b,off+i*5+1,none⟩=some (.int .i64 na)) (d2:w.cell? ⟨b,off+i*5+2,none⟩=some (.int .i64 nb)) (d3:w.cell? ⟨b,off+i*5+3,none⟩=some (.int .i64 nc)) (d4:w.cell? ⟨b,off+i*5+4,none⟩=some (.int .i64 nd)) (hb:(nb==12)=false) :
  Calls Tryz.prog 65 #[.agg #[.string name,.int .i64 line,.int .i64 params,.bool rest,.int .i64 regs,.slice au lu cu,.slice ac lc cc,.slice (some ⟨b,off,none⟩) nI ci,.slice an ln cn],.int .i64 i] w fun e w'=>(∃ sv,e=.returned sv∧ORow w' w.heap.size 3 1 natC sv [i+1])∧Below w.heap.size w w':=by
 go_enter Tryz.func65,Tryz.ntmps65
 have HB0:Hid (Below w.heap.size w ((w.alloc (.cells #[.string name,.int .i64 line,.int .i64 params,.bool rest,.int .i64 regs,.slice au lu cu,.slice ac lc cc,.slice (some ⟨b,off,none⟩) nI ci,.slice an ln cn] 75)).alloc (.cells #[.int .i64 18,.int .i64 na,.int .i64 nb,.int .i64 nc,.int .i64 nd] 77))):=bw2 _ _ _
 obtain ⟨g',cap',w2,hr,ho,hB⟩  :=nat_apps (w:=((w.alloc (.cells #[.string name,.int .i64 line,.int .i64 params,.bool rest,.int .i64 regs,.slice au lu cu,.slice ac lc cc,.slice (some ⟨b,off,none⟩) nI ci,.slice an ln cn] 75)).alloc (.cells #[.int .i64 18,.int .i64 na,.int .i64 nb,.int .i64 nc,.int .i64 nd] 77))) (ORow.nil _ w.heap.size 3 1 natC) (w.heap.size+1+1) (by simp) (i+1) ((i:Int)+1) (by omega) (by simp) (by simp;omega)
 go_wp2_with (at_builtin;refine qEz rfl _ _ _ rfl _ _ _ _ rfl rfl hr ?_)
 go_ret
 exact ⟨⟨_,rfl,ho.out⟩,hB.out _ HB0.out (Nat.le_refl _)⟩
set_option maxRecDepth 100000 in
theorem sil_19 (na nb nc nd:Int) (nI i b off ci:Nat) (name:ByteArray) (line params regs:Int) (rest:Bool) (au ac an:Option Addr) (lu cu lc cc ln cn:Nat) (w:World) (hi:i<nI) (hI:nI≤1048576) (hbw:b<w.heap.size)
  (d0:w.cell? ⟨b,off+i*5,none⟩=some (.int .i64 19)) (d1:w.cell? ⟨b,off+i*5+1,none⟩=some (.int .i64 na)) (d2:w.cell? ⟨b,off+i*5+2,none⟩=some (.int .i64 nb)) (d3:w.cell? ⟨b,off+i*5+3,none⟩=some (.int .i64 nc)) (d4:w.cell? ⟨b,off+i*5+4,none⟩=some (.int .i64 nd)) (t:Nat) (ht:na=(t:Int)) :
  Calls Tryz.prog 65 #[.agg #[.string name,.int .i64 line,.int .i64 params,.bool rest,.int .i64 regs,.slice au lu cu,.slice ac lc cc,.slice (some ⟨b,off,none⟩) nI ci,.slice an ln cn],.int .i64 i] w fun e w'=>(∃ sv,e=.returned sv∧ORow w' w.heap.size 3 1 natC sv [t])∧Below w.heap.size w w':=by
 go_enter Tryz.func65,Tryz.ntmps65
 subst ht
 have HB0:Hid (Below w.heap.size w ((w.alloc (.cells #[.string name,.int .i64 line,.int .i64 params,.bool rest,.int .i64 regs,.slice au lu cu,.slice ac lc cc,.slice (some ⟨b,off,none⟩) nI ci,.slice an ln cn] 75)).alloc (.cells #[.int .i64 19,.int .i64 (t:Int),.int .i64 nb,.int .i64 nc,.int .i64 nd] 77))):=bw2 _ _ _
 obtain ⟨g',cap',w2,hr,ho,hB⟩  :=nat_apps (w:=((w.alloc (.cells #[.string name,.int .i64 line,.int .i64 params,.bool rest,.int .i64 regs,.slice au lu cu,.slice ac lc cc,.slice (some ⟨b,off,none⟩) nI ci,.slice an ln cn] 75)).alloc (.cells #[.int .i64 19,.int .i64 (t:Int),.int .i64 nb,.int .i64 nc,.int .i64 nd] 77))) (ORow.nil _ w.heap.size 3 1 natC) (w.heap.size+1+1) (by simp) (t) ((t:Int)) (by omega) (by simp) (by simp;omega)
 go_wp2_with (at_builtin;refine qEz rfl _ _ _ rfl _ _ _ _ rfl rfl hr ?_)
 go_ret
 exact ⟨⟨_,rfl,ho.out⟩,hB.out _ HB0.out (Nat.le_refl _)⟩
set_option maxRecDepth 100000 in
theorem sil_41 (na nb nc nd:Int) (nI i b off ci:Nat) (name:ByteArray) (line params regs:Int) (rest:Bool) (au ac an:Option Addr) (lu cu lc cc ln cn:Nat) (w:World) (hi:i<nI) (hI:nI≤1048576) (hbw:b<w.heap.size)
  (d0:w.cell? ⟨b,off+i*5,none⟩=some (.int .i64 41)) (d1:w.cell? ⟨b,off+i*5+1,none⟩=some (.int .i64 na)) (d2:w.cell? ⟨b,off+i*5+2,none⟩=some (.int .i64 nb)) (d3:w.cell? ⟨b,off+i*5+3,none⟩=some (.int .i64 nc)) (d4:w.cell? ⟨b,off+i*5+4,none⟩=some (.int .i64 nd)) (t:Nat) (ht:nb=(t:Int)) :
  Calls Tryz.prog 65 #[.agg #[.string name,.int .i64 line,.int .i64 params,.bool rest,.int .i64 regs,.slice au lu cu,.slice ac lc cc,.slice (some ⟨b,off,none⟩) nI ci,.slice an ln cn],.int .i64 i] w fun e w'=>(∃ sv,e=.returned sv∧ORow w' w.heap.size 3 1 natC sv [t])∧Below w.heap.size w w':=by
 go_enter Tryz.func65,Tryz.ntmps65
 subst ht
 have HB0:Hid (Below w.heap.size w ((w.alloc (.cells #[.string name,.int .i64 line,.int .i64 params,.bool rest,.int .i64 regs,.slice au lu cu,.slice ac lc cc,.slice (some ⟨b,off,none⟩) nI ci,.slice an ln cn] 75)).alloc (.cells #[.int .i64 41,.int .i64 na,.int .i64 (t:Int),.int .i64 nc,.int .i64 nd] 77))):=bw2 _ _ _
 obtain ⟨g',cap',w2,hr,ho,hB⟩  :=nat_apps (w:=((w.alloc (.cells #[.string name,.int .i64 line,.int .i64 params,.bool rest,.int .i64 regs,.slice au lu cu,.slice ac lc cc,.slice (some ⟨b,off,none⟩) nI ci,.slice an ln cn] 75)).alloc (.cells #[.int .i64 41,.int .i64 na,.int .i64 (t:Int),.int .i64 nc,.int .i64 nd] 77))) (ORow.nil _ w.heap.size 3 1 natC) (w.heap.size+1+1) (by simp) (t) ((t:Int)) (by omega) (by simp) (by simp;omega)
 go_wp2_with (at_builtin;refine qEz rfl _ _ _ rfl _ _ _ _ rfl rfl hr ?_)
 go_ret
 exact ⟨⟨_,rfl,ho.out⟩,hB.out _ HB0.out (Nat.le_refl _)⟩
set_option maxRecDepth 100000 in
theorem sil_o (op na nb nc nd:Int) (nI i b off ci:Nat) (name:ByteArray) (line params regs:Int) (rest:Bool) (au ac an:Option Addr) (lu cu lc cc ln cn:Nat) (w:World) (hi:i<nI) (hI:nI≤1048576) (hbw:b<w.heap.size)
  (d0:w.cell? ⟨b,off+i*5,none⟩=some (.int .i64 op)) (d1:w.cell? ⟨b,off+i*5+1,none⟩=some (.int .i64 na)) (d2:w.cell? ⟨b,off+i*5+2,none⟩=some (.int .i64 nb)) (d3:w.cell? ⟨b,off+i*5+3,none⟩=some (.int .i64 nc)) (d4:w.cell? ⟨b,off+i*5+4,none⟩=some (.int .i64 nd)) (f1:(op==1)=false) (f3:(op==3)=false) (f28:(op==28)=false) (f29:(op==29)=false) (f30:(op==30)=false) (f18:(op==18)=false) (f19:(op==19)=false) (f41:(op==41)=false) (f20:(op==20)=false) (f21:(op==21)=false) (f38:(op==38)=false) (f39:(op==39)=false) (f31:(op==31)=false) :
  Calls Tryz.prog 65 #[.agg #[.string name,.int .i64 line,.int .i64 params,.bool rest,.int .i64 regs,.slice au lu cu,.slice ac lc cc,.slice (some ⟨b,off,none⟩) nI ci,.slice an ln cn],.int .i64 i] w fun e w'=>(∃ sv,e=.returned sv∧ORow w' w.heap.size 3 1 natC sv [i+1])∧Below w.heap.size w w':=by
 go_enter Tryz.func65,Tryz.ntmps65
 have HB0:Hid (Below w.heap.size w ((w.alloc (.cells #[.string name,.int .i64 line,.int .i64 params,.bool rest,.int .i64 regs,.slice au lu cu,.slice ac lc cc,.slice (some ⟨b,off,none⟩) nI ci,.slice an ln cn] 75)).alloc (.cells #[.int .i64 op,.int .i64 na,.int .i64 nb,.int .i64 nc,.int .i64 nd] 77))):=bw2 _ _ _
 obtain ⟨g',cap',w2,hr,ho,hB⟩  :=nat_apps (w:=((w.alloc (.cells #[.string name,.int .i64 line,.int .i64 params,.bool rest,.int .i64 regs,.slice au lu cu,.slice ac lc cc,.slice (some ⟨b,off,none⟩) nI ci,.slice an ln cn] 75)).alloc (.cells #[.int .i64 op,.int .i64 na,.int .i64 nb,.int .i64 nc,.int .i64 nd] 77))) (ORow.nil _ w.heap.size 3 1 natC) (w.heap.size+1+1) (by simp) (i+1) ((i:Int)+1) (by omega) (by simp) (by simp;omega)
 go_wp2_with (at_builtin;refine qEz rfl _ _ _ rfl _ _ _ _ rfl rfl hr ?_)
 go_ret
 exact ⟨⟨_,rfl,ho.out⟩,hB.out _ HB0.out (Nat.le_refl _)⟩
set_option maxRecDepth 100000 in
theorem sil_20 (na nb nc nd:Int) (nI i b off ci:Nat) (name:ByteArray) (line params regs:Int) (rest:Bool) (au ac an:Option Addr) (lu cu lc cc ln cn:Nat) (w:World) (hi:i<nI) (hI:nI≤1048576) (hbw:b<w.heap.size)
  (d0:w.cell? ⟨b,off+i*5,none⟩=some (.int .i64 20)) (d1:w.cell? ⟨b,off+i*5+1,none⟩=some (.int .i64 na)) (d2:w.cell? ⟨b,off+i*5+2,none⟩=some (.int .i64 nb)) (d3:w.cell? ⟨b,off+i*5+3,none⟩=some (.int .i64 nc)) (d4:w.cell? ⟨b,off+i*5+4,none⟩=some (.int .i64 nd)) (t:Nat) (ht:nb=(t:Int)) :
  Calls Tryz.prog 65 #[.agg #[.string name,.int .i64 line,.int .i64 params,.bool rest,.int .i64 regs,.slice au lu cu,.slice ac lc cc,.slice (some ⟨b,off,none⟩) nI ci,.slice an ln cn],.int .i64 i] w fun e w'=>(∃ sv,e=.returned sv∧ORow w' w.heap.size 3 1 natC sv [t,i+1])∧Below w.heap.size w w':=by
 go_enter Tryz.func65,Tryz.ntmps65
 subst ht
 have HB0:Hid (Below w.heap.size w ((w.alloc (.cells #[.string name,.int .i64 line,.int .i64 params,.bool rest,.int .i64 regs,.slice au lu cu,.slice ac lc cc,.slice (some ⟨b,off,none⟩) nI ci,.slice an ln cn] 75)).alloc (.cells #[.int .i64 20,.int .i64 na,.int .i64 (t:Int),.int .i64 nc,.int .i64 nd] 77))):=bw2 _ _ _
 obtain ⟨g',cap',w2,hr,ho,hB⟩  :=nat_apps (w:=((w.alloc (.cells #[.string name,.int .i64 line,.int .i64 params,.bool rest,.int .i64 regs,.slice au lu cu,.slice ac lc cc,.slice (some ⟨b,off,none⟩) nI ci,.slice an ln cn] 75)).alloc (.cells #[.int .i64 20,.int .i64 na,.int .i64 (t:Int),.int .i64 nc,.int .i64 nd] 77))) (ORow.nil _ w.heap.size 3 1 natC) (w.heap.size+1+1) (by simp) t (t:Int) rfl (by simp) (by simp;omega)
 have HB2:Hid (Below w.heap.size w w2):=hB.out _ HB0.out (Nat.le_refl _)
 obtain ⟨g3,cap3,w3,hr3,ho3,hB3⟩:=nat_apps ho.out w2.heap.size rfl (i+1) ((i:Int)+1) (by omega) (by simp) HB2.out.size
 go_wp2_with (first|(at_builtin;refine qEz rfl _ _ _ rfl _ _ _ _ rfl rfl hr ?_;clear hr)|(at_builtin;refine qEz rfl _ _ _ rfl _ _ _ _ rfl rfl hr3 ?_))
 go_ret
 exact ⟨⟨_,rfl,ho3.out⟩,hB3.out _ HB2.out (Nat.le_refl _)⟩
set_option maxRecDepth 100000 in
theorem sil_21 (na nb nc nd:Int) (nI i b off ci:Nat) (name:ByteArray) (line params regs:Int) (rest:Bool) (au ac an:Option Addr) (lu cu lc cc ln cn:Nat) (w:World) (hi:i<nI) (hI:nI≤1048576) (hbw:b<w.heap.size)
  (d0:w.cell? ⟨b,off+i*5,none⟩=some (.int .i64 21)) (d1:w.cell? ⟨b,off+i*5+1,none⟩=some (.int .i64 na)) (d2:w.cell? ⟨b,off+i*5+2,none⟩=some (.int .i64 nb)) (d3:w.cell? ⟨b,off+i*5+3,none⟩=some (.int .i64 nc)) (d4:w.cell? ⟨b,off+i*5+4,none⟩=some (.int .i64 nd)) (t:Nat) (ht:nb=(t:Int)) :
  Calls Tryz.prog 65 #[.agg #[.string name,.int .i64 line,.int .i64 params,.bool rest,.int .i64 regs,.slice au lu cu,.slice ac lc cc,.slice (some ⟨b,off,none⟩) nI ci,.slice an ln cn],.int .i64 i] w fun e w'=>(∃ sv,e=.returned sv∧ORow w' w.heap.size 3 1 natC sv [t,i+1])∧Below w.heap.size w w':=by
 go_enter Tryz.func65,Tryz.ntmps65
 subst ht
 have HB0:Hid (Below w.heap.size w ((w.alloc (.cells #[.string name,.int .i64 line,.int .i64 params,.bool rest,.int .i64 regs,.slice au lu cu,.slice ac lc cc,.slice (some ⟨b,off,none⟩) nI ci,.slice an ln cn] 75)).alloc (.cells #[.int .i64 21,.int .i64 na,.int .i64 (t:Int),.int .i64 nc,.int .i64 nd] 77))):=bw2 _ _ _
 obtain ⟨g',cap',w2,hr,ho,hB⟩  :=nat_apps (w:=((w.alloc (.cells #[.string name,.int .i64 line,.int .i64 params,.bool rest,.int .i64 regs,.slice au lu cu,.slice ac lc cc,.slice (some ⟨b,off,none⟩) nI ci,.slice an ln cn] 75)).alloc (.cells #[.int .i64 21,.int .i64 na,.int .i64 (t:Int),.int .i64 nc,.int .i64 nd] 77))) (ORow.nil _ w.heap.size 3 1 natC) (w.heap.size+1+1) (by simp) t (t:Int) rfl (by simp) (by simp;omega)
 have HB2:Hid (Below w.heap.size w w2):=hB.out _ HB0.out (Nat.le_refl _)
 obtain ⟨g3,cap3,w3,hr3,ho3,hB3⟩:=nat_apps ho.out w2.heap.size rfl (i+1) ((i:Int)+1) (by omega) (by simp) HB2.out.size
 go_wp2_with (first|(at_builtin;refine qEz rfl _ _ _ rfl _ _ _ _ rfl rfl hr ?_;clear hr)|(at_builtin;refine qEz rfl _ _ _ rfl _ _ _ _ rfl rfl hr3 ?_))
 go_ret
 exact ⟨⟨_,rfl,ho3.out⟩,hB3.out _ HB2.out (Nat.le_refl _)⟩
set_option maxRecDepth 100000 in
theorem sil_38 (na nb nc nd:Int) (nI i b off ci:Nat) (name:ByteArray) (line params regs:Int) (rest:Bool) (au ac an:Option Addr) (lu cu lc cc ln cn:Nat) (w:World) (hi:i<nI) (hI:nI≤1048576) (hbw:b<w.heap.size)
  (d0:w.cell? ⟨b,off+i*5,none⟩=some (.int .i64 38)) (d1:w.cell? ⟨b,off+i*5+1,none⟩=some (.int .i64 na)) (d2:w.cell? ⟨b,off+i*5+2,none⟩=some (.int .i64 nb)) (d3:w.cell? ⟨b,off+i*5+3,none⟩=some (.int .i64 nc)) (d4:w.cell? ⟨b,off+i*5+4,none⟩=some (.int .i64 nd)) (t:Nat) (ht:nb=(t:Int)) :
  Calls Tryz.prog 65 #[.agg #[.string name,.int .i64 line,.int .i64 params,.bool rest,.int .i64 regs,.slice au lu cu,.slice ac lc cc,.slice (some ⟨b,off,none⟩) nI ci,.slice an ln cn],.int .i64 i] w fun e w'=>(∃ sv,e=.returned sv∧ORow w' w.heap.size 3 1 natC sv [t,i+1])∧Below w.heap.size w w':=by
 go_enter Tryz.func65,Tryz.ntmps65
 subst ht
 have HB0:Hid (Below w.heap.size w ((w.alloc (.cells #[.string name,.int .i64 line,.int .i64 params,.bool rest,.int .i64 regs,.slice au lu cu,.slice ac lc cc,.slice (some ⟨b,off,none⟩) nI ci,.slice an ln cn] 75)).alloc (.cells #[.int .i64 38,.int .i64 na,.int .i64 (t:Int),.int .i64 nc,.int .i64 nd] 77))):=bw2 _ _ _
 obtain ⟨g',cap',w2,hr,ho,hB⟩  :=nat_apps (w:=((w.alloc (.cells #[.string name,.int .i64 line,.int .i64 params,.bool rest,.int .i64 regs,.slice au lu cu,.slice ac lc cc,.slice (some ⟨b,off,none⟩) nI ci,.slice an ln cn] 75)).alloc (.cells #[.int .i64 38,.int .i64 na,.int .i64 (t:Int),.int .i64 nc,.int .i64 nd] 77))) (ORow.nil _ w.heap.size 3 1 natC) (w.heap.size+1+1) (by simp) t (t:Int) rfl (by simp) (by simp;omega)
 have HB2:Hid (Below w.heap.size w w2):=hB.out _ HB0.out (Nat.le_refl _)
 obtain ⟨g3,cap3,w3,hr3,ho3,hB3⟩:=nat_apps ho.out w2.heap.size rfl (i+1) ((i:Int)+1) (by omega) (by simp) HB2.out.size
 go_wp2_with (first|(at_builtin;refine qEz rfl _ _ _ rfl _ _ _ _ rfl rfl hr ?_;clear hr)|(at_builtin;refine qEz rfl _ _ _ rfl _ _ _ _ rfl rfl hr3 ?_))
 go_ret
 exact ⟨⟨_,rfl,ho3.out⟩,hB3.out _ HB2.out (Nat.le_refl _)⟩
set_option maxRecDepth 100000 in
theorem sil_39 (na nb nc nd:Int) (nI i b off ci:Nat) (name:ByteArray) (line params regs:Int) (rest:Bool) (au ac an:Option Addr) (lu cu lc cc ln cn:Nat) (w:World) (hi:i<nI) (hI:nI≤1048576) (hbw:b<w.heap.size)
  (d0:w.cell? ⟨b,off+i*5,none⟩=some (.int .i64 39)) (d1:w.cell? ⟨b,off+i*5+1,none⟩=some (.int .i64 na)) (d2:w.cell? ⟨b,off+i*5+2,none⟩=some (.int .i64 nb)) (d3:w.cell? ⟨b,off+i*5+3,none⟩=some (.int .i64 nc)) (d4:w.cell? ⟨b,off+i*5+4,none⟩=some (.int .i64 nd)) (t:Nat) (ht:nb=(t:Int)) :
  Calls Tryz.prog 65 #[.agg #[.string name,.int .i64 line,.int .i64 params,.bool rest,.int .i64 regs,.slice au lu cu,.slice ac lc cc,.slice (some ⟨b,off,none⟩) nI ci,.slice an ln cn],.int .i64 i] w fun e w'=>(∃ sv,e=.returned sv∧ORow w' w.heap.size 3 1 natC sv [t,i+1])∧Below w.heap.size w w':=by
 go_enter Tryz.func65,Tryz.ntmps65
 subst ht
 have HB0:Hid (Below w.heap.size w ((w.alloc (.cells #[.string name,.int .i64 line,.int .i64 params,.bool rest,.int .i64 regs,.slice au lu cu,.slice ac lc cc,.slice (some ⟨b,off,none⟩) nI ci,.slice an ln cn] 75)).alloc (.cells #[.int .i64 39,.int .i64 na,.int .i64 (t:Int),.int .i64 nc,.int .i64 nd] 77))):=bw2 _ _ _
 obtain ⟨g',cap',w2,hr,ho,hB⟩  :=nat_apps (w:=((w.alloc (.cells #[.string name,.int .i64 line,.int .i64 params,.bool rest,.int .i64 regs,.slice au lu cu,.slice ac lc cc,.slice (some ⟨b,off,none⟩) nI ci,.slice an ln cn] 75)).alloc (.cells #[.int .i64 39,.int .i64 na,.int .i64 (t:Int),.int .i64 nc,.int .i64 nd] 77))) (ORow.nil _ w.heap.size 3 1 natC) (w.heap.size+1+1) (by simp) t (t:Int) rfl (by simp) (by simp;omega)
 have HB2:Hid (Below w.heap.size w w2):=hB.out _ HB0.out (Nat.le_refl _)
 obtain ⟨g3,cap3,w3,hr3,ho3,hB3⟩:=nat_apps ho.out w2.heap.size rfl (i+1) ((i:Int)+1) (by omega) (by simp) HB2.out.size
 go_wp2_with (first|(at_builtin;refine qEz rfl _ _ _ rfl _ _ _ _ rfl rfl hr ?_;clear hr)|(at_builtin;refine qEz rfl _ _ _ rfl _ _ _ _ rfl rfl hr3 ?_))
 go_ret
 exact ⟨⟨_,rfl,ho3.out⟩,hB3.out _ HB2.out (Nat.le_refl _)⟩
set_option maxRecDepth 100000 in
theorem sil_31 (na nb nc nd:Int) (nI i b off ci:Nat) (name:ByteArray) (line params regs:Int) (rest:Bool) (au ac an:Option Addr) (lu cu lc cc ln cn:Nat) (w:World) (hi:i<nI) (hI:nI≤1048576) (hbw:b<w.heap.size)
  (d0:w.cell? ⟨b,off+i*5,none⟩=some (.int .i64 31)) (d1:w.cell? ⟨b,off+i*5+1,none⟩=some (.int .i64 na)) (d2:w.cell? ⟨b,off+i*5+2,none⟩=some (.int .i64 nb)) (d3:w.cell? ⟨b,off+i*5+3,none⟩=some (.int .i64 nc)) (d4:w.cell? ⟨b,off+i*5+4,none⟩=some (.int .i64 nd)) (t:Nat) (ht:na=(t:Int)) :
  Calls Tryz.prog 65 #[.agg #[.string name,.int .i64 line,.int .i64 params,.bool rest,.int .i64 regs,.slice au lu cu,.slice ac lc cc,.slice (some ⟨b,off,none⟩) nI ci,.slice an ln cn],.int .i64 i] w fun e w'=>(∃ sv,e=.returned sv∧ORow w' w.heap.size 3 1 natC sv [t,i+1])∧Below w.heap.size w w':=by
 go_enter Tryz.func65,Tryz.ntmps65
 subst ht
 have HB0:Hid (Below w.heap.size w ((w.alloc (.cells #[.string name,.int .i64 line,.int .i64 params,.bool rest,.int .i64 regs,.slice au lu cu,.slice ac lc cc,.slice (some ⟨b,off,none⟩) nI ci,.slice an ln cn] 75)).alloc (.cells #[.int .i64 31,.int .i64 (t:Int),.int .i64 nb,.int .i64 nc,.int .i64 nd] 77))):=bw2 _ _ _
 obtain ⟨g',cap',w2,hr,ho,hB⟩  :=nat_apps (w:=((w.alloc (.cells #[.string name,.int .i64 line,.int .i64 params,.bool rest,.int .i64 regs,.slice au lu cu,.slice ac lc cc,.slice (some ⟨b,off,none⟩) nI ci,.slice an ln cn] 75)).alloc (.cells #[.int .i64 31,.int .i64 (t:Int),.int .i64 nb,.int .i64 nc,.int .i64 nd] 77))) (ORow.nil _ w.heap.size 3 1 natC) (w.heap.size+1+1) (by simp) t (t:Int) rfl (by simp) (by simp;omega)
 have HB2:Hid (Below w.heap.size w w2):=hB.out _ HB0.out (Nat.le_refl _)
 obtain ⟨g3,cap3,w3,hr3,ho3,hB3⟩:=nat_apps ho.out w2.heap.size rfl (i+1) ((i:Int)+1) (by omega) (by simp) HB2.out.size
 go_wp2_with (first|(at_builtin;refine qEz rfl _ _ _ rfl _ _ _ _ rfl rfl hr ?_;clear hr)|(at_builtin;refine qEz rfl _ _ _ rfl _ _ _ _ rfl rfl hr3 ?_))
 go_ret
 exact ⟨⟨_,rfl,ho3.out⟩,hB3.out _ HB2.out (Nat.le_refl _)⟩
theorem silent_any (n:ID) (nR nI i bk off ci:Nat) (name:ByteArray) (line params regs:Int) (rest:Bool) (au ac an:Option Addr) (lu cu lc cc ln cn:Nat) (w:World) (hn:InsOk nR nI n) (hi:i<nI) (hI:nI≤1048576) (hbw:bk<w.heap.size)
  (d0:w.cell? ⟨bk,off+i*5,none⟩=some (.int .i64 n.op)) (d1:w.cell? ⟨bk,off+i*5+1,none⟩=some (.int .i64 n.a)) (d2:w.cell? ⟨bk,off+i*5+2,none⟩=some (.int .i64 n.b)) (d3:w.cell? ⟨bk,off+i*5+3,none⟩=some (.int .i64 n.c)) (d4:w.cell? ⟨bk,off+i*5+4,none⟩=some (.int .i64 n.d)) :
  Calls Tryz.prog 65 #[.agg #[.string name,.int .i64 line,.int .i64 params,.bool rest,.int .i64 regs,.slice au lu cu,.slice ac lc cc,.slice (some ⟨bk,off,none⟩) nI ci,.slice an ln cn],.int .i64 i] w fun e w'=>(∃ sv,e=.returned sv∧ORow w' w.heap.size 3 1 natC sv (silS n i))∧Below w.heap.size w w':=by
 obtain ⟨op,na,nb,nc,nd⟩:=n
 have hta:=hn.ta
 have htb:=hn.tb
 dsimp only at d0 d1 d2 d3 d4 hta htb
 clear hn
 by_cases e1:op=1
 ·subst e1
  rw[show silS ⟨1,na,nb,nc,nd⟩ i=[] by simp[silS]]
  exact sil_1 na nb nc nd nI i bk off ci name line params regs rest au ac an lu cu lc cc ln cn w hi hI hbw d0 d1 d2 d3 d4
 by_cases e3:op=3
 ·subst e3
  rw[show silS ⟨3,na,nb,nc,nd⟩ i=[] by simp[silS]]
  exact sil_3 na nb nc nd nI i bk off ci name line params regs rest au ac an lu cu lc cc ln cn w hi hI hbw d0 d1 d2 d3 d4
 by_cases e28:op=28
 ·subst e28
  rw[show silS ⟨28,na,nb,nc,nd⟩ i=[] by simp[silS]]
  exact sil_28 na nb nc nd nI i bk off ci name line params regs rest au ac an lu cu lc cc ln cn w hi hI hbw d0 d1 d2 d3 d4
 by_cases e29:op=29
 ·subst e29
  rw[show silS ⟨29,na,nb,nc,nd⟩ i=[] by simp[silS]]
  exact sil_29 na nb nc nd nI i bk off ci name line params regs rest au ac an lu cu lc cc ln cn w hi hI hbw d0 d1 d2 d3 d4
 by_cases e30:op=30
 ·subst e30
  rw[show silS ⟨30,na,nb,nc,nd⟩ i=[] by simp[silS]]
  exact sil_30 na nb nc nd nI i bk off ci name line params regs rest au ac an lu cu lc cc ln cn w hi hI hbw d0 d1 d2 d3 d4
 by_cases e18:op=18
 ·subst e18
  by_cases hb:nb=12
  ·rw[show silS ⟨18,na,nb,nc,nd⟩ i=[] by simp[silS,hb]]
   exact sil_18j na nb nc nd nI i bk off ci name line params regs rest au ac an lu cu lc cc ln cn w hi hI hbw d0 d1 d2 d3 d4 (by simpa using hb)
  ·rw[show silS ⟨18,na,nb,nc,nd⟩ i=[i+1] by simp[silS,hb]]
   exact sil_18 na nb nc nd nI i bk off ci name line params regs rest au ac an lu cu lc cc ln cn w hi hI hbw d0 d1 d2 d3 d4 (by simpa using hb)
 by_cases e19:op=19
 ·subst e19
  rw[show silS ⟨19,na,nb,nc,nd⟩ i=[na.toNat] by simp[silS]]
  exact sil_19 na nb nc nd nI i bk off ci name line params regs rest au ac an lu cu lc cc ln cn w hi hI hbw d0 d1 d2 d3 d4 na.toNat (by have:=hta (by simp);omega)
 by_cases e41:op=41
 ·subst e41
  rw[show silS ⟨41,na,nb,nc,nd⟩ i=[nb.toNat] by simp[silS]]
  exact sil_41 na nb nc nd nI i bk off ci name line params regs rest au ac an lu cu lc cc ln cn w hi hI hbw d0 d1 d2 d3 d4 nb.toNat (by have:=htb (by simp);omega)
 by_cases e20:op=20
 ·subst e20
  rw[show silS ⟨20,na,nb,nc,nd⟩ i=[nb.toNat,i+1] by simp[silS]]
  exact sil_20 na nb nc nd nI i bk off ci name line params regs rest au ac an lu cu lc cc ln cn w hi hI hbw d0 d1 d2 d3 d4 nb.toNat (by have:=htb (by simp);omega)
 by_cases e21:op=21
 ·subst e21
  rw[show silS ⟨21,na,nb,nc,nd⟩ i=[nb.toNat,i+1] by simp[silS]]
  exact sil_21 na nb nc nd nI i bk off ci name line params regs rest au ac an lu cu lc cc ln cn w hi hI hbw d0 d1 d2 d3 d4 nb.toNat (by have:=htb (by simp);omega)
 by_cases e38:op=38
 ·subst e38
  rw[show silS ⟨38,na,nb,nc,nd⟩ i=[nb.toNat,i+1] by simp[silS]]
  exact sil_38 na nb nc nd nI i bk off ci name line params regs rest au ac an lu cu lc cc ln cn w hi hI hbw d0 d1 d2 d3 d4 nb.toNat (by have:=htb (by simp);omega)
 by_cases e39:op=39
 ·subst e39
  rw[show silS ⟨39,na,nb,nc,nd⟩ i=[nb.toNat,i+1] by simp[silS]]
  exact sil_39 na nb nc nd nI i bk off ci name line params regs rest au ac an lu cu lc cc ln cn w hi hI hbw d0 d1 d2 d3 d4 nb.toNat (by have:=htb (by simp);omega)
 by_cases e31:op=31
 ·subst e31
  rw[show silS ⟨31,na,nb,nc,nd⟩ i=[na.toNat,i+1] by simp[silS]]
  exact sil_31 na nb nc nd nI i bk off ci name line params regs rest au ac an lu cu lc cc ln cn w hi hI hbw d0 d1 d2 d3 d4 na.toNat (by have:=hta (by simp);omega)
 rw[show silS ⟨op,na,nb,nc,nd⟩ i=[i+1] by simp[silS,e1,e3,e28,e29,e30,e18,e19,e41,e20,e21,e38,e39,e31]]
 exact sil_o op na nb nc nd nI i bk off ci name line params regs rest au ac an lu cu lc cc ln cn w hi hI hbw d0 d1 d2 d3 d4 (by simpa using e1) (by simpa using e3) (by simpa using e28) (by simpa using e29) (by simpa using e30) (by simpa using e18) (by simpa using e19) (by simpa using e41) (by simpa using e20) (by simpa using e21) (by simpa using e38) (by simpa using e39) (by simpa using e31)
end Go.Proofs.YtfejmalmnjmanaaGreatDoor
