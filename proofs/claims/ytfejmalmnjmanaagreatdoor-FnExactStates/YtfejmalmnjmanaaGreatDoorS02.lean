import Derived.Test.YtfejmalmnjmanaaGreatDoorS01
set_option linter.unusedVariables false
set_option linter.unusedSimpArgs false
set_option maxRecDepth 20000
set_option maxHeartbeats 8000000
namespace Go.Proofs.YtfejmalmnjmanaaGreatDoor
open Go.RowKit
attribute [local go_sem] run_store_float
theorem qAz {w:World}{g:Nat}{arr:Array Value}{t:TypeId} (h:w.heap[g]?=some (.cells arr t)) (j:Nat):w.cell? ⟨g,j,none⟩=arr[j]?:=by simp[World.cell?,h]
theorem qGz {w:World}{g:Nat}{arr:Array Value}{t:TypeId} (h:w.heap[g]?=some (.cells arr t)) (j:Nat):w.frozen? ⟨g,j,none⟩=false:=by simp[World.frozen?,h]
theorem qLz {w:World}{g:Nat}{arr:Array Value}{t:TypeId} (h:w.heap[g]?=some (.cells arr t)) (j:Nat) (v:Value):(w.setCell ⟨g,j,none⟩ v).heap[g]?=some (.cells (arr.setIfInBounds j v) t):=by
 simp[World.setCell,Array.getElem?_modify,h]
theorem blk_lt {w:World}{g:Nat}{o:Obj} (h:w.heap[g]?=some o):g<w.heap.size:=(Array.getElem?_eq_some_iff.1 h).1
theorem qBz {w wx:World}{g:Nat}{o:Obj} (hb:Below w.heap.size w wx) (h:w.heap[g]?=some o):wx.heap[g]?=some o:=(hb.block g (blk_lt h)).trans h
theorem qKz (w:World) (o:Obj):(w.alloc o).heap[w.heap.size]?=some o:=by show (w.heap.push _)[w.heap.size]?=_;rw[Array.getElem?_push,if_pos rfl]
theorem qIz {w:World}{g:Nat}{o:Obj} (h:w.heap[g]?=some o) (p:Obj):(w.alloc p).heap[g]?=some o:=by
 show (w.heap.push _)[g]?=_;rw[Array.getElem?_push,if_neg (Nat.ne_of_lt (blk_lt h))];exact h
theorem qFz {w:World}{g k:Nat}{o:Obj} (h:w.heap[g]?=some o) (hk:k≠g) (j:Nat) (v:Value):(w.setCell ⟨k,j,none⟩ v).heap[g]?=some o:=by
 rw[Below.heap_setCell _ _ _ _ (by simpa using hk.symm)];exact h
theorem und1 {B:Nat}{w w':World} (h:Below B w.drew w'):Below B w w':=⟨h.os,h.tape,h.output,h.size,h.block⟩
def putl (ar:Array Value) (o:Nat):List Value→Array Value
 | []=>ar
 | v::vs=>putl (ar.setIfInBounds o v) (o+1) vs
theorem putl_size:∀ (vs:List Value) (ar:Array Value) (o:Nat),(putl ar o vs).size=ar.size
 | [],_,_=>rfl
 | v::vs,ar,o=>by simp[putl,putl_size vs]
theorem putl_below:∀ (vs:List Value) (ar:Array Value) (o k:Nat),k<o→(putl ar o vs)[k]?=ar[k]?
 | [],_,_,_,_=>rfl
 | v::vs,ar,o,k,h=>by
  rw[putl,putl_below vs _ _ _ (by omega),Array.getElem?_setIfInBounds,if_neg (by omega)]
theorem putl_at:∀ (vs:List Value) (ar:Array Value) (o:Nat),o+vs.length≤ar.size→∀ j,j<vs.length→(putl ar o vs)[o+j]?=vs[j]?
 | [],_,_,_,j,hj=>by simp at hj
 | v::vs,ar,o,h,j,hj=>by
  simp only[List.length_cons] at h hj
  cases j with
  | zero =>
   show (putl (ar.setIfInBounds o v) (o+1) vs)[o]?=some v
   rw[putl_below vs _ _ _ (by omega),Array.getElem?_setIfInBounds,if_pos rfl,if_pos (by omega)]
  | succ j =>
   rw[putl,show o+(j+1)=o+1+j by omega,putl_at vs _ _ (by simp;omega) j (by omega)];rfl
def ContG {α:Type} (k:Nat) (cells:α→List Value) (xs:List α) (ar:Array Value) (m:Nat):Prop:=∀ i q,i<m→xs[i]?=some q→∀ j v,(cells q)[j]?=some v→ar[i*k+j]?=some v
theorem contG_step {α:Type}{k:Nat}{cells:α→List Value}{xs:List α}{ar:Array Value}{m len:Nat}{p:α} (hk:∀ x,(cells x).length=k) (h:ContG k cells xs ar m) (hp:xs[m]?=some p) (hs:ar.size=len*k) (hm:m<len):ContG k cells xs (putl ar (m*k) (cells p)) (m+1):=by
 intro i q hi hq j v hv
 have hj:j<k:=by
  have:=(List.getElem?_eq_some_iff.1 hv).1
  rw[hk] at this;exact this
 have hle:m*k+k≤len*k:=by
  have:=Nat.mul_le_mul_right k (show m+1≤len from hm)
  rw[Nat.succ_mul] at this;exact this
 by_cases he:i=m
 ·subst he
  rw[hp] at hq
  cases hq
  rw[putl_at _ _ _ (by rw[hk,hs];exact hle) j (by rw[hk];exact hj)];exact hv
 ·have hlt:i*k+j<m*k:=by
   have:=Nat.mul_le_mul_right k (show i+1≤m by omega)
   rw[Nat.succ_mul] at this;omega
  rw[putl_below _ _ _ _ hlt]
  exact h i q (by omega) hq j v hv
theorem contG_zero {α:Type} (k:Nat) (cells:α→List Value) (xs:List α) (ar:Array Value):ContG k cells xs ar 0:=fun i q hi=>absurd hi (Nat.not_lt_zero _)
def RowG {α:Type} (w:World) (g k:Nat) (t:TypeId) (cells:α→List Value) (xs:List α):Prop:=∃ ar,w.heap[g]?=some (.cells ar t)∧ar.size=xs.length*k∧ContG k cells xs ar xs.length
theorem RowG.later {α:Type}{w wx:World}{g k:Nat}{t:TypeId}{cells:α→List Value}{xs:List α} (hb:Below w.heap.size w wx) (h:RowG w g k t cells xs):RowG wx g k t cells xs:=by
 obtain ⟨ar,h1,h2,h3⟩:=h
 exact ⟨ar,qBz hb h1,h2,h3⟩
theorem RowG.set {α:Type}{w:World}{g k q:Nat}{t:TypeId}{cells:α→List Value}{xs:List α} (h:RowG w g k t cells xs) (hk:q≠g) (j:Nat) (v:Value):RowG (w.setCell ⟨q,j,none⟩ v) g k t cells xs:=by
 obtain ⟨ar,h1,h2,h3⟩:=h
 exact ⟨ar,qFz h1 hk j v,h2,h3⟩
theorem RowG.lt {α:Type}{w:World}{g k:Nat}{t:TypeId}{cells:α→List Value}{xs:List α} (h:RowG w g k t cells xs):g<w.heap.size:=by
 obtain ⟨ar,h1,h2,h3⟩:=h
 exact blk_lt h1
theorem RowG.at {α:Type}{w:World}{g k:Nat}{t:TypeId}{cells:α→List Value}{xs:List α} (h:RowG w g k t cells xs):SlA w k cells (some ⟨g,0,none⟩) xs:=by
 intro i x hi
 refine ⟨g,0,rfl,h.lt,fun j v hv=>?_⟩
 obtain ⟨ar,h1,h2,h3⟩:=h
 rw[Nat.zero_add,qAz h1]
 exact h3 i x (List.getElem?_eq_some_iff.1 hi).1 hi j v hv
theorem make_of {P:Program} (st et:TypeId) (k by' len:Nat) (hu:P.underlying st=some (.slice et)) (hc:(P.info? et).map (fun i=>(i.zero.isSome,i.size,i.bytes))=some (true,k,by')) (hb:by'≤1000) (hlen:len≤1048576) (w:World):∃ arr:Array Value,arr.size=len*k∧(Instr.makeSlice st (.int .i64 (len:Int)) (.int .i64 (len:Int))).run P w=.ok (.slice (some ⟨w.heap.size,0,none⟩) len len) (w.alloc (.cells arr et)):=by
 cases hi:P.info? et with
 | none=>rw[hi] at hc;cases hc
 | some i =>
  rw[hi] at hc
  simp only[Option.map_some,Option.some.injEq,Prod.mk.injEq] at hc
  obtain ⟨h1,h2,h3⟩:=hc
  obtain ⟨z,hz⟩:=Option.isSome_iff_exists.1 h1
  have hr:=run_make (P:=P) w st et i z hu hi hz .i64 .i64 (len:Int) (len:Int) (by omega) (by omega) (by
   rw[h3]
   have:len*by'≤1048576*1000:=Nat.mul_le_mul hlen hb
   have h':((len*by':Nat):Int)≤1048576000:=by omega
   have h'':((len:Int)*(by':Int))≤1048576000:=by rw[←Int.natCast_mul];exact h'
   rw[Int.mul_comm] at h''
   omega) (by omega)
  refine ⟨madeCells z.cells (len*i.size),?_,?_⟩
  ·rw[size_madeCells,h2]
  ·simpa using hr
abbrev UV (x:UD):Value:=.agg #[.bool x.l,.int .i64 x.i]
theorem UD.len (x:UD):x.cells.length=2:=rfl
abbrev VVd (x:VD):Value:=.agg #[.int .i64 x.k,.int .i64 x.n,.float .f64 x.f,.string x.s,.int .i64 x.r]
theorem VD.len (x:VD):x.cells.length=5:=rfl
abbrev IV (x:ID):Value:=.agg #[.int .i64 x.op,.int .i64 x.a,.int .i64 x.b,.int .i64 x.c,.int .i64 x.d]
theorem ID.len (x:ID):x.cells.length=5:=rfl
abbrev NV (x:ND):Value:=.agg #[.string x.s,.int .i64 x.reg,.int .i64 x.fr,.int .i64 x.to]
theorem ND.len (x:ND):x.cells.length=4:=rfl
theorem tou_any (x:UD) (w:World):Calls Tryz.prog 99 #[UV x] w fun e w'=>e=.returned (UV x)∧Below w.heap.size w w':=by
 go_enter Tryz.func99,Tryz.ntmps99
 go_wp2
 exact bodyPost_ret (v:=UV x) (by simp[results,Tryz.results99,go_sem]) rfl ⟨rfl,bw3 _ _ _ _⟩
theorem tov_any (x:VD) (w:World):Calls Tryz.prog 100 #[VVd x] w fun e w'=>e=.returned (VVd x)∧Below w.heap.size w w':=by
 go_enter Tryz.func100,Tryz.ntmps100
 go_wp2
 exact bodyPost_ret (v:=VVd x) (by simp[results,Tryz.results100,go_sem]) rfl ⟨rfl,bw3 _ _ _ _⟩
theorem toi_any (x:ID) (w:World):Calls Tryz.prog 101 #[IV x] w fun e w'=>e=.returned (IV x)∧Below w.heap.size w w':=by
 go_enter Tryz.func101,Tryz.ntmps101
 go_wp2
 exact bodyPost_ret (v:=IV x) (by simp[results,Tryz.results101,go_sem]) rfl ⟨rfl,bw3 _ _ _ _⟩
theorem ton_any (x:ND) (w:World):Calls Tryz.prog 102 #[NV x] w fun e w'=>e=.returned (NV x)∧Below w.heap.size w w':=by
 go_enter Tryz.func102,Tryz.ntmps102
 go_wp2
 exact bodyPost_ret (v:=NV x) (by simp[results,Tryz.results102,go_sem]) rfl ⟨rfl,bw3 _ _ _ _⟩
theorem tous_any (a:Option Addr) (len cap:Nat) (xs:List UD) (w:World) (hl:xs.length=len) (hp:SlA w 2 UD.cells a xs) (hlen:len≤1048576) :
  Calls Tryz.prog 70 #[.slice a len cap] w fun e w'=>e=.returned (.slice (some ⟨w.heap.size,0,none⟩) len len)∧Below w.heap.size w w'∧RowG w' w.heap.size 2 124 UD.cells xs:=by
 obtain ⟨arr,hsz,hmk⟩:=make_of (P:=Tryz.prog) 70 124 2 16 len Tryz.underlying70 (by kernel_rfl) (by omega) hlen w
 have HP:Hid (SlA w 2 UD.cells a xs):=hp
 have HL:Hid (xs.length=len):=hl
 clear hp hl
 go_enter Tryz.func70,Tryz.ntmps70
 go_wp2_with fail
 clear hmk
 go_loopw [4] (fun i wr=>∃ (m:Nat) (ar:Array Value),m≤len∧i=.int .i64 m∧Below w.heap.size w wr∧Hid (wr.heap[w.heap.size]?=some (.cells ar 124))∧ar.size=len*2∧Hid (ContG 2 UD.cells xs ar m)) (fun i _=>len-(intOf i).toNat)
 case atStart=>exact ⟨0,arr,Nat.zero_le _,rfl,bw1 _ _,qKz _ _,hsz,contG_zero _ _ _ _⟩
 case round =>
  obtain ⟨m,ar,hm,rfl,hB,hA,hS,hC⟩:=hrel
  by_cases k1:m<len
  ·obtain ⟨x,hx⟩:∃ x,xs[m]?=some x:=⟨xs[m]'(by rw[HL.out];exact k1),by simp⟩
   obtain ⟨b,off,rfl,hb,hc⟩:=HP.out m x hx
   have c0:wr.cell? ⟨b,off+m*2,none⟩=some (.bool x.l):=cell_later hB (hc 0 _ rfl)
   have c1:wr.cell? ⟨b,off+m*2+1,none⟩=some (.int .i64 x.i):=cell_later hB (hc 1 _ rfl)
   have HC:Hid (ContG 2 UD.cells xs (putl ar (m*2) x.cells) (m+1)):=contG_step UD.len hC.out hx hS k1
   clear hx hC hc hb
   go_wp2_with fail
   refine (tou_any x _).mono ?_
   rintro e w1 ⟨rfl,hx⟩
   have hA1:w1.heap[w.heap.size]?=some (.cells ar 124):=qBz hx hA.out
   replace hB:=hB.trans (hx.mono hB.size)
   clear hx c0 c1
   obtain ⟨y0,e0⟩:∃ y,w1.cell? ⟨w.heap.size,m*2,none⟩=some y:=⟨ar[m*2]'(by omega),by rw[qAz hA1];simp⟩
   obtain ⟨y1,e1⟩:∃ y,w1.cell? ⟨w.heap.size,m*2+1,none⟩=some y:=⟨ar[m*2+1]'(by omega),by rw[qAz hA1];simp⟩
   have z:=qGz hA1
   have HA1:Hid (w1.heap[w.heap.size]?=some (.cells ar 124)):=hA1
   clear hA hA1
   go_wp2_with fail
   clear e0 e1 z
   go_roundw
   case rel=>exact ⟨m+1,putl ar (m*2) x.cells,by omega,by go_num,((hB.setCell (p:=⟨w.heap.size,m*2,none⟩) (Nat.le_refl _) (.bool x.l)).setCell (p:=⟨w.heap.size,m*2+1,none⟩) (Nat.le_refl _) (.int .i64 x.i)),(qLz (qLz HA1.out (m*2) (.bool x.l)) (m*2+1) (.int .i64 x.i)),by rw[putl_size];exact hS,HC⟩
   case measure=>simp[intOf];omega
  ·have hml:m=len:=by omega
   have HC:Hid (ContG 2 UD.cells xs ar len):=by have:=hC.out;rw[hml] at this;exact this
   clear hC hml
   go_wp2_with fail
   go_ret
   exact ⟨rfl,hB,ar,hA.out,by rw[HL.out];exact hS,by rw[HL.out];exact HC.out⟩
theorem tovs_any (a:Option Addr) (len cap:Nat) (xs:List VD) (w:World) (hl:xs.length=len) (hp:SlA w 5 VD.cells a xs) (hlen:len≤1048576) :
  Calls Tryz.prog 71 #[.slice a len cap] w fun e w'=>e=.returned (.slice (some ⟨w.heap.size,0,none⟩) len len)∧Below w.heap.size w w'∧RowG w' w.heap.size 5 121 VD.cells xs:=by
 obtain ⟨arr,hsz,hmk⟩:=make_of (P:=Tryz.prog) 71 121 5 48 len Tryz.underlying71 (by kernel_rfl) (by omega) hlen w
 have HP:Hid (SlA w 5 VD.cells a xs):=hp
 have HL:Hid (xs.length=len):=hl
 clear hp hl
 go_enter Tryz.func71,Tryz.ntmps71
 go_wp2_with fail
 clear hmk
 go_loopw [4] (fun i wr=>∃ (m:Nat) (ar:Array Value),m≤len∧i=.int .i64 m∧Below w.heap.size w wr∧Hid (wr.heap[w.heap.size]?=some (.cells ar 121))∧ar.size=len*5∧Hid (ContG 5 VD.cells xs ar m)) (fun i _=>len-(intOf i).toNat)
 case atStart=>exact ⟨0,arr,Nat.zero_le _,rfl,bw1 _ _,qKz _ _,hsz,contG_zero _ _ _ _⟩
 case round =>
  obtain ⟨m,ar,hm,rfl,hB,hA,hS,hC⟩:=hrel
  by_cases k1:m<len
  ·obtain ⟨x,hx⟩:∃ x,xs[m]?=some x:=⟨xs[m]'(by rw[HL.out];exact k1),by simp⟩
   obtain ⟨b,off,rfl,hb,hc⟩:=HP.out m x hx
   have c0:wr.cell? ⟨b,off+m*5,none⟩=some (.int .i64 x.k):=cell_later hB (hc 0 _ rfl)
   have c1:wr.cell? ⟨b,off+m*5+1,none⟩=some (.int .i64 x.n):=cell_later hB (hc 1 _ rfl)
   have c2:wr.cell? ⟨b,off+m*5+2,none⟩=some (.float .f64 x.f):=cell_later hB (hc 2 _ rfl)
   have c3:wr.cell? ⟨b,off+m*5+3,none⟩=some (.string x.s):=cell_later hB (hc 3 _ rfl)
   have c4:wr.cell? ⟨b,off+m*5+4,none⟩=some (.int .i64 x.r):=cell_later hB (hc 4 _ rfl)
   have HC:Hid (ContG 5 VD.cells xs (putl ar (m*5) x.cells) (m+1)):=contG_step VD.len hC.out hx hS k1
   clear hx hC hc hb
   go_wp2_with fail
   refine (tov_any x _).mono ?_
   rintro e w1 ⟨rfl,hx⟩
   have hA1:w1.heap[w.heap.size]?=some (.cells ar 121):=qBz hx hA.out
   replace hB:=hB.trans (hx.mono hB.size)
   clear hx c0 c1 c2 c3 c4
   obtain ⟨y0,e0⟩:∃ y,w1.cell? ⟨w.heap.size,m*5,none⟩=some y:=⟨ar[m*5]'(by omega),by rw[qAz hA1];simp⟩
   obtain ⟨y1,e1⟩:∃ y,w1.cell? ⟨w.heap.size,m*5+1,none⟩=some y:=⟨ar[m*5+1]'(by omega),by rw[qAz hA1];simp⟩
   obtain ⟨y2,e2⟩:∃ y,w1.cell? ⟨w.heap.size,m*5+2,none⟩=some y:=⟨ar[m*5+2]'(by omega),by rw[qAz hA1];simp⟩
   obtain ⟨y3,e3⟩:∃ y,w1.cell? ⟨w.heap.size,m*5+3,none⟩=some y:=⟨ar[m*5+3]'(by omega),by rw[qAz hA1];simp⟩
   obtain ⟨y4,e4⟩:∃ y,w1.cell? ⟨w.heap.size,m*5+4,none⟩=some y:=⟨ar[m*5+4]'(by omega),by rw[qAz hA1];simp⟩
   have z:=qGz hA1
   have HA1:Hid (w1.heap[w.heap.size]?=some (.cells ar 121)):=hA1
   clear hA hA1
   go_wp2_with fail
   clear e0 e1 e2 e3 e4 z
   go_roundw
   case rel=>exact ⟨m+1,putl ar (m*5) x.cells,by omega,by go_num,(((((hB.setCell (p:=⟨w.heap.size,m*5,none⟩) (Nat.le_refl _) (.int .i64 x.k)).setCell (p:=⟨w.heap.size,m*5+1,none⟩) (Nat.le_refl _) (.int .i64 x.n)).setCell (p:=⟨w.heap.size,m*5+2,none⟩) (Nat.le_refl _) (.float .f64 x.f)).setCell (p:=⟨w.heap.size,m*5+3,none⟩) (Nat.le_refl _) (.string x.s)).setCell (p:=⟨w.heap.size,m*5+4,none⟩) (Nat.le_refl _) (.int .i64 x.r)),(qLz (qLz (qLz (qLz (qLz HA1.out (m*5) (.int .i64 x.k)) (m*5+1) (.int .i64 x.n)) (m*5+2) (.float .f64 x.f)) (m*5+3) (.string x.s)) (m*5+4) (.int .i64 x.r)),by rw[putl_size];exact hS,HC⟩
   case measure=>simp[intOf];omega
  ·have hml:m=len:=by omega
   have HC:Hid (ContG 5 VD.cells xs ar len):=by have:=hC.out;rw[hml] at this;exact this
   clear hC hml
   go_wp2_with fail
   go_ret
   exact ⟨rfl,hB,ar,hA.out,by rw[HL.out];exact hS,by rw[HL.out];exact HC.out⟩
theorem tois_any (a:Option Addr) (len cap:Nat) (xs:List ID) (w:World) (hl:xs.length=len) (hp:SlA w 5 ID.cells a xs) (hlen:len≤1048576) :
  Calls Tryz.prog 72 #[.slice a len cap] w fun e w'=>e=.returned (.slice (some ⟨w.heap.size,0,none⟩) len len)∧Below w.heap.size w w'∧RowG w' w.heap.size 5 77 ID.cells xs:=by
 obtain ⟨arr,hsz,hmk⟩:=make_of (P:=Tryz.prog) 72 77 5 40 len Tryz.underlying72 (by kernel_rfl) (by omega) hlen w
 have HP:Hid (SlA w 5 ID.cells a xs):=hp
 have HL:Hid (xs.length=len):=hl
 clear hp hl
 go_enter Tryz.func72,Tryz.ntmps72
 go_wp2_with fail
 clear hmk
 go_loopw [4] (fun i wr=>∃ (m:Nat) (ar:Array Value),m≤len∧i=.int .i64 m∧Below w.heap.size w wr∧Hid (wr.heap[w.heap.size]?=some (.cells ar 77))∧ar.size=len*5∧Hid (ContG 5 ID.cells xs ar m)) (fun i _=>len-(intOf i).toNat)
 case atStart=>exact ⟨0,arr,Nat.zero_le _,rfl,bw1 _ _,qKz _ _,hsz,contG_zero _ _ _ _⟩
 case round =>
  obtain ⟨m,ar,hm,rfl,hB,hA,hS,hC⟩:=hrel
  by_cases k1:m<len
  ·obtain ⟨x,hx⟩:∃ x,xs[m]?=some x:=⟨xs[m]'(by rw[HL.out];exact k1),by simp⟩
   obtain ⟨b,off,rfl,hb,hc⟩:=HP.out m x hx
   have c0:wr.cell? ⟨b,off+m*5,none⟩=some (.int .i64 x.op):=cell_later hB (hc 0 _ rfl)
   have c1:wr.cell? ⟨b,off+m*5+1,none⟩=some (.int .i64 x.a):=cell_later hB (hc 1 _ rfl)
   have c2:wr.cell? ⟨b,off+m*5+2,none⟩=some (.int .i64 x.b):=cell_later hB (hc 2 _ rfl)
   have c3:wr.cell? ⟨b,off+m*5+3,none⟩=some (.int .i64 x.c):=cell_later hB (hc 3 _ rfl)
   have c4:wr.cell? ⟨b,off+m*5+4,none⟩=some (.int .i64 x.d):=cell_later hB (hc 4 _ rfl)
   have HC:Hid (ContG 5 ID.cells xs (putl ar (m*5) x.cells) (m+1)):=contG_step ID.len hC.out hx hS k1
   clear hx hC hc hb
   go_wp2_with fail
   refine (toi_any x _).mono ?_
   rintro e w1 ⟨rfl,hx⟩
   have hA1:w1.heap[w.heap.size]?=some (.cells ar 77):=qBz hx hA.out
   replace hB:=hB.trans (hx.mono hB.size)
   clear hx c0 c1 c2 c3 c4
   obtain ⟨y0,e0⟩:∃ y,w1.cell? ⟨w.heap.size,m*5,none⟩=some y:=⟨ar[m*5]'(by omega),by rw[qAz hA1];simp⟩
   obtain ⟨y1,e1⟩:∃ y,w1.cell? ⟨w.heap.size,m*5+1,none⟩=some y:=⟨ar[m*5+1]'(by omega),by rw[qAz hA1];simp⟩
   obtain ⟨y2,e2⟩:∃ y,w1.cell? ⟨w.heap.size,m*5+2,none⟩=some y:=⟨ar[m*5+2]'(by omega),by rw[qAz hA1];simp⟩
   obtain ⟨y3,e3⟩:∃ y,w1.cell? ⟨w.heap.size,m*5+3,none⟩=some y:=⟨ar[m*5+3]'(by omega),by rw[qAz hA1];simp⟩
   obtain ⟨y4,e4⟩:∃ y,w1.cell? ⟨w.heap.size,m*5+4,none⟩=some y:=⟨ar[m*5+4]'(by omega),by rw[qAz hA1];simp⟩
   have z:=qGz hA1
   have HA1:Hid (w1.heap[w.heap.size]?=some (.cells ar 77)):=hA1
   clear hA hA1
   go_wp2_with fail
   clear e0 e1 e2 e3 e4 z
   go_roundw
   case rel=>exact ⟨m+1,putl ar (m*5) x.cells,by omega,by go_num,(((((hB.setCell (p:=⟨w.heap.size,m*5,none⟩) (Nat.le_refl _) (.int .i64 x.op)).setCell (p:=⟨w.heap.size,m*5+1,none⟩) (Nat.le_refl _) (.int .i64 x.a)).setCell (p:=⟨w.heap.size,m*5+2,none⟩) (Nat.le_refl _) (.int .i64 x.b)).setCell (p:=⟨w.heap.size,m*5+3,none⟩) (Nat.le_refl _) (.int .i64 x.c)).setCell (p:=⟨w.heap.size,m*5+4,none⟩) (Nat.le_refl _) (.int .i64 x.d)),(qLz (qLz (qLz (qLz (qLz HA1.out (m*5) (.int .i64 x.op)) (m*5+1) (.int .i64 x.a)) (m*5+2) (.int .i64 x.b)) (m*5+3) (.int .i64 x.c)) (m*5+4) (.int .i64 x.d)),by rw[putl_size];exact hS,HC⟩
   case measure=>simp[intOf];omega
  ·have hml:m=len:=by omega
   have HC:Hid (ContG 5 ID.cells xs ar len):=by have:=hC.out;rw[hml] at this;exact this
   clear hC hml
   go_wp2_with fail
   go_ret
   exact ⟨rfl,hB,ar,hA.out,by rw[HL.out];exact hS,by rw[HL.out];exact HC.out⟩
theorem tons_any (a:Option Addr) (len cap:Nat) (xs:List ND) (w:World) (hl:xs.length=len) (hp:SlA w 4 ND.cells a xs) (hlen:len≤1048576) :
  Calls Tryz.prog 73 #[.slice a len cap] w fun e w'=>e=.returned (.slice (some ⟨w.heap.size,0,none⟩) len len)∧Below w.heap.size w w'∧RowG w' w.heap.size 4 165 ND.cells xs:=by
 obtain ⟨arr,hsz,hmk⟩:=make_of (P:=Tryz.prog) 73 165 4 40 len Tryz.underlying73 (by kernel_rfl) (by omega) hlen w
 have HP:Hid (SlA w 4 ND.cells a xs):=hp
 have HL:Hid (xs.length=len):=hl
 clear hp hl
 go_enter Tryz.func73,Tryz.ntmps73
 go_wp2_with fail
 clear hmk
 go_loopw [4] (fun i wr=>∃ (m:Nat) (ar:Array Value),m≤len∧i=.int .i64 m∧Below w.heap.size w wr∧Hid (wr.heap[w.heap.size]?=some (.cells ar 165))∧ar.size=len*4∧Hid (ContG 4 ND.cells xs ar m)) (fun i _=>len-(intOf i).toNat)
 case atStart=>exact ⟨0,arr,Nat.zero_le _,rfl,bw1 _ _,qKz _ _,hsz,contG_zero _ _ _ _⟩
 case round =>
  obtain ⟨m,ar,hm,rfl,hB,hA,hS,hC⟩:=hrel
  by_cases k1:m<len
  ·obtain ⟨x,hx⟩:∃ x,xs[m]?=some x:=⟨xs[m]'(by rw[HL.out];exact k1),by simp⟩
   obtain ⟨b,off,rfl,hb,hc⟩:=HP.out m x hx
   have c0:wr.cell? ⟨b,off+m*4,none⟩=some (.string x.s):=cell_later hB (hc 0 _ rfl)
   have c1:wr.cell? ⟨b,off+m*4+1,none⟩=some (.int .i64 x.reg):=cell_later hB (hc 1 _ rfl)
   have c2:wr.cell? ⟨b,off+m*4+2,none⟩=some (.int .i64 x.fr):=cell_later hB (hc 2 _ rfl)
   have c3:wr.cell? ⟨b,off+m*4+3,none⟩=some (.int .i64 x.to):=cell_later hB (hc 3 _ rfl)
   have HC:Hid (ContG 4 ND.cells xs (putl ar (m*4) x.cells) (m+1)):=contG_step ND.len hC.out hx hS k1
   clear hx hC hc hb
   go_wp2_with fail
   refine (ton_any x _).mono ?_
   rintro e w1 ⟨rfl,hx⟩
   have hA1:w1.heap[w.heap.size]?=some (.cells ar 165):=qBz hx hA.out
   replace hB:=hB.trans (hx.mono hB.size)
   clear hx c0 c1 c2 c3
   obtain ⟨y0,e0⟩:∃ y,w1.cell? ⟨w.heap.size,m*4,none⟩=some y:=⟨ar[m*4]'(by omega),by rw[qAz hA1];simp⟩
   obtain ⟨y1,e1⟩:∃ y,w1.cell? ⟨w.heap.size,m*4+1,none⟩=some y:=⟨ar[m*4+1]'(by omega),by rw[qAz hA1];simp⟩
   obtain ⟨y2,e2⟩:∃ y,w1.cell? ⟨w.heap.size,m*4+2,none⟩=some y:=⟨ar[m*4+2]'(by omega),by rw[qAz hA1];simp⟩
   obtain ⟨y3,e3⟩:∃ y,w1.cell? ⟨w.heap.size,m*4+3,none⟩=some y:=⟨ar[m*4+3]'(by omega),by rw[qAz hA1];simp⟩
   have z:=qGz hA1
   have HA1:Hid (w1.heap[w.heap.size]?=some (.cells ar 165)):=hA1
   clear hA hA1
   go_wp2_with fail
   clear e0 e1 e2 e3 z
   go_roundw
   case rel=>exact ⟨m+1,putl ar (m*4) x.cells,by omega,by go_num,((((hB.setCell (p:=⟨w.heap.size,m*4,none⟩) (Nat.le_refl _) (.string x.s)).setCell (p:=⟨w.heap.size,m*4+1,none⟩) (Nat.le_refl _) (.int .i64 x.reg)).setCell (p:=⟨w.heap.size,m*4+2,none⟩) (Nat.le_refl _) (.int .i64 x.fr)).setCell (p:=⟨w.heap.size,m*4+3,none⟩) (Nat.le_refl _) (.int .i64 x.to)),(qLz (qLz (qLz (qLz HA1.out (m*4) (.string x.s)) (m*4+1) (.int .i64 x.reg)) (m*4+2) (.int .i64 x.fr)) (m*4+3) (.int .i64 x.to)),by rw[putl_size];exact hS,HC⟩
   case measure=>simp[intOf];omega
  ·have hml:m=len:=by omega
   have HC:Hid (ContG 4 ND.cells xs ar len):=by have:=hC.out;rw[hml] at this;exact this
   clear hC hml
   go_wp2_with fail
   go_ret
   exact ⟨rfl,hB,ar,hA.out,by rw[HL.out];exact hS,by rw[HL.out];exact HC.out⟩
attribute [local go_sem] run_store_float
theorem szus_any (a:Option Addr) (len cap:Nat) (l:Int) (w:World) (hlm:len≤maxLen) (h0:0≤l) (h1:l≤1048576) :
  Calls Tryz.prog 56 #[.slice a len cap,.int .i64 l] w fun e w'=>(∃ r,e=.returned (.int .i64 r)∧(r=-1∨(0≤r∧r≤l-len)))∧Below w.heap.size w w':=by
 unfold maxLen at hlm
 by_cases g1:l-len<0
 ·go_enter Tryz.func56,Tryz.ntmps56
  go_wp2_with fail
  go_ret
  exact ⟨⟨-1,rfl,.inl rfl⟩,Below.refl _ _⟩
 ·go_enter Tryz.func56,Tryz.ntmps56
  go_wp2_with fail
  go_ret
  exact ⟨⟨_,rfl,.inr ⟨by omega,by omega⟩⟩,Below.refl _ _⟩
theorem szis_any (a:Option Addr) (len cap:Nat) (l:Int) (w:World) (hlm:len≤maxLen) (h0:0≤l) (h1:l≤1048576) :
  Calls Tryz.prog 58 #[.slice a len cap,.int .i64 l] w fun e w'=>(∃ r,e=.returned (.int .i64 r)∧(r=-1∨(0≤r∧r≤l-len)))∧Below w.heap.size w w':=by
 unfold maxLen at hlm
 by_cases g1:l-len<0
 ·go_enter Tryz.func58,Tryz.ntmps58
  go_wp2_with fail
  go_ret
  exact ⟨⟨-1,rfl,.inl rfl⟩,Below.refl _ _⟩
 ·go_enter Tryz.func58,Tryz.ntmps58
  go_wp2_with fail
  go_ret
  exact ⟨⟨_,rfl,.inr ⟨by omega,by omega⟩⟩,Below.refl _ _⟩
theorem szn_any (x:ND) (l:Int) (w:World) (hs:x.s.size≤maxLen) (h0:0≤l) (h1:l≤1048576) :
  Calls Tryz.prog 96 #[NV x,.int .i64 l] w fun e w'=>(∃ r,e=.returned (.int .i64 r)∧(r=-1∨(0≤r∧r≤l)))∧Below w.heap.size w w':=by
 unfold maxLen at hs
 by_cases g1:l-x.s.size<0
 ·go_enter Tryz.func96,Tryz.ntmps96
  go_wp2_with fail
  go_ret
  exact ⟨⟨-1,rfl,.inl rfl⟩,bw1 _ _⟩
 ·go_enter Tryz.func96,Tryz.ntmps96
  go_wp2_with fail
  go_ret
  exact ⟨⟨_,rfl,.inr ⟨by omega,by omega⟩⟩,bw1 _ _⟩
theorem szv_any (x:VD) (l:Int) (w:World) (hs:x.s.size≤maxLen) (h0:0≤l) (h1:l≤1048576) :
  Calls Tryz.prog 95 #[VVd x,.int .i64 l] w fun e w'=>(∃ r,e=.returned (.int .i64 r)∧(r=-1∨(0≤r∧r≤l)))∧Below w.heap.size w w':=by
 refine (sz_any x.k x.n x.f x.s x.r l w hs h0 h1).mono ?_
 rintro e w' ⟨rfl,hb⟩
 refine ⟨⟨_,rfl,?_⟩,hb⟩
 split
 ·exact .inl rfl
 ·exact .inr ⟨by omega,by omega⟩
theorem szvs_any (a:Option Addr) (len cap:Nat) (xs:List VD) (l:Int) (w:World) (hl:xs.length=len) (hp:SlA w 5 VD.cells a xs) (hok:∀ v∈xs,v.ok) (hlm:len≤maxLen) (h0:0≤l) (h1:l≤1048576) :
  Calls Tryz.prog 57 #[.slice a len cap,.int .i64 l] w fun e w'=>(∃ r,e=.returned (.int .i64 r)∧(r=-1∨(0≤r∧r≤l-len)))∧Below w.heap.size w w':=by
 unfold maxLen at hlm
 have HP:Hid (SlA w 5 VD.cells a xs):=hp
 have HL:Hid (xs.length=len):=hl
 have HO:Hid (∀ v∈xs,v.ok):=hok
 clear hp hl hok
 by_cases g1:l-len<0
 ·go_enter Tryz.func57,Tryz.ntmps57
  go_wp2_with fail
  go_ret
  exact ⟨⟨-1,rfl,.inl rfl⟩,Below.refl _ _⟩
 ·go_enter Tryz.func57,Tryz.ntmps57
  go_wp2_with fail
  go_loopw [1,5] (fun lf i wr=>∃ (m:Nat) (v:Int),m≤len∧i=.int .i64 m∧lf=.int .i64 v∧0≤v∧v≤l-len∧Below w.heap.size w wr) (fun _ i _=>len-(intOf i).toNat)
  case atStart=>exact ⟨0,_,Nat.zero_le _,rfl,rfl,by omega,by omega,Below.refl _ _⟩
  case round =>
   obtain ⟨m,v,hm,rfl,rfl,hv0,hv1,hB⟩:=hrel
   by_cases k1:m<len
   ·obtain ⟨x,hx⟩:∃ x,xs[m]?=some x:=⟨xs[m]'(by rw[HL.out];exact k1),by simp⟩
    obtain ⟨b,off,rfl,hb,hc⟩:=HP.out m x hx
    have c0:wr.cell? ⟨b,off+m*5,none⟩=some (.int .i64 x.k):=cell_later hB (hc 0 _ rfl)
    have c1:wr.cell? ⟨b,off+m*5+1,none⟩=some (.int .i64 x.n):=cell_later hB (hc 1 _ rfl)
    have c2:wr.cell? ⟨b,off+m*5+2,none⟩=some (.float .f64 x.f):=cell_later hB (hc 2 _ rfl)
    have c3:wr.cell? ⟨b,off+m*5+3,none⟩=some (.string x.s):=cell_later hB (hc 3 _ rfl)
    have c4:wr.cell? ⟨b,off+m*5+4,none⟩=some (.int .i64 x.r):=cell_later hB (hc 4 _ rfl)
    have hok:=HO.out x (List.mem_of_getElem? hx)
    clear hx hc hb
    go_wp2_with fail
    refine (szv_any x v _ hok.2 hv0 (by omega)).mono ?_
    rintro e w1 ⟨⟨r,rfl,hr⟩,hx⟩
    replace hB:=hB.trans (hx.mono hB.size)
    clear hx c0 c1 c2 c3 c4
    rcases hr with rfl|⟨hr0,hr1⟩
    ·go_wp2_with fail
     go_ret
     exact ⟨⟨-1,rfl,.inl rfl⟩,hB⟩
    ·go_wp2_with fail
     go_roundw
     case rel=>exact ⟨m+1,r,by omega,by go_num,rfl,by omega,by omega,hB⟩
     case measure=>simp[intOf];omega
   ·go_wp2_with fail
    go_ret
    exact ⟨⟨v,rfl,.inr ⟨hv0,hv1⟩⟩,hB⟩
theorem szns_any (a:Option Addr) (len cap:Nat) (xs:List ND) (l:Int) (w:World) (hl:xs.length=len) (hp:SlA w 4 ND.cells a xs) (hok:∀ v∈xs,v.s.size≤maxLen) (hlm:len≤maxLen) (h0:0≤l) (h1:l≤1048576) :
  Calls Tryz.prog 59 #[.slice a len cap,.int .i64 l] w fun e w'=>(∃ r,e=.returned (.int .i64 r)∧(r=-1∨(0≤r∧r≤l-len)))∧Below w.heap.size w w':=by
 unfold maxLen at hlm
 have HP:Hid (SlA w 4 ND.cells a xs):=hp
 have HL:Hid (xs.length=len):=hl
 have HO:Hid (∀ v∈xs,v.s.size≤maxLen):=hok
 clear hp hl hok
 by_cases g1:l-len<0
 ·go_enter Tryz.func59,Tryz.ntmps59
  go_wp2_with fail
  go_ret
  exact ⟨⟨-1,rfl,.inl rfl⟩,Below.refl _ _⟩
 ·go_enter Tryz.func59,Tryz.ntmps59
  go_wp2_with fail
  go_loopw [1,5] (fun lf i wr=>∃ (m:Nat) (v:Int),m≤len∧i=.int .i64 m∧lf=.int .i64 v∧0≤v∧v≤l-len∧Below w.heap.size w wr) (fun _ i _=>len-(intOf i).toNat)
  case atStart=>exact ⟨0,_,Nat.zero_le _,rfl,rfl,by omega,by omega,Below.refl _ _⟩
  case round =>
   obtain ⟨m,v,hm,rfl,rfl,hv0,hv1,hB⟩:=hrel
   by_cases k1:m<len
   ·obtain ⟨x,hx⟩:∃ x,xs[m]?=some x:=⟨xs[m]'(by rw[HL.out];exact k1),by simp⟩
    obtain ⟨b,off,rfl,hb,hc⟩:=HP.out m x hx
    have c0:wr.cell? ⟨b,off+m*4,none⟩=some (.string x.s):=cell_later hB (hc 0 _ rfl)
    have c1:wr.cell? ⟨b,off+m*4+1,none⟩=some (.int .i64 x.reg):=cell_later hB (hc 1 _ rfl)
    have c2:wr.cell? ⟨b,off+m*4+2,none⟩=some (.int .i64 x.fr):=cell_later hB (hc 2 _ rfl)
    have c3:wr.cell? ⟨b,off+m*4+3,none⟩=some (.int .i64 x.to):=cell_later hB (hc 3 _ rfl)
    have hok:=HO.out x (List.mem_of_getElem? hx)
    clear hx hc hb
    go_wp2_with fail
    refine (szn_any x v _ hok hv0 (by omega)).mono ?_
    rintro e w1 ⟨⟨r,rfl,hr⟩,hx⟩
    replace hB:=hB.trans (hx.mono hB.size)
    clear hx c0 c1 c2 c3
    rcases hr with rfl|⟨hr0,hr1⟩
    ·go_wp2_with fail
     go_ret
     exact ⟨⟨-1,rfl,.inl rfl⟩,hB⟩
    ·go_wp2_with fail
     go_roundw
     case rel=>exact ⟨m+1,r,by omega,by go_num,rfl,by omega,by omega,hB⟩
     case measure=>simp[intOf];omega
   ·go_wp2_with fail
    go_ret
    exact ⟨⟨v,rfl,.inr ⟨hv0,hv1⟩⟩,hB⟩
theorem in_any (x lo hi:Int) (w:World) :
  Calls Tryz.prog 64 #[.int .i64 x,.int .i64 lo,.int .i64 hi] w fun e w'=>e=.returned (.bool (inR x lo hi))∧w'=w:=by
 by_cases h1:lo≤x
 ·by_cases h2:x≤hi
  ·go_enter Tryz.func64,Tryz.ntmps64
   go_wp2
   go_ret
   exact ⟨by simp[inR,h1,h2],rfl⟩
  ·go_enter Tryz.func64,Tryz.ntmps64
   go_wp2
   go_ret
   exact ⟨by simp[inR,h1,h2],rfl⟩
 ·go_enter Tryz.func64,Tryz.ntmps64
  go_wp2
  go_ret
  exact ⟨by simp[inR];omega,rfl⟩
theorem inR_zero (x:Int):(x==0)=(decide (0≤x)&&decide (x≤0)):=by
 by_cases h:x=0
 ·subst h;rfl
 ·have h':¬ (0≤x∧x≤0):=by omega
  have:(x==0)=false:=by simpa using h
  rw[this]
  symm
  simpa using h'
abbrev FV (c p i:Int):Value:=.agg #[.int .i64 c,.int .i64 p,.int .i64 i]
abbrev FO (c p i:Int):Obj:=.cells #[.int .i64 c,.int .i64 p,.int .i64 i] 27
theorem fault_any (c p i:Int) (w:World) :
  Calls Tryz.prog 34 #[.int .i64 c,.int .i64 p,.int .i64 i] w fun e w'=>e=.returned (FV c p i)∧w'=w.alloc (FO c p i):=by
 go_enter Tryz.func34,Tryz.ntmps34
 go_wp2
 exact bodyPost_ret (v:=FV c p i) (by simp[results,Tryz.results34,go_sem]) rfl ⟨rfl,rfl⟩
structure Cell9 (w:World) (b o:Nat) (f:FC):Prop where
 c0:w.cell? ⟨b,o,none⟩=some (.string f.d.name)
 c1:w.cell? ⟨b,o+1,none⟩=some (.int .i64 f.d.line)
 c2:w.cell? ⟨b,o+2,none⟩=some (.int .i64 f.d.params)
 c3:w.cell? ⟨b,o+3,none⟩=some (.bool f.d.rest)
 c4:w.cell? ⟨b,o+4,none⟩=some (.int .i64 f.d.regs)
 c5:w.cell? ⟨b,o+5,none⟩=some (.slice f.au f.d.ups.length f.cu)
 c6:w.cell? ⟨b,o+6,none⟩=some (.slice f.ac f.d.consts.length f.cc)
 c7:w.cell? ⟨b,o+7,none⟩=some (.slice f.ai f.d.ins.length f.ci)
 c8:w.cell? ⟨b,o+8,none⟩=some (.slice f.an f.d.named.length f.cn)
theorem Cell9.later {w wx:World}{b o:Nat}{f:FC} (hb:Below w.heap.size w wx) (h:Cell9 w b o f):Cell9 wx b o f :=
 ⟨cell_later hb h.c0,cell_later hb h.c1,cell_later hb h.c2,cell_later hb h.c3,cell_later hb h.c4,cell_later hb h.c5,cell_later hb h.c6,cell_later hb h.c7,cell_later hb h.c8⟩
theorem CodeAt.nine {w:World}{a:Option Addr}{xs:List FC} (h:CodeAt w a xs) {p:Nat}{f:FC} (hp:xs[p]?=some f):∃ b off,a=some ⟨b,off,none⟩∧b<w.heap.size∧Cell9 w b (off+p*9) f:=by
 obtain ⟨b,off,h1,h2,h3⟩:=h.row p f hp
 exact ⟨b,off,h1,h2,⟨h3 0 _ rfl,h3 1 _ rfl,h3 2 _ rfl,h3 3 _ rfl,h3 4 _ rfl,h3 5 _ rfl,h3 6 _ rfl,h3 7 _ rfl,h3 8 _ rfl⟩⟩
abbrev CO (s:Value):Obj:=.cells #[s] 31
abbrev PO (f:FC):Obj:=.cells #[.string f.d.name,.int .i64 f.d.line,.int .i64 f.d.params,.bool f.d.rest,.int .i64 f.d.regs,.slice f.au f.d.ups.length f.cu,.slice f.ac f.d.consts.length f.cc,.slice f.ai f.d.ins.length f.ci,.slice f.an f.d.named.length f.cn] 75
theorem fits_any (b off len cap p:Nat) (f:FC) (role x:Int) (w:World) (hpl:p<len) (hlen:len≤1048576) (hc:Cell9 w b (off+p*9) f) (hr0:0≤f.d.regs) (hr1:f.d.regs≤250) (ok:f.d.ok) :
  Calls Tryz.prog 98 #[.agg #[.slice (some ⟨b,off,none⟩) len cap],.int .i64 p,.int .i64 role,.int .i64 x] w fun e w'=>e=.returned (.bool (fitsB len f.d role x))∧Below w.heap.size w w':=by
 obtain ⟨c0,c1,c2,c3,c4,c5,c6,c7,c8⟩:=hc.later (bw1 w (CO (.slice (some ⟨b,off,none⟩) len cap)))
 obtain ⟨_,lu,lc,li,ln,_,_⟩:=ok
 clear hc
 go_enter Tryz.func98,Tryz.ntmps98
 go_wp2_with (go_at_call 64;refine (in_any _ _ _ _).mono ?_;rintro e w' ⟨rfl,rfl⟩)
 all_goals
  go_ret
  refine ⟨?_,by exact bw2 _ _ _⟩
  simp_all [fitsB,lohi,inR]
  try exact inR_zero x
attribute [local go_sem] run_store_float
theorem order_self (x:Nat) (h:FloatKind.f64.format.order x 0=some .eq):∃ s e,FloatKind.f64.format.read x=.number s 0 e:=by
 have h0:FloatKind.f64.format.read 0=.number false 0 FloatKind.f64.format.leastPlace:=by decide
 unfold Ieee.Format.order at h
 rw[h0] at h
 cases hx:FloatKind.f64.format.read x with
 | number s m e =>
  rw[hx] at h
  simp only[Ieee.Datum.order,Option.some.injEq,Ieee.signed] at h
  refine ⟨s,e,?_⟩
  have:=Int.compare_eq_eq.1 h
  have hm:m=0:=by
   have hz:m <<< (e-min e FloatKind.f64.format.leastPlace).toNat=0:=by
    generalize m <<< (e-min e FloatKind.f64.format.leastPlace).toNat=A at this
    rw[Nat.zero_shiftLeft] at this
    cases s <;> simp at this <;> omega
   rw[Nat.shiftLeft_eq] at hz
   rcases Nat.mul_eq_zero.1 hz with h|h
   ·exact h
   ·exact absurd h (Nat.ne_of_gt (Nat.two_pow_pos _))
  rw[hm]
 | infinity s=>rw[hx] at h;simp only[Ieee.Datum.order] at h;cases s <;> simp at h
 | nan s t=>rw[hx] at h;simp[Ieee.Datum.order] at h
theorem samef (x:Nat) (w:World):Calls Tryz.prog 144 #[.float .f64 x,.float .f64 x] w fun e w'=>e=.returned (.bool true)∧w'=w:=by
 by_cases h1:FloatKind.f64.format.order x x=some .eq
 ·by_cases h2:FloatKind.f64.format.order x 0=some .eq
  ·obtain ⟨g,e,hx⟩:=order_self x h2
   obtain ⟨q,hq⟩:∃ q,floatBits .quo .f64 4607182418800017408 x=some q:=by
    have h1':FloatKind.f64.format.read 4607182418800017408=.number false 4503599627370496 (-52):=by decide
    refine ⟨FloatKind.f64.format.write (.infinity (false ^^ g)),?_⟩
    simp[floatBits,Ieee.Format.div,h1',hx,Ieee.Datum.quotient]
   have hr:∀ w:World,(binOp .quo 119 (.float .f64 4607182418800017408) (.float .f64 x)).run Tryz.prog w=.ok (.float .f64 q) w:=fun w=>run_float_arith w .quo 119 .f64 _ _ _ hq
   clear hq hx
   go_enter Tryz.func144,Tryz.ntmps144
   go_wp2
   go_ret
   exact ⟨rfl,rfl⟩
  ·go_enter Tryz.func144,Tryz.ntmps144
   go_wp2
   go_ret
   exact ⟨rfl,rfl⟩
 ·have h3:(FloatKind.f64.format.order x x != some Ordering.eq)=true:=by simp[h1]
  go_enter Tryz.func144,Tryz.ntmps144
  go_wp2
  go_ret
  exact ⟨by first|rfl|(rw[←h3];rfl),rfl⟩
theorem eqv (k n:Int) (f:Nat) (s:ByteArray) (r:Int) (w:World):Calls Tryz.prog 126 #[VV k n f s r,VV k n f s r] w fun e w'=>e=.returned (.bool true)∧Below w.heap.size w w':=by
 go_enter Tryz.func126,Tryz.ntmps126
 go_wp2_with (go_at_call 144;refine (samef _ _).mono ?_;rintro e w' ⟨rfl,rfl⟩)
 go_ret
 exact ⟨rfl,bw2 _ _ _⟩
end Go.Proofs.YtfejmalmnjmanaaGreatDoor
