import Derived.Test.YtkajknidfoelcaaGreatDoorP02
import Derived.Test.YtkajknidfoelcaaGreatDoorP04
import Derived.WalkSpells
import Derived.Test.YtkajknidfoelcaaGreatDoorP01
set_option linter.unusedVariables false
set_option linter.unusedSimpArgs false
set_option maxRecDepth 20000
set_option maxHeartbeats 8000000
namespace Go.Proofs.YtkajknidfoelcaaGreatDoor
open Go.RowKit
theorem app_many (st et:TypeId) (k by':Nat) (hu:Tryz.prog.underlying st=some (.slice et)) (hc:(Tryz.prog.info? et).map (fun i=>(i.zero.map (fun z=>z.cells.size),i.size,i.bytes))=some (some k,k,by')) (hk:0<k) (hby:by'≤1000)
  (base:Nat) (w:World) (sv:Value) (n:Nat) (xs news:List Value) (ad:Addr) (m c:Nat) (ty:TypeId) (ho:w.ownsRow base et k sv n xs) (hl:news.length=m*k) (hn:∀j u,news[j]?=some u→w.cell? (ad.add j)=some u) (h1:∀u∈news,u.oneCell'=true) (hlen:n+m≤2000000) (hb:base≤w.heap.size) :
  ∃v' w',(Builtin.append_ #[st,st] ty #[sv,.slice (some ad) m c]).run Tryz.prog w=.ok v' w'∧w'.ownsRow base et k v' (n+m) (xs++news)∧w.grownBy w' sv.ownBlock:=by
 obtain⟨i,z,hi,hz,e1,e2,e3⟩:∃(i:TypeInfo) (z:Value),Tryz.prog.info? et=some i∧i.zero=some z∧i.size=k∧i.bytes=by'∧z.cells.size=k:=by
  cases hi:Tryz.prog.info? et with
  | none=>rw[hi]at hc;cases hc
  | some i =>
   rw[hi]at hc
   simp only[Option.map_some,Option.some.injEq,Prod.mk.injEq]at hc
   obtain⟨h1,h2,h3⟩:=hc
   cases hz:i.zero with
   | none=>rw[hz]at h1;cases h1
   | some z=>rw[hz]at h1;simp at h1;exact⟨i,z,rfl,hz,h2,h3,h1⟩
 obtain⟨v',w',hr,ho',hg,_⟩:=run_append_own (P:=Tryz.prog) w base st ty et i z k by' hu hi hz e1 e2 e3 hk sv n xs ho ad m c news hl hn h1 (by unfold maxLen;omega) (by
   have:(n+m)*by'≤2000000*1000:=Nat.mul_le_mul (by omega) hby
   omega) hb
 exact⟨v',w',hr,ho',hg⟩
theorem flat_len_int:∀(l:List Int),(l.flatMap intC).length=l.length*1
 | []=>rfl
 | y :: l=>by rw[List.flatMap_cons,List.length_append,intC_len,List.length_cons,flat_len_int l,Nat.add_mul,Nat.one_mul,Nat.add_comm]
theorem sl_cells_int {w:World} {a:Option Addr} {xs:List Int} (hp:SlA w 1 intC a xs) (ad:Addr) (ha:a=some ad):∀j u,(xs.flatMap intC)[j]?=some u→w.cell? (ad.add j)=some u:=by
 intro j u hj
 have hlen:=flat_len_int xs
 have hjl:=(List.getElem?_eq_some_iff.1 hj).1
 have hi:j / 1<xs.length:=by rw[hlen]at hjl;omega
 have hx:xs[j / 1]?=some (xs[j / 1]'hi):=List.getElem?_eq_getElem hi
 obtain⟨b,off,e,_,hc⟩:=hp _ _ hx
 rw[ha]at e
 cases e
 have hm:j % 1<(intC (xs[j / 1]'hi)).length:=by rw[intC_len];omega
 have hv:(intC (xs[j / 1]'hi))[j % 1]?=some ((intC (xs[j / 1]'hi))[j % 1]'hm):=List.getElem?_eq_getElem hm
 have h2:=flat_at intC 1 xs (j / 1) (j % 1) _ _ (fun y _=>intC_len y) hx hv
 rw[show j / 1*1+j % 1=j by omega,hj]at h2
 rw[Addr.add_lit,show off+j=off+j / 1*1+j % 1 by omega,hc _ _ hv]
 exact h2.symm
theorem clone_int (a:Option Addr) (len cap:Nat) (xs:List Int) (w:World) (hl:xs.length=len) (hp:SlA w 1 intC a xs) (hlen:len≤6000) :
  Calls Tryz.prog 62 #[.slice a len cap] w fun e w'=>(∃sv,e=.returned sv∧ORow w' w.heap.size 3 1 intC sv xs)∧Below w.heap.size w w':=by
 cases a with
 | none =>
  have hx:xs=[]:=by
   cases xs with
   | nil=>rfl
   | cons x xs=>obtain⟨b,off,e,_⟩:=hp 0 x rfl;cases e
  subst hx
  have hq:∀W:World,(binOp .eql 59 (.slice none len cap) (.slice none 0 0)).run Tryz.prog W=.ok (.bool true) W:=fun W=>Lib.run_eql_slice_nil W 59 3 none len cap 0 0 Tryz.underlying59
  go_enter Tryz.func62,Tryz.ntmps62
  go_wp2_with fail
  go_ret
  exact⟨⟨_,rfl,ORow.nil _ _ _ _ _⟩,Below.refl _ _⟩
 | some ad =>
  have hq:∀W:World,(binOp .eql 59 (.slice (some ad) len cap) (.slice none 0 0)).run Tryz.prog W=.ok (.bool false) W:=fun W=>Lib.run_eql_slice_nil W 59 3 (some ad) len cap 0 0 Tryz.underlying59
  have hy:=bw1 w (.cells #[] 3)
  have h0:(w.alloc (.cells #[] 3)).ownsRow w.heap.size 3 1 (.slice (some ⟨w.heap.size,0,none⟩) 0 0) 0 []:=⟨by simp,.inr ⟨w.heap.size,0,#[],rfl,Nat.le_refl _,blk_new _ _,Nat.le_refl _,Nat.zero_le _,by simp,by simp⟩⟩
  obtain⟨v',w2,hr,ho,hg⟩:=app_many 59 3 1 8 Tryz.underlying59 (by kernel_rfl) (by omega) (by omega) w.heap.size (w.alloc (.cells #[] 3)) _ 0 [] (xs.flatMap intC) ad len cap 59 h0 (by rw[←hl];exact flat_len_int xs) (fun j u hj=>sl_cells_int (hp.later hy) ad rfl j u hj) (by intro u hu;obtain⟨x,_,hx⟩:=List.mem_flatMap.1 hu;simp[intC]at hx;subst hx;rfl) (by omega) (by simp)
  have HB:Hid (Below w.heap.size w w2):=below_grown hy (by simp) h0 (Nat.le_refl _) hg
  have HO:Hid (ORow w2 w.heap.size 3 1 intC v' xs):=by show w2.ownsRow _ _ _ _ _ _;rw[Nat.zero_add,List.nil_append]at ho;rw[hl];exact ho
  clear ho hg h0 hy hp
  go_enter Tryz.func62,Tryz.ntmps62
  go_wp2_with (at_builtin;refine wpList_append_run rfl _ _ _ rfl _ _ _ _ rfl rfl hr ?_;clear hr)
  go_ret
  exact⟨⟨_,rfl,HO.out⟩,HB.out⟩
theorem flat_len_gd:∀(l:List GD),(l.flatMap GD.cells).length=l.length*3
 | []=>rfl
 | y :: l=>by rw[List.flatMap_cons,List.length_append,GD.len,List.length_cons,flat_len_gd l,Nat.add_mul,Nat.one_mul,Nat.add_comm]
theorem sl_cells_gd {w:World} {a:Option Addr} {xs:List GD} (hp:SlA w 3 GD.cells a xs) (ad:Addr) (ha:a=some ad):∀j u,(xs.flatMap GD.cells)[j]?=some u→w.cell? (ad.add j)=some u:=by
 intro j u hj
 have hlen:=flat_len_gd xs
 have hjl:=(List.getElem?_eq_some_iff.1 hj).1
 have hi:j / 3<xs.length:=by rw[hlen]at hjl;omega
 have hx:xs[j / 3]?=some (xs[j / 3]'hi):=List.getElem?_eq_getElem hi
 obtain⟨b,off,e,_,hc⟩:=hp _ _ hx
 rw[ha]at e
 cases e
 have hm:j % 3<(GD.cells (xs[j / 3]'hi)).length:=by rw[GD.len];omega
 have hv:(GD.cells (xs[j / 3]'hi))[j % 3]?=some ((GD.cells (xs[j / 3]'hi))[j % 3]'hm):=List.getElem?_eq_getElem hm
 have h2:=flat_at GD.cells 3 xs (j / 3) (j % 3) _ _ (fun y _=>GD.len y) hx hv
 rw[show j / 3*3+j % 3=j by omega,hj]at h2
 rw[Addr.add_lit,show off+j=off+j / 3*3+j % 3 by omega,hc _ _ hv]
 exact h2.symm
theorem clone_gd (a:Option Addr) (len cap:Nat) (xs:List GD) (w:World) (hl:xs.length=len) (hp:SlA w 3 GD.cells a xs) (hlen:len≤6000) :
  Calls Tryz.prog 63 #[.slice a len cap] w fun e w'=>(∃sv,e=.returned sv∧ORow w' w.heap.size 176 3 GD.cells sv xs)∧Below w.heap.size w w':=by
 cases a with
 | none =>
  have hx:xs=[]:=by
   cases xs with
   | nil=>rfl
   | cons x xs=>obtain⟨b,off,e,_⟩:=hp 0 x rfl;cases e
  subst hx
  have hq:∀W:World,(binOp .eql 120 (.slice none len cap) (.slice none 0 0)).run Tryz.prog W=.ok (.bool true) W:=fun W=>Lib.run_eql_slice_nil W 120 176 none len cap 0 0 Tryz.underlying120
  go_enter Tryz.func63,Tryz.ntmps63
  go_wp2_with fail
  go_ret
  exact⟨⟨_,rfl,ORow.nil _ _ _ _ _⟩,Below.refl _ _⟩
 | some ad =>
  have hq:∀W:World,(binOp .eql 120 (.slice (some ad) len cap) (.slice none 0 0)).run Tryz.prog W=.ok (.bool false) W:=fun W=>Lib.run_eql_slice_nil W 120 176 (some ad) len cap 0 0 Tryz.underlying120
  have hy:=bw1 w (.cells #[] 176)
  have h0:(w.alloc (.cells #[] 176)).ownsRow w.heap.size 176 3 (.slice (some ⟨w.heap.size,0,none⟩) 0 0) 0 []:=⟨by simp,.inr ⟨w.heap.size,0,#[],rfl,Nat.le_refl _,blk_new _ _,Nat.le_refl _,Nat.zero_le _,by simp,by simp⟩⟩
  obtain⟨v',w2,hr,ho,hg⟩:=app_many 120 176 3 24 Tryz.underlying120 (by kernel_rfl) (by omega) (by omega) w.heap.size (w.alloc (.cells #[] 176)) _ 0 [] (xs.flatMap GD.cells) ad len cap 120 h0 (by rw[←hl];exact flat_len_gd xs) (fun j u hj=>sl_cells_gd (hp.later hy) ad rfl j u hj) (by intro u hu;obtain⟨x,_,hx⟩:=List.mem_flatMap.1 hu;simp[GD.cells]at hx;rcases hx with rfl | rfl | rfl<;>rfl) (by omega) (by simp)
  have HB:Hid (Below w.heap.size w w2):=below_grown hy (by simp) h0 (Nat.le_refl _) hg
  have HO:Hid (ORow w2 w.heap.size 176 3 GD.cells v' xs):=by show w2.ownsRow _ _ _ _ _ _;rw[Nat.zero_add,List.nil_append]at ho;rw[hl];exact ho
  clear ho hg h0 hy hp
  go_enter Tryz.func63,Tryz.ntmps63
  go_wp2_with (at_builtin;refine wpList_append_run rfl _ _ _ rfl _ _ _ _ rfl rfl hr ?_;clear hr)
  go_ret
  exact⟨⟨_,rfl,HO.out⟩,HB.out⟩
theorem equal_int (a a':Option Addr) (n n' c c':Nat) (xs ys:List Int) (w:World) (hn:xs.length=n) (hn':ys.length=n') (h1:SlA w 1 intC a xs) (h2:SlA w 1 intC a' ys) (ln:n≤1048576) :
  Calls Tryz.prog 65 #[.slice a n c,.slice a' n' c'] w fun e w'=>e=.returned (.bool (all2 (· == ·) xs ys))∧Below w.heap.size w w':=by
 have H1:Hid (SlA w 1 intC a xs):=h1
 have H2:Hid (SlA w 1 intC a' ys):=h2
 have HN:Hid (xs.length=n):=hn
 have HN':Hid (ys.length=n'):=hn'
 clear h1 h2 hn hn'
 by_cases hnn:n=n'
 ·subst hnn
  have f1:((n:Int) != (n:Int))=false:=by simp
  go_enter Tryz.func65,Tryz.ntmps65
  go_wp2_with fail
  go_loopw [13] (fun i wr=>∃q:Nat,q≤n∧i=.int .i64 q∧Below w.heap.size w wr∧Hid (all2 (· == ·) (xs.drop q) (ys.drop q)=all2 (· == ·) xs ys)) (fun i _=>n-(intOf i).toNat)
  case atStart=>exact⟨0,Nat.zero_le _,rfl,Below.refl _ _,rfl⟩
  case round =>
   obtain⟨q,hq,rfl,hB,HF⟩:=hrel
   by_cases k1:q<n
   ·obtain⟨x,hx⟩:∃x,xs[q]?=some x:=⟨xs[q]'(by rw[HN.out];exact k1),by simp⟩
    obtain⟨y,hy⟩:∃y,ys[q]?=some y:=⟨ys[q]'(by rw[HN'.out];exact k1),by simp⟩
    obtain⟨b1,o1,rfl,_,hc⟩:=H1.out q x hx
    obtain⟨b2,o2,rfl,_,hc'⟩:=H2.out q y hy
    have e1:wr.cell? ⟨b1,o1+q,none⟩=some (.int .i64 x):=by have h:=cell_later hB (hc 0 _ rfl);simpa using h
    have e2:wr.cell? ⟨b2,o2+q,none⟩=some (.int .i64 y):=by have h:=cell_later hB (hc' 0 _ rfl);simpa using h
    have HD:Hid (((x == y) && all2 (· == ·) (xs.drop (q+1)) (ys.drop (q+1)))=all2 (· == ·) xs ys):=by have h:=HF.out;rw[all2_drop hx hy]at h;exact h
    clear hx hy hc hc' HF
    cases hxy:(x == y)
    ·have hne:(x != y)=true:=by simp only[bne,hxy];rfl
     have HR:Hid (all2 (· == ·) xs ys=false):=by show all2 _ _ _=false;rw[←HD.out,hxy];rfl
     go_wp2_with fail
     have l1:=lat_cell e1;have l2:=lat_cell e2
     haveI:=lat_some wr
     clear e1 e2
     refine wp_region_lat (by kernel_rfl) (by kernel_rfl) ?_
     repeat (go_big_quiet_step (fail))
     refine wpQuiet_nil ?_
     rintro _ ⟨nq,rfl⟩
     have hz:=hB.trans (nq.below.mono hB.size)
     go_wp2_with fail
     go_ret
     exact⟨ret_bo HR.out.symm,hz⟩
    ·have hne:(x != y)=false:=by simp only[bne,hxy];rfl
     have HF1:Hid (all2 (· == ·) (xs.drop (q+1)) (ys.drop (q+1))=all2 (· == ·) xs ys):=by have h:=HD.out;rw[hxy,Bool.true_and]at h;exact h
     clear HD
     go_wp2_with fail
     have l1:=lat_cell e1;have l2:=lat_cell e2
     haveI:=lat_some wr
     clear e1 e2
     refine wp_region_lat (by kernel_rfl) (by kernel_rfl) ?_
     repeat (go_big_quiet_step (fail))
     refine wpQuiet_nil ?_
     rintro _ ⟨nq,rfl⟩
     have hz:=hB.trans (nq.below.mono hB.size)
     clear l1 l2
     go_wp2_with fail
     go_roundw
     case rel=>exact⟨q+1,by omega,by go_num,hz,HF1⟩
     case measure=>simp[intOf];omega
   ·have HT:Hid (all2 (· == ·) xs ys=true):=by show all2 _ _ _=true;rw[←HF.out];exact all2_end (by rw[HN.out];omega) (by rw[HN.out,HN'.out])
    clear HF
    go_wp2_with fail
    go_ret
    exact⟨ret_bo HT.out.symm,hB⟩
 ·have f1:((n:Int) != (n':Int))=true:=by simp;omega
  have HR:Hid (all2 (· == ·) xs ys=false):=all2_len (by rw[HN.out,HN'.out];exact hnn)
  go_enter Tryz.func65,Tryz.ntmps65
  go_wp2_with fail
  go_ret
  exact⟨ret_bo HR.out.symm,Below.refl _ _⟩
theorem equal_gd (a a':Option Addr) (n n' c c':Nat) (xs ys:List GD) (w:World) (hn:xs.length=n) (hn':ys.length=n') (h1:SlA w 3 GD.cells a xs) (h2:SlA w 3 GD.cells a' ys) (ln:n≤1048576) :
  Calls Tryz.prog 66 #[.slice a n c,.slice a' n' c'] w fun e w'=>e=.returned (.bool (all2 gEq xs ys))∧Below w.heap.size w w':=by
 have H1:Hid (SlA w 3 GD.cells a xs):=h1
 have H2:Hid (SlA w 3 GD.cells a' ys):=h2
 have HN:Hid (xs.length=n):=hn
 have HN':Hid (ys.length=n'):=hn'
 clear h1 h2 hn hn'
 by_cases hnn:n=n'
 ·subst hnn
  have f1:((n:Int) != (n:Int))=false:=by simp
  go_enter Tryz.func66,Tryz.ntmps66
  go_wp2_with fail
  go_loopw [13] (fun i wr=>∃q:Nat,q≤n∧i=.int .i64 q∧Below w.heap.size w wr∧Hid (all2 gEq (xs.drop q) (ys.drop q)=all2 gEq xs ys)) (fun i _=>n-(intOf i).toNat)
  case atStart=>exact⟨0,Nat.zero_le _,rfl,Below.refl _ _,rfl⟩
  case round =>
   obtain⟨q,hq,rfl,hB,HF⟩:=hrel
   by_cases k1:q<n
   ·obtain⟨x,hx⟩:∃x,xs[q]?=some x:=⟨xs[q]'(by rw[HN.out];exact k1),by simp⟩
    obtain⟨y,hy⟩:∃y,ys[q]?=some y:=⟨ys[q]'(by rw[HN'.out];exact k1),by simp⟩
    obtain⟨b1,o1,rfl,_,hc⟩:=H1.out q x hx
    obtain⟨b2,o2,rfl,_,hc'⟩:=H2.out q y hy
    have e0:wr.cell? ⟨b1,o1+q*3,none⟩=some (.bool x.t):=cell_later hB (hc 0 _ rfl)
    have e1:wr.cell? ⟨b1,o1+q*3+1,none⟩=some (.int .i64 x.k):=cell_later hB (hc 1 _ rfl)
    have e2:wr.cell? ⟨b1,o1+q*3+2,none⟩=some (.int .i64 x.h):=cell_later hB (hc 2 _ rfl)
    have g0:wr.cell? ⟨b2,o2+q*3,none⟩=some (.bool y.t):=cell_later hB (hc' 0 _ rfl)
    have g1:wr.cell? ⟨b2,o2+q*3+1,none⟩=some (.int .i64 y.k):=cell_later hB (hc' 1 _ rfl)
    have g2:wr.cell? ⟨b2,o2+q*3+2,none⟩=some (.int .i64 y.h):=cell_later hB (hc' 2 _ rfl)
    have HD:Hid ((gEq x y && all2 gEq (xs.drop (q+1)) (ys.drop (q+1)))=all2 gEq xs ys):=by have h:=HF.out;rw[all2_drop hx hy]at h;exact h
    have hrun:=eqg_run x y
    clear hx hy hc hc' HF
    cases hxy:gEq x y
    ·rw[hxy]at hrun
     have HR:Hid (all2 gEq xs ys=false):=by show all2 _ _ _=false;rw[←HD.out,hxy,Bool.false_and]
     go_wp2_with fail
     have l0:=lat_cell e0;have l1:=lat_cell e1;have l2:=lat_cell e2;have l3:=lat_cell g0;have l4:=lat_cell g1;have l5:=lat_cell g2
     haveI:=lat_some wr
     clear e0 e1 e2 g0 g1 g2
     refine wp_region_lat (by kernel_rfl) (by kernel_rfl) ?_
     repeat (go_big_quiet_step (fail))
     refine wpQuiet_nil ?_
     rintro _ ⟨nq,rfl⟩
     have hz:=hB.trans (nq.below.mono hB.size)
     go_wp2_with fail
     go_ret
     exact⟨ret_bo HR.out.symm,hz⟩
    ·rw[hxy]at hrun
     have HF1:Hid (all2 gEq (xs.drop (q+1)) (ys.drop (q+1))=all2 gEq xs ys):=by have h:=HD.out;rw[hxy,Bool.true_and]at h;exact h
     clear HD
     go_wp2_with fail
     have l0:=lat_cell e0;have l1:=lat_cell e1;have l2:=lat_cell e2;have l3:=lat_cell g0;have l4:=lat_cell g1;have l5:=lat_cell g2
     haveI:=lat_some wr
     clear e0 e1 e2 g0 g1 g2
     refine wp_region_lat (by kernel_rfl) (by kernel_rfl) ?_
     repeat (go_big_quiet_step (fail))
     refine wpQuiet_nil ?_
     rintro _ ⟨nq,rfl⟩
     have hz:=hB.trans (nq.below.mono hB.size)
     clear l0 l1 l2 l3 l4 l5 hrun
     go_wp2_with fail
     go_roundw
     case rel=>exact⟨q+1,by omega,by go_num,hz,HF1⟩
     case measure=>simp[intOf];omega
   ·have HT:Hid (all2 gEq xs ys=true):=by show all2 _ _ _=true;rw[←HF.out];exact all2_end (by rw[HN.out];omega) (by rw[HN.out,HN'.out])
    clear HF
    go_wp2_with fail
    go_ret
    exact⟨ret_bo HT.out.symm,hB⟩
 ·have f1:((n:Int) != (n':Int))=true:=by simp;omega
  have HR:Hid (all2 gEq xs ys=false):=all2_len (by rw[HN.out,HN'.out];exact hnn)
  go_enter Tryz.func66,Tryz.ntmps66
  go_wp2_with fail
  go_ret
  exact⟨ret_bo HR.out.symm,Below.refl _ _⟩
end Go.Proofs.YtkajknidfoelcaaGreatDoor
namespace Go.Proofs.YtkajknidfoelcaaGreatDoor.HP
def swp (l:List Nat) (i j x y:Nat):List Nat:=(l.set i y).set j x
theorem swp_len (l:List Nat) (i j x y:Nat):(swp l i j x y).length=l.length:=by simp[swp]
theorem swp_get {l:List Nat} {i j x y:Nat} (hij:i≠j) (hi:l[i]?=some x) (hj:l[j]?=some y) (k:Nat):(swp l i j x y)[k]?=if k=j then some x else if k=i then some y else l[k]?:=by
 have hil:=(List.getElem?_eq_some_iff.1 hi).1
 have hjl:=(List.getElem?_eq_some_iff.1 hj).1
 unfold swp
 rw[List.getElem?_set]
 by_cases h:k=j
 ·rw[if_pos h.symm,if_pos (by simpa using hjl),if_pos h]
 ·rw[if_neg (fun e=>h e.symm),if_neg h,List.getElem?_set]
  by_cases h2:k=i
  ·rw[if_pos h2.symm,if_pos hil,if_pos h2]
  ·rw[if_neg (fun e=>h2 e.symm),if_neg h2]
theorem swp_mem {l:List Nat} {i j x y:Nat} (hij:i≠j) (hi:l[i]?=some x) (hj:l[j]?=some y) (z:Nat):z∈swp l i j x y↔z∈l:=by
 constructor
 ·intro hz
  obtain⟨k,hk⟩:=List.getElem?_of_mem hz
  rw[swp_get hij hi hj]at hk
  split at hk
  ·cases hk;exact List.mem_of_getElem? hi
  ·split at hk
   ·cases hk;exact List.mem_of_getElem? hj
   ·exact List.mem_of_getElem? hk
 ·intro hz
  obtain⟨k,hk⟩:=List.getElem?_of_mem hz
  have key:∃k':Nat,(swp l i j x y)[k']?=some z:=by
   by_cases h1:k=i
   ·subst h1
    rw[hk]at hi
    cases hi
    exact⟨j,by rw[swp_get hij hk hj,if_pos rfl]⟩
   ·by_cases h2:k=j
    ·subst h2
     rw[hk]at hj
     cases hj
     exact⟨i,by rw[swp_get hij hi hk,if_neg hij,if_pos rfl]⟩
    ·exact⟨k,by rw[swp_get hij hi hj,if_neg h2,if_neg h1];exact hk⟩
  obtain⟨k',h⟩:=key
  exact List.mem_of_getElem? h
def Nd (l:List Nat):Prop:=∀(i j x:Nat),l[i]?=some x→l[j]?=some x→i=j
theorem swp_nd {l:List Nat} {i j x y:Nat} (h:Nd l) (hij:i≠j) (hi:l[i]?=some x) (hj:l[j]?=some y):Nd (swp l i j x y):=by
 have hxy:x≠y:=fun e=>hij (h i j x hi (by rw[e];exact hj))
 intro a b z ha hb
 rw[swp_get hij hi hj]at ha hb
 have fi:∀k,l[k]?=some x→k=i:=fun k hk=>h k i x hk hi
 have fj:∀k,l[k]?=some y→k=j:=fun k hk=>h k j y hk hj
 by_cases a1:a=j
 ·rw[if_pos a1]at ha
  cases ha
  by_cases b1:b=j
  ·omega
  ·rw[if_neg b1]at hb
   by_cases b2:b=i
   ·rw[if_pos b2]at hb
    exact absurd (Option.some.inj hb).symm hxy
   ·rw[if_neg b2]at hb
    exact absurd (fi b hb) b2
 ·rw[if_neg a1]at ha
  by_cases a2:a=i
  ·rw[if_pos a2]at ha
   cases ha
   by_cases b1:b=j
   ·rw[if_pos b1]at hb
    exact absurd (Option.some.inj hb) hxy
   ·rw[if_neg b1]at hb
    by_cases b2:b=i
    ·omega
    ·rw[if_neg b2]at hb
     exact absurd (fj b hb) b1
  ·rw[if_neg a2]at ha
   by_cases b1:b=j
   ·rw[if_pos b1]at hb
    cases hb
    exact absurd (fi a ha) a2
   ·rw[if_neg b1]at hb
    by_cases b2:b=i
    ·rw[if_pos b2]at hb
     cases hb
     exact absurd (fj a ha) a1
    ·rw[if_neg b2]at hb
     exact h a b z ha hb
def Hp (l:List Nat):Prop:=∀(i x y:Nat),0<i→l[i]?=some x→l[(i-1) / 2]?=some y→y≤x
theorem Hp.least {l:List Nat} (h:Hp l) {m:Nat} (hm:l[0]?=some m):∀(i x:Nat),l[i]?=some x→m≤x:=by
 intro i
 induction i using Nat.strongRecOn with
 | ind i ih =>
  intro x hx
  by_cases hi:i=0
  ·subst hi
   rw[hm]at hx
   cases hx
   exact Nat.le_refl _
  ·have hlt:(i-1) / 2<i:=by omega
   have hl:=(List.getElem?_eq_some_iff.1 hx).1
   obtain⟨y,hy⟩:∃y,l[(i-1) / 2]?=some y:=⟨l[(i-1) / 2]'(by omega),by simp⟩
   exact Nat.le_trans (ih _ hlt y hy) (h i x y (by omega) hx hy)
structure Up (l:List Nat) (a:Nat):Prop where
 ok:∀(i x y:Nat),0<i→i≠a→l[i]?=some x→l[(i-1) / 2]?=some y→y≤x
 ch:∀(i x y:Nat),0<i→(i-1) / 2=a→0<a→l[i]?=some x→l[(a-1) / 2]?=some y→y≤x
theorem Up.done0 {l:List Nat} (h:Up l 0):Hp l:=fun i x y hi hx hy=>h.ok i x y hi (by omega) hx hy
theorem Up.done {l:List Nat} {a x y:Nat} (h:Up l a) (hx:l[a]?=some x) (hy:l[(a-1) / 2]?=some y) (hle:y≤x):Hp l:=fun i u v hi hu hv=>by
 by_cases e:i=a
 ·subst e
  rw[hx]at hu
  rw[hy]at hv
  cases hu
  cases hv
  exact hle
 ·exact h.ok i u v hi e hu hv
theorem Up.step {l:List Nat} {a x y:Nat} (h:Up l a) (ha:0<a) (hx:l[a]?=some x) (hy:l[(a-1) / 2]?=some y) (hlt:x<y):Up (swp l a ((a-1) / 2) x y) ((a-1) / 2):=by
 have hne:a≠(a-1) / 2:=by omega
 refine⟨fun i u v hi hip hu hv=>?_,fun i u v hi hip hp0 hu hv=>?_⟩
 ·rw[swp_get hne hx hy]at hu hv
  rw[if_neg hip]at hu
  by_cases e:i=a
  ·subst e
   rw[if_pos rfl]at hu
   rw[if_pos rfl]at hv
   cases hu
   cases hv
   omega
  ·rw[if_neg e]at hu
   by_cases e2:(i-1) / 2=(a-1) / 2
   ·rw[if_pos e2]at hv
    cases hv
    have:=h.ok i u y hi e hu (by rw[e2];exact hy)
    omega
   ·rw[if_neg e2]at hv
    by_cases e3:(i-1) / 2=a
    ·rw[if_pos e3]at hv
     cases hv
     exact h.ch i u y hi e3 ha hu hy
    ·rw[if_neg e3]at hv
     exact h.ok i u v hi e hu hv
 ·rw[swp_get hne hx hy]at hu hv
  have q1:((a-1) / 2-1) / 2≠(a-1) / 2:=by omega
  have q2:((a-1) / 2-1) / 2≠a:=by omega
  rw[if_neg q1,if_neg q2]at hv
  have hpv:=h.ok ((a-1) / 2) y v hp0 (by omega) hy hv
  by_cases e1:i=(a-1) / 2
  ·omega
  ·rw[if_neg e1]at hu
   by_cases e2:i=a
   ·rw[if_pos e2]at hu
    cases hu
    exact hpv
   ·rw[if_neg e2]at hu
    have:=h.ok i u y hi e2 hu (by rw[hip];exact hy)
    omega
theorem up_push {l:List Nat} (h:Hp l) (x:Nat):Up (l++[x]) l.length:=by
 have key:∀(i u:Nat),i≠l.length→(l++[x])[i]?=some u→l[i]?=some u:=fun i u hi hu=>by
  have:=(List.getElem?_eq_some_iff.1 hu).1
  simp at this
  rw[List.getElem?_append_left (by omega)]at hu
  exact hu
 refine⟨fun i u v hi hia hu hv=>?_,fun i u v hi hia h0 hu hv=>?_⟩
 ·have hu':=key i u hia hu
  have hl:=(List.getElem?_eq_some_iff.1 hu').1
  exact h i u v hi hu' (key _ v (by omega) hv)
 ·have:=(List.getElem?_eq_some_iff.1 hu).1
  simp at this
  omega
structure Dn (l:List Nat) (a:Nat):Prop where
 ok:∀(i x y:Nat),0<i→(i-1) / 2≠a→l[i]?=some x→l[(i-1) / 2]?=some y→y≤x
 ch:∀(i x y:Nat),0<i→(i-1) / 2=a→0<a→l[i]?=some x→l[(a-1) / 2]?=some y→y≤x
theorem Dn.leaf {l:List Nat} {a:Nat} (h:Dn l a) (hl:l.length≤2*a+1):Hp l:=fun i x y hi hx hy=>by
 have:=(List.getElem?_eq_some_iff.1 hx).1
 exact h.ok i x y hi (by omega) hx hy
theorem Dn.done {l:List Nat} {a b x z:Nat} (h:Dn l a) (hb:b=2*a+1∨b=2*a+2) (hx:l[a]?=some x) (hz:l[b]?=some z) (hle:x≤z) (hmin:∀(i u:Nat),(i=2*a+1∨i=2*a+2)→l[i]?=some u→z≤u):Hp l:=fun i u v hi hu hv=>by
 by_cases e:(i-1) / 2=a
 ·rw[e,hx]at hv
  cases hv
  have:=hmin i u (by omega) hu
  omega
 ·exact h.ok i u v hi e hu hv
theorem Dn.step {l:List Nat} {a b x z:Nat} (h:Dn l a) (hb:b=2*a+1∨b=2*a+2) (hx:l[a]?=some x) (hz:l[b]?=some z) (hlt:z<x) (hmin:∀(i u:Nat),(i=2*a+1∨i=2*a+2)→l[i]?=some u→z≤u):Dn (swp l a b x z) b:=by
 have hne:a≠b:=by omega
 have hpb:(b-1) / 2=a:=by omega
 refine⟨fun i u v hi hip hu hv=>?_,fun i u v hi hip hb0 hu hv=>?_⟩
 ·rw[swp_get hne hx hz]at hu hv
  rw[if_neg hip]at hv
  by_cases e1:i=b
  ·rw[e1,if_pos rfl]at hu
   rw[e1,if_pos hpb]at hv
   cases hu
   cases hv
   omega
  ·rw[if_neg e1]at hu
   by_cases e2:i=a
   ·rw[e2,if_pos rfl]at hu
    cases hu
    have q:(i-1) / 2≠a:=by omega
    rw[if_neg q]at hv
    rw[e2]at hv
    exact h.ch b z v (by omega) hpb (by omega) hz hv
   ·rw[if_neg e2]at hu
    by_cases e3:(i-1) / 2=a
    ·rw[if_pos e3]at hv
     cases hv
     exact hmin i u (by omega) hu
    ·rw[if_neg e3]at hv
     exact h.ok i u v hi e3 hu hv
 ·rw[swp_get hne hx hz]at hu hv
  rw[hpb,if_neg hne,if_pos rfl]at hv
  cases hv
  have e1:i≠b:=by omega
  have e2:i≠a:=by omega
  rw[if_neg e1,if_neg e2]at hu
  exact h.ok i u z hi (by omega) hu (by rw[hip];exact hz)
theorem dn_pop {l:List Nat} (h:Hp l) (x:Nat):Dn ((l.set 0 x).take (l.length-1)) 0:=by
 have key:∀(i u:Nat),0<i→((l.set 0 x).take (l.length-1))[i]?=some u→l[i]?=some u:=fun i u hi hu=>by
  rw[List.getElem?_take]at hu
  split at hu
  ·rw[List.getElem?_set]at hu
   rw[if_neg (by omega)]at hu
   exact hu
  ·cases hu
 refine⟨fun i u v hi hip hu hv=>h i u v hi (key i u hi hu) (key _ v (by omega) hv),fun i u v hi hip h0=>by omega⟩
end Go.Proofs.YtkajknidfoelcaaGreatDoor.HP
namespace Go.Proofs.YtkajknidfoelcaaGreatDoor
open Go.RowKit
abbrev OI (w:World) (B:Nat) (sv:Value) (ts:List Int):Prop:=ORow w B 3 1 intC sv ts
def nz (l:List Nat):List Int:=l.map fun (n:Nat)=>(n:Int)
theorem nz_len (l:List Nat):(nz l).length=l.length:=by simp[nz]
theorem nz_get (l:List Nat) (i:Nat):(nz l)[i]?=l[i]?.map fun (n:Nat)=>(n:Int):=by simp[nz]
theorem nz_app (l m:List Nat):nz (l++m)=nz l++nz m:=by simp[nz]
theorem nz_set (l:List Nat) (i x:Nat):(nz l).set i (x:Int)=nz (l.set i x):=by simp[nz,List.map_set]
theorem nz_take (l:List Nat) (i:Nat):(nz l).take i=nz (l.take i):=by simp[nz,List.map_take]
theorem OI.cell {w:World} {B g n cap:Nat} {ts:List Int} (h:OI w B (.slice (some ⟨g,0,none⟩) n cap) ts) {i:Nat} {z:Int} (hz:ts[i]?=some z):w.cell? ⟨g,i,none⟩=some (.int .i64 z):=by
 obtain⟨a,c,e,hs⟩:=h.lies (fun y=>intC_len y)
 cases e
 obtain⟨b,off,e2,_,hc⟩:=hs i z hz
 cases e2
 have:=hc 0 _ rfl
 simpa using this
theorem OI.blk {w:World} {B g n cap:Nat} {ts:List Int} (h:OI w B (.slice (some ⟨g,0,none⟩) n cap) ts):∃cur,w.heap[g]?=some (.cells cur 3):=by
 rcases h.2 with ⟨e,_⟩ | ⟨g',c',cur,e,hb,hg,_⟩
 ·cases e
 ·cases e;exact⟨cur,hg⟩
theorem OI.froz {w:World} {B g n cap:Nat} {ts:List Int} (h:OI w B (.slice (some ⟨g,0,none⟩) n cap) ts) (i:Nat):w.frozen? ⟨g,i,none⟩=false:=by
 obtain⟨cur,hg⟩:=h.blk
 exact blk_frozen hg i
theorem OI.len {w:World} {B:Nat} {a:Option Addr} {n cap:Nat} {ts:List Int} (h:OI w B (.slice a n cap) ts):n=ts.length:=by
 obtain⟨a',c,e⟩:=h.val
 cases e;rfl
theorem OI.set {w:World} {B g n cap:Nat} {ts:List Int} (h:OI w B (.slice (some ⟨g,0,none⟩) n cap) ts) (i:Nat) (z:Int) (hi:i<ts.length):OI (w.setCell ⟨g,i,none⟩ (.int .i64 z)) B (.slice (some ⟨g,0,none⟩) n cap) (ts.set i z):=by
 obtain⟨h1,h2⟩:=h
 refine⟨by rw[flat_int]at h1 ⊢;simp at h1 ⊢,?_⟩
 rcases h2 with ⟨e,_⟩ | ⟨g',c',cur,e,hb,hg,hl,hm,hs,ht⟩
 ·cases e
 ·cases e
  rw[List.length_set]
  refine .inr ⟨g,_,cur.setIfInBounds i (.int .i64 z),rfl,hb,blk_set hg i _,hl,hm,by simpa using hs,?_⟩
  rw[flat_int]at ht ⊢
  rw[Array.toList_setIfInBounds,List.take_set,ht,List.map_set]
theorem ORow.set_own {α:Type} {w:World} {B:Nat} {et:TypeId} {k:Nat} {cells:α→List Value} {sv:Value} {xs:List α} (h:ORow w B et k cells sv xs) {g:Nat} (hg:sv.ownBlock≠some g) (j:Nat) (v:Value):ORow (w.setCell ⟨g,j,none⟩ v) B et k cells sv xs:=by
 obtain⟨h1,h2⟩:=h
 refine⟨h1,?_⟩
 rcases h2 with h2 | ⟨g',cap,cur,e1,e2,e3,e4⟩
 ·exact .inl h2
 ·subst e1
  exact .inr ⟨g',cap,cur,rfl,e2,blk_other e3 (fun e=>hg (by rw[e];rfl)) j v,e4⟩
theorem ORow.butn {α:Type} {S:List Nat} {w w':World} {B:Nat} {et:TypeId} {k:Nat} {cells:α→List Value} {sv:Value} {xs:List α} (h:ORow w B et k cells sv xs) (hb:ButL S w w') (hS:∀g,sv.ownBlock=some g→g∉S):ORow w' B et k cells sv xs:=by
 obtain⟨h1,h2⟩:=h
 refine⟨h1,?_⟩
 rcases h2 with h2 | ⟨g',cap,cur,e1,e2,e3,e4⟩
 ·exact .inl h2
 ·subst e1
  exact .inr ⟨g',cap,cur,rfl,e2,hb.blk e3 (hS g' rfl),e4⟩
theorem ButL.grown {S:List Nat} {w0 w w':World} {sv:Value} (h:ButL S w0 w) (hg:w.grownBy w' sv.ownBlock) (hS:∀g,sv.ownBlock=some g→g∈S∨w0.heap.size≤g):ButL S w0 w' :=
 ⟨hg.os.trans h.os,hg.tape.trans h.tape,hg.output.trans h.output,Nat.le_trans h.size hg.size,fun k hk hne=>(hg.block k (Nat.lt_of_lt_of_le hk h.size) (fun e=>by
  rcases hS k e.symm with q | q
  ·exact hne q
  ·omega)).trans (h.block k hk hne)⟩
theorem ButL.setn {S:List Nat} {w w':World} {g:Nat} (h:ButL S w w') (hg:w.heap.size≤g) (j:Nat) (v:Value):ButL S w (w'.setCell ⟨g,j,none⟩ v) :=
 ⟨h.os,h.tape,h.output,by simpa using h.size,fun k hk hS=>by rw[Below.heap_setCell _ _ _ _ (by show k≠g;omega)];exact h.block k hk hS⟩
theorem ButL.seto {S:List Nat} {w w':World} {g:Nat} (h:ButL S w w') (hg:g∈S∨w.heap.size≤g) (j:Nat) (v:Value):ButL S w (w'.setCell ⟨g,j,none⟩ v):=by
 rcases hg with hg | hg
 ·exact h.set hg j v
 ·exact h.setn hg j v
theorem ButL.alloc {S:List Nat} {w w':World} (h:ButL S w w') (o:Obj):ButL S w (w'.alloc o):=h.trans (ButL.of_below (bw1 _ _))
theorem ButL.mono {S S':List Nat} {w w':World} (h:ButL S w w') (hS:∀g∈S,g∈S'∨w.heap.size≤g):ButL S' w w':=⟨h.os,h.tape,h.output,h.size,fun k hk hn=>h.block k hk fun e=>by
 rcases hS k e with q | q
 ·exact hn q
 ·omega⟩
theorem ButL.then {S S':List Nat} {a b c:World} (h:ButL S a b) (h':ButL S' b c) (hS:∀g∈S',g∈S∨a.heap.size≤g):ButL S a c :=
 ⟨h'.os.trans h.os,h'.tape.trans h.tape,h'.output.trans h.output,Nat.le_trans h.size h'.size,fun k hk hn=>(h'.block k (Nat.lt_of_lt_of_le hk h.size) (fun e=>by
  rcases hS k e with q | q
  ·exact hn q
  ·omega)).trans (h.block k hk hn)⟩
theorem ButL.thenB {S:List Nat} {a b c:World} (h:ButL S a b) (h':Below b.heap.size b c):ButL S a c:=h.trans (ButL.of_below h')
theorem OI.app {w:World} {B:Nat} {sv:Value} {ts:List Int} (h:OI w B sv ts) (x:Int) (hl:ts.length≤20000) (hB:B≤w.heap.size) :
  ∃g' cap' w2,(Builtin.append_ #[59,59] 59 #[sv,.slice (some ⟨w.heap.size,0,none⟩) 1 1]).run Tryz.prog (w.alloc (.cells #[.int .i64 x] 3))=.ok (.slice (some ⟨g',0,none⟩) (ts.length+1) cap') w2 ∧
   OI w2 B (.slice (some ⟨g',0,none⟩) (ts.length+1) cap') (ts++[x])∧(w.alloc (.cells #[.int .i64 x] 3)).grownBy w2 sv.ownBlock∧(some g'=sv.ownBlock∨w.heap.size≤g'):=by
 have h':=ORow.later h (bw1 w (.cells #[.int .i64 x] 3))
 obtain⟨g',cap',w2,hr,ho2,hg⟩:=h'.app 59 8 Tryz.underlying59 (by kernel_rfl) (by omega) (by omega) x w.heap.size 59 (blk_new _ _) rfl (by intro u hu;simp[intC]at hu;subst hu;rfl) (by omega) (by simp;omega)
 have hw:=app_where 59 3 1 8 Tryz.underlying59 (by kernel_rfl) (by omega) (by omega) B _ sv _ _ (intC x) w.heap.size 59 h' (blk_new _ _) rfl (by intro u hu;simp[intC]at hu;subst hu;rfl) (by omega) hr
 refine⟨g',cap',w2,hr,ho2,hg,?_⟩
 rcases hw with hw | hw
 ·exact .inl hw
 ·exact .inr (by rw[hw];simp)
end Go.Proofs.YtkajknidfoelcaaGreatDoor
