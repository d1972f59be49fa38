import Derived.Test.YtjglgbepobmjhaaGreatDoorP04
import Derived.Test.YtjglgbepobmjhaaGreatDoorP05
import Derived.Test.YtjglgbepobmjhaaGreatDoorP02
import Derived.WalkSpells
import Derived.Test.YtjglgbepobmjhaaGreatDoorP03
set_option linter.unusedVariables false
set_option linter.unusedSimpArgs false
set_option maxRecDepth 20000
set_option maxHeartbeats 8000000
namespace Go.Proofs.YtjglgbepobmjhaaGreatDoor
open Go.RowKit
structure ButL (S:List Nat) (w w':World):Prop where
 os:w'.os=w.os
 tape:w'.tape=w.tape
 output:w'.output=w.output
 size:w.heap.size≤w'.heap.size
 block:∀k,k<w.heap.size→k∉S→w'.heap[k]?=w.heap[k]?
theorem ButL.refl (S:List Nat) (w:World):ButL S w w:=⟨rfl,rfl,rfl,Nat.le_refl _,fun _ _ _=>rfl⟩
theorem ButL.of_below {S:List Nat} {w w':World} (h:Below w.heap.size w w'):ButL S w w':=⟨h.os,h.tape,h.output,h.size,fun k hk _=>h.block k hk⟩
theorem ButL.trans {S:List Nat} {a b c:World} (h:ButL S a b) (h':ButL S b c):ButL S a c :=
 ⟨h'.os.trans h.os,h'.tape.trans h.tape,h'.output.trans h.output,Nat.le_trans h.size h'.size,fun k hk hS=>(h'.block k (Nat.lt_of_lt_of_le hk h.size) hS).trans (h.block k hk hS)⟩
theorem ButL.set {S:List Nat} {w w':World} {g:Nat} (h:ButL S w w') (hg:g∈S) (j:Nat) (v:Value):ButL S w (w'.setCell ⟨g,j,none⟩ v) :=
 ⟨h.os,h.tape,h.output,by simpa using h.size,fun k hk hS=>by rw[Below.heap_setCell _ _ _ _ (fun e=>hS (by rw[show k=g from e];exact hg))];exact h.block k hk hS⟩
theorem ButL.drew {S:List Nat} {w w':World} (h:ButL S w w'):ButL S w w'.drew:=⟨h.os,h.tape,h.output,h.size,h.block⟩
theorem ButL.below {S:List Nat} {B:Nat} {w0 w w':World} (h0:Below B w0 w) (h:ButL S w w') (hB:∀g∈S,B≤g) (hs:B≤w.heap.size):Below B w0 w' :=
 ⟨h.os.trans h0.os,h.tape.trans h0.tape,h.output.trans h0.output,Nat.le_trans h0.size h.size,fun k hk=>(h.block k (by omega) (fun e=>by have:=hB k e;omega)).trans (h0.block k hk)⟩
theorem ButL.blk {S:List Nat} {w w':World} {g:Nat} {o:Obj} (h:ButL S w w') (hg:w.heap[g]?=some o) (hS:g∉S):w'.heap[g]?=some o:=(h.block g (blk_lt hg) hS).trans hg
def NoInt (w:World) (g:Nat):Prop:=∀(j:Nat) (k:IntKind) (z:Int),w.cell? ⟨g,j,none⟩≠some (.int k z)
theorem SlA.butl {α:Type} {S:List Nat} {w w':World} {k:Nat} {cells:α→List Value} {a:Option Addr} {xs:List α} (h:SlA w k cells a xs) (hi:∀x:α,∃(j:Nat) (k:IntKind) (z:Int),(cells x)[j]?=some (Value.int k z)) (hS:∀g∈S,NoInt w g) (hb:ButL S w w'):SlA w' k cells a xs:=by
 intro i x hx
 obtain⟨b,off,e,hl,hc⟩:=h i x hx
 obtain⟨j,kk,z,hj⟩:=hi x
 have hnS:b∉S:=fun hm=>hS b hm _ _ _ (hc j _ hj)
 refine⟨b,off,e,Nat.lt_of_lt_of_le hl hb.size,fun j v hv=>?_⟩
 have:=hc j v hv
 unfold World.cell? at this ⊢
 rw[hb.block b hl hnS]
 exact this
structure SR where
 o:Option SD
 tv:Value
 gv:Value
def SR.cells (z:SR):List Value:=[.bool z.o.isSome,z.tv,z.gv]
theorem SR.len (z:SR):z.cells.length=3:=rfl
def SR.ok (w:World) (B:Nat) (z:SR):Prop:=match z.o with
 | none=>z.tv=.slice none 0 0∧z.gv=.slice none 0 0
 | some x=>ORow w B 3 1 intC z.tv x.ts∧ORow w B 172 3 GD.cells z.gv x.gs
structure StA (w:World) (B gS:Nat) (zs:List SR):Prop where
 blk:w.heap[gS]?=some (.cells (zs.flatMap SR.cells).toArray 118)
 ok:∀z∈zs,z.ok w B
 ap:∀(i j:Nat) (y z:SR),i≠j→zs[i]?=some y→zs[j]?=some z→Apart y.tv z.tv∧Apart y.gv z.gv
theorem SR.ok.keep {w w':World} {B:Nat} {z:SR} (h:z.ok w B) (h1:∀j arr,B≤j→w.heap[j]?=some (.cells arr 3 (0,0))→w'.heap[j]?=w.heap[j]?) (h2:∀j arr,B≤j→w.heap[j]?=some (.cells arr 172 (0,0))→w'.heap[j]?=w.heap[j]?):z.ok w' B:=by
 unfold SR.ok at h ⊢
 split at h
 ·exact h
 ·exact⟨h.1.keep h1,h.2.keep h2⟩
theorem StA.keep {w w':World} {B gS:Nat} {zs:List SR} (h:StA w B gS zs) (h0:w'.heap[gS]?=w.heap[gS]?) (h1:∀j arr,B≤j→w.heap[j]?=some (.cells arr 3 (0,0))→w'.heap[j]?=w.heap[j]?) (h2:∀j arr,B≤j→w.heap[j]?=some (.cells arr 172 (0,0))→w'.heap[j]?=w.heap[j]?):StA w' B gS zs :=
 ⟨h0.trans h.blk,fun z hz=>(h.ok z hz).keep h1 h2,h.ap⟩
theorem StA.later {w w':World} {B gS:Nat} {zs:List SR} (h:StA w B gS zs) (hb:Below w.heap.size w w'):StA w' B gS zs :=
 h.keep (hb.block gS (blk_lt h.blk)) (fun j arr _ hj=>hb.block j (blk_lt hj)) (fun j arr _ hj=>hb.block j (blk_lt hj))
theorem StA.set_bool {w:World} {B gS g:Nat} {zs:List SR} {arr:Array Value} (h:StA w B gS zs) (hg:w.heap[g]?=some (.cells arr 4)) (j:Nat) (v:Value):StA (w.setCell ⟨g,j,none⟩ v) B gS zs:=by
 have hne:∀(k:Nat) (ar:Array Value) (t:TypeId),t≠4→w.heap[k]?=some (.cells ar t)→(w.setCell ⟨g,j,none⟩ v).heap[k]?=w.heap[k]?:=fun k ar t ht hk=>Below.heap_setCell _ _ _ _ fun e=>by
  rw[show k=g from e,hg]at hk
  cases hk
  exact ht rfl
 exact h.keep (hne gS _ _ (by decide) h.blk) (fun k ar _ hk=>hne k ar _ (by decide) hk) (fun k ar _ hk=>hne k ar _ (by decide) hk)
theorem StA.cell {w:World} {B gS i j:Nat} {zs:List SR} {z:SR} {v:Value} (h:StA w B gS zs) (hz:zs[i]?=some z) (hv:z.cells[j]?=some v):w.cell? ⟨gS,i*3+j,none⟩=some v:=by
 rw[blk_cell h.blk]
 have:=flat_at SR.cells 3 zs i j z v (fun y _=>SR.len y) hz hv
 simpa using this
theorem flat_set (l:List SR):∀(i:Nat) (z:SR),i<l.length→(((l.flatMap SR.cells).set (i*3) (.bool z.o.isSome)).set (i*3+1) z.tv).set (i*3+2) z.gv=(l.set i z).flatMap SR.cells:=by
 induction l with
 | nil=>intro i z h;simp at h
 | cons y l ih =>
  intro i z h
  cases i with
  | zero=>simp[SR.cells]
  | succ i =>
   have:=ih i z (by simpa using h)
   rw[show (i+1)*3=i*3+3 by omega]
   simp only[List.flatMap_cons,List.set_cons_succ]
   rw[←this]
   rw[List.set_append_right _ _ (by simp[SR.cells]),List.set_append_right _ _ (by simp[SR.cells]),List.set_append_right _ _ (by simp[SR.cells])]
   simp only[SR.len]
   rw[show i*3+3-3=i*3 by omega,show i*3+3+1-3=i*3+1 by omega,show i*3+3+2-3=i*3+2 by omega]
theorem StA.put {w:World} {B gS i:Nat} {zs:List SR} {z:SR} (h:StA w B gS zs) (hi:i<zs.length) (hz:z.ok w B) (ha:∀(j:Nat) (y:SR),j≠i→zs[j]?=some y→Apart y.tv z.tv∧Apart y.gv z.gv) :
  StA (((w.setCell ⟨gS,i*3,none⟩ (.bool z.o.isSome)).setCell ⟨gS,i*3+1,none⟩ z.tv).setCell ⟨gS,i*3+2,none⟩ z.gv) B gS (zs.set i z):=by
 have hb:=blk_set (blk_set (blk_set h.blk (i*3) (.bool z.o.isSome)) (i*3+1) z.tv) (i*3+2) z.gv
 have hne:∀(k:Nat) (ar:Array Value) (t:TypeId),t≠118→w.heap[k]?=some (.cells ar t)→(((w.setCell ⟨gS,i*3,none⟩ (.bool z.o.isSome)).setCell ⟨gS,i*3+1,none⟩ z.tv).setCell ⟨gS,i*3+2,none⟩ z.gv).heap[k]?=w.heap[k]?:=fun k ar t ht hk=>by
  have hk':k≠gS:=fun e=>by
   rw[e,h.blk]at hk
   cases hk
   exact ht rfl
  rw[Below.heap_setCell _ _ _ _ hk',Below.heap_setCell _ _ _ _ hk',Below.heap_setCell _ _ _ _ hk']
 refine⟨?_,fun y hy=>?_,fun a b y y' hab h1 h2=>?_⟩
 ·rw[hb]
  congr 2
  apply Array.toList_inj.1
  simp only[Array.toList_setIfInBounds]
  exact flat_set zs i z hi
 ·have hy':y.ok w B:=by
   rcases List.mem_or_eq_of_mem_set hy with hy | rfl
   ·exact h.ok y hy
   ·exact hz
  exact hy'.keep (fun k ar _ hk=>hne k ar _ (by decide) hk) (fun k ar _ hk=>hne k ar _ (by decide) hk)
 ·rw[List.getElem?_set]at h1 h2
  split at h1
  ·rename_i e
   subst e
   rw[if_neg hab]at h2
   cases h1
   obtain⟨q1,q2⟩:=ha b y' (fun e=>hab e.symm) h2
   exact⟨q1.symm,q2.symm⟩
  ·rename_i e
   split at h2
   ·rename_i e2
    subst e2
    cases h2
    exact ha a y (fun e=>hab e) h1
   ·exact h.ap a b y y' hab h1 h2
theorem app_many (st et:TypeId) (k by':Nat) (hu:Tryz.prog.underlying st=some (.slice et)) (hc:(Tryz.prog.info? et).map (fun i=>(i.zero.map (fun z=>z.cells.size),i.size,i.bytes))=some (some k,k,by')) (hk:0<k) (hby:by'≤1000)
  (base:Nat) (w:World) (sv:Value) (n:Nat) (xs news:List Value) (ad:Addr) (m c:Nat) (ty:TypeId) (ho:w.ownsRow base et k sv n xs) (hl:news.length=m*k) (hn:∀j u,news[j]?=some u→w.cell? (ad.add j)=some u) (h1:∀u∈news,u.oneCell'=true) (hlen:n+m≤2000000) (hb:base≤w.heap.size) :
  ∃v' w',(Builtin.append_ #[st,st] ty #[sv,.slice (some ad) m c]).run Tryz.prog w=.ok v' w'∧w'.ownsRow base et k v' (n+m) (xs++news)∧w.grownBy w' sv.ownBlock:=by
 obtain⟨i,z,hi,hz,e1,e2,e3⟩:∃(i:TypeInfo) (z:Value),Tryz.prog.info? et=some i∧i.zero=some z∧i.size=k∧i.bytes=by'∧z.cells.size=k:=by
  cases hi:Tryz.prog.info? et with
  | none=>rw[hi]at hc;cases hc
  | some i =>
   rw[hi]at hc
   simp only[Option.map_some,Option.some.injEq,Prod.mk.injEq]at hc
   obtain⟨h1,h2,h3⟩:=hc
   cases hz:i.zero with
   | none=>rw[hz]at h1;cases h1
   | some z=>rw[hz]at h1;simp at h1;exact⟨i,z,rfl,hz,h2,h3,h1⟩
 obtain⟨v',w',hr,ho',hg,_⟩:=run_append_own (P:=Tryz.prog) w base st ty et i z k by' hu hi hz e1 e2 e3 hk sv n xs ho ad m c news hl hn h1 (by unfold maxLen;omega) (by
   have:(n+m)*by'≤2000000*1000:=Nat.mul_le_mul (by omega) hby
   omega) hb
 exact⟨v',w',hr,ho',hg⟩
theorem flat_len_int:∀(l:List Int),(l.flatMap intC).length=l.length*1
 | []=>rfl
 | y :: l=>by rw[List.flatMap_cons,List.length_append,intC_len,List.length_cons,flat_len_int l,Nat.add_mul,Nat.one_mul,Nat.add_comm]
theorem sl_cells_int {w:World} {a:Option Addr} {xs:List Int} (hp:SlA w 1 intC a xs) (ad:Addr) (ha:a=some ad):∀j u,(xs.flatMap intC)[j]?=some u→w.cell? (ad.add j)=some u:=by
 intro j u hj
 have hlen:=flat_len_int xs
 have hjl:=(List.getElem?_eq_some_iff.1 hj).1
 have hi:j / 1<xs.length:=by rw[hlen]at hjl;omega
 have hx:xs[j / 1]?=some (xs[j / 1]'hi):=List.getElem?_eq_getElem hi
 obtain⟨b,off,e,_,hc⟩:=hp _ _ hx
 rw[ha]at e
 cases e
 have hm:j % 1<(intC (xs[j / 1]'hi)).length:=by rw[intC_len];omega
 have hv:(intC (xs[j / 1]'hi))[j % 1]?=some ((intC (xs[j / 1]'hi))[j % 1]'hm):=List.getElem?_eq_getElem hm
 have h2:=flat_at intC 1 xs (j / 1) (j % 1) _ _ (fun y _=>intC_len y) hx hv
 rw[show j / 1*1+j % 1=j by omega,hj]at h2
 rw[Addr.add_lit,show off+j=off+j / 1*1+j % 1 by omega,hc _ _ hv]
 exact h2.symm
theorem clone_int (a:Option Addr) (len cap:Nat) (xs:List Int) (w:World) (hl:xs.length=len) (hp:SlA w 1 intC a xs) (hlen:len≤6000) :
  Calls Tryz.prog 60 #[.slice a len cap] w fun e w'=>(∃sv,e=.returned sv∧ORow w' w.heap.size 3 1 intC sv xs)∧Below w.heap.size w w':=by
 cases a with
 | none =>
  have hx:xs=[]:=by
   cases xs with
   | nil=>rfl
   | cons x xs=>obtain⟨b,off,e,_⟩:=hp 0 x rfl;cases e
  subst hx
  have hq:∀W:World,(binOp .eql 54 (.slice none len cap) (.slice none 0 0)).run Tryz.prog W=.ok (.bool true) W:=fun W=>Lib.run_eql_slice_nil W 54 3 none len cap 0 0 Tryz.underlying54
  go_enter Tryz.func60,Tryz.ntmps60
  go_wp2_with fail
  go_ret
  exact⟨⟨_,rfl,ORow.nil _ _ _ _ _⟩,Below.refl _ _⟩
 | some ad =>
  have hq:∀W:World,(binOp .eql 54 (.slice (some ad) len cap) (.slice none 0 0)).run Tryz.prog W=.ok (.bool false) W:=fun W=>Lib.run_eql_slice_nil W 54 3 (some ad) len cap 0 0 Tryz.underlying54
  have hy:=bw1 w (.cells #[] 3)
  have h0:(w.alloc (.cells #[] 3)).ownsRow w.heap.size 3 1 (.slice (some ⟨w.heap.size,0,none⟩) 0 0) 0 []:=⟨by simp,.inr ⟨w.heap.size,0,#[],rfl,Nat.le_refl _,blk_new _ _,Nat.le_refl _,Nat.zero_le _,by simp,by simp⟩⟩
  obtain⟨v',w2,hr,ho,hg⟩:=app_many 54 3 1 8 Tryz.underlying54 (by kernel_rfl) (by omega) (by omega) w.heap.size (w.alloc (.cells #[] 3)) _ 0 [] (xs.flatMap intC) ad len cap 54 h0 (by rw[←hl];exact flat_len_int xs) (fun j u hj=>sl_cells_int (hp.later hy) ad rfl j u hj) (by intro u hu;obtain⟨x,_,hx⟩:=List.mem_flatMap.1 hu;simp[intC]at hx;subst hx;rfl) (by omega) (by simp)
  have HB:Hid (Below w.heap.size w w2):=below_grown hy (by simp) h0 (Nat.le_refl _) hg
  have HO:Hid (ORow w2 w.heap.size 3 1 intC v' xs):=by show w2.ownsRow _ _ _ _ _ _;rw[Nat.zero_add,List.nil_append]at ho;rw[hl];exact ho
  clear ho hg h0 hy hp
  go_enter Tryz.func60,Tryz.ntmps60
  go_wp2_with (at_builtin;refine wpList_append_run rfl _ _ _ rfl _ _ _ _ rfl rfl hr ?_;clear hr)
  go_ret
  exact⟨⟨_,rfl,HO.out⟩,HB.out⟩
theorem flat_len_gd:∀(l:List GD),(l.flatMap GD.cells).length=l.length*3
 | []=>rfl
 | y :: l=>by rw[List.flatMap_cons,List.length_append,GD.len,List.length_cons,flat_len_gd l,Nat.add_mul,Nat.one_mul,Nat.add_comm]
theorem sl_cells_gd {w:World} {a:Option Addr} {xs:List GD} (hp:SlA w 3 GD.cells a xs) (ad:Addr) (ha:a=some ad):∀j u,(xs.flatMap GD.cells)[j]?=some u→w.cell? (ad.add j)=some u:=by
 intro j u hj
 have hlen:=flat_len_gd xs
 have hjl:=(List.getElem?_eq_some_iff.1 hj).1
 have hi:j / 3<xs.length:=by rw[hlen]at hjl;omega
 have hx:xs[j / 3]?=some (xs[j / 3]'hi):=List.getElem?_eq_getElem hi
 obtain⟨b,off,e,_,hc⟩:=hp _ _ hx
 rw[ha]at e
 cases e
 have hm:j % 3<(GD.cells (xs[j / 3]'hi)).length:=by rw[GD.len];omega
 have hv:(GD.cells (xs[j / 3]'hi))[j % 3]?=some ((GD.cells (xs[j / 3]'hi))[j % 3]'hm):=List.getElem?_eq_getElem hm
 have h2:=flat_at GD.cells 3 xs (j / 3) (j % 3) _ _ (fun y _=>GD.len y) hx hv
 rw[show j / 3*3+j % 3=j by omega,hj]at h2
 rw[Addr.add_lit,show off+j=off+j / 3*3+j % 3 by omega,hc _ _ hv]
 exact h2.symm
theorem clone_gd (a:Option Addr) (len cap:Nat) (xs:List GD) (w:World) (hl:xs.length=len) (hp:SlA w 3 GD.cells a xs) (hlen:len≤6000) :
  Calls Tryz.prog 61 #[.slice a len cap] w fun e w'=>(∃sv,e=.returned sv∧ORow w' w.heap.size 172 3 GD.cells sv xs)∧Below w.heap.size w w':=by
 cases a with
 | none =>
  have hx:xs=[]:=by
   cases xs with
   | nil=>rfl
   | cons x xs=>obtain⟨b,off,e,_⟩:=hp 0 x rfl;cases e
  subst hx
  have hq:∀W:World,(binOp .eql 116 (.slice none len cap) (.slice none 0 0)).run Tryz.prog W=.ok (.bool true) W:=fun W=>Lib.run_eql_slice_nil W 116 172 none len cap 0 0 Tryz.underlying116
  go_enter Tryz.func61,Tryz.ntmps61
  go_wp2_with fail
  go_ret
  exact⟨⟨_,rfl,ORow.nil _ _ _ _ _⟩,Below.refl _ _⟩
 | some ad =>
  have hq:∀W:World,(binOp .eql 116 (.slice (some ad) len cap) (.slice none 0 0)).run Tryz.prog W=.ok (.bool false) W:=fun W=>Lib.run_eql_slice_nil W 116 172 (some ad) len cap 0 0 Tryz.underlying116
  have hy:=bw1 w (.cells #[] 172)
  have h0:(w.alloc (.cells #[] 172)).ownsRow w.heap.size 172 3 (.slice (some ⟨w.heap.size,0,none⟩) 0 0) 0 []:=⟨by simp,.inr ⟨w.heap.size,0,#[],rfl,Nat.le_refl _,blk_new _ _,Nat.le_refl _,Nat.zero_le _,by simp,by simp⟩⟩
  obtain⟨v',w2,hr,ho,hg⟩:=app_many 116 172 3 24 Tryz.underlying116 (by kernel_rfl) (by omega) (by omega) w.heap.size (w.alloc (.cells #[] 172)) _ 0 [] (xs.flatMap GD.cells) ad len cap 116 h0 (by rw[←hl];exact flat_len_gd xs) (fun j u hj=>sl_cells_gd (hp.later hy) ad rfl j u hj) (by intro u hu;obtain⟨x,_,hx⟩:=List.mem_flatMap.1 hu;simp[GD.cells]at hx;rcases hx with rfl | rfl | rfl<;>rfl) (by omega) (by simp)
  have HB:Hid (Below w.heap.size w w2):=below_grown hy (by simp) h0 (Nat.le_refl _) hg
  have HO:Hid (ORow w2 w.heap.size 172 3 GD.cells v' xs):=by show w2.ownsRow _ _ _ _ _ _;rw[Nat.zero_add,List.nil_append]at ho;rw[hl];exact ho
  clear ho hg h0 hy hp
  go_enter Tryz.func61,Tryz.ntmps61
  go_wp2_with (at_builtin;refine wpList_append_run rfl _ _ _ rfl _ _ _ _ rfl rfl hr ?_;clear hr)
  go_ret
  exact⟨⟨_,rfl,HO.out⟩,HB.out⟩
theorem equal_int (a a':Option Addr) (n n' c c':Nat) (xs ys:List Int) (w:World) (hn:xs.length=n) (hn':ys.length=n') (h1:SlA w 1 intC a xs) (h2:SlA w 1 intC a' ys) (ln:n≤1048576) :
  Calls Tryz.prog 63 #[.slice a n c,.slice a' n' c'] w fun e w'=>e=.returned (.bool (all2 (· == ·) xs ys))∧Below w.heap.size w w':=by
 have H1:Hid (SlA w 1 intC a xs):=h1
 have H2:Hid (SlA w 1 intC a' ys):=h2
 have HN:Hid (xs.length=n):=hn
 have HN':Hid (ys.length=n'):=hn'
 clear h1 h2 hn hn'
 by_cases hnn:n=n'
 ·subst hnn
  have f1:((n:Int) != (n:Int))=false:=by simp
  go_enter Tryz.func63,Tryz.ntmps63
  go_wp2_with fail
  go_loopw [13] (fun i wr=>∃q:Nat,q≤n∧i=.int .i64 q∧Below w.heap.size w wr∧Hid (all2 (· == ·) (xs.drop q) (ys.drop q)=all2 (· == ·) xs ys)) (fun i _=>n-(intOf i).toNat)
  case atStart=>exact⟨0,Nat.zero_le _,rfl,Below.refl _ _,rfl⟩
  case round =>
   obtain⟨q,hq,rfl,hB,HF⟩:=hrel
   by_cases k1:q<n
   ·obtain⟨x,hx⟩:∃x,xs[q]?=some x:=⟨xs[q]'(by rw[HN.out];exact k1),by simp⟩
    obtain⟨y,hy⟩:∃y,ys[q]?=some y:=⟨ys[q]'(by rw[HN'.out];exact k1),by simp⟩
    obtain⟨b1,o1,rfl,_,hc⟩:=H1.out q x hx
    obtain⟨b2,o2,rfl,_,hc'⟩:=H2.out q y hy
    have e1:wr.cell? ⟨b1,o1+q,none⟩=some (.int .i64 x):=by have h:=cell_later hB (hc 0 _ rfl);simpa using h
    have e2:wr.cell? ⟨b2,o2+q,none⟩=some (.int .i64 y):=by have h:=cell_later hB (hc' 0 _ rfl);simpa using h
    have HD:Hid (((x == y) && all2 (· == ·) (xs.drop (q+1)) (ys.drop (q+1)))=all2 (· == ·) xs ys):=by have h:=HF.out;rw[all2_drop hx hy]at h;exact h
    clear hx hy hc hc' HF
    cases hxy:(x == y)
    ·have hne:(x != y)=true:=by simp only[bne,hxy];rfl
     have HR:Hid (all2 (· == ·) xs ys=false):=by show all2 _ _ _=false;rw[←HD.out,hxy];rfl
     go_wp2_with fail
     have l1:=lat_cell e1;have l2:=lat_cell e2
     haveI:=lat_some wr
     clear e1 e2
     refine wp_region_lat (by kernel_rfl) (by kernel_rfl) ?_
     repeat (go_big_quiet_step (fail))
     refine wpQuiet_nil ?_
     rintro _ ⟨nq,rfl⟩
     have hz:=hB.trans (nq.below.mono hB.size)
     go_wp2_with fail
     go_ret
     exact⟨ret_bo HR.out.symm,hz⟩
    ·have hne:(x != y)=false:=by simp only[bne,hxy];rfl
     have HF1:Hid (all2 (· == ·) (xs.drop (q+1)) (ys.drop (q+1))=all2 (· == ·) xs ys):=by have h:=HD.out;rw[hxy,Bool.true_and]at h;exact h
     clear HD
     go_wp2_with fail
     have l1:=lat_cell e1;have l2:=lat_cell e2
     haveI:=lat_some wr
     clear e1 e2
     refine wp_region_lat (by kernel_rfl) (by kernel_rfl) ?_
     repeat (go_big_quiet_step (fail))
     refine wpQuiet_nil ?_
     rintro _ ⟨nq,rfl⟩
     have hz:=hB.trans (nq.below.mono hB.size)
     clear l1 l2
     go_wp2_with fail
     go_roundw
     case rel=>exact⟨q+1,by omega,by go_num,hz,HF1⟩
     case measure=>simp[intOf];omega
   ·have HT:Hid (all2 (· == ·) xs ys=true):=by show all2 _ _ _=true;rw[←HF.out];exact all2_end (by rw[HN.out];omega) (by rw[HN.out,HN'.out])
    clear HF
    go_wp2_with fail
    go_ret
    exact⟨ret_bo HT.out.symm,hB⟩
 ·have f1:((n:Int) != (n':Int))=true:=by simp;omega
  have HR:Hid (all2 (· == ·) xs ys=false):=all2_len (by rw[HN.out,HN'.out];exact hnn)
  go_enter Tryz.func63,Tryz.ntmps63
  go_wp2_with fail
  go_ret
  exact⟨ret_bo HR.out.symm,Below.refl _ _⟩
theorem equal_gd (a a':Option Addr) (n n' c c':Nat) (xs ys:List GD) (w:World) (hn:xs.length=n) (hn':ys.length=n') (h1:SlA w 3 GD.cells a xs) (h2:SlA w 3 GD.cells a' ys) (ln:n≤1048576) :
  Calls Tryz.prog 64 #[.slice a n c,.slice a' n' c'] w fun e w'=>e=.returned (.bool (all2 gEq xs ys))∧Below w.heap.size w w':=by
 have H1:Hid (SlA w 3 GD.cells a xs):=h1
 have H2:Hid (SlA w 3 GD.cells a' ys):=h2
 have HN:Hid (xs.length=n):=hn
 have HN':Hid (ys.length=n'):=hn'
 clear h1 h2 hn hn'
 by_cases hnn:n=n'
 ·subst hnn
  have f1:((n:Int) != (n:Int))=false:=by simp
  go_enter Tryz.func64,Tryz.ntmps64
  go_wp2_with fail
  go_loopw [13] (fun i wr=>∃q:Nat,q≤n∧i=.int .i64 q∧Below w.heap.size w wr∧Hid (all2 gEq (xs.drop q) (ys.drop q)=all2 gEq xs ys)) (fun i _=>n-(intOf i).toNat)
  case atStart=>exact⟨0,Nat.zero_le _,rfl,Below.refl _ _,rfl⟩
  case round =>
   obtain⟨q,hq,rfl,hB,HF⟩:=hrel
   by_cases k1:q<n
   ·obtain⟨x,hx⟩:∃x,xs[q]?=some x:=⟨xs[q]'(by rw[HN.out];exact k1),by simp⟩
    obtain⟨y,hy⟩:∃y,ys[q]?=some y:=⟨ys[q]'(by rw[HN'.out];exact k1),by simp⟩
    obtain⟨b1,o1,rfl,_,hc⟩:=H1.out q x hx
    obtain⟨b2,o2,rfl,_,hc'⟩:=H2.out q y hy
    have e0:wr.cell? ⟨b1,o1+q*3,none⟩=some (.bool x.t):=cell_later hB (hc 0 _ rfl)
    have e1:wr.cell? ⟨b1,o1+q*3+1,none⟩=some (.int .i64 x.k):=cell_later hB (hc 1 _ rfl)
    have e2:wr.cell? ⟨b1,o1+q*3+2,none⟩=some (.int .i64 x.h):=cell_later hB (hc 2 _ rfl)
    have g0:wr.cell? ⟨b2,o2+q*3,none⟩=some (.bool y.t):=cell_later hB (hc' 0 _ rfl)
    have g1:wr.cell? ⟨b2,o2+q*3+1,none⟩=some (.int .i64 y.k):=cell_later hB (hc' 1 _ rfl)
    have g2:wr.cell? ⟨b2,o2+q*3+2,none⟩=some (.int .i64 y.h):=cell_later hB (hc' 2 _ rfl)
    have HD:Hid ((gEq x y && all2 gEq (xs.drop (q+1)) (ys.drop (q+1)))=all2 gEq xs ys):=by have h:=HF.out;rw[all2_drop hx hy]at h;exact h
    have hrun:=eqg_run x y
    clear hx hy hc hc' HF
    cases hxy:gEq x y
    ·rw[hxy]at hrun
     have HR:Hid (all2 gEq xs ys=false):=by show all2 _ _ _=false;rw[←HD.out,hxy,Bool.false_and]
     go_wp2_with fail
     have l0:=lat_cell e0;have l1:=lat_cell e1;have l2:=lat_cell e2;have l3:=lat_cell g0;have l4:=lat_cell g1;have l5:=lat_cell g2
     haveI:=lat_some wr
     clear e0 e1 e2 g0 g1 g2
     refine wp_region_lat (by kernel_rfl) (by kernel_rfl) ?_
     repeat (go_big_quiet_step (fail))
     refine wpQuiet_nil ?_
     rintro _ ⟨nq,rfl⟩
     have hz:=hB.trans (nq.below.mono hB.size)
     go_wp2_with fail
     go_ret
     exact⟨ret_bo HR.out.symm,hz⟩
    ·rw[hxy]at hrun
     have HF1:Hid (all2 gEq (xs.drop (q+1)) (ys.drop (q+1))=all2 gEq xs ys):=by have h:=HD.out;rw[hxy,Bool.true_and]at h;exact h
     clear HD
     go_wp2_with fail
     have l0:=lat_cell e0;have l1:=lat_cell e1;have l2:=lat_cell e2;have l3:=lat_cell g0;have l4:=lat_cell g1;have l5:=lat_cell g2
     haveI:=lat_some wr
     clear e0 e1 e2 g0 g1 g2
     refine wp_region_lat (by kernel_rfl) (by kernel_rfl) ?_
     repeat (go_big_quiet_step (fail))
     refine wpQuiet_nil ?_
     rintro _ ⟨nq,rfl⟩
     have hz:=hB.trans (nq.below.mono hB.size)
     clear l0 l1 l2 l3 l4 l5 hrun
     go_wp2_with fail
     go_roundw
     case rel=>exact⟨q+1,by omega,by go_num,hz,HF1⟩
     case measure=>simp[intOf];omega
   ·have HT:Hid (all2 gEq xs ys=true):=by show all2 _ _ _=true;rw[←HF.out];exact all2_end (by rw[HN.out];omega) (by rw[HN.out,HN'.out])
    clear HF
    go_wp2_with fail
    go_ret
    exact⟨ret_bo HT.out.symm,hB⟩
 ·have f1:((n:Int) != (n':Int))=true:=by simp;omega
  have HR:Hid (all2 gEq xs ys=false):=all2_len (by rw[HN.out,HN'.out];exact hnn)
  go_enter Tryz.func64,Tryz.ntmps64
  go_wp2_with fail
  go_ret
  exact⟨ret_bo HR.out.symm,Below.refl _ _⟩
end Go.Proofs.YtjglgbepobmjhaaGreatDoor
