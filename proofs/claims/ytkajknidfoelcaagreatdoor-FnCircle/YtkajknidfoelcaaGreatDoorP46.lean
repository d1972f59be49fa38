import Derived.Test.YtkajknidfoelcaaGreatDoorP45
import Derived.Deep.CutRange
set_option linter.unusedVariables false
set_option linter.unusedSimpArgs false
set_option maxRecDepth 20000
set_option maxHeartbeats 8000000
namespace Go.Proofs.YtkajknidfoelcaaGreatDoor.U
open Go.RowKit T
theorem made_c0 (n:Nat) (hn:n≤20) (w:World) :
  Calls Tryz.prog 5 #[.int .i64 0,.int .i64 (n:Int)] w fun e w'=>(∃g1 f,e=.returned (.tuple #[.agg #[.slice (some ⟨g1,0,none⟩) 1 1],.int .i64 2,.bool false])∧CodeAt w' (some ⟨g1,0,none⟩) [f]∧f.d=cirD 0 n)∧Below w.heap.size w w':=by
 go_enter Tryz.func5,Tryz.ntmps5
 go_wp2_with fail
 obtain⟨W1,hW1⟩:∃W1,w.alloc (.cells #[.slice none 0 0] 26)=W1:=⟨_,rfl⟩
 rw[hW1]
 refine (T.pen_any 8 (by omega) _).mono ?_
 rintro e w2 ⟨g,rfl,H⟩
 have HP:Hid (T.Pen W1 w2 g 8 [] []):=H
 clear H
 go_wp2_with fail
 refine (mk_str _ _).mono ?_
 rintro e w3 ⟨rfl,hx⟩
 replace HP:Hid (T.Pen W1 w3 g 8 [] []):=Pen.later HP.out hx
 clear hx
 go_wp2_with fail
 refine (T.pkonst_any 4 0 0 ⟨#[]⟩ 0 HP.out).mono ?_
 rintro e w4 ⟨rfl,H⟩
 replace HP:Hid (T.Pen W1 w4 g 8 [nothing] ([])):=H
 clear H
 go_wp2_with fail
 refine (T.pput_any _ _ _ _ _ HP.out (by simp)).mono ?_
 rintro e w5 ⟨rfl,H⟩
 replace HP:Hid (T.Pen W1 w5 g 8 [nothing] ([⟨4,0,0,0,0⟩])):=H
 clear H
 go_wp2_with fail
 refine (pbui HP.out (by simp)).mono ?_
 rintro e w6 ⟨rfl,H⟩
 replace HP:Hid (T.Pen W1 w6 g 8 [nothing,texter] ([⟨4,0,0,0,0⟩,⟨4,1,1,0,0⟩])):=H
 clear H
 go_wp2_with fail
 refine (pat_z 2 HP.out rfl).mono ?_
 rintro e w7 ⟨rfl,hz⟩
 replace HP:Hid (T.Pen W1 w7 g 8 [nothing,texter] (cirP 0++List.replicate 0 ⟨5,0,0,0,0⟩)):=by subst hz;exact HP.out
 clear hz
 have HN:Hid (n≤20):=hn
 go_wp2_with fail
 go_loopw [9] (fun i wr=>∃b:Nat,i=.int .i64 (b:Int)∧b≤n∧Hid (T.Pen W1 wr g 8 [nothing,texter] (cirP 0++List.replicate b ⟨5,0,0,0,0⟩))) (fun i _=>n-(intOf i).toNat)
 case atStart=>exact⟨0,rfl,by omega,HP⟩
 case round =>
  clear HP
  obtain⟨b,rfl,hb,HP⟩:=hrel
  have hPl:(cirP 0).length=2:=rfl
  by_cases hbn:b<n
  ·have hbn':(b:Int)<(n:Int):=by omega
   go_wp2_with fail
   refine (T.pput_any _ _ _ _ _ HP.out (by rw[List.length_append,List.length_replicate,hPl];omega)).mono ?_
   rintro e w8 ⟨rfl,H⟩
   have HP2:Hid (T.Pen W1 w8 g 8 [nothing,texter] (cirP 0++List.replicate (b+1) ⟨5,0,0,0,0⟩)):=by
    show T.Pen _ _ _ _ _ _
    rw[List.replicate_succ',←List.append_assoc]
    exact H
   clear H HP
   go_wp2_with fail
   go_roundw
   case rel=>exact⟨b+1,by go_num,by omega,HP2⟩
   case measure=>simp[intOf];omega
  ·obtain rfl:b=n:=by omega
   have hbn':¬(b:Int)<(b:Int):=by omega
   obtain⟨L0,hL0⟩:∃L0,cirP 0++List.replicate b ⟨5,0,0,0,0⟩=L0:=⟨_,rfl⟩
   have hLl:L0.length=2+b:=by rw[←hL0,List.length_append,List.length_replicate,hPl]
   rw[hL0]at HP
   have HL0:Hid (cirP 0++List.replicate b ⟨5,0,0,0,0⟩=L0):=hL0
   clear hL0 hPl hb hbn
   go_wp2_with fail
   refine (T.pput_any _ _ _ _ _ HP.out (by first | omega | (simp only[List.length_append,List.length_cons,List.length_nil];omega))).mono ?_
   rintro e w9 ⟨rfl,H⟩
   replace HP:Hid (T.Pen W1 w9 g 8 [nothing,texter] (L0++[⟨19,2,0,0,0⟩])):=H
   clear H
   replace HP:Hid (T.Pen W1 w9 g 8 [nothing,texter] (cirI 0 b)):=by
    show T.Pen _ _ _ _ _ _
    have h9:=HP.out
    have e9:cirI 0 b=L0++[⟨19,2,0,0,0⟩]:=by
     rw[←HL0.out]
     unfold cirI
     simp only[cirM,List.append_assoc,List.cons_append,List.nil_append]
     rfl
    rw[e9]
    exact h9
   obtain⟨f,hd,⟨tv,hbb⟩,hli⟩:=HP.out.code
   have hB:Below W1.heap.size W1 w9:=HP.out.bel
   have hBw:Below w.heap.size w w9:=by
    have h1:Below w.heap.size w W1:=by rw[←hW1];exact bw1 _ _
    exact h1.trans (hB.mono h1.size)
   have hc0:w9.heap[w.heap.size]?=some (.cells #[.slice none 0 0] 26):=blk_later hB (by rw[←hW1];exact blk_new _ _)
   have hgW:W1.heap.size≤g:=HP.out.ge
   have hsz:W1.heap.size=w.heap.size+1:=by rw[←hW1];simp
   have c0:w9.cell? ⟨w.heap.size,0,none⟩=some (.slice none 0 0):=by rw[blk_cell hc0];rfl
   have hlt0:=blk_lt hc0
   have z0:=blk_frozen hc0
   have q0:w9.cell? ⟨g,0,none⟩=some (.string f.d.name):=by rw[blk_cell hbb];rfl
   have q1:w9.cell? ⟨g,1,none⟩=some (.int .i64 f.d.line):=by rw[blk_cell hbb];rfl
   have q2:w9.cell? ⟨g,2,none⟩=some (.int .i64 f.d.params):=by rw[blk_cell hbb];rfl
   have q3:w9.cell? ⟨g,3,none⟩=some (.bool f.d.rest):=by rw[blk_cell hbb];rfl
   have q4:w9.cell? ⟨g,4,none⟩=some (.int .i64 f.d.regs):=by rw[blk_cell hbb];rfl
   have q5:w9.cell? ⟨g,5,none⟩=some (.slice f.au f.d.ups.length f.cu):=by rw[blk_cell hbb];rfl
   have q6:w9.cell? ⟨g,6,none⟩=some (.slice f.ac f.d.consts.length f.cc):=by rw[blk_cell hbb];rfl
   have q7:w9.cell? ⟨g,7,none⟩=some (.slice f.ai f.d.ins.length f.ci):=by rw[blk_cell hbb];rfl
   have q8:w9.cell? ⟨g,8,none⟩=some (.slice f.an f.d.named.length f.cn):=by rw[blk_cell hbb];rfl
   have HL:Hid (f.lie ((w9.setCell ⟨w.heap.size,0,none⟩ (.slice (some ⟨w9.heap.size,0,none⟩) 1 1)).alloc (.cells f.cells.toArray 58))):=(hli w.heap.size 0 _ (by omega)).later (bw1 _ _)
   have HO:Hid f.d.ok:=by show FD.ok f.d;rw[hd];exact⟨by show (4:Nat)≤maxLen;unfold maxLen;omega,by simp,by simp,cirI_le 0 b HN.out,by simp,by intro v hv;simp only[List.mem_cons,List.not_mem_nil,or_false]at hv;rcases hv with rfl | rfl;exact nothing_ok;exact texter_ok,by simp⟩
   have HD:Hid (f.d=cirD 0 b):=hd
   have HBW:Hid (Below w.heap.size w w9):=hBw
   clear HP hbb hli hB hBw hd
   go_wp2_with fail
   refine bodyPost_ret (v:=.tuple #[.agg #[.slice (some ⟨w9.heap.size,0,none⟩) 1 1],.int .i64 2,.bool false]) (by simp[results,Tryz.results5,go_sem,c0,hlt0]) rfl ⟨⟨_,f,rfl,code_one (blk_newn (by simp) _) HL.out HO.out,HD.out⟩,?_⟩
   exact (HBW.out.setCell (p:=⟨w.heap.size,0,none⟩) (by simp) _).trans ((bw1 _ _).mono (by have:=HBW.out.size;simp;omega))
theorem made_c1 (n:Nat) (hn:n≤20) (w:World) :
  Calls Tryz.prog 5 #[.int .i64 1,.int .i64 (n:Int)] w fun e w'=>(∃g1 f,e=.returned (.tuple #[.agg #[.slice (some ⟨g1,0,none⟩) 1 1],.int .i64 2,.bool true])∧CodeAt w' (some ⟨g1,0,none⟩) [f]∧f.d=cirD 1 n)∧Below w.heap.size w w':=by
 go_enter Tryz.func5,Tryz.ntmps5
 go_wp2_with fail
 obtain⟨W1,hW1⟩:∃W1,w.alloc (.cells #[.slice none 0 0] 26)=W1:=⟨_,rfl⟩
 rw[hW1]
 refine (T.pen_any 8 (by omega) _).mono ?_
 rintro e w2 ⟨g,rfl,H⟩
 have HP:Hid (T.Pen W1 w2 g 8 [] []):=H
 clear H
 go_wp2_with fail
 refine (mk_str _ _).mono ?_
 rintro e w3 ⟨rfl,hx⟩
 replace HP:Hid (T.Pen W1 w3 g 8 [] []):=Pen.later HP.out hx
 clear hx
 go_wp2_with fail
 refine (T.pkonst_any 4 0 0 ⟨#[]⟩ 0 HP.out).mono ?_
 rintro e w4 ⟨rfl,H⟩
 replace HP:Hid (T.Pen W1 w4 g 8 [nothing] ([])):=H
 clear H
 go_wp2_with fail
 refine (T.pput_any _ _ _ _ _ HP.out (by simp)).mono ?_
 rintro e w5 ⟨rfl,H⟩
 replace HP:Hid (T.Pen W1 w5 g 8 [nothing] ([⟨4,0,0,0,0⟩])):=H
 clear H
 go_wp2_with fail
 refine (pbui HP.out (by simp)).mono ?_
 rintro e w6 ⟨rfl,H⟩
 replace HP:Hid (T.Pen W1 w6 g 8 [nothing,texter] ([⟨4,0,0,0,0⟩,⟨4,1,1,0,0⟩])):=H
 clear H
 go_wp2_with fail
 refine (pat_z 2 HP.out rfl).mono ?_
 rintro e w7 ⟨rfl,hz⟩
 replace HP:Hid (T.Pen W1 w7 g 8 [nothing,texter] (cirP 1++List.replicate 0 ⟨5,0,0,0,0⟩)):=by subst hz;exact HP.out
 clear hz
 have HN:Hid (n≤20):=hn
 go_wp2_with fail
 go_loopw [9] (fun i wr=>∃b:Nat,i=.int .i64 (b:Int)∧b≤n∧Hid (T.Pen W1 wr g 8 [nothing,texter] (cirP 1++List.replicate b ⟨5,0,0,0,0⟩))) (fun i _=>n-(intOf i).toNat)
 case atStart=>exact⟨0,rfl,by omega,HP⟩
 case round =>
  clear HP
  obtain⟨b,rfl,hb,HP⟩:=hrel
  have hPl:(cirP 1).length=2:=rfl
  by_cases hbn:b<n
  ·have hbn':(b:Int)<(n:Int):=by omega
   go_wp2_with fail
   refine (T.pput_any _ _ _ _ _ HP.out (by rw[List.length_append,List.length_replicate,hPl];omega)).mono ?_
   rintro e w8 ⟨rfl,H⟩
   have HP2:Hid (T.Pen W1 w8 g 8 [nothing,texter] (cirP 1++List.replicate (b+1) ⟨5,0,0,0,0⟩)):=by
    show T.Pen _ _ _ _ _ _
    rw[List.replicate_succ',←List.append_assoc]
    exact H
   clear H HP
   go_wp2_with fail
   go_roundw
   case rel=>exact⟨b+1,by go_num,by omega,HP2⟩
   case measure=>simp[intOf];omega
  ·obtain rfl:b=n:=by omega
   have hbn':¬(b:Int)<(b:Int):=by omega
   obtain⟨L0,hL0⟩:∃L0,cirP 1++List.replicate b ⟨5,0,0,0,0⟩=L0:=⟨_,rfl⟩
   have hLl:L0.length=2+b:=by rw[←hL0,List.length_append,List.length_replicate,hPl]
   rw[hL0]at HP
   have HL0:Hid (cirP 1++List.replicate b ⟨5,0,0,0,0⟩=L0):=hL0
   clear hL0 hPl hb hbn
   go_wp2_with fail
   refine (T.pput_any _ _ _ _ _ HP.out (by first | omega | (simp only[List.length_append,List.length_cons,List.length_nil];omega))).mono ?_
   rintro e w9 ⟨rfl,H⟩
   replace HP:Hid (T.Pen W1 w9 g 8 [nothing,texter] (L0++[⟨1,3,0,0,0⟩])):=H
   clear H
   go_wp2_with fail
   refine (T.pput_any _ _ _ _ _ HP.out (by first | omega | (simp only[List.length_append,List.length_cons,List.length_nil];omega))).mono ?_
   rintro e w10 ⟨rfl,H⟩
   replace HP:Hid (T.Pen W1 w10 g 8 [nothing,texter] (L0++[⟨1,3,0,0,0⟩]++[⟨19,2,0,0,0⟩])):=H
   clear H
   replace HP:Hid (T.Pen W1 w10 g 8 [nothing,texter] (cirI 1 b)):=by
    show T.Pen _ _ _ _ _ _
    have h9:=HP.out
    have e9:cirI 1 b=L0++[⟨1,3,0,0,0⟩]++[⟨19,2,0,0,0⟩]:=by
     rw[←HL0.out]
     unfold cirI
     simp only[cirM,List.append_assoc,List.cons_append,List.nil_append]
     rfl
    rw[e9]
    exact h9
   obtain⟨f,hd,⟨tv,hbb⟩,hli⟩:=HP.out.code
   have hB:Below W1.heap.size W1 w10:=HP.out.bel
   have hBw:Below w.heap.size w w10:=by
    have h1:Below w.heap.size w W1:=by rw[←hW1];exact bw1 _ _
    exact h1.trans (hB.mono h1.size)
   have hc0:w10.heap[w.heap.size]?=some (.cells #[.slice none 0 0] 26):=blk_later hB (by rw[←hW1];exact blk_new _ _)
   have hgW:W1.heap.size≤g:=HP.out.ge
   have hsz:W1.heap.size=w.heap.size+1:=by rw[←hW1];simp
   have c0:w10.cell? ⟨w.heap.size,0,none⟩=some (.slice none 0 0):=by rw[blk_cell hc0];rfl
   have hlt0:=blk_lt hc0
   have z0:=blk_frozen hc0
   have q0:w10.cell? ⟨g,0,none⟩=some (.string f.d.name):=by rw[blk_cell hbb];rfl
   have q1:w10.cell? ⟨g,1,none⟩=some (.int .i64 f.d.line):=by rw[blk_cell hbb];rfl
   have q2:w10.cell? ⟨g,2,none⟩=some (.int .i64 f.d.params):=by rw[blk_cell hbb];rfl
   have q3:w10.cell? ⟨g,3,none⟩=some (.bool f.d.rest):=by rw[blk_cell hbb];rfl
   have q4:w10.cell? ⟨g,4,none⟩=some (.int .i64 f.d.regs):=by rw[blk_cell hbb];rfl
   have q5:w10.cell? ⟨g,5,none⟩=some (.slice f.au f.d.ups.length f.cu):=by rw[blk_cell hbb];rfl
   have q6:w10.cell? ⟨g,6,none⟩=some (.slice f.ac f.d.consts.length f.cc):=by rw[blk_cell hbb];rfl
   have q7:w10.cell? ⟨g,7,none⟩=some (.slice f.ai f.d.ins.length f.ci):=by rw[blk_cell hbb];rfl
   have q8:w10.cell? ⟨g,8,none⟩=some (.slice f.an f.d.named.length f.cn):=by rw[blk_cell hbb];rfl
   have HL:Hid (f.lie ((w10.setCell ⟨w.heap.size,0,none⟩ (.slice (some ⟨w10.heap.size,0,none⟩) 1 1)).alloc (.cells f.cells.toArray 58))):=(hli w.heap.size 0 _ (by omega)).later (bw1 _ _)
   have HO:Hid f.d.ok:=by show FD.ok f.d;rw[hd];exact⟨by show (4:Nat)≤maxLen;unfold maxLen;omega,by simp,by simp,cirI_le 1 b HN.out,by simp,by intro v hv;simp only[List.mem_cons,List.not_mem_nil,or_false]at hv;rcases hv with rfl | rfl;exact nothing_ok;exact texter_ok,by simp⟩
   have HD:Hid (f.d=cirD 1 b):=hd
   have HBW:Hid (Below w.heap.size w w10):=hBw
   clear HP hbb hli hB hBw hd
   go_wp2_with fail
   refine bodyPost_ret (v:=.tuple #[.agg #[.slice (some ⟨w10.heap.size,0,none⟩) 1 1],.int .i64 2,.bool true]) (by simp[results,Tryz.results5,go_sem,c0,hlt0]) rfl ⟨⟨_,f,rfl,code_one (blk_newn (by simp) _) HL.out HO.out,HD.out⟩,?_⟩
   exact (HBW.out.setCell (p:=⟨w.heap.size,0,none⟩) (by simp) _).trans ((bw1 _ _).mono (by have:=HBW.out.size;simp;omega))
theorem made_c2 (n:Nat) (hn:n≤20) (w:World) :
  Calls Tryz.prog 5 #[.int .i64 2,.int .i64 (n:Int)] w fun e w'=>(∃g1 f,e=.returned (.tuple #[.agg #[.slice (some ⟨g1,0,none⟩) 1 1],.int .i64 2,.bool true])∧CodeAt w' (some ⟨g1,0,none⟩) [f]∧f.d=cirD 2 n)∧Below w.heap.size w w':=by
 go_enter Tryz.func5,Tryz.ntmps5
 go_wp2_with fail
 obtain⟨W1,hW1⟩:∃W1,w.alloc (.cells #[.slice none 0 0] 26)=W1:=⟨_,rfl⟩
 rw[hW1]
 refine (T.pen_any 8 (by omega) _).mono ?_
 rintro e w2 ⟨g,rfl,H⟩
 have HP:Hid (T.Pen W1 w2 g 8 [] []):=H
 clear H
 go_wp2_with fail
 refine (mk_str _ _).mono ?_
 rintro e w3 ⟨rfl,hx⟩
 replace HP:Hid (T.Pen W1 w3 g 8 [] []):=Pen.later HP.out hx
 clear hx
 go_wp2_with fail
 refine (T.pkonst_any 4 0 0 ⟨#[]⟩ 0 HP.out).mono ?_
 rintro e w4 ⟨rfl,H⟩
 replace HP:Hid (T.Pen W1 w4 g 8 [nothing] ([])):=H
 clear H
 go_wp2_with fail
 refine (T.pput_any _ _ _ _ _ HP.out (by simp)).mono ?_
 rintro e w5 ⟨rfl,H⟩
 replace HP:Hid (T.Pen W1 w5 g 8 [nothing] ([⟨4,0,0,0,0⟩])):=H
 clear H
 go_wp2_with fail
 refine (pbui HP.out (by simp)).mono ?_
 rintro e w6 ⟨rfl,H⟩
 replace HP:Hid (T.Pen W1 w6 g 8 [nothing,texter] ([⟨4,0,0,0,0⟩,⟨4,1,1,0,0⟩])):=H
 clear H
 go_wp2_with fail
 refine (pat_z 2 HP.out rfl).mono ?_
 rintro e w7 ⟨rfl,hz⟩
 replace HP:Hid (T.Pen W1 w7 g 8 [nothing,texter] (cirP 2++List.replicate 0 ⟨5,0,0,0,0⟩)):=by subst hz;exact HP.out
 clear hz
 have HN:Hid (n≤20):=hn
 go_wp2_with fail
 go_loopw [9] (fun i wr=>∃b:Nat,i=.int .i64 (b:Int)∧b≤n∧Hid (T.Pen W1 wr g 8 [nothing,texter] (cirP 2++List.replicate b ⟨5,0,0,0,0⟩))) (fun i _=>n-(intOf i).toNat)
 case atStart=>exact⟨0,rfl,by omega,HP⟩
 case round =>
  clear HP
  obtain⟨b,rfl,hb,HP⟩:=hrel
  have hPl:(cirP 2).length=2:=rfl
  by_cases hbn:b<n
  ·have hbn':(b:Int)<(n:Int):=by omega
   go_wp2_with fail
   refine (T.pput_any _ _ _ _ _ HP.out (by rw[List.length_append,List.length_replicate,hPl];omega)).mono ?_
   rintro e w8 ⟨rfl,H⟩
   have HP2:Hid (T.Pen W1 w8 g 8 [nothing,texter] (cirP 2++List.replicate (b+1) ⟨5,0,0,0,0⟩)):=by
    show T.Pen _ _ _ _ _ _
    rw[List.replicate_succ',←List.append_assoc]
    exact H
   clear H HP
   go_wp2_with fail
   go_roundw
   case rel=>exact⟨b+1,by go_num,by omega,HP2⟩
   case measure=>simp[intOf];omega
  ·obtain rfl:b=n:=by omega
   have hbn':¬(b:Int)<(b:Int):=by omega
   obtain⟨L0,hL0⟩:∃L0,cirP 2++List.replicate b ⟨5,0,0,0,0⟩=L0:=⟨_,rfl⟩
   have hLl:L0.length=2+b:=by rw[←hL0,List.length_append,List.length_replicate,hPl]
   rw[hL0]at HP
   have HL0:Hid (cirP 2++List.replicate b ⟨5,0,0,0,0⟩=L0):=hL0
   clear hL0 hPl hb hbn
   go_wp2_with fail
   refine (T.pput_any _ _ _ _ _ HP.out (by first | omega | (simp only[List.length_append,List.length_cons,List.length_nil];omega))).mono ?_
   rintro e w9 ⟨rfl,H⟩
   replace HP:Hid (T.Pen W1 w9 g 8 [nothing,texter] (L0++[⟨3,0,0,0,0⟩])):=H
   clear H
   go_wp2_with fail
   refine (T.pput_any _ _ _ _ _ HP.out (by first | omega | (simp only[List.length_append,List.length_cons,List.length_nil];omega))).mono ?_
   rintro e w10 ⟨rfl,H⟩
   replace HP:Hid (T.Pen W1 w10 g 8 [nothing,texter] (L0++[⟨3,0,0,0,0⟩]++[⟨19,2,0,0,0⟩])):=H
   clear H
   replace HP:Hid (T.Pen W1 w10 g 8 [nothing,texter] (cirI 2 b)):=by
    show T.Pen _ _ _ _ _ _
    have h9:=HP.out
    have e9:cirI 2 b=L0++[⟨3,0,0,0,0⟩]++[⟨19,2,0,0,0⟩]:=by
     rw[←HL0.out]
     unfold cirI
     simp only[cirM,List.append_assoc,List.cons_append,List.nil_append]
     rfl
    rw[e9]
    exact h9
   obtain⟨f,hd,⟨tv,hbb⟩,hli⟩:=HP.out.code
   have hB:Below W1.heap.size W1 w10:=HP.out.bel
   have hBw:Below w.heap.size w w10:=by
    have h1:Below w.heap.size w W1:=by rw[←hW1];exact bw1 _ _
    exact h1.trans (hB.mono h1.size)
   have hc0:w10.heap[w.heap.size]?=some (.cells #[.slice none 0 0] 26):=blk_later hB (by rw[←hW1];exact blk_new _ _)
   have hgW:W1.heap.size≤g:=HP.out.ge
   have hsz:W1.heap.size=w.heap.size+1:=by rw[←hW1];simp
   have c0:w10.cell? ⟨w.heap.size,0,none⟩=some (.slice none 0 0):=by rw[blk_cell hc0];rfl
   have hlt0:=blk_lt hc0
   have z0:=blk_frozen hc0
   have q0:w10.cell? ⟨g,0,none⟩=some (.string f.d.name):=by rw[blk_cell hbb];rfl
   have q1:w10.cell? ⟨g,1,none⟩=some (.int .i64 f.d.line):=by rw[blk_cell hbb];rfl
   have q2:w10.cell? ⟨g,2,none⟩=some (.int .i64 f.d.params):=by rw[blk_cell hbb];rfl
   have q3:w10.cell? ⟨g,3,none⟩=some (.bool f.d.rest):=by rw[blk_cell hbb];rfl
   have q4:w10.cell? ⟨g,4,none⟩=some (.int .i64 f.d.regs):=by rw[blk_cell hbb];rfl
   have q5:w10.cell? ⟨g,5,none⟩=some (.slice f.au f.d.ups.length f.cu):=by rw[blk_cell hbb];rfl
   have q6:w10.cell? ⟨g,6,none⟩=some (.slice f.ac f.d.consts.length f.cc):=by rw[blk_cell hbb];rfl
   have q7:w10.cell? ⟨g,7,none⟩=some (.slice f.ai f.d.ins.length f.ci):=by rw[blk_cell hbb];rfl
   have q8:w10.cell? ⟨g,8,none⟩=some (.slice f.an f.d.named.length f.cn):=by rw[blk_cell hbb];rfl
   have HL:Hid (f.lie ((w10.setCell ⟨w.heap.size,0,none⟩ (.slice (some ⟨w10.heap.size,0,none⟩) 1 1)).alloc (.cells f.cells.toArray 58))):=(hli w.heap.size 0 _ (by omega)).later (bw1 _ _)
   have HO:Hid f.d.ok:=by show FD.ok f.d;rw[hd];exact⟨by show (4:Nat)≤maxLen;unfold maxLen;omega,by simp,by simp,cirI_le 2 b HN.out,by simp,by intro v hv;simp only[List.mem_cons,List.not_mem_nil,or_false]at hv;rcases hv with rfl | rfl;exact nothing_ok;exact texter_ok,by simp⟩
   have HD:Hid (f.d=cirD 2 b):=hd
   have HBW:Hid (Below w.heap.size w w10):=hBw
   clear HP hbb hli hB hBw hd
   go_wp2_with fail
   refine bodyPost_ret (v:=.tuple #[.agg #[.slice (some ⟨w10.heap.size,0,none⟩) 1 1],.int .i64 2,.bool true]) (by simp[results,Tryz.results5,go_sem,c0,hlt0]) rfl ⟨⟨_,f,rfl,code_one (blk_newn (by simp) _) HL.out HO.out,HD.out⟩,?_⟩
   exact (HBW.out.setCell (p:=⟨w.heap.size,0,none⟩) (by simp) _).trans ((bw1 _ _).mono (by have:=HBW.out.size;simp;omega))
theorem made_c3 (n:Nat) (hn:n≤20) (w:World) :
  Calls Tryz.prog 5 #[.int .i64 3,.int .i64 (n:Int)] w fun e w'=>(∃g1 f,e=.returned (.tuple #[.agg #[.slice (some ⟨g1,0,none⟩) 1 1],.int .i64 2,.bool true])∧CodeAt w' (some ⟨g1,0,none⟩) [f]∧f.d=cirD 3 n)∧Below w.heap.size w w':=by
 go_enter Tryz.func5,Tryz.ntmps5
 go_wp2_with fail
 obtain⟨W1,hW1⟩:∃W1,w.alloc (.cells #[.slice none 0 0] 26)=W1:=⟨_,rfl⟩
 rw[hW1]
 refine (T.pen_any 8 (by omega) _).mono ?_
 rintro e w2 ⟨g,rfl,H⟩
 have HP:Hid (T.Pen W1 w2 g 8 [] []):=H
 clear H
 go_wp2_with fail
 refine (mk_str _ _).mono ?_
 rintro e w3 ⟨rfl,hx⟩
 replace HP:Hid (T.Pen W1 w3 g 8 [] []):=Pen.later HP.out hx
 clear hx
 go_wp2_with fail
 refine (T.pkonst_any 4 0 0 ⟨#[]⟩ 0 HP.out).mono ?_
 rintro e w4 ⟨rfl,H⟩
 replace HP:Hid (T.Pen W1 w4 g 8 [nothing] ([])):=H
 clear H
 go_wp2_with fail
 refine (T.pput_any _ _ _ _ _ HP.out (by simp)).mono ?_
 rintro e w5 ⟨rfl,H⟩
 replace HP:Hid (T.Pen W1 w5 g 8 [nothing] ([⟨4,0,0,0,0⟩])):=H
 clear H
 go_wp2_with fail
 refine (pbui HP.out (by simp)).mono ?_
 rintro e w6 ⟨rfl,H⟩
 replace HP:Hid (T.Pen W1 w6 g 8 [nothing,texter] ([⟨4,0,0,0,0⟩,⟨4,1,1,0,0⟩])):=H
 clear H
 go_wp2_with fail
 refine (pat_z 2 HP.out rfl).mono ?_
 rintro e w7 ⟨rfl,hz⟩
 replace HP:Hid (T.Pen W1 w7 g 8 [nothing,texter] (cirP 3++List.replicate 0 ⟨5,0,0,0,0⟩)):=by subst hz;exact HP.out
 clear hz
 have HN:Hid (n≤20):=hn
 go_wp2_with fail
 go_loopw [9] (fun i wr=>∃b:Nat,i=.int .i64 (b:Int)∧b≤n∧Hid (T.Pen W1 wr g 8 [nothing,texter] (cirP 3++List.replicate b ⟨5,0,0,0,0⟩))) (fun i _=>n-(intOf i).toNat)
 case atStart=>exact⟨0,rfl,by omega,HP⟩
 case round =>
  clear HP
  obtain⟨b,rfl,hb,HP⟩:=hrel
  have hPl:(cirP 3).length=2:=rfl
  by_cases hbn:b<n
  ·have hbn':(b:Int)<(n:Int):=by omega
   go_wp2_with fail
   refine (T.pput_any _ _ _ _ _ HP.out (by rw[List.length_append,List.length_replicate,hPl];omega)).mono ?_
   rintro e w8 ⟨rfl,H⟩
   have HP2:Hid (T.Pen W1 w8 g 8 [nothing,texter] (cirP 3++List.replicate (b+1) ⟨5,0,0,0,0⟩)):=by
    show T.Pen _ _ _ _ _ _
    rw[List.replicate_succ',←List.append_assoc]
    exact H
   clear H HP
   go_wp2_with fail
   go_roundw
   case rel=>exact⟨b+1,by go_num,by omega,HP2⟩
   case measure=>simp[intOf];omega
  ·obtain rfl:b=n:=by omega
   have hbn':¬(b:Int)<(b:Int):=by omega
   obtain⟨L0,hL0⟩:∃L0,cirP 3++List.replicate b ⟨5,0,0,0,0⟩=L0:=⟨_,rfl⟩
   have hLl:L0.length=2+b:=by rw[←hL0,List.length_append,List.length_replicate,hPl]
   rw[hL0]at HP
   have HL0:Hid (cirP 3++List.replicate b ⟨5,0,0,0,0⟩=L0):=hL0
   clear hL0 hPl hb hbn
   go_wp2_with fail
   refine (T.pput_any _ _ _ _ _ HP.out (by first | omega | (simp only[List.length_append,List.length_cons,List.length_nil];omega))).mono ?_
   rintro e w9 ⟨rfl,H⟩
   replace HP:Hid (T.Pen W1 w9 g 8 [nothing,texter] (L0++[⟨22,4,0,0,0⟩])):=H
   clear H
   go_wp2_with fail
   refine (T.pput_any _ _ _ _ _ HP.out (by first | omega | (simp only[List.length_append,List.length_cons,List.length_nil];omega))).mono ?_
   rintro e w10 ⟨rfl,H⟩
   replace HP:Hid (T.Pen W1 w10 g 8 [nothing,texter] (L0++[⟨22,4,0,0,0⟩]++[⟨28,4,1,-5,0⟩])):=H
   clear H
   go_wp2_with fail
   refine (T.pput_any _ _ _ _ _ HP.out (by first | omega | (simp only[List.length_append,List.length_cons,List.length_nil];omega))).mono ?_
   rintro e w11 ⟨rfl,H⟩
   replace HP:Hid (T.Pen W1 w11 g 8 [nothing,texter] (L0++[⟨22,4,0,0,0⟩]++[⟨28,4,1,-5,0⟩]++[⟨42,4,0,0,0⟩])):=H
   clear H
   go_wp2_with fail
   refine (T.pput_any _ _ _ _ _ HP.out (by first | omega | (simp only[List.length_append,List.length_cons,List.length_nil];omega))).mono ?_
   rintro e w12 ⟨rfl,H⟩
   replace HP:Hid (T.Pen W1 w12 g 8 [nothing,texter] (L0++[⟨22,4,0,0,0⟩]++[⟨28,4,1,-5,0⟩]++[⟨42,4,0,0,0⟩]++[⟨19,2,0,0,0⟩])):=H
   clear H
   replace HP:Hid (T.Pen W1 w12 g 8 [nothing,texter] (cirI 3 b)):=by
    show T.Pen _ _ _ _ _ _
    have h9:=HP.out
    have e9:cirI 3 b=L0++[⟨22,4,0,0,0⟩]++[⟨28,4,1,-5,0⟩]++[⟨42,4,0,0,0⟩]++[⟨19,2,0,0,0⟩]:=by
     rw[←HL0.out]
     unfold cirI
     simp only[cirM,List.append_assoc,List.cons_append,List.nil_append]
     rfl
    rw[e9]
    exact h9
   obtain⟨f,hd,⟨tv,hbb⟩,hli⟩:=HP.out.code
   have hB:Below W1.heap.size W1 w12:=HP.out.bel
   have hBw:Below w.heap.size w w12:=by
    have h1:Below w.heap.size w W1:=by rw[←hW1];exact bw1 _ _
    exact h1.trans (hB.mono h1.size)
   have hc0:w12.heap[w.heap.size]?=some (.cells #[.slice none 0 0] 26):=blk_later hB (by rw[←hW1];exact blk_new _ _)
   have hgW:W1.heap.size≤g:=HP.out.ge
   have hsz:W1.heap.size=w.heap.size+1:=by rw[←hW1];simp
   have c0:w12.cell? ⟨w.heap.size,0,none⟩=some (.slice none 0 0):=by rw[blk_cell hc0];rfl
   have hlt0:=blk_lt hc0
   have z0:=blk_frozen hc0
   have q0:w12.cell? ⟨g,0,none⟩=some (.string f.d.name):=by rw[blk_cell hbb];rfl
   have q1:w12.cell? ⟨g,1,none⟩=some (.int .i64 f.d.line):=by rw[blk_cell hbb];rfl
   have q2:w12.cell? ⟨g,2,none⟩=some (.int .i64 f.d.params):=by rw[blk_cell hbb];rfl
   have q3:w12.cell? ⟨g,3,none⟩=some (.bool f.d.rest):=by rw[blk_cell hbb];rfl
   have q4:w12.cell? ⟨g,4,none⟩=some (.int .i64 f.d.regs):=by rw[blk_cell hbb];rfl
   have q5:w12.cell? ⟨g,5,none⟩=some (.slice f.au f.d.ups.length f.cu):=by rw[blk_cell hbb];rfl
   have q6:w12.cell? ⟨g,6,none⟩=some (.slice f.ac f.d.consts.length f.cc):=by rw[blk_cell hbb];rfl
   have q7:w12.cell? ⟨g,7,none⟩=some (.slice f.ai f.d.ins.length f.ci):=by rw[blk_cell hbb];rfl
   have q8:w12.cell? ⟨g,8,none⟩=some (.slice f.an f.d.named.length f.cn):=by rw[blk_cell hbb];rfl
   have HL:Hid (f.lie ((w12.setCell ⟨w.heap.size,0,none⟩ (.slice (some ⟨w12.heap.size,0,none⟩) 1 1)).alloc (.cells f.cells.toArray 58))):=(hli w.heap.size 0 _ (by omega)).later (bw1 _ _)
   have HO:Hid f.d.ok:=by show FD.ok f.d;rw[hd];exact⟨by show (4:Nat)≤maxLen;unfold maxLen;omega,by simp,by simp,cirI_le 3 b HN.out,by simp,by intro v hv;simp only[List.mem_cons,List.not_mem_nil,or_false]at hv;rcases hv with rfl | rfl;exact nothing_ok;exact texter_ok,by simp⟩
   have HD:Hid (f.d=cirD 3 b):=hd
   have HBW:Hid (Below w.heap.size w w12):=hBw
   clear HP hbb hli hB hBw hd
   go_wp2_with fail
   refine bodyPost_ret (v:=.tuple #[.agg #[.slice (some ⟨w12.heap.size,0,none⟩) 1 1],.int .i64 2,.bool true]) (by simp[results,Tryz.results5,go_sem,c0,hlt0]) rfl ⟨⟨_,f,rfl,code_one (blk_newn (by simp) _) HL.out HO.out,HD.out⟩,?_⟩
   exact (HBW.out.setCell (p:=⟨w.heap.size,0,none⟩) (by simp) _).trans ((bw1 _ _).mono (by have:=HBW.out.size;simp;omega))
theorem made_c4 (n:Nat) (hn:n≤20) (w:World) :
  Calls Tryz.prog 5 #[.int .i64 4,.int .i64 (n:Int)] w fun e w'=>(∃g1 f,e=.returned (.tuple #[.agg #[.slice (some ⟨g1,0,none⟩) 1 1],.int .i64 2,.bool true])∧CodeAt w' (some ⟨g1,0,none⟩) [f]∧f.d=cirD 4 n)∧Below w.heap.size w w':=by
 go_enter Tryz.func5,Tryz.ntmps5
 go_wp2_with fail
 obtain⟨W1,hW1⟩:∃W1,w.alloc (.cells #[.slice none 0 0] 26)=W1:=⟨_,rfl⟩
 rw[hW1]
 refine (T.pen_any 8 (by omega) _).mono ?_
 rintro e w2 ⟨g,rfl,H⟩
 have HP:Hid (T.Pen W1 w2 g 8 [] []):=H
 clear H
 go_wp2_with fail
 refine (mk_str _ _).mono ?_
 rintro e w3 ⟨rfl,hx⟩
 replace HP:Hid (T.Pen W1 w3 g 8 [] []):=Pen.later HP.out hx
 clear hx
 go_wp2_with fail
 refine (T.pkonst_any 4 0 0 ⟨#[]⟩ 0 HP.out).mono ?_
 rintro e w4 ⟨rfl,H⟩
 replace HP:Hid (T.Pen W1 w4 g 8 [nothing] ([])):=H
 clear H
 go_wp2_with fail
 refine (T.pput_any _ _ _ _ _ HP.out (by simp)).mono ?_
 rintro e w5 ⟨rfl,H⟩
 replace HP:Hid (T.Pen W1 w5 g 8 [nothing] ([⟨4,0,0,0,0⟩])):=H
 clear H
 go_wp2_with fail
 refine (pbui HP.out (by simp)).mono ?_
 rintro e w6 ⟨rfl,H⟩
 replace HP:Hid (T.Pen W1 w6 g 8 [nothing,texter] ([⟨4,0,0,0,0⟩,⟨4,1,1,0,0⟩])):=H
 clear H
 go_wp2_with fail
 refine (pat_z 2 HP.out rfl).mono ?_
 rintro e w7 ⟨rfl,hz⟩
 replace HP:Hid (T.Pen W1 w7 g 8 [nothing,texter] (cirP 4++List.replicate 0 ⟨5,0,0,0,0⟩)):=by subst hz;exact HP.out
 clear hz
 have HN:Hid (n≤20):=hn
 go_wp2_with fail
 go_loopw [9] (fun i wr=>∃b:Nat,i=.int .i64 (b:Int)∧b≤n∧Hid (T.Pen W1 wr g 8 [nothing,texter] (cirP 4++List.replicate b ⟨5,0,0,0,0⟩))) (fun i _=>n-(intOf i).toNat)
 case atStart=>exact⟨0,rfl,by omega,HP⟩
 case round =>
  clear HP
  obtain⟨b,rfl,hb,HP⟩:=hrel
  have hPl:(cirP 4).length=2:=rfl
  by_cases hbn:b<n
  ·have hbn':(b:Int)<(n:Int):=by omega
   go_wp2_with fail
   refine (T.pput_any _ _ _ _ _ HP.out (by rw[List.length_append,List.length_replicate,hPl];omega)).mono ?_
   rintro e w8 ⟨rfl,H⟩
   have HP2:Hid (T.Pen W1 w8 g 8 [nothing,texter] (cirP 4++List.replicate (b+1) ⟨5,0,0,0,0⟩)):=by
    show T.Pen _ _ _ _ _ _
    rw[List.replicate_succ',←List.append_assoc]
    exact H
   clear H HP
   go_wp2_with fail
   go_roundw
   case rel=>exact⟨b+1,by go_num,by omega,HP2⟩
   case measure=>simp[intOf];omega
  ·obtain rfl:b=n:=by omega
   have hbn':¬(b:Int)<(b:Int):=by omega
   obtain⟨L0,hL0⟩:∃L0,cirP 4++List.replicate b ⟨5,0,0,0,0⟩=L0:=⟨_,rfl⟩
   have hLl:L0.length=2+b:=by rw[←hL0,List.length_append,List.length_replicate,hPl]
   rw[hL0]at HP
   have HL0:Hid (cirP 4++List.replicate b ⟨5,0,0,0,0⟩=L0):=hL0
   clear hL0 hPl hb hbn
   go_wp2_with fail
   refine (T.pput_any _ _ _ _ _ HP.out (by first | omega | (simp only[List.length_append,List.length_cons,List.length_nil];omega))).mono ?_
   rintro e w9 ⟨rfl,H⟩
   replace HP:Hid (T.Pen W1 w9 g 8 [nothing,texter] (L0++[⟨18,4,12,0,0⟩])):=H
   clear H
   go_wp2_with fail
   refine (T.pput_any _ _ _ _ _ HP.out (by first | omega | (simp only[List.length_append,List.length_cons,List.length_nil];omega))).mono ?_
   rintro e w10 ⟨rfl,H⟩
   replace HP:Hid (T.Pen W1 w10 g 8 [nothing,texter] (L0++[⟨18,4,12,0,0⟩]++[⟨42,4,0,0,0⟩])):=H
   clear H
   go_wp2_with fail
   refine (T.pput_any _ _ _ _ _ HP.out (by first | omega | (simp only[List.length_append,List.length_cons,List.length_nil];omega))).mono ?_
   rintro e w11 ⟨rfl,H⟩
   replace HP:Hid (T.Pen W1 w11 g 8 [nothing,texter] (L0++[⟨18,4,12,0,0⟩]++[⟨42,4,0,0,0⟩]++[⟨19,2,0,0,0⟩])):=H
   clear H
   replace HP:Hid (T.Pen W1 w11 g 8 [nothing,texter] (cirI 4 b)):=by
    show T.Pen _ _ _ _ _ _
    have h9:=HP.out
    have e9:cirI 4 b=L0++[⟨18,4,12,0,0⟩]++[⟨42,4,0,0,0⟩]++[⟨19,2,0,0,0⟩]:=by
     rw[←HL0.out]
     unfold cirI
     simp only[cirM,List.append_assoc,List.cons_append,List.nil_append]
     rfl
    rw[e9]
    exact h9
   obtain⟨f,hd,⟨tv,hbb⟩,hli⟩:=HP.out.code
   have hB:Below W1.heap.size W1 w11:=HP.out.bel
   have hBw:Below w.heap.size w w11:=by
    have h1:Below w.heap.size w W1:=by rw[←hW1];exact bw1 _ _
    exact h1.trans (hB.mono h1.size)
   have hc0:w11.heap[w.heap.size]?=some (.cells #[.slice none 0 0] 26):=blk_later hB (by rw[←hW1];exact blk_new _ _)
   have hgW:W1.heap.size≤g:=HP.out.ge
   have hsz:W1.heap.size=w.heap.size+1:=by rw[←hW1];simp
   have c0:w11.cell? ⟨w.heap.size,0,none⟩=some (.slice none 0 0):=by rw[blk_cell hc0];rfl
   have hlt0:=blk_lt hc0
   have z0:=blk_frozen hc0
   have q0:w11.cell? ⟨g,0,none⟩=some (.string f.d.name):=by rw[blk_cell hbb];rfl
   have q1:w11.cell? ⟨g,1,none⟩=some (.int .i64 f.d.line):=by rw[blk_cell hbb];rfl
   have q2:w11.cell? ⟨g,2,none⟩=some (.int .i64 f.d.params):=by rw[blk_cell hbb];rfl
   have q3:w11.cell? ⟨g,3,none⟩=some (.bool f.d.rest):=by rw[blk_cell hbb];rfl
   have q4:w11.cell? ⟨g,4,none⟩=some (.int .i64 f.d.regs):=by rw[blk_cell hbb];rfl
   have q5:w11.cell? ⟨g,5,none⟩=some (.slice f.au f.d.ups.length f.cu):=by rw[blk_cell hbb];rfl
   have q6:w11.cell? ⟨g,6,none⟩=some (.slice f.ac f.d.consts.length f.cc):=by rw[blk_cell hbb];rfl
   have q7:w11.cell? ⟨g,7,none⟩=some (.slice f.ai f.d.ins.length f.ci):=by rw[blk_cell hbb];rfl
   have q8:w11.cell? ⟨g,8,none⟩=some (.slice f.an f.d.named.length f.cn):=by rw[blk_cell hbb];rfl
   have HL:Hid (f.lie ((w11.setCell ⟨w.heap.size,0,none⟩ (.slice (some ⟨w11.heap.size,0,none⟩) 1 1)).alloc (.cells f.cells.toArray 58))):=(hli w.heap.size 0 _ (by omega)).later (bw1 _ _)
   have HO:Hid f.d.ok:=by show FD.ok f.d;rw[hd];exact⟨by show (4:Nat)≤maxLen;unfold maxLen;omega,by simp,by simp,cirI_le 4 b HN.out,by simp,by intro v hv;simp only[List.mem_cons,List.not_mem_nil,or_false]at hv;rcases hv with rfl | rfl;exact nothing_ok;exact texter_ok,by simp⟩
   have HD:Hid (f.d=cirD 4 b):=hd
   have HBW:Hid (Below w.heap.size w w11):=hBw
   clear HP hbb hli hB hBw hd
   go_wp2_with fail
   refine bodyPost_ret (v:=.tuple #[.agg #[.slice (some ⟨w11.heap.size,0,none⟩) 1 1],.int .i64 2,.bool true]) (by simp[results,Tryz.results5,go_sem,c0,hlt0]) rfl ⟨⟨_,f,rfl,code_one (blk_newn (by simp) _) HL.out HO.out,HD.out⟩,?_⟩
   exact (HBW.out.setCell (p:=⟨w.heap.size,0,none⟩) (by simp) _).trans ((bw1 _ _).mono (by have:=HBW.out.size;simp;omega))
theorem made_c5 (n:Nat) (hn:n≤20) (w:World) :
  Calls Tryz.prog 5 #[.int .i64 5,.int .i64 (n:Int)] w fun e w'=>(∃g1 f,e=.returned (.tuple #[.agg #[.slice (some ⟨g1,0,none⟩) 1 1],.int .i64 2,.bool false])∧CodeAt w' (some ⟨g1,0,none⟩) [f]∧f.d=cirD 5 n)∧Below w.heap.size w w':=by
 go_enter Tryz.func5,Tryz.ntmps5
 go_wp2_with fail
 obtain⟨W1,hW1⟩:∃W1,w.alloc (.cells #[.slice none 0 0] 26)=W1:=⟨_,rfl⟩
 rw[hW1]
 refine (T.pen_any 8 (by omega) _).mono ?_
 rintro e w2 ⟨g,rfl,H⟩
 have HP:Hid (T.Pen W1 w2 g 8 [] []):=H
 clear H
 go_wp2_with fail
 refine (mk_str _ _).mono ?_
 rintro e w3 ⟨rfl,hx⟩
 replace HP:Hid (T.Pen W1 w3 g 8 [] []):=Pen.later HP.out hx
 clear hx
 go_wp2_with fail
 refine (T.pkonst_any 4 0 0 ⟨#[]⟩ 0 HP.out).mono ?_
 rintro e w4 ⟨rfl,H⟩
 replace HP:Hid (T.Pen W1 w4 g 8 [nothing] ([])):=H
 clear H
 go_wp2_with fail
 refine (T.pput_any _ _ _ _ _ HP.out (by simp)).mono ?_
 rintro e w5 ⟨rfl,H⟩
 replace HP:Hid (T.Pen W1 w5 g 8 [nothing] ([⟨4,0,0,0,0⟩])):=H
 clear H
 go_wp2_with fail
 refine (pbui HP.out (by simp)).mono ?_
 rintro e w6 ⟨rfl,H⟩
 replace HP:Hid (T.Pen W1 w6 g 8 [nothing,texter] ([⟨4,0,0,0,0⟩,⟨4,1,1,0,0⟩])):=H
 clear H
 go_wp2_with fail
 refine (pat_z 2 HP.out rfl).mono ?_
 rintro e w7 ⟨rfl,hz⟩
 replace HP:Hid (T.Pen W1 w7 g 8 [nothing,texter] (cirP 5++List.replicate 0 ⟨5,0,0,0,0⟩)):=by subst hz;exact HP.out
 clear hz
 have HN:Hid (n≤20):=hn
 go_wp2_with fail
 go_loopw [9] (fun i wr=>∃b:Nat,i=.int .i64 (b:Int)∧b≤n∧Hid (T.Pen W1 wr g 8 [nothing,texter] (cirP 5++List.replicate b ⟨5,0,0,0,0⟩))) (fun i _=>n-(intOf i).toNat)
 case atStart=>exact⟨0,rfl,by omega,HP⟩
 case round =>
  clear HP
  obtain⟨b,rfl,hb,HP⟩:=hrel
  have hPl:(cirP 5).length=2:=rfl
  by_cases hbn:b<n
  ·have hbn':(b:Int)<(n:Int):=by omega
   go_wp2_with fail
   refine (T.pput_any _ _ _ _ _ HP.out (by rw[List.length_append,List.length_replicate,hPl];omega)).mono ?_
   rintro e w8 ⟨rfl,H⟩
   have HP2:Hid (T.Pen W1 w8 g 8 [nothing,texter] (cirP 5++List.replicate (b+1) ⟨5,0,0,0,0⟩)):=by
    show T.Pen _ _ _ _ _ _
    rw[List.replicate_succ',←List.append_assoc]
    exact H
   clear H HP
   go_wp2_with fail
   go_roundw
   case rel=>exact⟨b+1,by go_num,by omega,HP2⟩
   case measure=>simp[intOf];omega
  ·obtain rfl:b=n:=by omega
   have hbn':¬(b:Int)<(b:Int):=by omega
   obtain⟨L0,hL0⟩:∃L0,cirP 5++List.replicate b ⟨5,0,0,0,0⟩=L0:=⟨_,rfl⟩
   have hLl:L0.length=2+b:=by rw[←hL0,List.length_append,List.length_replicate,hPl]
   rw[hL0]at HP
   have HL0:Hid (cirP 5++List.replicate b ⟨5,0,0,0,0⟩=L0):=hL0
   clear hL0 hPl hb hbn
   go_wp2_with fail
   refine (T.pput_any _ _ _ _ _ HP.out (by first | omega | (simp only[List.length_append,List.length_cons,List.length_nil];omega))).mono ?_
   rintro e w9 ⟨rfl,H⟩
   replace HP:Hid (T.Pen W1 w9 g 8 [nothing,texter] (L0++[⟨18,4,13,0,0⟩])):=H
   clear H
   go_wp2_with fail
   refine (T.pput_any _ _ _ _ _ HP.out (by first | omega | (simp only[List.length_append,List.length_cons,List.length_nil];omega))).mono ?_
   rintro e w10 ⟨rfl,H⟩
   replace HP:Hid (T.Pen W1 w10 g 8 [nothing,texter] (L0++[⟨18,4,13,0,0⟩]++[⟨42,4,0,0,0⟩])):=H
   clear H
   go_wp2_with fail
   refine (T.pput_any _ _ _ _ _ HP.out (by first | omega | (simp only[List.length_append,List.length_cons,List.length_nil];omega))).mono ?_
   rintro e w11 ⟨rfl,H⟩
   replace HP:Hid (T.Pen W1 w11 g 8 [nothing,texter] (L0++[⟨18,4,13,0,0⟩]++[⟨42,4,0,0,0⟩]++[⟨19,2,0,0,0⟩])):=H
   clear H
   replace HP:Hid (T.Pen W1 w11 g 8 [nothing,texter] (cirI 5 b)):=by
    show T.Pen _ _ _ _ _ _
    have h9:=HP.out
    have e9:cirI 5 b=L0++[⟨18,4,13,0,0⟩]++[⟨42,4,0,0,0⟩]++[⟨19,2,0,0,0⟩]:=by
     rw[←HL0.out]
     unfold cirI
     simp only[cirM,List.append_assoc,List.cons_append,List.nil_append]
     rfl
    rw[e9]
    exact h9
   obtain⟨f,hd,⟨tv,hbb⟩,hli⟩:=HP.out.code
   have hB:Below W1.heap.size W1 w11:=HP.out.bel
   have hBw:Below w.heap.size w w11:=by
    have h1:Below w.heap.size w W1:=by rw[←hW1];exact bw1 _ _
    exact h1.trans (hB.mono h1.size)
   have hc0:w11.heap[w.heap.size]?=some (.cells #[.slice none 0 0] 26):=blk_later hB (by rw[←hW1];exact blk_new _ _)
   have hgW:W1.heap.size≤g:=HP.out.ge
   have hsz:W1.heap.size=w.heap.size+1:=by rw[←hW1];simp
   have c0:w11.cell? ⟨w.heap.size,0,none⟩=some (.slice none 0 0):=by rw[blk_cell hc0];rfl
   have hlt0:=blk_lt hc0
   have z0:=blk_frozen hc0
   have q0:w11.cell? ⟨g,0,none⟩=some (.string f.d.name):=by rw[blk_cell hbb];rfl
   have q1:w11.cell? ⟨g,1,none⟩=some (.int .i64 f.d.line):=by rw[blk_cell hbb];rfl
   have q2:w11.cell? ⟨g,2,none⟩=some (.int .i64 f.d.params):=by rw[blk_cell hbb];rfl
   have q3:w11.cell? ⟨g,3,none⟩=some (.bool f.d.rest):=by rw[blk_cell hbb];rfl
   have q4:w11.cell? ⟨g,4,none⟩=some (.int .i64 f.d.regs):=by rw[blk_cell hbb];rfl
   have q5:w11.cell? ⟨g,5,none⟩=some (.slice f.au f.d.ups.length f.cu):=by rw[blk_cell hbb];rfl
   have q6:w11.cell? ⟨g,6,none⟩=some (.slice f.ac f.d.consts.length f.cc):=by rw[blk_cell hbb];rfl
   have q7:w11.cell? ⟨g,7,none⟩=some (.slice f.ai f.d.ins.length f.ci):=by rw[blk_cell hbb];rfl
   have q8:w11.cell? ⟨g,8,none⟩=some (.slice f.an f.d.named.length f.cn):=by rw[blk_cell hbb];rfl
   have HL:Hid (f.lie ((w11.setCell ⟨w.heap.size,0,none⟩ (.slice (some ⟨w11.heap.size,0,none⟩) 1 1)).alloc (.cells f.cells.toArray 58))):=(hli w.heap.size 0 _ (by omega)).later (bw1 _ _)
   have HO:Hid f.d.ok:=by show FD.ok f.d;rw[hd];exact⟨by show (4:Nat)≤maxLen;unfold maxLen;omega,by simp,by simp,cirI_le 5 b HN.out,by simp,by intro v hv;simp only[List.mem_cons,List.not_mem_nil,or_false]at hv;rcases hv with rfl | rfl;exact nothing_ok;exact texter_ok,by simp⟩
   have HD:Hid (f.d=cirD 5 b):=hd
   have HBW:Hid (Below w.heap.size w w11):=hBw
   clear HP hbb hli hB hBw hd
   go_wp2_with fail
   refine bodyPost_ret (v:=.tuple #[.agg #[.slice (some ⟨w11.heap.size,0,none⟩) 1 1],.int .i64 2,.bool false]) (by simp[results,Tryz.results5,go_sem,c0,hlt0]) rfl ⟨⟨_,f,rfl,code_one (blk_newn (by simp) _) HL.out HO.out,HD.out⟩,?_⟩
   exact (HBW.out.setCell (p:=⟨w.heap.size,0,none⟩) (by simp) _).trans ((bw1 _ _).mono (by have:=HBW.out.size;simp;omega))
end Go.Proofs.YtkajknidfoelcaaGreatDoor.U
