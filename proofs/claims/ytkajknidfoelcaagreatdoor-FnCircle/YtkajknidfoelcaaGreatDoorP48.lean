import Derived.Test.YtkajknidfoelcaaGreatDoorP45
import Derived.Deep.CutRange
import Derived.Test.YtkajknidfoelcaaGreatDoorP44
set_option linter.unusedVariables false
set_option linter.unusedSimpArgs false
set_option maxRecDepth 20000
set_option maxHeartbeats 8000000
namespace Go.Proofs.YtkajknidfoelcaaGreatDoor.U
open Go.RowKit T
theorem made_c10 (n:Nat) (hn:n≤20) (w:World) :
  Calls Tryz.prog 5 #[.int .i64 10,.int .i64 (n:Int)] w fun e w'=>(∃g1 f,e=.returned (.tuple #[.agg #[.slice (some ⟨g1,0,none⟩) 1 1],.int .i64 3,.bool false])∧CodeAt w' (some ⟨g1,0,none⟩) [f]∧f.d=cirD 10 n)∧Below w.heap.size w w':=by
 go_enter Tryz.func5,Tryz.ntmps5
 go_wp2_with fail
 obtain⟨W1,hW1⟩:∃W1,w.alloc (.cells #[.slice none 0 0] 26)=W1:=⟨_,rfl⟩
 rw[hW1]
 refine (T.pen_any 8 (by omega) _).mono ?_
 rintro e w2 ⟨g,rfl,H⟩
 have HP:Hid (T.Pen W1 w2 g 8 [] []):=H
 clear H
 go_wp2_with fail
 refine (mk_str _ _).mono ?_
 rintro e w3 ⟨rfl,hx⟩
 replace HP:Hid (T.Pen W1 w3 g 8 [] []):=Pen.later HP.out hx
 clear hx
 go_wp2_with fail
 refine (T.pkonst_any 4 0 0 ⟨#[]⟩ 0 HP.out).mono ?_
 rintro e w4 ⟨rfl,H⟩
 replace HP:Hid (T.Pen W1 w4 g 8 [nothing] ([])):=H
 clear H
 go_wp2_with fail
 refine (T.pput_any _ _ _ _ _ HP.out (by simp)).mono ?_
 rintro e w5 ⟨rfl,H⟩
 replace HP:Hid (T.Pen W1 w5 g 8 [nothing] ([⟨4,0,0,0,0⟩])):=H
 clear H
 go_wp2_with fail
 refine (pbui HP.out (by simp)).mono ?_
 rintro e w6 ⟨rfl,H⟩
 replace HP:Hid (T.Pen W1 w6 g 8 [nothing,texter] ([⟨4,0,0,0,0⟩,⟨4,1,1,0,0⟩])):=H
 clear H
 go_wp2_with fail
 refine (T.pput_any _ _ _ _ _ HP.out (by simp)).mono ?_
 rintro e w7 ⟨rfl,H⟩
 replace HP:Hid (T.Pen W1 w7 g 8 [nothing,texter] ([⟨4,0,0,0,0⟩,⟨4,1,1,0,0⟩,⟨12,2,0,0,0⟩])):=H
 clear H
 go_wp2_with fail
 refine (pat_z 3 HP.out rfl).mono ?_
 rintro e w8 ⟨rfl,hz⟩
 replace HP:Hid (T.Pen W1 w8 g 8 [nothing,texter] (cirP 10++List.replicate 0 ⟨5,0,0,0,0⟩)):=by subst hz;exact HP.out
 clear hz
 have HN:Hid (n≤20):=hn
 go_wp2_with fail
 go_loopw [9] (fun i wr=>∃b:Nat,i=.int .i64 (b:Int)∧b≤n∧Hid (T.Pen W1 wr g 8 [nothing,texter] (cirP 10++List.replicate b ⟨5,0,0,0,0⟩))) (fun i _=>n-(intOf i).toNat)
 case atStart=>exact⟨0,rfl,by omega,HP⟩
 case round =>
  clear HP
  obtain⟨b,rfl,hb,HP⟩:=hrel
  have hPl:(cirP 10).length=3:=rfl
  by_cases hbn:b<n
  ·have hbn':(b:Int)<(n:Int):=by omega
   go_wp2_with fail
   refine (T.pput_any _ _ _ _ _ HP.out (by rw[List.length_append,List.length_replicate,hPl];omega)).mono ?_
   rintro e w9 ⟨rfl,H⟩
   have HP2:Hid (T.Pen W1 w9 g 8 [nothing,texter] (cirP 10++List.replicate (b+1) ⟨5,0,0,0,0⟩)):=by
    show T.Pen _ _ _ _ _ _
    rw[List.replicate_succ',←List.append_assoc]
    exact H
   clear H HP
   go_wp2_with fail
   go_roundw
   case rel=>exact⟨b+1,by go_num,by omega,HP2⟩
   case measure=>simp[intOf];omega
  ·obtain rfl:b=n:=by omega
   have hbn':¬(b:Int)<(b:Int):=by omega
   obtain⟨L0,hL0⟩:∃L0,cirP 10++List.replicate b ⟨5,0,0,0,0⟩=L0:=⟨_,rfl⟩
   have hLl:L0.length=3+b:=by rw[←hL0,List.length_append,List.length_replicate,hPl]
   rw[hL0]at HP
   have HL0:Hid (cirP 10++List.replicate b ⟨5,0,0,0,0⟩=L0):=hL0
   clear hL0 hPl hb hbn
   go_wp2_with fail
   refine (T.pput_any _ _ _ _ _ HP.out (by first | omega | (simp only[List.length_append,List.length_cons,List.length_nil];omega))).mono ?_
   rintro e w10 ⟨rfl,H⟩
   replace HP:Hid (T.Pen W1 w10 g 8 [nothing,texter] (L0++[⟨15,4,2,0,0⟩])):=H
   clear H
   go_wp2_with fail
   refine (T.pput_any _ _ _ _ _ HP.out (by first | omega | (simp only[List.length_append,List.length_cons,List.length_nil];omega))).mono ?_
   rintro e w11 ⟨rfl,H⟩
   replace HP:Hid (T.Pen W1 w11 g 8 [nothing,texter] (L0++[⟨15,4,2,0,0⟩]++[⟨42,4,0,0,0⟩])):=H
   clear H
   go_wp2_with fail
   refine (T.pput_any _ _ _ _ _ HP.out (by first | omega | (simp only[List.length_append,List.length_cons,List.length_nil];omega))).mono ?_
   rintro e w12 ⟨rfl,H⟩
   replace HP:Hid (T.Pen W1 w12 g 8 [nothing,texter] (L0++[⟨15,4,2,0,0⟩]++[⟨42,4,0,0,0⟩]++[⟨19,3,0,0,0⟩])):=H
   clear H
   replace HP:Hid (T.Pen W1 w12 g 8 [nothing,texter] (cirI 10 b)):=by
    show T.Pen _ _ _ _ _ _
    have h9:=HP.out
    have e9:cirI 10 b=L0++[⟨15,4,2,0,0⟩]++[⟨42,4,0,0,0⟩]++[⟨19,3,0,0,0⟩]:=by
     rw[←HL0.out]
     unfold cirI
     simp only[cirM,List.append_assoc,List.cons_append,List.nil_append]
     rfl
    rw[e9]
    exact h9
   obtain⟨f,hd,⟨tv,hbb⟩,hli⟩:=HP.out.code
   have hB:Below W1.heap.size W1 w12:=HP.out.bel
   have hBw:Below w.heap.size w w12:=by
    have h1:Below w.heap.size w W1:=by rw[←hW1];exact bw1 _ _
    exact h1.trans (hB.mono h1.size)
   have hc0:w12.heap[w.heap.size]?=some (.cells #[.slice none 0 0] 26):=blk_later hB (by rw[←hW1];exact blk_new _ _)
   have hgW:W1.heap.size≤g:=HP.out.ge
   have hsz:W1.heap.size=w.heap.size+1:=by rw[←hW1];simp
   have c0:w12.cell? ⟨w.heap.size,0,none⟩=some (.slice none 0 0):=by rw[blk_cell hc0];rfl
   have hlt0:=blk_lt hc0
   have z0:=blk_frozen hc0
   have q0:w12.cell? ⟨g,0,none⟩=some (.string f.d.name):=by rw[blk_cell hbb];rfl
   have q1:w12.cell? ⟨g,1,none⟩=some (.int .i64 f.d.line):=by rw[blk_cell hbb];rfl
   have q2:w12.cell? ⟨g,2,none⟩=some (.int .i64 f.d.params):=by rw[blk_cell hbb];rfl
   have q3:w12.cell? ⟨g,3,none⟩=some (.bool f.d.rest):=by rw[blk_cell hbb];rfl
   have q4:w12.cell? ⟨g,4,none⟩=some (.int .i64 f.d.regs):=by rw[blk_cell hbb];rfl
   have q5:w12.cell? ⟨g,5,none⟩=some (.slice f.au f.d.ups.length f.cu):=by rw[blk_cell hbb];rfl
   have q6:w12.cell? ⟨g,6,none⟩=some (.slice f.ac f.d.consts.length f.cc):=by rw[blk_cell hbb];rfl
   have q7:w12.cell? ⟨g,7,none⟩=some (.slice f.ai f.d.ins.length f.ci):=by rw[blk_cell hbb];rfl
   have q8:w12.cell? ⟨g,8,none⟩=some (.slice f.an f.d.named.length f.cn):=by rw[blk_cell hbb];rfl
   have HL:Hid (f.lie ((w12.setCell ⟨w.heap.size,0,none⟩ (.slice (some ⟨w12.heap.size,0,none⟩) 1 1)).alloc (.cells f.cells.toArray 58))):=(hli w.heap.size 0 _ (by omega)).later (bw1 _ _)
   have HO:Hid f.d.ok:=by show FD.ok f.d;rw[hd];exact⟨by show (4:Nat)≤maxLen;unfold maxLen;omega,by simp,by simp,cirI_le 10 b HN.out,by simp,by intro v hv;simp only[List.mem_cons,List.not_mem_nil,or_false]at hv;rcases hv with rfl | rfl;exact nothing_ok;exact texter_ok,by simp⟩
   have HD:Hid (f.d=cirD 10 b):=hd
   have HBW:Hid (Below w.heap.size w w12):=hBw
   clear HP hbb hli hB hBw hd
   go_wp2_with fail
   refine bodyPost_ret (v:=.tuple #[.agg #[.slice (some ⟨w12.heap.size,0,none⟩) 1 1],.int .i64 3,.bool false]) (by simp[results,Tryz.results5,go_sem,c0,hlt0]) rfl ⟨⟨_,f,rfl,code_one (blk_newn (by simp) _) HL.out HO.out,HD.out⟩,?_⟩
   exact (HBW.out.setCell (p:=⟨w.heap.size,0,none⟩) (by simp) _).trans ((bw1 _ _).mono (by have:=HBW.out.size;simp;omega))
theorem made_c11 (n:Nat) (hn:n≤20) (w:World) :
  Calls Tryz.prog 5 #[.int .i64 11,.int .i64 (n:Int)] w fun e w'=>(∃g1 f,e=.returned (.tuple #[.agg #[.slice (some ⟨g1,0,none⟩) 1 1],.int .i64 3,.bool false])∧CodeAt w' (some ⟨g1,0,none⟩) [f]∧f.d=cirD 11 n)∧Below w.heap.size w w':=by
 go_enter Tryz.func5,Tryz.ntmps5
 go_wp2_with fail
 obtain⟨W1,hW1⟩:∃W1,w.alloc (.cells #[.slice none 0 0] 26)=W1:=⟨_,rfl⟩
 rw[hW1]
 refine (T.pen_any 8 (by omega) _).mono ?_
 rintro e w2 ⟨g,rfl,H⟩
 have HP:Hid (T.Pen W1 w2 g 8 [] []):=H
 clear H
 go_wp2_with fail
 refine (mk_str _ _).mono ?_
 rintro e w3 ⟨rfl,hx⟩
 replace HP:Hid (T.Pen W1 w3 g 8 [] []):=Pen.later HP.out hx
 clear hx
 go_wp2_with fail
 refine (T.pkonst_any 4 0 0 ⟨#[]⟩ 0 HP.out).mono ?_
 rintro e w4 ⟨rfl,H⟩
 replace HP:Hid (T.Pen W1 w4 g 8 [nothing] ([])):=H
 clear H
 go_wp2_with fail
 refine (T.pput_any _ _ _ _ _ HP.out (by simp)).mono ?_
 rintro e w5 ⟨rfl,H⟩
 replace HP:Hid (T.Pen W1 w5 g 8 [nothing] ([⟨4,0,0,0,0⟩])):=H
 clear H
 go_wp2_with fail
 refine (pbui HP.out (by simp)).mono ?_
 rintro e w6 ⟨rfl,H⟩
 replace HP:Hid (T.Pen W1 w6 g 8 [nothing,texter] ([⟨4,0,0,0,0⟩,⟨4,1,1,0,0⟩])):=H
 clear H
 go_wp2_with fail
 refine (T.pput_any _ _ _ _ _ HP.out (by simp)).mono ?_
 rintro e w7 ⟨rfl,H⟩
 replace HP:Hid (T.Pen W1 w7 g 8 [nothing,texter] ([⟨4,0,0,0,0⟩,⟨4,1,1,0,0⟩,⟨12,2,0,0,0⟩])):=H
 clear H
 go_wp2_with fail
 refine (pat_z 3 HP.out rfl).mono ?_
 rintro e w8 ⟨rfl,hz⟩
 replace HP:Hid (T.Pen W1 w8 g 8 [nothing,texter] (cirP 11++List.replicate 0 ⟨5,0,0,0,0⟩)):=by subst hz;exact HP.out
 clear hz
 have HN:Hid (n≤20):=hn
 go_wp2_with fail
 go_loopw [9] (fun i wr=>∃b:Nat,i=.int .i64 (b:Int)∧b≤n∧Hid (T.Pen W1 wr g 8 [nothing,texter] (cirP 11++List.replicate b ⟨5,0,0,0,0⟩))) (fun i _=>n-(intOf i).toNat)
 case atStart=>exact⟨0,rfl,by omega,HP⟩
 case round =>
  clear HP
  obtain⟨b,rfl,hb,HP⟩:=hrel
  have hPl:(cirP 11).length=3:=rfl
  by_cases hbn:b<n
  ·have hbn':(b:Int)<(n:Int):=by omega
   go_wp2_with fail
   refine (T.pput_any _ _ _ _ _ HP.out (by rw[List.length_append,List.length_replicate,hPl];omega)).mono ?_
   rintro e w9 ⟨rfl,H⟩
   have HP2:Hid (T.Pen W1 w9 g 8 [nothing,texter] (cirP 11++List.replicate (b+1) ⟨5,0,0,0,0⟩)):=by
    show T.Pen _ _ _ _ _ _
    rw[List.replicate_succ',←List.append_assoc]
    exact H
   clear H HP
   go_wp2_with fail
   go_roundw
   case rel=>exact⟨b+1,by go_num,by omega,HP2⟩
   case measure=>simp[intOf];omega
  ·obtain rfl:b=n:=by omega
   have hbn':¬(b:Int)<(b:Int):=by omega
   obtain⟨L0,hL0⟩:∃L0,cirP 11++List.replicate b ⟨5,0,0,0,0⟩=L0:=⟨_,rfl⟩
   have hLl:L0.length=3+b:=by rw[←hL0,List.length_append,List.length_replicate,hPl]
   rw[hL0]at HP
   have HL0:Hid (cirP 11++List.replicate b ⟨5,0,0,0,0⟩=L0):=hL0
   clear hL0 hPl hb hbn
   go_wp2_with fail
   refine (T.pput_any _ _ _ _ _ HP.out (by first | omega | (simp only[List.length_append,List.length_cons,List.length_nil];omega))).mono ?_
   rintro e w10 ⟨rfl,H⟩
   replace HP:Hid (T.Pen W1 w10 g 8 [nothing,texter] (L0++[⟨16,2,0,0,0⟩])):=H
   clear H
   go_wp2_with fail
   refine (T.pput_any _ _ _ _ _ HP.out (by first | omega | (simp only[List.length_append,List.length_cons,List.length_nil];omega))).mono ?_
   rintro e w11 ⟨rfl,H⟩
   replace HP:Hid (T.Pen W1 w11 g 8 [nothing,texter] (L0++[⟨16,2,0,0,0⟩]++[⟨19,3,0,0,0⟩])):=H
   clear H
   replace HP:Hid (T.Pen W1 w11 g 8 [nothing,texter] (cirI 11 b)):=by
    show T.Pen _ _ _ _ _ _
    have h9:=HP.out
    have e9:cirI 11 b=L0++[⟨16,2,0,0,0⟩]++[⟨19,3,0,0,0⟩]:=by
     rw[←HL0.out]
     unfold cirI
     simp only[cirM,List.append_assoc,List.cons_append,List.nil_append]
     rfl
    rw[e9]
    exact h9
   obtain⟨f,hd,⟨tv,hbb⟩,hli⟩:=HP.out.code
   have hB:Below W1.heap.size W1 w11:=HP.out.bel
   have hBw:Below w.heap.size w w11:=by
    have h1:Below w.heap.size w W1:=by rw[←hW1];exact bw1 _ _
    exact h1.trans (hB.mono h1.size)
   have hc0:w11.heap[w.heap.size]?=some (.cells #[.slice none 0 0] 26):=blk_later hB (by rw[←hW1];exact blk_new _ _)
   have hgW:W1.heap.size≤g:=HP.out.ge
   have hsz:W1.heap.size=w.heap.size+1:=by rw[←hW1];simp
   have c0:w11.cell? ⟨w.heap.size,0,none⟩=some (.slice none 0 0):=by rw[blk_cell hc0];rfl
   have hlt0:=blk_lt hc0
   have z0:=blk_frozen hc0
   have q0:w11.cell? ⟨g,0,none⟩=some (.string f.d.name):=by rw[blk_cell hbb];rfl
   have q1:w11.cell? ⟨g,1,none⟩=some (.int .i64 f.d.line):=by rw[blk_cell hbb];rfl
   have q2:w11.cell? ⟨g,2,none⟩=some (.int .i64 f.d.params):=by rw[blk_cell hbb];rfl
   have q3:w11.cell? ⟨g,3,none⟩=some (.bool f.d.rest):=by rw[blk_cell hbb];rfl
   have q4:w11.cell? ⟨g,4,none⟩=some (.int .i64 f.d.regs):=by rw[blk_cell hbb];rfl
   have q5:w11.cell? ⟨g,5,none⟩=some (.slice f.au f.d.ups.length f.cu):=by rw[blk_cell hbb];rfl
   have q6:w11.cell? ⟨g,6,none⟩=some (.slice f.ac f.d.consts.length f.cc):=by rw[blk_cell hbb];rfl
   have q7:w11.cell? ⟨g,7,none⟩=some (.slice f.ai f.d.ins.length f.ci):=by rw[blk_cell hbb];rfl
   have q8:w11.cell? ⟨g,8,none⟩=some (.slice f.an f.d.named.length f.cn):=by rw[blk_cell hbb];rfl
   have HL:Hid (f.lie ((w11.setCell ⟨w.heap.size,0,none⟩ (.slice (some ⟨w11.heap.size,0,none⟩) 1 1)).alloc (.cells f.cells.toArray 58))):=(hli w.heap.size 0 _ (by omega)).later (bw1 _ _)
   have HO:Hid f.d.ok:=by show FD.ok f.d;rw[hd];exact⟨by show (4:Nat)≤maxLen;unfold maxLen;omega,by simp,by simp,cirI_le 11 b HN.out,by simp,by intro v hv;simp only[List.mem_cons,List.not_mem_nil,or_false]at hv;rcases hv with rfl | rfl;exact nothing_ok;exact texter_ok,by simp⟩
   have HD:Hid (f.d=cirD 11 b):=hd
   have HBW:Hid (Below w.heap.size w w11):=hBw
   clear HP hbb hli hB hBw hd
   go_wp2_with fail
   refine bodyPost_ret (v:=.tuple #[.agg #[.slice (some ⟨w11.heap.size,0,none⟩) 1 1],.int .i64 3,.bool false]) (by simp[results,Tryz.results5,go_sem,c0,hlt0]) rfl ⟨⟨_,f,rfl,code_one (blk_newn (by simp) _) HL.out HO.out,HD.out⟩,?_⟩
   exact (HBW.out.setCell (p:=⟨w.heap.size,0,none⟩) (by simp) _).trans ((bw1 _ _).mono (by have:=HBW.out.size;simp;omega))
theorem made_c12 (n:Nat) (hn:n≤20) (w:World) :
  Calls Tryz.prog 5 #[.int .i64 12,.int .i64 (n:Int)] w fun e w'=>(∃g1 f,e=.returned (.tuple #[.agg #[.slice (some ⟨g1,0,none⟩) 1 1],.int .i64 3,.bool false])∧CodeAt w' (some ⟨g1,0,none⟩) [f]∧f.d=cirD 12 n)∧Below w.heap.size w w':=by
 go_enter Tryz.func5,Tryz.ntmps5
 go_wp2_with fail
 obtain⟨W1,hW1⟩:∃W1,w.alloc (.cells #[.slice none 0 0] 26)=W1:=⟨_,rfl⟩
 rw[hW1]
 refine (T.pen_any 8 (by omega) _).mono ?_
 rintro e w2 ⟨g,rfl,H⟩
 have HP:Hid (T.Pen W1 w2 g 8 [] []):=H
 clear H
 go_wp2_with fail
 refine (mk_str _ _).mono ?_
 rintro e w3 ⟨rfl,hx⟩
 replace HP:Hid (T.Pen W1 w3 g 8 [] []):=Pen.later HP.out hx
 clear hx
 go_wp2_with fail
 refine (T.pkonst_any 4 0 0 ⟨#[]⟩ 0 HP.out).mono ?_
 rintro e w4 ⟨rfl,H⟩
 replace HP:Hid (T.Pen W1 w4 g 8 [nothing] ([])):=H
 clear H
 go_wp2_with fail
 refine (T.pput_any _ _ _ _ _ HP.out (by simp)).mono ?_
 rintro e w5 ⟨rfl,H⟩
 replace HP:Hid (T.Pen W1 w5 g 8 [nothing] ([⟨4,0,0,0,0⟩])):=H
 clear H
 go_wp2_with fail
 refine (pbui HP.out (by simp)).mono ?_
 rintro e w6 ⟨rfl,H⟩
 replace HP:Hid (T.Pen W1 w6 g 8 [nothing,texter] ([⟨4,0,0,0,0⟩,⟨4,1,1,0,0⟩])):=H
 clear H
 go_wp2_with fail
 refine (T.pput_any _ _ _ _ _ HP.out (by simp)).mono ?_
 rintro e w7 ⟨rfl,H⟩
 replace HP:Hid (T.Pen W1 w7 g 8 [nothing,texter] ([⟨4,0,0,0,0⟩,⟨4,1,1,0,0⟩,⟨12,2,0,0,0⟩])):=H
 clear H
 go_wp2_with fail
 refine (pat_z 3 HP.out rfl).mono ?_
 rintro e w8 ⟨rfl,hz⟩
 replace HP:Hid (T.Pen W1 w8 g 8 [nothing,texter] (cirP 12++List.replicate 0 ⟨5,0,0,0,0⟩)):=by subst hz;exact HP.out
 clear hz
 have HN:Hid (n≤20):=hn
 go_wp2_with fail
 go_loopw [9] (fun i wr=>∃b:Nat,i=.int .i64 (b:Int)∧b≤n∧Hid (T.Pen W1 wr g 8 [nothing,texter] (cirP 12++List.replicate b ⟨5,0,0,0,0⟩))) (fun i _=>n-(intOf i).toNat)
 case atStart=>exact⟨0,rfl,by omega,HP⟩
 case round =>
  clear HP
  obtain⟨b,rfl,hb,HP⟩:=hrel
  have hPl:(cirP 12).length=3:=rfl
  by_cases hbn:b<n
  ·have hbn':(b:Int)<(n:Int):=by omega
   go_wp2_with fail
   refine (T.pput_any _ _ _ _ _ HP.out (by rw[List.length_append,List.length_replicate,hPl];omega)).mono ?_
   rintro e w9 ⟨rfl,H⟩
   have HP2:Hid (T.Pen W1 w9 g 8 [nothing,texter] (cirP 12++List.replicate (b+1) ⟨5,0,0,0,0⟩)):=by
    show T.Pen _ _ _ _ _ _
    rw[List.replicate_succ',←List.append_assoc]
    exact H
   clear H HP
   go_wp2_with fail
   go_roundw
   case rel=>exact⟨b+1,by go_num,by omega,HP2⟩
   case measure=>simp[intOf];omega
  ·obtain rfl:b=n:=by omega
   have hbn':¬(b:Int)<(b:Int):=by omega
   obtain⟨L0,hL0⟩:∃L0,cirP 12++List.replicate b ⟨5,0,0,0,0⟩=L0:=⟨_,rfl⟩
   have hLl:L0.length=3+b:=by rw[←hL0,List.length_append,List.length_replicate,hPl]
   rw[hL0]at HP
   have HL0:Hid (cirP 12++List.replicate b ⟨5,0,0,0,0⟩=L0):=hL0
   clear hL0 hPl hb hbn
   go_wp2_with fail
   refine (T.pput_any _ _ _ _ _ HP.out (by first | omega | (simp only[List.length_append,List.length_cons,List.length_nil];omega))).mono ?_
   rintro e w10 ⟨rfl,H⟩
   replace HP:Hid (T.Pen W1 w10 g 8 [nothing,texter] (L0++[⟨17,4,22,0,0⟩])):=H
   clear H
   go_wp2_with fail
   refine (T.pput_any _ _ _ _ _ HP.out (by first | omega | (simp only[List.length_append,List.length_cons,List.length_nil];omega))).mono ?_
   rintro e w11 ⟨rfl,H⟩
   replace HP:Hid (T.Pen W1 w11 g 8 [nothing,texter] (L0++[⟨17,4,22,0,0⟩]++[⟨42,4,0,0,0⟩])):=H
   clear H
   go_wp2_with fail
   refine (T.pput_any _ _ _ _ _ HP.out (by first | omega | (simp only[List.length_append,List.length_cons,List.length_nil];omega))).mono ?_
   rintro e w12 ⟨rfl,H⟩
   replace HP:Hid (T.Pen W1 w12 g 8 [nothing,texter] (L0++[⟨17,4,22,0,0⟩]++[⟨42,4,0,0,0⟩]++[⟨19,3,0,0,0⟩])):=H
   clear H
   replace HP:Hid (T.Pen W1 w12 g 8 [nothing,texter] (cirI 12 b)):=by
    show T.Pen _ _ _ _ _ _
    have h9:=HP.out
    have e9:cirI 12 b=L0++[⟨17,4,22,0,0⟩]++[⟨42,4,0,0,0⟩]++[⟨19,3,0,0,0⟩]:=by
     rw[←HL0.out]
     unfold cirI
     simp only[cirM,List.append_assoc,List.cons_append,List.nil_append]
     rfl
    rw[e9]
    exact h9
   obtain⟨f,hd,⟨tv,hbb⟩,hli⟩:=HP.out.code
   have hB:Below W1.heap.size W1 w12:=HP.out.bel
   have hBw:Below w.heap.size w w12:=by
    have h1:Below w.heap.size w W1:=by rw[←hW1];exact bw1 _ _
    exact h1.trans (hB.mono h1.size)
   have hc0:w12.heap[w.heap.size]?=some (.cells #[.slice none 0 0] 26):=blk_later hB (by rw[←hW1];exact blk_new _ _)
   have hgW:W1.heap.size≤g:=HP.out.ge
   have hsz:W1.heap.size=w.heap.size+1:=by rw[←hW1];simp
   have c0:w12.cell? ⟨w.heap.size,0,none⟩=some (.slice none 0 0):=by rw[blk_cell hc0];rfl
   have hlt0:=blk_lt hc0
   have z0:=blk_frozen hc0
   have q0:w12.cell? ⟨g,0,none⟩=some (.string f.d.name):=by rw[blk_cell hbb];rfl
   have q1:w12.cell? ⟨g,1,none⟩=some (.int .i64 f.d.line):=by rw[blk_cell hbb];rfl
   have q2:w12.cell? ⟨g,2,none⟩=some (.int .i64 f.d.params):=by rw[blk_cell hbb];rfl
   have q3:w12.cell? ⟨g,3,none⟩=some (.bool f.d.rest):=by rw[blk_cell hbb];rfl
   have q4:w12.cell? ⟨g,4,none⟩=some (.int .i64 f.d.regs):=by rw[blk_cell hbb];rfl
   have q5:w12.cell? ⟨g,5,none⟩=some (.slice f.au f.d.ups.length f.cu):=by rw[blk_cell hbb];rfl
   have q6:w12.cell? ⟨g,6,none⟩=some (.slice f.ac f.d.consts.length f.cc):=by rw[blk_cell hbb];rfl
   have q7:w12.cell? ⟨g,7,none⟩=some (.slice f.ai f.d.ins.length f.ci):=by rw[blk_cell hbb];rfl
   have q8:w12.cell? ⟨g,8,none⟩=some (.slice f.an f.d.named.length f.cn):=by rw[blk_cell hbb];rfl
   have HL:Hid (f.lie ((w12.setCell ⟨w.heap.size,0,none⟩ (.slice (some ⟨w12.heap.size,0,none⟩) 1 1)).alloc (.cells f.cells.toArray 58))):=(hli w.heap.size 0 _ (by omega)).later (bw1 _ _)
   have HO:Hid f.d.ok:=by show FD.ok f.d;rw[hd];exact⟨by show (4:Nat)≤maxLen;unfold maxLen;omega,by simp,by simp,cirI_le 12 b HN.out,by simp,by intro v hv;simp only[List.mem_cons,List.not_mem_nil,or_false]at hv;rcases hv with rfl | rfl;exact nothing_ok;exact texter_ok,by simp⟩
   have HD:Hid (f.d=cirD 12 b):=hd
   have HBW:Hid (Below w.heap.size w w12):=hBw
   clear HP hbb hli hB hBw hd
   go_wp2_with fail
   refine bodyPost_ret (v:=.tuple #[.agg #[.slice (some ⟨w12.heap.size,0,none⟩) 1 1],.int .i64 3,.bool false]) (by simp[results,Tryz.results5,go_sem,c0,hlt0]) rfl ⟨⟨_,f,rfl,code_one (blk_newn (by simp) _) HL.out HO.out,HD.out⟩,?_⟩
   exact (HBW.out.setCell (p:=⟨w.heap.size,0,none⟩) (by simp) _).trans ((bw1 _ _).mono (by have:=HBW.out.size;simp;omega))
end Go.Proofs.YtkajknidfoelcaaGreatDoor.U
namespace Go.Proofs.YtkajknidfoelcaaGreatDoor.U
open Go.RowKit T
theorem made_c9 (n:Nat) (hn:n≤20) (w:World) :
  Calls Tryz.prog 5 #[.int .i64 9,.int .i64 (n:Int)] w fun e w'=>(∃g1 f,e=.returned (.tuple #[.agg #[.slice (some ⟨g1,0,none⟩) 1 1],.int .i64 2,.bool true])∧CodeAt w' (some ⟨g1,0,none⟩) [f]∧f.d=cirD 9 n)∧Below w.heap.size w w':=by
 go_enter Tryz.func5,Tryz.ntmps5
 go_wp2_with fail
 obtain⟨W1,hW1⟩:∃W1,w.alloc (.cells #[.slice none 0 0] 26)=W1:=⟨_,rfl⟩
 rw[hW1]
 refine (T.pen_any 8 (by omega) _).mono ?_
 rintro e w2 ⟨g,rfl,H⟩
 have HP:Hid (T.Pen W1 w2 g 8 [] []):=H
 clear H
 go_wp2_with fail
 refine (mk_str _ _).mono ?_
 rintro e w3 ⟨rfl,hx⟩
 replace HP:Hid (T.Pen W1 w3 g 8 [] []):=Pen.later HP.out hx
 clear hx
 go_wp2_with fail
 refine (T.pkonst_any 4 0 0 ⟨#[]⟩ 0 HP.out).mono ?_
 rintro e w4 ⟨rfl,H⟩
 replace HP:Hid (T.Pen W1 w4 g 8 [nothing] ([])):=H
 clear H
 go_wp2_with fail
 refine (T.pput_any _ _ _ _ _ HP.out (by simp)).mono ?_
 rintro e w5 ⟨rfl,H⟩
 replace HP:Hid (T.Pen W1 w5 g 8 [nothing] ([⟨4,0,0,0,0⟩])):=H
 clear H
 go_wp2_with fail
 refine (pbui HP.out (by simp)).mono ?_
 rintro e w6 ⟨rfl,H⟩
 replace HP:Hid (T.Pen W1 w6 g 8 [nothing,texter] ([⟨4,0,0,0,0⟩,⟨4,1,1,0,0⟩])):=H
 clear H
 go_wp2_with fail
 refine (pat_z 2 HP.out rfl).mono ?_
 rintro e w7 ⟨rfl,hz⟩
 replace HP:Hid (T.Pen W1 w7 g 8 [nothing,texter] (cirP 9++List.replicate 0 ⟨5,0,0,0,0⟩)):=by subst hz;exact HP.out
 clear hz
 have HN:Hid (n≤20):=hn
 go_wp2_with fail
 go_loopw [9] (fun i wr=>∃b:Nat,i=.int .i64 (b:Int)∧b≤n∧Hid (T.Pen W1 wr g 8 [nothing,texter] (cirP 9++List.replicate b ⟨5,0,0,0,0⟩))) (fun i _=>n-(intOf i).toNat)
 case atStart=>exact⟨0,rfl,by omega,HP⟩
 case round =>
  clear HP
  obtain⟨b,rfl,hb,HP⟩:=hrel
  have hPl:(cirP 9).length=2:=rfl
  by_cases hbn:b<n
  ·have hbn':(b:Int)<(n:Int):=by omega
   go_wp2_with fail
   refine (T.pput_any _ _ _ _ _ HP.out (by rw[List.length_append,List.length_replicate,hPl];omega)).mono ?_
   rintro e w8 ⟨rfl,H⟩
   have HP2:Hid (T.Pen W1 w8 g 8 [nothing,texter] (cirP 9++List.replicate (b+1) ⟨5,0,0,0,0⟩)):=by
    show T.Pen _ _ _ _ _ _
    rw[List.replicate_succ',←List.append_assoc]
    exact H
   clear H HP
   go_wp2_with fail
   go_roundw
   case rel=>exact⟨b+1,by go_num,by omega,HP2⟩
   case measure=>simp[intOf];omega
  ·obtain rfl:b=n:=by omega
   have hbn':¬(b:Int)<(b:Int):=by omega
   obtain⟨L0,hL0⟩:∃L0,cirP 9++List.replicate b ⟨5,0,0,0,0⟩=L0:=⟨_,rfl⟩
   have hLl:L0.length=2+b:=by rw[←hL0,List.length_append,List.length_replicate,hPl]
   rw[hL0]at HP
   have HL0:Hid (cirP 9++List.replicate b ⟨5,0,0,0,0⟩=L0):=hL0
   clear hL0 hPl hb hbn
   go_wp2_with fail
   refine (T.pput_any _ _ _ _ _ HP.out (by first | omega | (simp only[List.length_append,List.length_cons,List.length_nil];omega))).mono ?_
   rintro e w9 ⟨rfl,H⟩
   replace HP:Hid (T.Pen W1 w9 g 8 [nothing,texter] (L0++[⟨3,0,0,0,0⟩])):=H
   clear H
   go_wp2_with fail
   refine (pput_z ((3:Int)+(b:Int)) _ _ _ _ _ HP.out (by first | omega | (simp only[List.length_append,List.length_cons,List.length_nil];omega)) (by first | omega | (simp only[List.length_append,List.length_cons,List.length_nil];omega))).mono ?_
   rintro e w10 ⟨rfl,H⟩
   replace HP:Hid (T.Pen W1 w10 g 8 [nothing,texter] (L0++[⟨3,0,0,0,0⟩]++[⟨31,0,4,0,0⟩])):=H
   clear H
   go_wp2_with fail
   refine (T.pput_any _ _ _ _ _ HP.out (by first | omega | (simp only[List.length_append,List.length_cons,List.length_nil];omega))).mono ?_
   rintro e w11 ⟨rfl,H⟩
   replace HP:Hid (T.Pen W1 w11 g 8 [nothing,texter] (L0++[⟨3,0,0,0,0⟩]++[⟨31,0,4,0,0⟩]++[⟨30,0,0,0,0⟩])):=H
   clear H
   obtain⟨A,hA⟩:∃A,(L0++[⟨3,0,0,0,0⟩])=A:=⟨_,rfl⟩
   have hAl:A.length=(3+b):=by rw[←hA];first | omega | (simp only[List.length_append,List.length_cons,List.length_nil];omega)
   obtain⟨i0,hi0⟩:∃i0,(3+b)=i0:=⟨_,rfl⟩
   obtain⟨L,hL⟩:∃L,L=A++⟨31,0,4,0,0⟩ :: [⟨30,0,0,0,0⟩]:=⟨_,rfl⟩
   have hLs:L.length=i0+2:=by rw[hL,List.length_append,hAl,hi0];rfl
   have HP9:Hid (T.Pen W1 w11 g 8 [nothing,texter] L):=by
    show T.Pen _ _ _ _ _ _
    have h9:=HP.out
    rw[hL,←hA]
    simpa only [List.append_assoc,List.cons_append,List.nil_append] using h9
   have hLi:L[i0]?=some ⟨31,0,4,0,0⟩:=by rw[hL,←hi0,←hAl];exact at_app _ _ _
   have HLs:Hid (∀z,setA L i0 z=A++⟨31,z,4,0,0⟩ :: [⟨30,0,0,0,0⟩]):=by
    intro z
    rw[hL,←hi0,←hAl]
    exact setA_app _ _ _ _
   have HAA:Hid ((L0++[⟨3,0,0,0,0⟩])=A):=hA
   have HI0:Hid ((3+b)=i0):=hi0
   clear HP hAl hA hL
   obtain⟨gi,cap,q7,qa,qz,HS⟩:=HP9.out.open hLi
   have HZ:Hid (T.Pen W1 (w11.setCell ⟨gi,i0*5+1,none⟩ (.int .i64 (L.length:Int))).drew g 8 [nothing,texter] (setA L i0 (L.length:Int))):=(HS _).drew
   have HLL:Hid (L.length=i0+2):=hLs
   have hi1:i0<L.length:=by omega
   have hi3:(i0:Int)<(L.length:Int):=by omega
   have hi4:(0:Int)≤(i0:Int):=by omega
   have hix:(3:Int)+(b:Int)=(i0:Int):=by omega
   have hi5:L.length≤1000:=by have:=HN.out;omega
   clear HS hLi hLs
   go_wp2_with fail
   go_cut [] from 85 to 94 (fun wx=>Hid (T.Pen W1 wx g 8 [nothing,texter] (setA L i0 (L.length:Int))))
   case first =>
    go_region_with (go_at_call 14;refine (T.pat_any HP9.out.drew).mono ?_;rintro e w' ⟨rfl,rfl⟩)
    all_goals
     go_wp2_with fail
     go_meet
     exact HZ
   case rest =>
    obtain⟨wv,hwv⟩:∃wv,wv=wc:=⟨_,rfl⟩
    have HP:Hid (T.Pen W1 wc g 8 [nothing,texter] (A++⟨31,((i0+2:Nat):Int),4,0,0⟩ :: [⟨30,0,0,0,0⟩])):=by
     have h9:=hcut.out
     rw[HLs.out,HLL.out]at h9
     exact h9
    clear hcut HZ q7 qa qz HP9 HLs HLL hi1 hi3 hwv hix hi5
    have hAl:A.length=i0:=by rw[←HAA.out,←HI0.out];first | omega | (simp only[List.length_append,List.length_cons,List.length_nil];omega)
    have hi6:i0≤30:=by have:=HI0.out;have:=HN.out;omega
    go_wp2_with fail
    refine (T.pput_any _ _ _ _ _ HP.out (by first | omega | (simp only[List.length_append,List.length_cons,List.length_nil];omega))).mono ?_
    rintro e w12 ⟨rfl,H⟩
    replace HP:Hid (T.Pen W1 w12 g 8 [nothing,texter] (A++⟨31,((i0+2:Nat):Int),4,0,0⟩ :: [⟨30,0,0,0,0⟩]++[⟨42,4,0,0,0⟩])):=H
    clear H
    go_wp2_with fail
    refine (T.pput_any _ _ _ _ _ HP.out (by first | omega | (simp only[List.length_append,List.length_cons,List.length_nil];omega))).mono ?_
    rintro e w13 ⟨rfl,H⟩
    replace HP:Hid (T.Pen W1 w13 g 8 [nothing,texter] (A++⟨31,((i0+2:Nat):Int),4,0,0⟩ :: [⟨30,0,0,0,0⟩]++[⟨42,4,0,0,0⟩]++[⟨42,5,0,0,0⟩])):=H
    clear H
    go_wp2_with fail
    refine (T.pput_any _ _ _ _ _ HP.out (by first | omega | (simp only[List.length_append,List.length_cons,List.length_nil];omega))).mono ?_
    rintro e w14 ⟨rfl,H⟩
    replace HP:Hid (T.Pen W1 w14 g 8 [nothing,texter] (A++⟨31,((i0+2:Nat):Int),4,0,0⟩ :: [⟨30,0,0,0,0⟩]++[⟨42,4,0,0,0⟩]++[⟨42,5,0,0,0⟩]++[⟨19,2,0,0,0⟩])):=H
    clear H
    replace HP:Hid (T.Pen W1 w14 g 8 [nothing,texter] (cirI 9 b)):=by
     show T.Pen _ _ _ _ _ _
     have h9:=HP.out
     have e9:cirI 9 b=A++⟨31,((i0+2:Nat):Int),4,0,0⟩ :: [⟨30,0,0,0,0⟩]++[⟨42,4,0,0,0⟩]++[⟨42,5,0,0,0⟩]++[⟨19,2,0,0,0⟩]:=by
      have hAA:=HAA.out
      have hII:=HI0.out
      subst hAA hII
      rw[←HL0.out]
      unfold cirI
      simp only[cirM,List.append_assoc,List.cons_append,List.nil_append]
      rw[show cirB 9+b+3=3+b+2 by show 2+b+3=3+b+2;omega]
      rfl
     rw[e9]
     exact h9
    obtain⟨f,hd,⟨tv,hbb⟩,hli⟩:=HP.out.code
    have hB:Below W1.heap.size W1 w14:=HP.out.bel
    have hBw:Below w.heap.size w w14:=by
     have h1:Below w.heap.size w W1:=by rw[←hW1];exact bw1 _ _
     exact h1.trans (hB.mono h1.size)
    have hc0:w14.heap[w.heap.size]?=some (.cells #[.slice none 0 0] 26):=blk_later hB (by rw[←hW1];exact blk_new _ _)
    have hgW:W1.heap.size≤g:=HP.out.ge
    have hsz:W1.heap.size=w.heap.size+1:=by rw[←hW1];simp
    have c0:w14.cell? ⟨w.heap.size,0,none⟩=some (.slice none 0 0):=by rw[blk_cell hc0];rfl
    have hlt0:=blk_lt hc0
    have z0:=blk_frozen hc0
    have q0:w14.cell? ⟨g,0,none⟩=some (.string f.d.name):=by rw[blk_cell hbb];rfl
    have q1:w14.cell? ⟨g,1,none⟩=some (.int .i64 f.d.line):=by rw[blk_cell hbb];rfl
    have q2:w14.cell? ⟨g,2,none⟩=some (.int .i64 f.d.params):=by rw[blk_cell hbb];rfl
    have q3:w14.cell? ⟨g,3,none⟩=some (.bool f.d.rest):=by rw[blk_cell hbb];rfl
    have q4:w14.cell? ⟨g,4,none⟩=some (.int .i64 f.d.regs):=by rw[blk_cell hbb];rfl
    have q5:w14.cell? ⟨g,5,none⟩=some (.slice f.au f.d.ups.length f.cu):=by rw[blk_cell hbb];rfl
    have q6:w14.cell? ⟨g,6,none⟩=some (.slice f.ac f.d.consts.length f.cc):=by rw[blk_cell hbb];rfl
    have q7:w14.cell? ⟨g,7,none⟩=some (.slice f.ai f.d.ins.length f.ci):=by rw[blk_cell hbb];rfl
    have q8:w14.cell? ⟨g,8,none⟩=some (.slice f.an f.d.named.length f.cn):=by rw[blk_cell hbb];rfl
    have HL:Hid (f.lie ((w14.setCell ⟨w.heap.size,0,none⟩ (.slice (some ⟨w14.heap.size,0,none⟩) 1 1)).alloc (.cells f.cells.toArray 58))):=(hli w.heap.size 0 _ (by omega)).later (bw1 _ _)
    have HO:Hid f.d.ok:=by show FD.ok f.d;rw[hd];exact⟨by show (4:Nat)≤maxLen;unfold maxLen;omega,by simp,by simp,cirI_le 9 b HN.out,by simp,by intro v hv;simp only[List.mem_cons,List.not_mem_nil,or_false]at hv;rcases hv with rfl | rfl;exact nothing_ok;exact texter_ok,by simp⟩
    have HD:Hid (f.d=cirD 9 b):=hd
    have HBW:Hid (Below w.heap.size w w14):=hBw
    clear HP hbb hli hB hBw hd
    go_wp2_with fail
    refine bodyPost_ret (v:=.tuple #[.agg #[.slice (some ⟨w14.heap.size,0,none⟩) 1 1],.int .i64 2,.bool true]) (by simp[results,Tryz.results5,go_sem,c0,hlt0]) rfl ⟨⟨_,f,rfl,code_one (blk_newn (by simp) _) HL.out HO.out,HD.out⟩,?_⟩
    exact (HBW.out.setCell (p:=⟨w.heap.size,0,none⟩) (by simp) _).trans ((bw1 _ _).mono (by have:=HBW.out.size;simp;omega))
end Go.Proofs.YtkajknidfoelcaaGreatDoor.U
namespace Go.Proofs.YtkajknidfoelcaaGreatDoor.M
open Go.RowKit
attribute [local go_sem] run_store_float
def byteU (u:UInt8):List Value:=[.int .u8 (u.toNat:Int)]
theorem byteU_len (u:UInt8):(byteU u).length=1:=rfl
theorem wb_any (a:Option Addr) (len cap i:Nat) (xs:List UInt8) (w:World) (hl:xs.length=len) (hp:SlA w 1 byteU a xs) (hlen:len≤1048576) (hi:i≤2) :
  Calls Tryz.prog 4 #[.slice a len cap,.int .i64 (i:Int)] w fun e w'=>(∃b:Nat,e=.returned (.int .i64 (b:Int))∧b<256)∧w'=w:=by
 by_cases h0:len=0
 ·subst h0
  go_enter Tryz.func4,Tryz.ntmps4
  go_wp2_with fail
  go_ret
  exact⟨⟨0,rfl,by omega⟩,rfl⟩
 ·have hm:i % len<len:=Nat.mod_lt _ (by omega)
  obtain⟨x,hx⟩:∃x,xs[i % len]?=some x:=⟨xs[i % len]'(by omega),by simp⟩
  obtain⟨b,off,rfl,hb,hc⟩:=hp _ x hx
  have c0:w.cell? ⟨b,off+i % len,none⟩=some (.int .u8 (x.toNat:Int)):=by have:=hc 0 _ rfl;simpa using this
  have hr:(i:Int).tmod (len:Int)=((i % len:Nat):Int):=rfl
  have hx8:x.toNat<256:=x.toNat_lt
  have b1:¬((len:Int)=0):=by omega
  have b2:((i % len:Nat):Int)<(len:Int):=by omega
  obtain⟨q,hq⟩:∃q,i % len=q:=⟨_,rfl⟩
  rw[hq]at c0 hr b2
  clear hp hc hx hm hq
  go_enter Tryz.func4,Tryz.ntmps4
  go_wp2_with fail
  go_ret
  exact⟨⟨x.toNat,rfl,hx8⟩,rfl⟩
end Go.Proofs.YtkajknidfoelcaaGreatDoor.M
