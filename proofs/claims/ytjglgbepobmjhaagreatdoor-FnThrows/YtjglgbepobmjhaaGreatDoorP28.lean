import Derived.Test.YtjglgbepobmjhaaGreatDoorP27
set_option linter.unusedVariables false
set_option linter.unusedSimpArgs false
set_option maxRecDepth 20000
set_option maxHeartbeats 8000000
namespace Go.Proofs.YtjglgbepobmjhaaGreatDoor.T
open Go.RowKit M
attribute [local irreducible] R0 R1
section
variable {w0 : World} {K : TK} {k t : Nat} {w : World} {tk nr at' : Nat} {rs : List M.SD} {gl : List (Nat × Int)} {rv gv : Value}
theorem Ph.lt (hp : Ph k t at' tk nr rs gl) (hk : 1 ≤ k) : at' < 3 + 4 * k:=by
 cases hp <;> omega
theorem do_t (ok : TKok w0 K) (hc : Con w0 K) (hk1 : 1 ≤ k) (hk : k ≤ 250) (ht : K.m0.ticks = (t : Int)) (h : TX w0 K w tk nr (at' : Int) ((at' : Int) + 1) rs gl rv gv) (hp : Ph k t at' tk nr rs gl) :
  ∃ (op fid : Nat),(tinK k at').op = op∧op < 43∧instT[op]? = some (.func (.func fid) #[] #[])∧(∀ args W,(callFunc fid args).run Tryz.prog W = .ok (.enter fid args) W) ∧
   (Calls Tryz.prog fid #[.pointer (some ⟨K.gm,0,none⟩),.pointer (some ⟨K.gf,0,none⟩),insV (tinK k at')] w (GoP w0 K k t (mu t tk at') at') ∨ Calls Tryz.prog fid #[.pointer (some ⟨K.gm,0,none⟩),.pointer (some ⟨K.gf,0,none⟩),insV (tinK k at')] w (ThP w0 K k t (mu t tk at') at') ∨ Calls Tryz.prog fid #[.pointer (some ⟨K.gm,0,none⟩),.pointer (some ⟨K.gf,0,none⟩),insV (tinK k at')] w (OvP w0 K k t)):=by
 cases hp with
 | start=>rw [tin0 hk1]; exact ⟨4,_,rfl,by omega,rfl,cf4,.inl (td0 ok hc hk1 h)⟩
 | turn _ _ hl hn hm =>
  rw [tin1 hk1]
  by_cases hq : tk < t
  ·exact ⟨3,_,rfl,by omega,rfl,cf3,.inl (td1 ok hk1 ht h hq hn hm)⟩
  ·obtain rfl : tk = t:=by omega
   exact ⟨3,_,rfl,by omega,rfl,cf3,.inr (.inr (td1o ok ht h hn hm))⟩
 | try_ b _ _ hb hl hn hm=>rw [tin2 hb]; exact ⟨31,_,rfl,by omega,rfl,cf31,.inl (td2 ok hk h hb hl hn hm)⟩
 | thr b _ _ gn hb hl hn hm =>
  rw [tin3 hb]
  by_cases hq : nr < 100000
  ·exact ⟨30,_,rfl,by omega,rfl,cf30,.inr (.inl (td3 ok hk h hb hl hn hq))⟩
  ·exact ⟨30,_,rfl,by omega,rfl,cf30,.inr (.inr (td3o ok hk1 h hb hl hn (by omega)))⟩
 | dr4 b _ _ s hb hl hn hm=>rw [tin4 hb]; exact ⟨42,_,rfl,by omega,rfl,cf42,.inl (td4 ok hk h hb hl hn hm)⟩
 | dr5 b _ _ s hb hl hn hm=>rw [tin5 hb]; exact ⟨42,_,rfl,by omega,rfl,cf42,.inl (td5 ok hk h hb hl hn hm)⟩
 | jmp _ _ hl hn hm=>rw [tinJ]; exact ⟨19,_,rfl,by omega,rfl,cf19,.inl (tdJ ok hk hk1 h hl hn hm)⟩
theorem TX.next {a nx : Int} (ok : TKok w0 K) (h : TX w0 K w tk nr a nx rs gl rv gv) (o : Obj) (z : Int) : TX w0 K ((w.setCell ⟨K.gf,10,none⟩ (.int .i64 z)).alloc o).drew tk nr a z rs gl rv gv:=by
 have hb : ButL [K.gf] w ((w.setCell ⟨K.gf,10,none⟩ (.int .i64 z)).alloc o).drew:=(((ButL.refl _ _).set (by simp) _ _).alloc o).drew
 refine h.call ok hb ?_ h.lr
 have h9:=blk_set h.cal 10 (.int .i64 z)
 rw [CallD.set_next] at h9
 exact CallAt.later (c:=K.c a z gv rs) h9 (bw1 _ o).drew
theorem TX.drew {a nx : Int} (ok : TKok w0 K) (h : TX w0 K w tk nr a nx rs gl rv gv) : TX w0 K w.drew tk nr a nx rs gl rv gv:=h.call ok (ButL.refl _ _).drew h.cal h.lr
theorem TX.atW {a nx : Int} (ok : TKok w0 K) (h : TX w0 K w tk nr a nx rs gl rv gv) (z : Int) : TX w0 K (w.setCell ⟨K.gf,9,none⟩ (.int .i64 z)) tk nr z nx rs gl rv gv:=by
 have hb : ButL [K.gf] w (w.setCell ⟨K.gf,9,none⟩ (.int .i64 z)):=(ButL.refl _ _).set (by simp) _ _
 refine h.call ok hb ?_ h.lr
 have:=blk_set h.cal 9 (.int .i64 z)
 rw [CallD.set_at] at this
 exact this
end
set_option maxHeartbeats 4000000 in
theorem run_t (w0 : World) (K : TK) (ok : TKok w0 K) (con : Con w0 K) (k t : Nat) (hk1 : 1 ≤ k) (hk : k ≤ 250) (ht : K.m0.ticks = (t : Int)) (b off ci : Nat) (w : World) (hins : K.c0.ins = .slice (some ⟨b,off,none⟩) (3 + 4 * k) ci) (hsl : SlA w0 5 ID.cells (some ⟨b,off,none⟩) (throwsI k)) (nx : Int) (rv0 gv0 : Value) (h : TX w0 K w 0 0 0 nx R0 [] rv0 gv0) :
  Calls Tryz.prog 50 #[.pointer (some ⟨K.gm,0,none⟩),.pointer (some ⟨K.gf,0,none⟩)] w (OvP w0 K k t):=by
 obtain ⟨L,hL⟩ : ∃ L,3 + 4 * k = L:=⟨_,rfl⟩
 rw [hL] at hins
 have HL : Hid (3 + 4 * k = L):=hL
 have HX0 : Hid (TX w0 K w 0 0 0 nx R0 [] rv0 gv0):=h
 have HSL : Hid (SlA w0 5 ID.cells (some ⟨b,off,none⟩) (throwsI k)):=hsl
 have HOK : Hid (TKok w0 K):=ok
 have HCN : Hid (Con w0 K):=con
 have HT : Hid (K.m0.ticks = (t : Int)):=ht
 have HK : Hid (1 ≤ k∧k ≤ 250):=⟨hk1,hk⟩
 clear h hsl ok con ht hk1 hk hL
 go_enter Tryz.func50,Tryz.ntmps50
 go_wp2_with fail
 go_loopw [] (fun wr=>∃ (tk nr at' : Nat) (nx : Int) (rs : List M.SD) (gl : List (Nat × Int)) (rv gv : Value),Hid (TX w0 K wr tk nr at' nx rs gl rv gv)∧Hid (Ph k t at' tk nr rs gl)) (fun wr=>mu t (intOf ((wr.cell? ⟨K.gm,12,none⟩).getD undef)).toNat (intOf ((wr.cell? ⟨K.gf,9,none⟩).getD undef)).toNat)
 case atStart=>exact ⟨0,0,0,nx,R0,[],rv0,gv0,HX0,.start⟩
 case round =>
  clear HX0
  obtain ⟨tk,nr,at',nx,rs,gl,rv,gv,HX,HP⟩:=hrel
  have hx:=HX.out
  have hat : at' < L:=by rw [← HL.out]; exact HP.out.lt HK.out.1
  obtain ⟨nop,na,nb,nc,nd,hn⟩ : ∃ nop na nb nc nd,tinK k at' = ⟨nop,na,nb,nc,nd⟩:=⟨_,_,_,_,_,rfl⟩
  obtain ⟨b',off',e0,hbl,hc⟩:=HSL.out at' ⟨nop,na,nb,nc,nd⟩ (by unfold throwsI; rw [tabL_at,if_pos (by rw [HL.out]; exact hat),hn])
  have e1 : b = b'∧off = off':=by injection e0 with e0; injection e0 with e1 e2; exact ⟨e1,e2⟩
  obtain ⟨rfl,rfl⟩:=e1
  have c6 : wr.cell? ⟨K.gf,6,none⟩ = some (.slice (some ⟨b,off,none⟩) L ci):=by rw [hx.cal.cell 6 (by omega),← hins]; rfl
  have c9 : wr.cell? ⟨K.gf,9,none⟩ = some (.int .i64 (at' : Int)):=by rw [hx.cal.cell 9 (by omega)]; rfl
  have c10 : wr.cell? ⟨K.gf,10,none⟩ = some (.int .i64 nx):=by rw [hx.cal.cell 10 (by omega)]; rfl
  have HM12 : Hid (wr.cell? ⟨K.gm,12,none⟩ = some (.int .i64 (tk : Int))):=by show _ = _; rw [hx.mac.cell]; rfl
  have i0 : wr.cell? ⟨b,off + at' * 5,none⟩ = some (.int .i64 nop):=by have:=cell_later hx.bel (hc 0 _ rfl); simpa using this
  have i1 : wr.cell? ⟨b,off + at' * 5 + 1,none⟩ = some (.int .i64 na):=cell_later hx.bel (hc 1 _ rfl)
  have i2 : wr.cell? ⟨b,off + at' * 5 + 2,none⟩ = some (.int .i64 nb):=cell_later hx.bel (hc 2 _ rfl)
  have i3 : wr.cell? ⟨b,off + at' * 5 + 3,none⟩ = some (.int .i64 nc):=cell_later hx.bel (hc 3 _ rfl)
  have i4 : wr.cell? ⟨b,off + at' * 5 + 4,none⟩ = some (.int .i64 nd):=cell_later hx.bel (hc 4 _ rfl)
  have hfl:=blk_lt hx.cal
  have hbl2 : b < wr.heap.size:=Nat.lt_of_lt_of_le hbl hx.bel.size
  have b1 : (0 : Int) ≤ (at' : Int):=by omega
  have b2 : (at' : Int) < (L : Int):=by omega
  have b3 : (at' : Int) ≤ 10000:=by have:=HK.out; have:=HL.out; omega
  have z9:=blk_frozen hx.cal
  have HC9 : Hid _:=c9
  obtain ⟨W2,hW2⟩ : ∃ W2,((wr.setCell ⟨K.gf,10,none⟩ (.int .i64 ((at' : Int) + 1))).alloc (InO ⟨nop,na,nb,nc,nd⟩)).drew = W2:=⟨_,rfl⟩
  have hx2 : TX w0 K W2 tk nr at' (at' + 1) rs gl rv gv:=by rw [← hW2]; exact hx.next HOK.out _ _
  have hx2d:=hx2.drew HOK.out
  have hbi : W2.heap[wr.heap.size]? = some (InO ⟨nop,na,nb,nc,nd⟩):=by rw [← hW2]; exact blk_newn (by simp) _
  have d0 : W2.cell? ⟨wr.heap.size,0,none⟩ = some (.int .i64 nop):=by rw [blk_cell hbi]; rfl
  have d1 : W2.cell? ⟨wr.heap.size,1,none⟩ = some (.int .i64 na):=by rw [blk_cell hbi]; rfl
  have d2 : W2.cell? ⟨wr.heap.size,2,none⟩ = some (.int .i64 nb):=by rw [blk_cell hbi]; rfl
  have d3 : W2.cell? ⟨wr.heap.size,3,none⟩ = some (.int .i64 nc):=by rw [blk_cell hbi]; rfl
  have d4 : W2.cell? ⟨wr.heap.size,4,none⟩ = some (.int .i64 nd):=by rw [blk_cell hbi]; rfl
  obtain ⟨op,fid,hop,hop43,hT,hcf,hcall⟩:=do_t HOK.out HCN.out HK.out.1 HK.out.2 HT.out hx2d HP.out
  rw [hn] at hop hcall
  dsimp only at hop
  subst hop
  have mT : W2.cell? ⟨K.gm,14 + op,none⟩ = some (.func (.func fid) #[] #[]):=by rw [hx2.mac.cell,MachD.inst _ hop43,hT]
  have o1 : (0 : Int) ≤ (op : Int):=by omega
  have o2 : (op : Int) < 43:=by omega
  clear hx hx2 hx2d hc e0 hbi hT hn hop43
  rcases hcall with hcall | hcall | hcall
  ·have HCA : Hid (Calls Tryz.prog fid #[.pointer (some ⟨K.gm,0,none⟩),.pointer (some ⟨K.gf,0,none⟩),.agg #[.int .i64 (op : Int),.int .i64 na,.int .i64 nb,.int .i64 nc,.int .i64 nd]] W2.drew (GoP w0 K k t (mu t tk at') at')):=hcall
   clear hcall
   go_wp2_with fail
   go_region
   go_wp2_with fail
   clear hW2 c6 c9 c10 i0 i1 i2 i3 i4 z9
   go_region_with (refine (HCA.out).mono ?_; rintro e w3 ⟨rfl,tk',nr',at2,ax,rs',gl',rv',gv',hx3,hp3,hmu⟩)
   all_goals
    have c10 : w3.cell? ⟨K.gf,10,none⟩ = some (.int .i64 (at2 : Int)):=by rw [hx3.cal.cell 10 (by omega)]; rfl
    have c9 : w3.cell? ⟨K.gf,9,none⟩ = some (.int .i64 ax):=by rw [hx3.cal.cell 9 (by omega)]; rfl
    have z9:=blk_frozen hx3.cal
    have HX3 : Hid (TX w0 K (w3.setCell ⟨K.gf,9,none⟩ (.int .i64 (at2 : Int))) tk' nr' at2 at2 rs' gl' rv' gv'):=hx3.atW HOK.out _
    have HP3 : Hid (Ph k t at2 tk' nr' rs' gl'):=hp3
    have HMU : Hid (mu t tk' at2 < mu t tk at'):=hmu
    clear hx3 hp3 hmu
    go_wp2_with fail
    go_roundw
    case rel=>exact ⟨tk',nr',at2,_,rs',gl',rv',gv',HX3,HP3⟩
    case measure =>
     have h9 : (w3.setCell ⟨K.gf,9,none⟩ (.int .i64 (at2 : Int))).cell? ⟨K.gf,9,none⟩ = some (.int .i64 (at2 : Int)):=by rw [HX3.out.cal.cell 9 (by omega)]; rfl
     have h12 : (w3.setCell ⟨K.gf,9,none⟩ (.int .i64 (at2 : Int))).cell? ⟨K.gm,12,none⟩ = some (.int .i64 (tk' : Int)):=by rw [HX3.out.mac.cell]; rfl
     rw [h9,h12,HC9.out,HM12.out]
     simp only [Option.getD_some,intOf,Int.toNat_natCast]
     exact HMU.out
  ·have HCA : Hid (Calls Tryz.prog fid #[.pointer (some ⟨K.gm,0,none⟩),.pointer (some ⟨K.gf,0,none⟩),.agg #[.int .i64 (op : Int),.int .i64 na,.int .i64 nb,.int .i64 nc,.int .i64 nd]] W2.drew (ThP w0 K k t (mu t tk at') at')):=hcall
   clear hcall
   go_wp2_with fail
   go_region
   go_wp2_with fail
   clear hW2 c6 c9 c10 i0 i1 i2 i3 i4 z9
   go_region_with (refine (HCA.out).mono ?_; rintro e w3 ⟨gr,rfl,hlv⟩)
   all_goals
    have HLV : Hid (Calls Tryz.prog 130 #[.pointer (some ⟨K.gm,0,none⟩),.pointer (some ⟨K.gf,0,none⟩),.iface 142 (.pointer (some ⟨gr,0,none⟩))] w3 (GoP w0 K k t (mu t tk at') at')):=hlv
    clear hlv
    go_wp2_with fail
    refine (HLV.out).mono ?_
    rintro e w4 ⟨rfl,tk',nr',at2,ax,rs',gl',rv',gv',hx3,hp3,hmu⟩
    have c10 : w4.cell? ⟨K.gf,10,none⟩ = some (.int .i64 (at2 : Int)):=by rw [hx3.cal.cell 10 (by omega)]; rfl
    have c9 : w4.cell? ⟨K.gf,9,none⟩ = some (.int .i64 ax):=by rw [hx3.cal.cell 9 (by omega)]; rfl
    have z9:=blk_frozen hx3.cal
    have HX3 : Hid (TX w0 K (w4.setCell ⟨K.gf,9,none⟩ (.int .i64 (at2 : Int))) tk' nr' at2 at2 rs' gl' rv' gv'):=hx3.atW HOK.out _
    have HP3 : Hid (Ph k t at2 tk' nr' rs' gl'):=hp3
    have HMU : Hid (mu t tk' at2 < mu t tk at'):=hmu
    clear hx3 hp3 hmu
    go_wp2_with fail
    go_roundw
    case rel=>exact ⟨tk',nr',at2,_,rs',gl',rv',gv',HX3,HP3⟩
    case measure =>
     have h9 : (w4.setCell ⟨K.gf,9,none⟩ (.int .i64 (at2 : Int))).cell? ⟨K.gf,9,none⟩ = some (.int .i64 (at2 : Int)):=by rw [HX3.out.cal.cell 9 (by omega)]; rfl
     have h12 : (w4.setCell ⟨K.gf,9,none⟩ (.int .i64 (at2 : Int))).cell? ⟨K.gm,12,none⟩ = some (.int .i64 (tk' : Int)):=by rw [HX3.out.mac.cell]; rfl
     rw [h9,h12,HC9.out,HM12.out]
     simp only [Option.getD_some,intOf,Int.toNat_natCast]
     exact HMU.out
  ·have HCA : Hid (Calls Tryz.prog fid #[.pointer (some ⟨K.gm,0,none⟩),.pointer (some ⟨K.gf,0,none⟩),.agg #[.int .i64 (op : Int),.int .i64 na,.int .i64 nb,.int .i64 nc,.int .i64 nd]] W2.drew (OvP w0 K k t)):=hcall
   clear hcall
   go_wp2_with fail
   go_region
   go_wp2_with fail
   clear hW2 c6 c9 c10 i0 i1 i2 i3 i4 z9
   go_region_with (refine (HCA.out).mono ?_; rintro e w3 ⟨rfl,hov⟩)
   all_goals
    have HOV : Hid (∃ (tk nr : Nat) (ax nx : Int) (rs : List M.SD) (gl : List (Nat × Int)) (rv gv : Value),TX w0 K w3 tk nr ax nx rs gl rv gv∧Fin' k t tk nr):=hov
    have HLV : Hid (Calls Tryz.prog 130 #[.pointer (some ⟨K.gm,0,none⟩),.pointer (some ⟨K.gf,0,none⟩),.iface 484 (.pointer (some K.ov))] w3 fun e w'=>e = .returned (.iface 484 (.pointer (some K.ov)))∧w' = w3):=by
     obtain ⟨_,_,_,_,_,_,_,_,hx9,_⟩:=hov
     exact leave_over _ K.gf K.ov w3 (hx9.ov HOK.out)
    clear hov
    unfold ovI
    go_wp2_with fail
    refine (HLV.out).mono ?_
    rintro e w4 ⟨rfl,rfl⟩
    go_wp2_with fail
    go_ret
    exact ⟨rfl,HOV.out⟩
end Go.Proofs.YtjglgbepobmjhaaGreatDoor.T
