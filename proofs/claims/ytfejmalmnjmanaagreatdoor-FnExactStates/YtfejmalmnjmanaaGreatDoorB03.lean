import Derived.Test.YtfejmalmnjmanaaGreatDoorB02
import Derived.Test.YtfejmalmnjmanaaGreatDoorS05
import Derived.Test.YtfejmalmnjmanaaGreatDoorS04
import Derived.Test.YtfejmalmnjmanaaGreatDoorS02
import Derived.Test.YtfejmalmnjmanaaGreatDoorS01
import Derived.Test.YtfejmalmnjmanaaGreatDoorRows
import Derived.WalkKit
import Derived.WalkSpells
import Derived.WalkLawsBesides
import Derived.ProofKit
import Derived.OpenShut
import Derived.Below
import Derived.Laws.FloatArith
import Derived.Test.YtfejmalmnjmanaaGreatDoorS03
import Derived.Deep.RegionWith
import Derived.Deep.QuietTactic
import Derived.BigQuiet
set_option linter.unusedVariables false
set_option linter.unusedSimpArgs false
set_option maxRecDepth 20000
set_option maxHeartbeats 8000000
namespace Go.Proofs.YtfejmalmnjmanaaGreatDoor
open Go.RowKit
attribute [local go_sem] run_store_float
structure PR (w:World) (gP len:Nat) (ys:List FC):Prop where
 row:∃ ar,w.heap[gP]?=some (.cells ar 75)∧ar.size=len*9∧∀ i y,ys[i]?=some y→ar[i*9+5]?=some (.slice y.au y.d.ups.length y.cu)∧ar[i*9+6]?=some (.slice y.ac y.d.consts.length y.cc)∧ar[i*9+7]?=some (.slice y.ai y.d.ins.length y.ci)∧ar[i*9+8]?=some (.slice y.an y.d.named.length y.cn)
 u:∀ y∈ys,∃ g,gP<g∧y.au=some ⟨g,0,none⟩∧∃ ar,w.heap[g]?=some (.cells ar 124)∧ar.size=y.d.ups.length*2
 c:∀ y∈ys,∃ g,gP<g∧y.ac=some ⟨g,0,none⟩∧∃ ar,w.heap[g]?=some (.cells ar 121)∧ar.size=y.d.consts.length*5
 i:∀ y∈ys,∃ g,gP<g∧y.ai=some ⟨g,0,none⟩∧∃ ar,w.heap[g]?=some (.cells ar 77)∧ar.size=y.d.ins.length*5
 n:∀ y∈ys,∃ g,gP<g∧y.an=some ⟨g,0,none⟩∧∃ ar,w.heap[g]?=some (.cells ar 165)∧ar.size=y.d.named.length*4
theorem PR.lt {w:World}{gP len:Nat}{ys:List FC} (h:PR w gP len ys):gP<w.heap.size:=by
 obtain ⟨ar,h1,_⟩:=h.row
 exact blk_lt h1
theorem PR.later {w w':World}{gP len:Nat}{ys:List FC} (h:PR w gP len ys) (hb:Below w.heap.size w w'):PR w' gP len ys :=
 ⟨h.row.imp fun ar k=>⟨qBz hb k.1,k.2⟩,fun y hy=>(h.u y hy).imp fun g k=>⟨k.1,k.2.1,k.2.2.imp fun ar q=>⟨qBz hb q.1,q.2⟩⟩,fun y hy=>(h.c y hy).imp fun g k=>⟨k.1,k.2.1,k.2.2.imp fun ar q=>⟨qBz hb q.1,q.2⟩⟩,fun y hy=>(h.i y hy).imp fun g k=>⟨k.1,k.2.1,k.2.2.imp fun ar q=>⟨qBz hb q.1,q.2⟩⟩,fun y hy=>(h.n y hy).imp fun g k=>⟨k.1,k.2.1,k.2.2.imp fun ar q=>⟨qBz hb q.1,q.2⟩⟩⟩
theorem arr_keep {ar:Array Value}{i m j:Nat}{v x:Value} (hj:j<5) (q:Nat) (h5:5≤q) (h9:q<9) (h:ar[i*9+q]?=some x):(ar.setIfInBounds (m*9+j) v)[i*9+q]?=some x:=by
 rw[Array.getElem?_setIfInBounds,if_neg (by omega)];exact h
theorem PR.set {w:World}{gP len:Nat}{ys:List FC} (h:PR w gP len ys) (m j:Nat) (hj:j<5) (v:Value):PR (w.setCell ⟨gP,m*9+j,none⟩ v) gP len ys :=
 ⟨by
  obtain ⟨ar,h1,h2,h3⟩:=h.row
  refine ⟨_,qLz h1 (m*9+j) v,by simpa using h2,fun i y hy=>?_⟩
  obtain ⟨a,b,c,d⟩:=h3 i y hy
  exact ⟨arr_keep hj 5 (by omega) (by omega) a,arr_keep hj 6 (by omega) (by omega) b,arr_keep hj 7 (by omega) (by omega) c,arr_keep hj 8 (by omega) (by omega) d⟩,
  fun y hy=>(h.u y hy).imp fun g k=>⟨k.1,k.2.1,k.2.2.imp fun ar q=>⟨qFz q.1 (by have:=k.1;omega) _ _,q.2⟩⟩,fun y hy=>(h.c y hy).imp fun g k=>⟨k.1,k.2.1,k.2.2.imp fun ar q=>⟨qFz q.1 (by have:=k.1;omega) _ _,q.2⟩⟩,fun y hy=>(h.i y hy).imp fun g k=>⟨k.1,k.2.1,k.2.2.imp fun ar q=>⟨qFz q.1 (by have:=k.1;omega) _ _,q.2⟩⟩,fun y hy=>(h.n y hy).imp fun g k=>⟨k.1,k.2.1,k.2.2.imp fun ar q=>⟨qFz q.1 (by have:=k.1;omega) _ _,q.2⟩⟩⟩
theorem mr_list {w w':World}{g g' n n':Nat}{T T':TypeId} (hm:MR g T n w w') (hg:∃ ar,w.heap[g]?=some (.cells ar T)∧ar.size=n) (h:∃ ar,w.heap[g']?=some (.cells ar T')∧ar.size=n'):∃ ar,w'.heap[g']?=some (.cells ar T')∧ar.size=n':=by
 by_cases he:g'=g
 ·subst he
  obtain ⟨ar,h1,h2⟩:=hg
  obtain ⟨ar',h3,h4⟩:=h
  rw[h1] at h3
  cases h3
  rw[←h4,h2]
  exact hm.row
 ·obtain ⟨ar',h3,h4⟩:=h
  exact ⟨ar',(hm.block g' (blk_lt h3) he).trans h3,h4⟩
theorem PR.mr {w w':World}{gP len g n:Nat}{T:TypeId}{ys:List FC} (h:PR w gP len ys) (hm:MR g T n w w') (hne:gP<g) (hg:∃ ar,w.heap[g]?=some (.cells ar T)∧ar.size=n):PR w' gP len ys :=
 ⟨h.row.imp fun ar k=>⟨(hm.block gP h.lt (by omega)).trans k.1,k.2⟩,fun y hy=>(h.u y hy).imp fun q k=>⟨k.1,k.2.1,mr_list hm hg k.2.2⟩,fun y hy=>(h.c y hy).imp fun q k=>⟨k.1,k.2.1,mr_list hm hg k.2.2⟩,fun y hy=>(h.i y hy).imp fun q k=>⟨k.1,k.2.1,mr_list hm hg k.2.2⟩,fun y hy=>(h.n y hy).imp fun q k=>⟨k.1,k.2.1,mr_list hm hg k.2.2⟩⟩
abbrev FrT (t:TypeId):Prop:=t=3∨t=113∨t=58
structure Fr (lo:Nat) (w w':World):Prop where
 os:w'.os=w.os
 tape:w'.tape=w.tape
 output:w'.output=w.output
 size:w.heap.size≤w'.heap.size
 block:∀ j,j<w.heap.size→(j<lo∨∃ arr t fz,w.heap[j]?=some (.cells arr t fz)∧FrT t)→w'.heap[j]?=w.heap[j]?
theorem Fr.refl (lo:Nat) (w:World):Fr lo w w:=⟨rfl,rfl,rfl,Nat.le_refl _,fun _ _ _=>rfl⟩
theorem Fr.trans {lo:Nat}{w w1 w2:World} (h:Fr lo w w1) (h':Fr lo w1 w2):Fr lo w w2 :=
 ⟨h'.os.trans h.os,h'.tape.trans h.tape,h'.output.trans h.output,Nat.le_trans h.size h'.size,fun j hj hk=>by
  have e:=h.block j hj hk
  refine (h'.block j (Nat.lt_of_lt_of_le hj h.size) ?_).trans e
  rcases hk with hk|⟨arr,t,fz,hk,hFT⟩
  ·exact .inl hk
  ·exact .inr ⟨arr,t,fz,e.trans hk,hFT⟩⟩
theorem Fr.of_below {lo:Nat}{w w':World} (h:Below w.heap.size w w'):Fr lo w w':=⟨h.os,h.tape,h.output,h.size,fun j hj _=>h.block j hj⟩
theorem Fr.mr {lo g n:Nat}{T:TypeId}{w w':World} (hm:MR g T n w w') (hg:∃ ar,w.heap[g]?=some (.cells ar T)∧ar.size=n) (hlo:lo≤g) (hT:¬ FrT T):Fr lo w w' :=
 ⟨hm.os,hm.tape,hm.output,hm.size,fun j hj hk=>hm.block j hj (fun he=>by
  subst he
  rcases hk with hk|⟨arr,t,fz,hk,hFT⟩
  ·omega
  ·obtain ⟨ar,h1,_⟩:=hg
   rw[h1] at hk
   cases hk
   exact hT hFT)⟩
theorem Fr.set {lo gP:Nat}{w w':World}{ar:Array Value}{T:TypeId} (h:Fr lo w w') (hg:w'.heap[gP]?=some (.cells ar T)) (hT:¬ FrT T) (hlo:lo≤gP) (j:Nat) (v:Value):Fr lo w (w'.setCell ⟨gP,j,none⟩ v) :=
 h.trans ⟨rfl,rfl,rfl,by simp,fun q hq hk=>Below.heap_setCell _ _ _ _ (fun he=>by
  have he':q=gP:=he
  subst he'
  rcases hk with hk|⟨arr,t,fz,hk,hFT⟩
  ·omega
  ·rw[hg] at hk
   cases hk
   exact hT hFT)⟩
structure PF (w:World) (gP len:Nat) (ys:List FC) (w':World):Prop where
 r:PR w' gP len ys
 f:Fr gP w w'
theorem PF.set {w w':World}{gP len:Nat}{ys:List FC} (h:PF w gP len ys w') (m j:Nat) (hj:j<5) (v:Value):PF w gP len ys (w'.setCell ⟨gP,m*9+j,none⟩ v):=by
 obtain ⟨ar,h1,_⟩:=h.r.row
 exact ⟨h.r.set m j hj v,h.f.set h1 (by decide) (Nat.le_refl _) _ _⟩
theorem PF.later {w w1 w2:World}{gP len:Nat}{ys:List FC} (h:PF w gP len ys w1) (hb:Below w1.heap.size w1 w2):PF w gP len ys w2:=⟨h.r.later hb,h.f.trans (Fr.of_below hb)⟩
theorem PF.mr {w w1 w2:World}{gP len g n:Nat}{T:TypeId}{ys:List FC} (h:PF w gP len ys w1) (hm:MR g T n w1 w2) (hne:gP<g) (hg:∃ ar,w1.heap[g]?=some (.cells ar T)∧ar.size=n) (hT:¬ FrT T):PF w gP len ys w2 :=
 ⟨h.r.mr hm hne hg,h.f.trans (Fr.mr hm hg (by omega) hT)⟩
theorem PF.cell {w w':World}{gP len:Nat}{ys:List FC} (h:PF w gP len ys w') (j:Nat) (hj:j<len*9):∃ y,w'.cell? ⟨gP,j,none⟩=some y:=by
 obtain ⟨ar,h1,h2,_⟩:=h.r.row
 exact ⟨ar[j]'(by omega),by rw[qAz h1];simp⟩
theorem PF.froz {w w':World}{gP len:Nat}{ys:List FC} (h:PF w gP len ys w') (j:Nat):w'.frozen? ⟨gP,j,none⟩=false:=by
 obtain ⟨ar,h1,_⟩:=h.r.row
 exact qGz h1 j
theorem PF.heads {w w':World}{gP len:Nat}{ys:List FC} (h:PF w gP len ys w') {i:Nat}{y:FC} (hy:ys[i]?=some y):w'.cell? ⟨gP,i*9+5,none⟩=some (.slice y.au y.d.ups.length y.cu)∧w'.cell? ⟨gP,i*9+6,none⟩=some (.slice y.ac y.d.consts.length y.cc)∧w'.cell? ⟨gP,i*9+7,none⟩=some (.slice y.ai y.d.ins.length y.ci)∧w'.cell? ⟨gP,i*9+8,none⟩=some (.slice y.an y.d.named.length y.cn):=by
 obtain ⟨ar,h1,_,h3⟩:=h.r.row
 obtain ⟨a,b,c,d⟩:=h3 i y hy
 exact ⟨(qAz h1 _).trans a,(qAz h1 _).trans b,(qAz h1 _).trans c,(qAz h1 _).trans d⟩
theorem markUpS_int (g len cap n:Nat) (z:Int) (T:TypeId) (w:World) (hg:∃ ar,w.heap[g]?=some (.cells ar T)∧ar.size=n) (hs:len*2≤n) (hlen:len≤1048576) (h0:0<z) (hk:z≤30000000000000) :
  Calls Tryz.prog 52 #[.slice (some ⟨g,0,none⟩) len cap,.int .i64 z] w fun e w'=>e=.returned (.int .i64 (z+2*(len:Int)))∧MR g T n w w':=by
 obtain ⟨k0,rfl⟩:∃ k0:Nat,z=(k0:Int):=⟨z.toNat,by omega⟩
 refine (markUpS_mr g len cap n k0 T w hg hs hlen (by omega) (by omega)).mono fun e w' h=>⟨h.1.trans ?_,h.2⟩
 congr 2
theorem markValueS_int (g len cap n:Nat) (z:Int) (T:TypeId) (w:World) (hg:∃ ar,w.heap[g]?=some (.cells ar T)∧ar.size=n) (hs:len*5≤n) (hlen:len≤1048576) (h0:0<z) (hk:z≤30000000000000) :
  Calls Tryz.prog 53 #[.slice (some ⟨g,0,none⟩) len cap,.int .i64 z] w fun e w'=>e=.returned (.int .i64 (z+5*(len:Int)))∧MR g T n w w':=by
 obtain ⟨k0,rfl⟩:∃ k0:Nat,z=(k0:Int):=⟨z.toNat,by omega⟩
 refine (markValueS_mr g len cap n k0 T w hg hs hlen (by omega) (by omega)).mono fun e w' h=>⟨h.1.trans ?_,h.2⟩
 congr 2
theorem markInsS_int (g len cap n:Nat) (z:Int) (T:TypeId) (w:World) (hg:∃ ar,w.heap[g]?=some (.cells ar T)∧ar.size=n) (hs:len*5≤n) (hlen:len≤1048576) (h0:0<z) (hk:z≤30000000000000) :
  Calls Tryz.prog 54 #[.slice (some ⟨g,0,none⟩) len cap,.int .i64 z] w fun e w'=>e=.returned (.int .i64 (z+5*(len:Int)))∧MR g T n w w':=by
 obtain ⟨k0,rfl⟩:∃ k0:Nat,z=(k0:Int):=⟨z.toNat,by omega⟩
 refine (markInsS_mr g len cap n k0 T w hg hs hlen (by omega) (by omega)).mono fun e w' h=>⟨h.1.trans ?_,h.2⟩
 congr 2
theorem markNamedS_int (g len cap n:Nat) (z:Int) (T:TypeId) (w:World) (hg:∃ ar,w.heap[g]?=some (.cells ar T)∧ar.size=n) (hs:len*4≤n) (hlen:len≤1048576) (h0:0<z) (hk:z≤30000000000000) :
  Calls Tryz.prog 55 #[.slice (some ⟨g,0,none⟩) len cap,.int .i64 z] w fun e w'=>e=.returned (.int .i64 (z+4*(len:Int)))∧MR g T n w w':=by
 obtain ⟨k0,rfl⟩:∃ k0:Nat,z=(k0:Int):=⟨z.toNat,by omega⟩
 refine (markNamedS_mr g len cap n k0 T w hg hs hlen (by omega) (by omega)).mono fun e w' h=>⟨h.1.trans ?_,h.2⟩
 congr 2
theorem markUpS_pf {w w1:World}{gP len:Nat}{ys:List FC}{y:FC} (h:PF w gP len ys w1) (hy:y∈ys) (g:Nat) (ha:y.au=some ⟨g,0,none⟩) (n cap:Nat) (hn:n=y.d.ups.length) (hlen:n≤1048576) (z:Int) (h0:0<z) (hk:z≤30000000000000) :
  Calls Tryz.prog 52 #[.slice (some ⟨g,0,none⟩) n cap,.int .i64 z] w1 fun e w'=>e=.returned (.int .i64 (z+2*(n:Int)))∧PF w gP len ys w':=by
 obtain ⟨g',hg,ha',hr⟩:=h.r.u y hy
 rw[ha] at ha'
 cases ha'
 exact (markUpS_int g n cap _ z _ w1 hr (by rw[hn];exact Nat.le_refl _) hlen h0 hk).mono fun e w' q=>⟨q.1,h.mr q.2 hg hr (by decide)⟩
theorem markValueS_pf {w w1:World}{gP len:Nat}{ys:List FC}{y:FC} (h:PF w gP len ys w1) (hy:y∈ys) (g:Nat) (ha:y.ac=some ⟨g,0,none⟩) (n cap:Nat) (hn:n=y.d.consts.length) (hlen:n≤1048576) (z:Int) (h0:0<z) (hk:z≤30000000000000) :
  Calls Tryz.prog 53 #[.slice (some ⟨g,0,none⟩) n cap,.int .i64 z] w1 fun e w'=>e=.returned (.int .i64 (z+5*(n:Int)))∧PF w gP len ys w':=by
 obtain ⟨g',hg,ha',hr⟩:=h.r.c y hy
 rw[ha] at ha'
 cases ha'
 exact (markValueS_int g n cap _ z _ w1 hr (by rw[hn];exact Nat.le_refl _) hlen h0 hk).mono fun e w' q=>⟨q.1,h.mr q.2 hg hr (by decide)⟩
theorem markInsS_pf {w w1:World}{gP len:Nat}{ys:List FC}{y:FC} (h:PF w gP len ys w1) (hy:y∈ys) (g:Nat) (ha:y.ai=some ⟨g,0,none⟩) (n cap:Nat) (hn:n=y.d.ins.length) (hlen:n≤1048576) (z:Int) (h0:0<z) (hk:z≤30000000000000) :
  Calls Tryz.prog 54 #[.slice (some ⟨g,0,none⟩) n cap,.int .i64 z] w1 fun e w'=>e=.returned (.int .i64 (z+5*(n:Int)))∧PF w gP len ys w':=by
 obtain ⟨g',hg,ha',hr⟩:=h.r.i y hy
 rw[ha] at ha'
 cases ha'
 exact (markInsS_int g n cap _ z _ w1 hr (by rw[hn];exact Nat.le_refl _) hlen h0 hk).mono fun e w' q=>⟨q.1,h.mr q.2 hg hr (by decide)⟩
theorem markNamedS_pf {w w1:World}{gP len:Nat}{ys:List FC}{y:FC} (h:PF w gP len ys w1) (hy:y∈ys) (g:Nat) (ha:y.an=some ⟨g,0,none⟩) (n cap:Nat) (hn:n=y.d.named.length) (hlen:n≤1048576) (z:Int) (h0:0<z) (hk:z≤30000000000000) :
  Calls Tryz.prog 55 #[.slice (some ⟨g,0,none⟩) n cap,.int .i64 z] w1 fun e w'=>e=.returned (.int .i64 (z+4*(n:Int)))∧PF w gP len ys w':=by
 obtain ⟨g',hg,ha',hr⟩:=h.r.n y hy
 rw[ha] at ha'
 cases ha'
 exact (markNamedS_int g n cap _ z _ w1 hr (by rw[hn];exact Nat.le_refl _) hlen h0 hk).mono fun e w' q=>⟨q.1,h.mr q.2 hg hr (by decide)⟩
theorem PF.five {w w':World}{gP len:Nat}{ys:List FC} (h:PF w gP len ys w') (m:Nat) (v0 v1 v2 v3 v4:Value):PF w gP len ys (((((w'.setCell ⟨gP,m*9,none⟩ v0).setCell ⟨gP,m*9+1,none⟩ v1).setCell ⟨gP,m*9+2,none⟩ v2).setCell ⟨gP,m*9+3,none⟩ v3).setCell ⟨gP,m*9+4,none⟩ v4) :=
 ((((h.set m 0 (by omega) v0).set m 1 (by omega) v1).set m 2 (by omega) v2).set m 3 (by omega) v3).set m 4 (by omega) v4
theorem markProtoS_any (gP len cap:Nat) (ys:List FC) (w:World) (h:PR w gP len ys) (hl:ys.length=len) (hlen:len≤1048576) (hok:∀ y∈ys,y.d.ok) :
  Calls Tryz.prog 26 #[.slice (some ⟨gP,0,none⟩) len cap,.int .i64 1] w fun e w'=>(∃ k:Int,0≤k∧e=.returned (.int .i64 k))∧Fr gP w w':=by
 have HL:Hid (ys.length=len):=hl
 have HO:Hid (∀ y∈ys,y.d.ok):=hok
 have H0:Hid (PF w gP len ys w):=⟨h,Fr.refl _ _⟩
 clear h hl hok
 go_enter Tryz.func26,Tryz.ntmps26
 go_wp2_with fail
 go_loopw [1,5] (fun kk ii wr=>∃ (m:Nat) (K:Int),m≤len∧ii=.int .i64 m∧kk=.int .i64 K∧0<K∧K≤1+(m:Int)*16777221∧Hid (PF w gP len ys wr)) (fun _ ii _=>len-(intOf ii).toNat)
 case atStart=>exact ⟨0,1,Nat.zero_le _,rfl,rfl,by omega,by omega,H0⟩
 case round =>
  clear H0
  obtain ⟨m,K,hm,rfl,rfl,hK0,hK1,HM⟩:=hrel
  by_cases k1:m<len
  ·obtain ⟨y,hy⟩:∃ y,ys[m]?=some y:=⟨ys[m]'(by rw[HL.out];exact k1),by simp⟩
   have hmem:=List.mem_of_getElem? hy
   have ok:=HO.out y hmem
   obtain ⟨b1,b2,b3,b4⟩:=(⟨ok.lu,ok.lc,ok.li,ok.ln⟩:_∧_∧_∧_)
   have HY:Hid (ys[m]?=some y):=hy
   have HMEM:Hid (y∈ys):=hmem
   clear hy hmem ok
   obtain ⟨nu,hnu⟩:∃ n,n=y.d.ups.length:=⟨_,rfl⟩
   obtain ⟨nc,hnc⟩:∃ n,n=y.d.consts.length:=⟨_,rfl⟩
   obtain ⟨ni,hni⟩:∃ n,n=y.d.ins.length:=⟨_,rfl⟩
   obtain ⟨nn,hnn⟩:∃ n,n=y.d.named.length:=⟨_,rfl⟩
   have HN:Hid (nu=y.d.ups.length∧nc=y.d.consts.length∧ni=y.d.ins.length∧nn=y.d.named.length):=⟨hnu,hnc,hni,hnn⟩
   rw[←hnu] at b1
   rw[←hnc] at b2
   rw[←hni] at b3
   rw[←hnn] at b4
   clear hnu hnc hni hnn
   go_wp2_with fail
   refine (mtx_int _ _ (by omega) (by omega)).mono ?_
   rintro e w1 ⟨⟨s1,rfl⟩,hx⟩
   have HM1:Hid (PF w gP len ys w1):=HM.out.later hx
   clear hx HM
   obtain ⟨y0,e0⟩:∃ q,w1.cell? ⟨gP,m*9,none⟩=some q:=HM1.out.cell _ (by omega)
   obtain ⟨y1,e1⟩:∃ q,w1.cell? ⟨gP,m*9+1,none⟩=some q:=HM1.out.cell _ (by omega)
   obtain ⟨y2,e2⟩:∃ q,w1.cell? ⟨gP,m*9+2,none⟩=some q:=HM1.out.cell _ (by omega)
   obtain ⟨y3,e3⟩:∃ q,w1.cell? ⟨gP,m*9+3,none⟩=some q:=HM1.out.cell _ (by omega)
   obtain ⟨y4,e4⟩:∃ q,w1.cell? ⟨gP,m*9+4,none⟩=some q:=HM1.out.cell _ (by omega)
   have z1:=HM1.out.froz
   obtain ⟨e5,_,_,_⟩:=HM1.out.heads HY.out
   obtain ⟨g1,hg1,ha1,_⟩:=HM1.out.r.u y HMEM.out
   rw[ha1,← HN.out.1] at e5
   go_wp2_with fail
   refine (markUpS_pf (HM1.out.five m _ _ _ _ _) HMEM.out g1 ha1 nu y.cu HN.out.1 b1 _ (by omega) (by omega)).mono ?_
   rintro e w2 ⟨rfl,hp⟩
   have HM2:Hid (PF w gP len ys w2):=hp
   clear hp e0 e1 e2 e3 e4 z1 e5 HM1 hg1 ha1
   obtain ⟨_,e6,_,_⟩:=HM2.out.heads HY.out
   obtain ⟨g2,_,ha2,_⟩:=HM2.out.r.c y HMEM.out
   rw[ha2,← HN.out.2.1] at e6
   go_wp2_with fail
   refine (markValueS_pf HM2.out HMEM.out g2 ha2 nc y.cc HN.out.2.1 b2 _ (by omega) (by omega)).mono ?_
   rintro e w3 ⟨rfl,hp⟩
   have HM3:Hid (PF w gP len ys w3):=hp
   clear hp e6 HM2 ha2
   obtain ⟨_,_,e7,_⟩:=HM3.out.heads HY.out
   obtain ⟨g3,_,ha3,_⟩:=HM3.out.r.i y HMEM.out
   rw[ha3,← HN.out.2.2.1] at e7
   go_wp2_with fail
   refine (markInsS_pf HM3.out HMEM.out g3 ha3 ni y.ci HN.out.2.2.1 b3 _ (by omega) (by omega)).mono ?_
   rintro e w4 ⟨rfl,hp⟩
   have HM4:Hid (PF w gP len ys w4):=hp
   clear hp e7 HM3 ha3
   obtain ⟨_,_,_,e8⟩:=HM4.out.heads HY.out
   obtain ⟨g4,_,ha4,_⟩:=HM4.out.r.n y HMEM.out
   rw[ha4,← HN.out.2.2.2] at e8
   go_wp2_with fail
   refine (markNamedS_pf HM4.out HMEM.out g4 ha4 nn y.cn HN.out.2.2.2 b4 _ (by omega) (by omega)).mono ?_
   rintro e w5 ⟨rfl,hp⟩
   have HM5:Hid (PF w gP len ys w5):=hp
   clear hp e8 HM4 ha4
   go_wp2_with fail
   go_roundw
   case rel=>exact ⟨m+1,_,by omega,by go_num,rfl,by omega,by omega,HM5⟩
   case measure=>simp[intOf];omega
  ·go_wp2_with fail
   go_ret
   exact ⟨⟨K,by omega,rfl⟩,HM.out.f⟩
theorem markCode_any (gP len cap:Nat) (ys:List FC) (w:World) (h:PR w gP len ys) (hl:ys.length=len) (hlen:len≤1048576) (hok:∀ y∈ys,y.d.ok) :
  Calls Tryz.prog 14 #[.agg #[.slice (some ⟨gP,0,none⟩) len cap],.int .i64 1] w fun e w'=>(∃ k:Int,0≤k∧e=.returned (.int .i64 k))∧Fr gP w w':=by
 have hy:=bw1 w (CO (.slice (some ⟨gP,0,none⟩) len cap))
 have HM:Hid (Calls _ _ _ _ _):=markProtoS_any gP len cap ys _ (h.later hy) hl hlen hok
 clear h hl hok
 go_enter Tryz.func14,Tryz.ntmps14
 go_wp2_with fail
 refine Calls.mono (show Calls _ _ _ _ _ from HM.out) ?_
 rintro e w2 ⟨⟨k,hk,rfl⟩,hf⟩
 go_wp2_with fail
 go_ret
 exact ⟨⟨k,hk,rfl⟩,(Fr.of_below hy).trans hf⟩
theorem PR.of {w:World}{g len:Nat}{ys:List FC} (hr:RowG w g 9 75 FC.cells ys) (ho:∀ y∈ys,y.own (g+1) w) (hl:ys.length=len):PR w g len ys:=by
 refine ⟨?_,fun y hy=>?_,fun y hy=>?_,fun y hy=>?_,fun y hy=>?_⟩
 ·obtain ⟨ar,h1,h2,h3⟩:=hr
  refine ⟨ar,h1,by rw[h2,hl],fun i y hy=>?_⟩
  have hi:=(List.getElem?_eq_some_iff.1 hy).1
  exact ⟨h3 i y hi hy 5 _ rfl,h3 i y hi hy 6 _ rfl,h3 i y hi hy 7 _ rfl,h3 i y hi hy 8 _ rfl⟩
 ·obtain ⟨g',hg,ha,ar,h1,h2,_⟩:=(ho y hy).u
  exact ⟨g',by omega,ha,ar,h1,h2⟩
 ·obtain ⟨g',hg,ha,ar,h1,h2,_⟩:=(ho y hy).c
  exact ⟨g',by omega,ha,ar,h1,h2⟩
 ·obtain ⟨g',hg,ha,ar,h1,h2,_⟩:=(ho y hy).i
  exact ⟨g',by omega,ha,ar,h1,h2⟩
 ·obtain ⟨g',hg,ha,ar,h1,h2,_⟩:=(ho y hy).n
  exact ⟨g',by omega,ha,ar,h1,h2⟩
attribute [local go_sem] run_store_float
theorem toc_own (a:Option Addr) (len cap:Nat) (xs:List FC) (w:World) (H0:CodeAt w a xs) (hl:xs.length=len) :
  Calls Tryz.prog 7 #[.agg #[.slice a len cap]] w fun e w'=>(∃ g ys,e=.returned (.agg #[.slice (some ⟨g,0,none⟩) len len])∧ys.map FC.d=xs.map FC.d∧CodeAt w' (some ⟨g,0,none⟩) ys∧w.heap.size≤g∧RowG w' g 9 75 FC.cells ys∧∀ y∈ys,y.own (g+1) w')∧Below w.heap.size w w':=by
 have H:Hid (CodeAt w a xs):=H0
 have hlen:len≤1048576:=by rw[←hl];exact H0.len
 have HL:Hid (xs.length=len):=hl
 clear H0 hl
 have hy:=bw3 w (.cells #[.slice a len cap] 24) (CO (.slice none 0 0)) (CO (.slice none 0 0))
 have hz1:(((w.alloc (.cells #[.slice a len cap] 24)).alloc (CO (.slice none 0 0))).alloc (CO (.slice none 0 0))).heap[w.heap.size+1]?=some (CO (.slice none 0 0)):=qIz (qNz (by simp) _) _
 have hz2:(((w.alloc (.cells #[.slice a len cap] 24)).alloc (CO (.slice none 0 0))).alloc (CO (.slice none 0 0))).heap[w.heap.size+1+1]?=some (CO (.slice none 0 0)):=qNz (by simp) _
 obtain ⟨g,hg⟩:∃ g,g=(((w.alloc (.cells #[.slice a len cap] 24)).alloc (CO (.slice none 0 0))).alloc (CO (.slice none 0 0))).heap.size:=⟨_,rfl⟩
 have hg3:w.heap.size+3=g:=by rw[hg];simp
 go_enter Tryz.func7,Tryz.ntmps7
 go_wp2_with fail
 refine (tops_any a len cap xs _ HL.out (H.out.row.later hy) (fun x hx=>(H.out.lie x hx).later hy) H.out.ok hlen).mono ?_
 rw[←hg]
 rintro e w1 ⟨rfl,hx,ys,hd,hR,hO⟩
 rw[hg] at hx
 have B1:=qBz hx hz1
 have B2:=qBz hx hz2
 have hB:=hy.trans (hx.mono hy.size)
 have HD:Hid (ys.map FC.d=xs.map FC.d):=hd
 have HR:Hid (RowG w1 g 9 75 FC.cells ys):=hR
 have HO:Hid (∀ y∈ys,y.own (g+1) w1):=hO
 have HG:Hid (w.heap.size+3=g):=hg3
 have s0:w1.cell? ⟨w.heap.size+1,0,none⟩=some (.slice none 0 0):=by rw[qAz B1];rfl
 have o0:w1.cell? ⟨w.heap.size+1+1,0,none⟩=some (.slice none 0 0):=by rw[qAz B2];rfl
 have z1:=qGz B1
 have z2:=qGz B2
 clear hx hy hz1 hz2 B1 B2 hg hg3 hd hR hO
 go_wp2_with fail
 refine bodyPost_ret (v:=.agg #[.slice (some ⟨g,0,none⟩) len len]) (by simp[results,Tryz.results7,go_sem,s0]) rfl ⟨⟨g,ys,rfl,HD.out,?_,?_,?_,?_⟩,?_⟩
 ·have hgg:=HG.out
  refine code_of HD.out (RowG.set (RowG.set HR.out (by omega) _ _) (by omega) _ _) (fun y hy=>((HO.out y hy).set (q:=w.heap.size+1+1) (by omega) _ _).set (q:=w.heap.size+1) (by omega) _ _) H.out.ok (by rw[HL.out];exact hlen) H.out.all
 ·have hgg:=HG.out;omega
 ·have hgg:=HG.out
  exact RowG.set (RowG.set HR.out (by omega) _ _) (by omega) _ _
 ·have hgg:=HG.out
  exact fun y hy=>((HO.out y hy).set (q:=w.heap.size+1+1) (by omega) _ _).set (q:=w.heap.size+1) (by omega) _ _
 ·exact (hB.setCell (p:=⟨w.heap.size+1+1,0,none⟩) (by simp;omega) _).setCell (p:=⟨w.heap.size+1,0,none⟩) (by simp) _
theorem StA.fr {w w':World}{B gS lo:Nat}{zs:List SR} (h:StA w B gS zs) (hf:Fr lo w w'):StA w' B gS zs :=
 h.keep (hf.block gS (blk_lt h.blk) (.inr ⟨_,_,_,h.blk,.inr (.inr rfl)⟩)) (fun j arr _ hj=>hf.block j (blk_lt hj) (.inr ⟨_,_,_,hj,.inl rfl⟩)) (fun j arr _ hj=>hf.block j (blk_lt hj) (.inr ⟨_,_,_,hj,.inr (.inl rfl)⟩))
theorem runs_wok {c:List FD}{ins:List ID}{nR nI:Nat} (hi:∀ n∈ins,InsOk nR nI n) (hl:ins.length=nI):∀ {k:Nat}{s s':WkS},WOk nR nI s→Runs c ins k s (.ok s')→WOk nR nI s'
 | 0,s,s',hw,h=>by
  rcases h with ⟨_,h⟩|⟨a,e',h1,h2,h3⟩
  ·cases h;exact hw
  ·cases h3
 | k+1,s,s',hw,h=>by
  obtain ⟨a,s1,h1,h2,h3⟩:=h
  have ha:a<ins.length:=by have:=(List.getElem?_eq_some_iff.1 h1.1).1;have:=hw.l2;omega
  exact runs_wok hi hl (passW_ok hi ha hw h2) h3
def StQ (c:List FD) (q:Int):Option (Nat × List (Option SD))→Prop
 | none=>∃ r,CkR c r∧(r.1≠0∨q<0∨(c.length:Int)≤q)
 | some (n,ss)=>∃ r,CkR c r∧r.1=0∧∃ (p:Nat) (d:FD) (k:Nat) (s:WkS),q=p∧c[p]?=some d∧Runs c d.ins k (startS d) (.ok s)∧d.ins.length=n∧s.st=ss
theorem StQ.no {c:List FD}{q:Int}{n:Nat}{ss:List (Option SD)} (h:StQ c q none) (h':StQ c q (some (n,ss))):False:=by
 obtain ⟨r,hr,h1⟩:=h
 obtain ⟨r',hr',h2,p,d,k,s,h3,h4,_⟩:=h'
 cases CkR.uniq hr hr'
 have:=(List.getElem?_eq_some_iff.1 h4).1
 rcases h1 with h1|h1|h1
 ·exact h1 h2
 ·omega
 ·omega
theorem StQ.uniq {c:List FD}{q:Int}{o o':Option (Nat × List (Option SD))} (h:StQ c q o) (h':StQ c q o'):o=o':=by
 cases o with
 | none=>cases o' with
  | none=>rfl
  | some y=>exact absurd h' (fun h'=>h.no h')
 | some x=>cases o' with
  | none=>exact absurd h (fun h=>h'.no h)
  | some y =>
   obtain ⟨n,ss⟩:=x
   obtain ⟨n',ss'⟩:=y
   obtain ⟨r,_,_,p,d,k,s,h3,h4,h5,h6,h7⟩:=h
   obtain ⟨r',_,_,p',d',k',s',g3,g4,g5,g6,g7⟩:=h'
   obtain rfl:p=p':=by omega
   rw[h4] at g4
   cases g4
   obtain ⟨e,_⟩:=Runs.uniq h5 g5
   cases e
   rw[←h6,← h7,← g6,← g7]
def BD (n:Nat) (ss:List (Option SD)):Prop:=n≤6000∧ss.length=n∧∀ o∈ss,(tsO o).length≤1048576∧(gsO o).length≤1048576
structure Ans (w:World) (B C gS:Nat) (ss:List (Option SD)):Prop where
 ex:∃ zs,StA w B gS zs∧zs.map SR.o=ss∧∀ z∈zs,(∀ g,z.tv.ownBlock=some g→g<C)∧∀ g,z.gv.ownBlock=some g→g<C
 lt:gS<C
theorem Ans.later {w w':World}{B C gS:Nat}{ss:List (Option SD)} (h:Ans w B C gS ss) (hb:Below w.heap.size w w'):Ans w' B C gS ss:=by
 obtain ⟨⟨zs,h1,h2⟩,h3⟩:=h
 exact ⟨⟨zs,h1.later hb,h2⟩,h3⟩
theorem Ans.fr {w w':World}{B C gS lo:Nat}{ss:List (Option SD)} (h:Ans w B C gS ss) (hf:Fr lo w w'):Ans w' B C gS ss:=by
 obtain ⟨⟨zs,h1,h2⟩,h3⟩:=h
 exact ⟨⟨zs,h1.fr hf,h2⟩,h3⟩
theorem ORow.keepC {α:Type}{w w':World}{B C:Nat}{et:TypeId}{k:Nat}{cells:α→List Value}{sv:Value}{xs:List α} (h:ORow w B et k cells sv xs) (hg:∀ g,sv.ownBlock=some g→g<C) (hb:Below C w w'):ORow w' B et k cells sv xs:=by
 obtain ⟨h1,h2⟩:=h
 refine ⟨h1,?_⟩
 rcases h2 with h2|⟨g',cap,cur,rfl,e2,e3,e4⟩
 ·exact .inl h2
 ·exact .inr ⟨g',cap,cur,rfl,e2,(hb.block g' (hg g' rfl)).trans e3,e4⟩
theorem Ans.below {w w':World}{B C C' gS:Nat}{ss:List (Option SD)} (h:Ans w B C gS ss) (hC:C≤C') (hb:Below C' w w'):Ans w' B C gS ss:=by
 obtain ⟨⟨zs,h1,h2,h3⟩,h4⟩:=h
 refine ⟨⟨zs,⟨(hb.block gS (by omega)).trans h1.blk,fun z hz=>?_,h1.ap⟩,h2,h3⟩,h4⟩
 have hz1:=h1.ok z hz
 have hz3:=h3 z hz
 unfold SR.ok at hz1 ⊢
 split at hz1
 ·exact hz1
 ·exact ⟨hz1.1.keepC (fun g hg=>Nat.lt_of_lt_of_le (hz3.1 g hg) hC) hb,hz1.2.keepC (fun g hg=>Nat.lt_of_lt_of_le (hz3.2 g hg) hC) hb⟩
theorem StA.ans {w:World}{B gS:Nat}{zs:List SR} (h:StA w B gS zs):Ans w B w.heap.size gS (zs.map SR.o):=by
 refine ⟨⟨zs,h,rfl,fun z hz=>?_⟩,blk_lt h.blk⟩
 have hz1:=h.ok z hz
 unfold SR.ok at hz1
 split at hz1
 ·exact ⟨fun g hg=>(by rw[hz1.1] at hg;cases hg),fun g hg=>(by rw[hz1.2] at hg;cases hg)⟩
 ·exact ⟨fun g hg=>(hz1.1.own_lt hg).2,fun g hg=>(hz1.2.own_lt hg).2⟩
def AnsV (w:World) (B C:Nat) (sv:Value):Option (Nat × List (Option SD))→Prop
 | none=>sv=.slice none 0 0
 | some (n,ss)=>∃ gS,sv=.slice (some ⟨gS,0,none⟩) n n∧B≤gS∧BD n ss∧Ans w B C gS ss
theorem AnsV.later {w w':World}{B C:Nat}{sv:Value}{o:Option (Nat × List (Option SD))} (h:AnsV w B C sv o) (hb:Below w.heap.size w w'):AnsV w' B C sv o:=by
 match o,h with
 | none,h=>exact h
 | some (n,ss),h=>obtain ⟨gS,h1,h2,h3,h4⟩:=h;exact ⟨gS,h1,h2,h3,h4.later hb⟩
theorem AnsV.fr {w w':World}{B C lo:Nat}{sv:Value}{o:Option (Nat × List (Option SD))} (h:AnsV w B C sv o) (hf:Fr lo w w'):AnsV w' B C sv o:=by
 match o,h with
 | none,h=>exact h
 | some (n,ss),h=>obtain ⟨gS,h1,h2,h3,h4⟩:=h;exact ⟨gS,h1,h2,h3,h4.fr hf⟩
theorem AnsV.below {w w':World}{B C C':Nat}{sv:Value}{o:Option (Nat × List (Option SD))} (h:AnsV w B C sv o) (hC:C≤C') (hb:Below C' w w'):AnsV w' B C sv o:=by
 match o,h with
 | none,h=>exact h
 | some (n,ss),h=>obtain ⟨gS,h1,h2,h3,h4⟩:=h;exact ⟨gS,h1,h2,h3,h4.below hC hb⟩
theorem ans_of {ys:List FC}{c:List FD}{q:Int}{B:Nat}{e:Ending}{w:World} (h:StP ys q B e w) (hc:ys.map FC.d=c):∃ o sv,StQ c q o∧e=.returned sv∧AnsV w B w.heap.size sv o:=by
 subst hc
 obtain ⟨r,hr,h⟩:=h
 rcases h with ⟨h1,rfl⟩|⟨h1,p,f,k,s,gS,zs,hq,hp,hR,rfl,hA,hB,hm⟩
 ·exact ⟨none,_,⟨r,hr,by simpa using h1⟩,rfl,rfl⟩
 ·have hf:=prok_of (ckr_none hr h1).1 hp
  have hw:=runs_wok hf.ok hf.ins (startS_ok hf) hR
  have hA':=hA.ans
  rw[hm] at hA'
  refine ⟨some (f.d.ins.length,s.st),_,⟨r,hr,h1,p,f.d,k,s,hq,by rw[List.getElem?_map,hp];rfl,hR,rfl,rfl⟩,rfl,gS,rfl,hB,⟨hf.ins1,hw.l1,fun o ho=>?_⟩,hA'⟩
  cases o with
  | none=>exact ⟨by simp[tsO],by simp[gsO]⟩
  | some x =>
   obtain ⟨i,hi⟩:=List.getElem?_of_mem ho
   have h2:=hw.ok i x hi
   have h3:=h2.1
   have h4:=h2.2.1
   have h5:=hf.reg1
   exact ⟨by show x.ts.length≤_;omega,by show x.gs.length≤_;omega⟩
theorem sst_any (a:Option Addr) (len cap:Nat) (ys:List FC) (c:List FD) (q:Int) (w:World) (H0:CodeAt w a ys) (hl:ys.length=len) (hc:ys.map FC.d=c) :
  Calls Tryz.prog 11 #[.agg #[.slice a len cap],.int .i64 q] w fun e w'=>(∃ o sv,StQ c q o∧e=.returned sv∧AnsV w' w.heap.size w'.heap.size sv o)∧Below w.heap.size w w' :=
 (sstates_any a len cap ys q w H0 hl).mono fun e w' h=>⟨ans_of h.1 hc,h.2⟩
theorem ist_any (a:Option Addr) (len cap:Nat) (ys:List FC) (c:List FD) (q:Int) (o:Option (Nat × List (Option SD))) (w:World) (H0:CodeAt w a ys) (hl:ys.length=len) (hc:ys.map FC.d=c) (hlay:LayAt w) (ho:StQ c q o) :
  Calls Tryz.prog 12 #[.agg #[.slice a len cap],.int .i64 q] w fun e w'=>(∃ sv,e=.returned sv∧AnsV w' w.heap.size w'.heap.size sv o)∧Below w.heap.size w w':=by
 refine (istates_any a len cap ys q w H0 hl hlay).mono fun e w' h=>⟨?_,h.2⟩
 obtain ⟨o',sv,h1,h2,h3⟩:=ans_of h.1 hc
 cases h1.uniq ho
 exact ⟨sv,h2,h3⟩
theorem eqans_any (B B' C C':Nat) (sv sv':Value) (o:Option (Nat × List (Option SD))) (w:World) (h:AnsV w B C sv o) (h':AnsV w B' C' sv' o) :
  Calls Tryz.prog 13 #[sv,sv'] w fun e w'=>e=.returned (.bool true)∧Below w.heap.size w w':=by
 match o,h,h' with
 | none,h,h'=>rw[show sv=.slice none 0 0 from h,show sv'=.slice none 0 0 from h'];exact eqss_nil w
 | some (n,ss),h,h' =>
  obtain ⟨gS,rfl,_,⟨b1,b2,b3⟩,⟨zs,h1,h2,_⟩,_⟩:=h
  obtain ⟨gS',rfl,_,_,⟨zs',g1,g2,_⟩,_⟩:=h'
  refine eqss_any B B' gS gS' n zs zs' w h1 g1 (by rw[←b2,← h2];simp) (h2.trans g2.symm) b1 (fun z hz=>b3 _ ?_)
  rw[←h2]
  exact List.mem_map.2 ⟨z,hz,rfl⟩
def MkV (w:World) (B:Nat) (sv:Value) (K:Int):Prop:=(sv=.slice none 0 0∧K=1)∨∃ gS n zs ys,sv=.slice (some ⟨gS,0,none⟩) n n∧n≤6000∧MkA w B gS ys∧Mkd 1 zs ys n∧zs.length=n∧(∀ z∈zs,z.ts.length≤1048576∧z.gs.length≤1048576)∧K=((kn 1 zs n:Nat):Int)
theorem MkV.later {w w':World}{B:Nat}{sv:Value}{K:Int} (h:MkV w B sv K) (hb:Below w.heap.size w w'):MkV w' B sv K:=by
 rcases h with h|⟨gS,n,zs,ys,h1,h2,h3,h4⟩
 ·exact .inl h
 ·exact .inr ⟨gS,n,zs,ys,h1,h2,h3.later hb,h4⟩
theorem mkv_any (B C:Nat) (sv:Value) (o:Option (Nat × List (Option SD))) (w:World) (h:AnsV w B C sv o) (hBw:B≤w.heap.size) :
  Calls Tryz.prog 15 #[sv,.int .i64 1] w fun e w'=>(∃ K:Int,0≤K∧e=.returned (.int .i64 K)∧MkV w' B sv K)∧Below B w w':=by
 match o,h with
 | none,h =>
  rw[show sv=.slice none 0 0 from h]
  refine (mks_nil 1 w).mono ?_
  rintro e w' ⟨rfl,hb⟩
  exact ⟨⟨_,by omega,rfl,.inl ⟨rfl,rfl⟩⟩,hb.mono hBw⟩
 | some (n,ss),h =>
  obtain ⟨gS,rfl,hB,⟨b1,b2,b3⟩,⟨zs,h1,h2,_⟩,_⟩:=h
  have hn:(zs.map SR.mk').length=n:=by rw[←b2,← h2];simp
  have hbd:∀ z∈zs.map SR.mk',z.ts.length≤1048576∧z.gs.length≤1048576:=fun y hy=>by
   obtain ⟨z,hz,rfl⟩:=List.mem_map.1 hy
   exact b3 z.o (by rw[←h2];exact List.mem_map.2 ⟨z,hz,rfl⟩)
  refine (mks_any B 1 gS n (zs.map SR.mk') w h1.mkA hB hBw hn b1 hbd (by omega) (by omega)).mono ?_
  rintro e w' ⟨ys,rfl,g1,g2,g3⟩
  exact ⟨⟨_,by omega,rfl,.inr ⟨gS,n,_,ys,rfl,b1,g1,g2,hn,hbd,rfl⟩⟩,g3⟩
theorem hdv_any (B:Nat) (sv:Value) (K:Int) (w:World) (h:MkV w B sv K) :
  Calls Tryz.prog 16 #[sv,.int .i64 1] w fun e w'=>e=.returned (.int .i64 K)∧Below w.heap.size w w':=by
 rcases h with ⟨rfl,rfl⟩|⟨gS,n,zs,ys,rfl,h1,h2,h3,h4,h5,rfl⟩
 ·exact hds_nil 1 w
 ·exact hds_any B 1 gS n zs ys w h2 h3 h4 h1 h5 (by omega) (by omega)
end Go.Proofs.YtfejmalmnjmanaaGreatDoor
