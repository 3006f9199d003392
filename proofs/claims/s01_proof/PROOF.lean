import PyProof.Rows.All
import Wide.All
import OpenK.AllK
import Wide.FinOn
import PyProof.EqAt
import PyProof.EqKinds
import PyProof.TupleCall
import KE.BitLaws
import Open.SpecLaws
import KE.OsHead
import KE.OsGo
import KE.KMinKey
import KE.KTurns
import KE.KNestM
import KE.KLam
import PyWqazcp
import PySem.Challenge.RW_lifthouse_s01_answers
set_option Elab.async false
set_option linter.all false
set_option maxRecDepth 100000
namespace HD
open PySem PySem.W PyProof.Rows
set_option maxHeartbeats 0
def nn (s:Stmt):Bool:=match s with
  | .Assign [PySem.Expr.Name n _] _ _=>n != "__name__"
  | _=>true
abbrev pw:=PySem.Challenge.pw_lifthouse_s01_answers
def Q:Program:={ pw with main:={ pw.main with body:=pw.main.body.filter nn } }
noncomputable def topRunT (den:Code→Sem Fin) (p:Program) (w:World) (n₀:Nat) (ann:Option Value):Nat→SharedT→Thread→Option SharedT
  | 0,_,_=>none
  | n + 1,s,t=>match through t with
    | true=>some s
    | false=>match PySem.W.Fast.tw6613529449190102663 n₀ ann t with
      | false=>none
      | true=>match PySem.W.Fast.tw10156331382660048174 den p w s t with
        | some (s',t')=>topRunT den p w n₀ ann n s' t'
        | none=>none
theorem topRunT_of {tb:String→Option Builtin} {p:Program} {w:World} {n₀:Nat} {ann:Option Value}:∀ {n:Nat} {s s':SharedT} {t:Thread},topRunT (denote tb) p w n₀ ann n s t = some s'→topRun tb p w n₀ ann n s.abs t = some s'.abs
  | 0,_,_,_,h=>by cases h
  | n + 1,s,s',t,h=>by
    unfold topRunT at h
    rw [← PySem.W.Fast.te6613529449190102663,← PySem.W.Fast.te10156331382660048174] at h
    unfold topRun
    cases he:through t with
    | true=>rw [he] at h; cases h; rfl
    | false =>
      rw [he] at h
      cases hk:stepOk n₀ ann t with
      | false=>rw [hk] at h; cases h
      | true =>
        rw [hk] at h
        cases hs:stepT (denote tb) p w s t with
        | none=>rw [hs] at h; cases h
        | some r=>obtain ⟨s₂,t₂⟩:=r; rw [hs] at h; rw [stepT_spec hs]; exact topRunT_of h
noncomputable def S0 (w:World) (os:OsState):SharedT:=⟨(boot_heap w.params).objs.toList.zipIdx.foldl (fun T x=>T.ins x.2 x.1) .nil,11,(boot_heap w.params).life,Array.mk [],boot_drawn,boot_toks,os⟩
theorem S0_abs (w:World) (os:OsState):(S0 w os).abs = ⟨boot_heap w.params,Array.mk [],boot_drawn,boot_toks,os⟩:=by kernel_rfl
noncomputable def RR (w:World) (os:OsState):Option SharedT:=topRunT (PySem.W.Fast.tw11892475500146522536 PySem.W.Fast.tw14364793385576792824) pw w 11 (some (.ref 6)) 6382 (S0 w os) (topStub pw)
noncomputable def F (w:World) (os:OsState):SharedT:=(RR w os).getD (S0 w os)
theorem run0 (w:World) (os:OsState):(RR w os).isSome = true:=by kernel_rfl
theorem run1 (w:World) (os:OsState):topRun treeTable pw w 11 (some (.ref 6)) 6382 ⟨boot_heap w.params,Array.mk [],boot_drawn,boot_toks,os⟩ (topStub pw) = some (F w os).abs:=by
  rw [← S0_abs]
  refine topRunT_of ?_
  obtain ⟨s,h⟩:=Option.isSome_iff_exists.mp (run0 w os)
  have e:F w os = s:=by unfold F; rw [h]; rfl
  rw [e,← h]
  unfold RR
  rw [PySem.W.Fast.te11892475500146522536,PySem.W.Fast.te14364793385576792824]
theorem sz (w:World):((boot_heap w.params).isNs mainGlobals && (Array.mk ([]:List GenState)).size == 0,(boot_heap w.params).objs.size,(boot_heap w.params).nsMap mainGlobals "__annotations__") = (true,11,some (.ref 6)):=by kernel_rfl
theorem look (w:World) (os:OsState):(staticsOk (importedModules pw.main.body) (boot_heap w.params) (F w os).abs.heap && namesBound pw (F w os).abs.heap && gensDone (F w os).abs && laidKept (boot_heap w.params) (F w os).abs.heap) = true:=by kernel_rfl
def Xt (s:Shared):Bool:=xlAt Q [] s && recOk [] s
noncomputable def sn (w:World) (os:OsState):=PySem.W.Fast.tw4187177175401517315 Q [] (importedModules pw.main.body) Xt true (F w os).abs
theorem l0 (w:World) (os:OsState):(sn w os).1 = expectedOf Q:=by kernel_rfl
theorem l1 (w:World) (os:OsState):(sn w os).2.1 = bltViewBooted:=by kernel_rfl
theorem l2 (w:World) (os:OsState):(sn w os).2.2.1 = true:=by kernel_rfl
theorem l3 (w:World) (os:OsState):(sn w os).2.2.2.1 = true:=by kernel_rfl
theorem l4 (w:World) (os:OsState):(sn w os).2.2.2.2.1 = pinGoodD (drecsOf Q):=by kernel_rfl
theorem l5 (w:World) (os:OsState):(sn w os).2.2.2.2.2.1 = plainGoodE Q (looseW Q []):=by kernel_rfl
theorem l6 (w:World) (os:OsState):(sn w os).2.2.2.2.2.2.1 = plainGoodD Q []:=by kernel_rfl
theorem l7 (w:World) (os:OsState):(sn w os).2.2.2.2.2.2.2.1 = wideGood Q:=by kernel_rfl
theorem l8 (w:World) (os:OsState):(sn w os).2.2.2.2.2.2.2.2 = clsGoodW Q []:=by kernel_rfl
theorem ext9 {A B C D E F G H I:Type} {x:A × B × C × D × E × F × G × H × I} {a b c d e f g h i} (h0:x.1 = a) (h1:x.2.1 = b) (h2:x.2.2.1 = c) (h3:x.2.2.2.1 = d) (h4:x.2.2.2.2.1 = e) (h5:x.2.2.2.2.2.1 = f) (h6:x.2.2.2.2.2.2.1 = g) (h7:x.2.2.2.2.2.2.2.1 = h) (h8:x.2.2.2.2.2.2.2.2 = i):x = (a,b,c,d,e,f,g,h,i):=by
  subst h0 h1 h2 h3 h4 h5 h6 h7 h8; rfl
theorem sn_eq (w:World) (os:OsState):openSeen Q [] (importedModules pw.main.body) Xt true (F w os).abs = sn w os:=by
  unfold sn
  rw [PySem.W.Fast.te4187177175401517315]
theorem left_of {p q:Program} {loose:List Str} {Xt:Shared→Bool} {α:Type} {Yf:Shared→α} {Ya:World→α} {N n:Nat} {ann:Option Value} {H0:Params→Heap} {g0:Array GenState} {d0:Drawn} {k0:Nat} {F:World→OsState→SharedT}
    (op:∀ w:World,(fencedOpening treeTable p w N).map (fun s=>(s.heap,s.gens,s.drawn,s.toks)) = some (H0 w.params,g0,d0,k0))
    (size:∀ w:World,((H0 w.params).isNs mainGlobals && g0.size == 0,(H0 w.params).objs.size,(H0 w.params).nsMap mainGlobals "__annotations__") = (true,n,ann))
    (run:∀ (w:World) (os:OsState),topRun treeTable p w n ann N ⟨H0 w.params,g0,d0,k0,os⟩ (topStub p) = some (F w os).abs)
    (look:∀ (w:World) (os:OsState),(staticsOk (importedModules p.main.body) (H0 w.params) (F w os).abs.heap && namesBound p (F w os).abs.heap && gensDone (F w os).abs && laidKept (H0 w.params) (F w os).abs.heap) = true)
    (seen:∀ (w:World) (os:OsState),openSeen q loose (importedModules p.main.body) Xt true (F w os).abs = openGood q loose)
    (yf:∀ (w:World) (os:OsState),Yf (F w os).abs = Ya w):LeftO p q loose Xt Yf Ya N:=fun w=>by
  obtain ⟨⟨h,gs,d,k,os⟩,e,e'⟩:=Option.map_eq_some_iff.mp (op w)
  obtain ⟨rfl,rfl,rfl,rfl⟩:h = H0 w.params∧gs = g0∧d = d0∧k = k0:=by simpa using e'
  obtain ⟨z1,z2,z3⟩:_∧_∧_:=by simpa only [Prod.mk.injEq] using size w
  have t:topFrom treeTable p w N ⟨H0 w.params,gs,d,k,os⟩ = some (F w os).abs:=by
    unfold topFrom
    dsimp only
    rw [z1,z2,z3,run w os]
    show (match staticsOk (importedModules p.main.body) (H0 w.params) (F w os).abs.heap && namesBound p (F w os).abs.heap && gensDone (F w os).abs && laidKept (H0 w.params) (F w os).abs.heap with | true=>_ | false=>_) = _
    rw [look w os]
  unfold openEnds
  rw [e]
  show Option.map _ (topFrom treeTable p w N ⟨H0 w.params,gs,d,k,os⟩) = _
  rw [t]
  show some (openSeen q loose (importedModules p.main.body) Xt true (F w os).abs,Yf (F w os).abs) = _
  rw [seen w os,yf w os]
theorem seenA (w:World) (os:OsState):sn w os = (expectedOf Q,bltViewBooted,true,true,pinGoodD (drecsOf Q),plainGoodE Q (looseW Q []),plainGoodD Q [],wideGood Q,clsGoodW Q []) :=
  ext9 (l0 w os) (l1 w os) (l2 w os) (l3 w os) (l4 w os) (l5 w os) (l6 w os) (l7 w os) (l8 w os)
theorem seenB:openGood Q [] = (expectedOf Q,bltViewBooted,true,true,pinGoodD (drecsOf Q),plainGoodE Q (looseW Q []),plainGoodD Q [],wideGood Q,clsGoodW Q []):=by unfold openGood; rfl
theorem seen (w:World) (os:OsState):openSeen Q [] (importedModules pw.main.body) Xt true (F w os).abs = openGood Q []:=(sn_eq w os).trans ((seenA w os).trans seenB.symm)
def Yf (s:Shared):Prop:=∃ w os,s.heap = (F w os).abs.heap
def YP (_:World) (h:Heap):Prop:=∃ w os,∀ b o,(F w os).abs.heap.get? b = some o→h.get? b = some o
theorem op (w:World):(fencedOpening treeTable pw w 6382).map (fun s=>(s.heap,s.gens,s.drawn,s.toks)) = some (boot_heap w.params,Array.mk [],boot_drawn,boot_toks):=boot_open (p:=pw) (N:=6382) (by kernel_rfl) (by decide) (fun s=>by kernel_rfl) w
theorem left:LeftO pw Q [] Xt Yf (fun _=>True) 6382:=left_of op sz run1 look seen fun w os=>eq_true ⟨w,os,rfl⟩
end HD
namespace LM
open Lf
structure yE (h:House):Prop where
  fl:2 ≤ h.floors
  flm:h.floors ≤ 32
  cr:1 ≤ h.cars
  crm:h.cars ≤ 6
  sp:1 ≤ h.speed
  op:1 ≤ h.open_
  st:1 ≤ h.stand
  cl:1 ≤ h.close
  rm:1 ≤ h.room
  rmm:h.room ≤ 40
  spm:h.speed ≤ 60
theorem houseOk_of {h:House} (e:h.right = true):yE h:=by
  unfold House.right FLOORS CARS at e
  simp only [List.all_cons,List.all_nil,Bool.and_true,Bool.and_eq_true,decide_eq_true_eq] at e
  obtain ⟨a,b,c,d,⟨⟨x1,x2⟩,⟨y1,y2⟩,⟨z1,z2⟩,u1,u2⟩,f,g⟩:=e
  exact ⟨a,b,c,d,x1,y1,z1,u1,f,g,x2⟩
structure xJ (c:Car):Prop where
  dir:c.dir ≤ 2
  does_:c.does_ ≤ 4
  left:2 ≤ c.does_→1 ≤ c.left
  rest:c.dir = 0→c.pressed = []
  cd:∀ x ∈ c.calls,x.2 = 1∨x.2 = 2
theorem xJ.first:xJ Car.first:=⟨Nat.zero_le _,Nat.zero_le _,fun h=>absurd h (by decide),fun _=>rfl,fun _ h=>by cases h⟩
theorem xJ.call {c:Car} (k:xJ c) {x:Nat × Nat} (hx:x.2 = 1∨x.2 = 2):xJ { c with calls:=c.calls ++ [x] }:=⟨k.dir,k.does_,k.left,k.rest,fun y hy=>by
  rcases List.mem_append.mp hy with a | a
  · exact k.cd y a
  · cases List.mem_singleton.mp a
    exact hx⟩
theorem mod_succ {p s:Nat} (h:p % s + 1 < s):(p + 1) % s = p % s + 1:=by
  have e:=Nat.div_add_mod p s
  have:p + 1 = (p % s + 1) + s * (p / s):=by omega
  rw [this,Nat.add_mul_mod_self_left,Nat.mod_eq_of_lt h]
theorem mod_pred {p s:Nat} (h:1 ≤ p % s) (hs:1 ≤ s):(p - 1) % s = p % s - 1:=by
  have e:=Nat.div_add_mod p s
  have l:=Nat.mod_lt p hs
  have:p - 1 = (p % s - 1) + s * (p / s):=by omega
  rw [this,Nat.add_mul_mod_self_left,Nat.mod_eq_of_lt (by omega)]
def quiet (h:House) (c:Car):Nat :=
  if 2 ≤ c.does_ then c.left - 1
  else if c.pos % h.speed ≠ 0 then (if c.dir = 1 then h.speed - c.pos % h.speed else c.pos % h.speed)
  else if c.does_ = 0∧c.dir = 0∧c.stops = [] then 1000000
  else 0
def zAT (h:House) (c:Car) (k:Nat):Car :=
  if 2 ≤ c.does_ then { c with left:=c.left - k }
  else if c.pos % h.speed ≠ 0 then { c with does_:=1,pos:=if c.dir = 1 then c.pos + k else c.pos - k }
  else c
def iter (h:House):Nat→Car→Car
  | 0,c=>c
  | n + 1,c=>iter h n (c.alone h)
theorem zHP (h:House):∀ (m n:Nat) (c:Car),iter h (m + n) c = iter h n (iter h m c)
  | 0,n,c=>by rw [Nat.zero_add]; rfl
  | m + 1,n,c=>by
    rw [show m + 1 + n = (m + n) + 1 by omega]
    show iter h (m + n) (c.alone h) = iter h n (iter h m (c.alone h))
    exact zHP h m n _
theorem iter_succ (h:House) (n:Nat) (c:Car):iter h (n + 1) c = (iter h n c).alone h:=zHP h n 1 c
theorem zIR {h:House} {c:Car}:c.level h = true↔c.pos % h.speed = 0:=by
  unfold Car.level
  simp
theorem zCM {h:House} {c:Car}:c.level h = false↔c.pos % h.speed ≠ 0:=by
  unfold Car.level
  simp
theorem zCI {h:House} {c:Car} (hh:yE h) (ok:xJ c) (q:1 ≤ quiet h c):c.alone h = zAT h c 1∧quiet h c - 1 ≤ quiet h (zAT h c 1):=by
  unfold quiet at q
  by_cases d:2 ≤ c.does_
  · rw [if_pos d] at q
    have e1:c.alone h = zAT h c 1:=by
      unfold Car.alone zAT
      rw [if_neg (by omega),if_pos (by omega),if_pos d]
    refine ⟨e1,?_⟩
    have e2:zAT h c 1 = { c with left:=c.left - 1 }:=by unfold zAT; rw [if_pos d]
    rw [e2]
    unfold quiet
    rw [if_pos d,if_pos d]
    show c.left - 1 - 1 ≤ c.left - 1 - 1
    exact Nat.le_refl _
  · rw [if_neg d] at q
    have hn:c.alone h = c.next h:=by unfold Car.alone; rw [if_pos (by omega)]
    by_cases l:c.pos % h.speed ≠ 0
    · rw [if_pos l] at q
      have e1:c.alone h = zAT h c 1:=by
        rw [hn]
        unfold Car.next zAT
        rw [if_pos (zCM.mpr l),if_neg d,if_pos l]
        rfl
      refine ⟨e1,?_⟩
      have e2:zAT h c 1 = { c with does_:=1,pos:=if c.dir = 1 then c.pos + 1 else c.pos - 1 }:=by unfold zAT; rw [if_neg d,if_pos l]
      rw [e2]
      have lt:=Nat.mod_lt c.pos hh.sp
      have e3:quiet h c = if c.dir = 1 then h.speed - c.pos % h.speed else c.pos % h.speed:=by unfold quiet; rw [if_neg d,if_pos l]
      rw [e3]
      by_cases u:c.dir = 1
      · rw [if_pos u] at q ⊢
        by_cases z:c.pos % h.speed + 1 < h.speed
        · have m:=mod_succ z
          unfold quiet
          simp only [u,if_true]
          rw [if_neg (by omega),if_pos (by rw [m]; omega),m]
          omega
        · omega
      · rw [if_neg u] at q ⊢
        by_cases z:c.pos % h.speed = 1
        · omega
        · have m:=mod_pred q hh.sp
          unfold quiet
          simp only [u,if_false]
          rw [if_neg (by omega),if_pos (by rw [m]; omega),m]
          exact Nat.le_refl _
    · rw [if_neg l] at q
      by_cases z:c.does_ = 0∧c.dir = 0∧c.stops = []
      · have e1:zAT h c 1 = c:=by unfold zAT; rw [if_neg d,if_neg l]
        refine ⟨?_,by rw [e1]; omega⟩
        rw [hn,e1]
        unfold Car.next
        rw [if_neg (by rw [zCM]; exact l),if_pos (by rw [z.2.2]; rfl)]
        obtain ⟨z1,z2,_⟩:=z
        cases c
        simp only at z1 z2
        subst z1 z2
        rfl
      · rw [if_neg z] at q
        omega
theorem pass_pass {h:House} {c:Car} (hh:yE h) {k:Nat} (k1:1 ≤ k) (q:k + 1 ≤ quiet h c):zAT h (zAT h c 1) k = zAT h c (k + 1):=by
  unfold quiet at q
  by_cases d:2 ≤ c.does_
  · have e2:zAT h c 1 = { c with left:=c.left - 1 }:=by unfold zAT; rw [if_pos d]
    rw [e2]
    unfold zAT
    rw [if_pos d,if_pos d]
    show ({ c with left:=c.left - 1 - k }:Car) = _
    rw [show c.left - 1 - k = c.left - (k + 1) by omega]
  · rw [if_neg d] at q
    by_cases l:c.pos % h.speed ≠ 0
    · rw [if_pos l] at q
      have lt:=Nat.mod_lt c.pos hh.sp
      have e2:zAT h c 1 = { c with does_:=1,pos:=if c.dir = 1 then c.pos + 1 else c.pos - 1 }:=by unfold zAT; rw [if_neg d,if_pos l]
      rw [e2]
      by_cases u:c.dir = 1
      · rw [if_pos u] at q
        have m:=mod_succ (p:=c.pos) (s:=h.speed) (by omega)
        unfold zAT
        simp only [u,if_true]
        rw [if_neg (by omega),if_pos (by rw [m]; omega),if_neg d,if_pos l,show c.pos + 1 + k = c.pos + (k + 1) by omega]
      · rw [if_neg u] at q
        have m:=mod_pred (p:=c.pos) (s:=h.speed) (by omega) hh.sp
        unfold zAT
        simp only [u,if_false]
        rw [if_neg (by omega),if_pos (by rw [m]; omega),if_neg d,if_pos l,show c.pos - 1 - k = c.pos - (k + 1) by omega]
    · have e1:∀ j,zAT h c j = c:=fun j=>by unfold zAT; rw [if_neg d,if_neg l]
      rw [e1,e1,e1]
theorem pass_ok {h:House} {c:Car} (ok:xJ c) {k:Nat} (q:k ≤ quiet h c):xJ (zAT h c k):=by
  unfold zAT
  unfold quiet at q
  by_cases d:2 ≤ c.does_
  · rw [if_pos d] at q ⊢
    have:=ok.left d
    exact ⟨ok.dir,ok.does_,fun _=>by show 1 ≤ c.left - k; omega,ok.rest,ok.cd⟩
  · rw [if_neg d]
    by_cases l:c.pos % h.speed ≠ 0
    · rw [if_pos l]
      exact ⟨ok.dir,(by decide:1 ≤ 4),fun z=>absurd z (show ¬ 2 ≤ 1 by decide),ok.rest,ok.cd⟩
    · rw [if_neg l]
      exact ok
theorem pass_calls (h:House) (c:Car) (k:Nat):(zAT h c k).calls = c.calls:=by
  unfold zAT; split; rfl; split <;> rfl
theorem zG5 (h:House) (c:Car) (k:Nat):(zAT h c k).pressed = c.pressed:=by
  unfold zAT; split; rfl; split <;> rfl
theorem zIG (h:House) (c:Car) (k:Nat):(zAT h c k).inside = c.inside:=by
  unfold zAT; split; rfl; split <;> rfl
theorem zB1 {h:House} (hh:yE h):∀ (k:Nat) {c:Car},xJ c→1 ≤ k→k ≤ quiet h c→iter h k c = zAT h c k
  | 0,_,_,k1,_=>absurd k1 (by decide)
  | 1,c,ok,_,q=>(zCI hh ok q).1
  | k + 2,c,ok,_,q=>by
    have ⟨a,b⟩:=zCI hh ok (by omega)
    show iter h (k + 1) (c.alone h) = _
    rw [a,zB1 hh (k + 1) (pass_ok ok (by omega)) (by omega) (by omega),pass_pass hh (by omega) (by omega)]
theorem quiet_iter_lt {h:House} (hh:yE h) {c:Car} (ok:xJ c) {j k:Nat} (jk:j < k) (q:k ≤ quiet h c):(iter h j c).calls = c.calls∧(iter h j c).pressed = c.pressed∧(iter h j c).inside = c.inside∧xJ (iter h j c)∧1 ≤ quiet h (iter h j c):=by
  rcases Nat.eq_zero_or_pos j with z | p
  · subst z
    exact ⟨rfl,rfl,rfl,ok,by show 1 ≤ quiet h c; omega⟩
  · rw [zB1 hh j ok p (by omega)]
    refine ⟨pass_calls _ _ _,zG5 _ _ _,zIG _ _ _,pass_ok ok (by omega),?_⟩
    have gen:∀ (j:Nat) {c:Car},xJ c→1 ≤ j→j ≤ quiet h c→quiet h c - j ≤ quiet h (zAT h c j):=by
      intro j
      induction j with
      | zero=>intro c _ a _; exact absurd a (by decide)
      | succ j ih =>
        intro c ok _ q
        have ⟨a,b⟩:=zCI hh ok (by omega)
        rcases Nat.eq_zero_or_pos j with z | p
        · subst z; exact b
        · rw [← pass_pass hh p q]
          have q1:1 ≤ quiet h c:=Nat.le_trans (Nat.le_add_left 1 j) q
          have:=ih (pass_ok ok (k:=1) q1) p (by omega)
          omega
    have:=gen j ok p (by omega)
    omega
theorem zF0 {h:House} {c:Car}:c.ahead h 1 = true↔∃ x ∈ c.stops,c.floor h < x:=by
  unfold Car.ahead
  rw [List.any_eq_true]
  simp
theorem zB5 {h:House} {c:Car}:c.ahead h 2 = true↔∃ x ∈ c.stops,x < c.floor h:=by
  unfold Car.ahead
  rw [List.any_eq_true]
  simp
theorem zFC {c:Car} {x:Nat} (h:x ∈ c.pressed):x ∈ c.stops:=by
  unfold Car.stops
  exact List.mem_append_left _ h
theorem zEO {c:Car} {x:Nat} (h:x ∈ c.stops):x ∈ c.pressed∨∃ d,(x,d) ∈ c.calls:=by
  unfold Car.stops at h
  rcases List.mem_append.mp h with a | a
  · exact .inl a
  · obtain ⟨⟨u,v⟩,hu,rfl⟩:=List.mem_map.mp a
    exact .inr ⟨v,hu⟩
def qE (f x y:Nat):Prop:=distance x f < distance y f∨(distance x f = distance y f∧y ≤ x)
theorem qE.refl (f x:Nat):qE f x x:=.inr ⟨rfl,Nat.le_refl _⟩
theorem qE.trans {f x y z:Nat} (a:qE f x y) (b:qE f y z):qE f x z:=by
  unfold qE at *; omega
theorem qE.eq {f x y:Nat} (a:qE f x y) (b:qE f y x):x = y:=by
  unfold qE at *; omega
def nearF (f:Nat):Option Nat→Nat→Option Nat:=fun (o:Option Nat) (x:Nat)=>match o with
  | none=>some x
  | some g=>if distance x f < distance g f∨(distance x f = distance g f∧g < x) then some x else some g
theorem zFS (f:Nat):∀ (l:List Nat) (g:Nat),∃ m,l.foldl (nearF f) (some g) = some m∧(m = g∨m ∈ l)∧qE f m g∧∀ x ∈ l,qE f m x
  | [],g=>⟨g,rfl,.inl rfl,qE.refl _ _,fun _ h=>by cases h⟩
  | y :: l,g=>by
    show ∃ m,l.foldl (nearF f) (nearF f (some g) y) = some m∧_
    by_cases q:distance y f < distance g f∨(distance y f = distance g f∧g < y)
    · have e:nearF f (some g) y = some y:=by unfold nearF; exact if_pos q
      rw [e]
      obtain ⟨m,h1,h2,h3,h4⟩:=zFS f l y
      refine ⟨m,h1,?_,h3.trans (by unfold qE; omega),fun x hx=>?_⟩
      · rcases h2 with rfl | h2
        · exact .inr (List.mem_cons_self ..)
        · exact .inr (List.mem_cons_of_mem _ h2)
      · rcases List.mem_cons.mp hx with rfl | hx
        · exact h3
        · exact h4 x hx
    · have e:nearF f (some g) y = some g:=by unfold nearF; exact if_neg q
      rw [e]
      obtain ⟨m,h1,h2,h3,h4⟩:=zFS f l g
      refine ⟨m,h1,?_,h3,fun x hx=>?_⟩
      · rcases h2 with rfl | h2
        · exact .inl rfl
        · exact .inr (List.mem_cons_of_mem _ h2)
      · rcases List.mem_cons.mp hx with rfl | hx
        · exact h3.trans (by unfold qE; omega)
        · exact h4 x hx
theorem towards_fold (h:House) (c:Car):c.towards h = match c.stops.foldl (nearF (c.floor h)) none with
  | none=>0
  | some f=>if c.floor h < f then 1 else 2:=rfl
theorem zGX {h:House} {c:Car} {m:Nat} (hm:m ∈ c.stops) (hn:∀ x ∈ c.stops,qE (c.floor h) m x):c.towards h = if c.floor h < m then 1 else 2:=by
  rw [towards_fold]
  cases e:c.stops with
  | nil=>rw [e] at hm; cases hm
  | cons y l =>
    rw [e] at hm hn
    obtain ⟨k,h1,h2,h3,h4⟩:=zFS (c.floor h) l y
    have e1:(y :: l).foldl (nearF (c.floor h)) none = some k:=h1
    rw [e1]
    have hk:k ∈ y :: l:=by
      rcases h2 with rfl | h2
      · exact List.mem_cons_self ..
      · exact List.mem_cons_of_mem _ h2
    have hkm:qE (c.floor h) k m:=by
      rcases List.mem_cons.mp hm with rfl | hm
      · exact h3
      · exact h4 m hm
    have:k = m:=hkm.eq (hn k hk)
    subst this
    rfl
theorem zC5 {h:House} {c:Car} (hs:c.stops ≠ []):∃ m ∈ c.stops,(∀ x ∈ c.stops,qE (c.floor h) m x)∧c.towards h = if c.floor h < m then 1 else 2:=by
  cases e:c.stops with
  | nil=>exact absurd e hs
  | cons y l =>
    obtain ⟨k,h1,h2,h3,h4⟩:=zFS (c.floor h) l y
    have hk:k ∈ y :: l:=by
      rcases h2 with rfl | h2
      · exact List.mem_cons_self ..
      · exact List.mem_cons_of_mem _ h2
    have hn:∀ x ∈ y :: l,qE (c.floor h) k x:=fun x hx=>by
      rcases List.mem_cons.mp hx with rfl | hx
      · exact h3
      · exact h4 x hx
    refine ⟨k,hk,hn,?_⟩
    exact zGX (by rw [e]; exact hk) (by rw [e]; exact hn)
theorem towards_12 {h:House} {c:Car} (hs:c.stops ≠ []):c.towards h = 1∨c.towards h = 2:=by
  obtain ⟨m,_,_,e⟩:=zC5 (h:=h) hs
  rw [e]
  split
  · exact .inl rfl
  · exact .inr rfl
theorem zA5 {c:Car} (ok:xJ c):c.dir = 0∨c.dir = 1∨c.dir = 2:=by have:=ok.dir; omega
theorem zAL {c:Car}:c.stops.isEmpty = true↔c.stops = []:=List.isEmpty_iff
theorem serves_le {h:House} {c:Car} (ok:xJ c):c.serves h ≤ 2:=by
  unfold Car.serves
  rcases zA5 ok with e | e | e <;> rw [e] <;> simp only [other] <;> (repeat' split) <;> omega
theorem serves_zero {h:House} {c:Car} (ok:xJ c) (z:c.serves h = 0):∀ x ∈ c.pressed,x = c.floor h:=by
  intro x hx
  have hs:=zFC hx
  by_cases u:c.ahead h 1 = true
  · unfold Car.serves at z
    rcases zA5 ok with e | e | e <;> simp [e,other,u] at z <;> (repeat' (split at z)) <;> simp_all
  · by_cases d:c.ahead h 2 = true
    · unfold Car.serves at z
      rcases zA5 ok with e | e | e <;> simp [e,other,u,d] at z <;> (repeat' (split at z)) <;> simp_all
    · rw [zF0] at u
      rw [zB5] at d
      have a:¬ c.floor h < x:=fun q=>u ⟨x,hs,q⟩
      have b:¬ x < c.floor h:=fun q=>d ⟨x,hs,q⟩
      omega
theorem opened_ok {h:House} {c:Car} (hh:yE h) (ok:xJ c):xJ (c.opened h):=by
  refine ⟨serves_le ok,(by decide:2 ≤ 4),fun _=>hh.op,fun z=>?_,fun x hx=>ok.cd x (List.mem_filter.mp hx).1⟩
  show c.pressed.filter (fun x=>x != c.floor h) = []
  rw [List.filter_eq_nil_iff]
  intro x hx
  have:=serves_zero ok z x hx
  simp [this]
theorem zHO {c:Car} (ok:xJ c) {d:Nat} (hd:d ≤ 2) (h0:d = 0→c.pressed = []):xJ (c.moved d) :=
  ⟨hd,(by decide:1 ≤ 4),fun z=>absurd z (show ¬ 2 ≤ 1 by decide),h0,ok.cd⟩
theorem next_ok {h:House} {c:Car} (hh:yE h) (ok:xJ c) (cl:c.does_ ≤ 1):xJ (c.next h):=by
  unfold Car.next
  split
  · exact zHO ok ok.dir ok.rest
  · split
    · rename_i e
      have e:=zAL.mp e
      refine ⟨Nat.zero_le _,Nat.zero_le _,fun z=>absurd z (show ¬ 2 ≤ 0 by decide),fun _=>?_,ok.cd⟩
      exact (List.append_eq_nil_iff.mp e).1
    · rename_i e
      have hs:c.stops ≠ []:=fun q=>e (zAL.mpr q)
      split
      · exact opened_ok hh ok
      · split
        · rename_i q
          exact zHO ok ok.dir fun z=>absurd z q.1
        · split
          · rename_i q
            have:=zA5 ok
            refine zHO ok (by rcases this with a | a | a <;> rw [a] <;> decide) fun z=>?_
            rcases this with a | a | a
            · exact absurd a q.1
            · rw [a] at z; exact absurd z (by decide)
            · rw [a] at z; exact absurd z (by decide)
          · have:=towards_12 (h:=h) hs
            exact zHO ok (by omega) fun z=>by omega
theorem alone_ok {h:House} {c:Car} (hh:yE h) (ok:xJ c):xJ (c.alone h):=by
  unfold Car.alone
  split
  · rename_i d
    exact next_ok hh ok d
  · rename_i d
    split
    · rename_i l
      exact ⟨ok.dir,ok.does_,fun _=>by show 1 ≤ c.left - 1; omega,ok.rest,ok.cd⟩
    · split
      · exact ⟨ok.dir,(by decide:3 ≤ 4),fun _=>hh.st,ok.rest,ok.cd⟩
      · split
        · exact ⟨ok.dir,(by decide:4 ≤ 4),fun _=>hh.cl,ok.rest,ok.cd⟩
        · exact ⟨ok.dir,(by decide:0 ≤ 4),fun z=>absurd z (show ¬ 2 ≤ 0 by decide),ok.rest,ok.cd⟩
theorem iter_ok {h:House} (hh:yE h):∀ (n:Nat) {c:Car},xJ c→xJ (iter h n c)
  | 0,_,ok=>ok
  | n + 1,_,ok=>iter_ok hh n (alone_ok hh ok)
theorem zIE {h:House} {c:Car} (hh:yE h) (f:1 ≤ c.floor h):1 ≤ c.pos:=by
  unfold Car.floor at f
  rcases Nat.eq_zero_or_pos c.pos with z | p
  · rw [z,Nat.zero_div] at f; omega
  · exact p
theorem near_else {h:House} {c:Car} (ok:xJ c) (fl:c.inside.length < h.room∨c.pressed ≠ []) (no:c.opens h = false)
    (n1:¬ (c.dir ≠ 0∧c.ahead h c.dir = true)) (n2:¬ (c.dir ≠ 0∧c.ahead h (other c.dir) = true)):c.floor h ∉ c.stops:=by
  intro hf
  unfold Car.opens at no
  simp only [Bool.or_eq_false_iff,Bool.and_eq_false_iff] at no
  obtain ⟨np,no⟩:=no
  have np:c.floor h ∉ c.pressed:=by
    intro q
    rw [List.contains_iff_mem.mpr q] at np
    cases np
  rcases zA5 ok with e | e | e
  · -- no direction: nothing is pressed
    have pe:=ok.rest e
    have fl:c.inside.length < h.room:=by
      rcases fl with a | a
      · exact a
      · exact absurd pe a
    rcases no with a | a
    · simp [fl] at a
    · obtain ⟨_,a,_⟩:=a
      rcases zEO hf with b | ⟨d,b⟩
      · exact np b
      · have:(c.calls.any fun (x:Nat × Nat)=>x.1 == c.floor h) = true:=List.any_eq_true.mpr ⟨_,b,by simp⟩
        rcases a with a | a
        · simp [e] at a
        · rw [this] at a; cases a
  all_goals
    have all:∀ x ∈ c.stops,x = c.floor h:=fun x hx=>by
      have a:¬ c.floor h < x:=fun q=>by
        first
          | exact n1 ⟨by omega,by rw [e]; exact zF0.mpr ⟨x,hx,q⟩⟩
          | exact n2 ⟨by omega,by rw [e]; exact zF0.mpr ⟨x,hx,q⟩⟩
      have b:¬ x < c.floor h:=fun q=>by
        first
          | exact n1 ⟨by omega,by rw [e]; exact zB5.mpr ⟨x,hx,q⟩⟩
          | exact n2 ⟨by omega,by rw [e]; exact zB5.mpr ⟨x,hx,q⟩⟩
      omega
    have pe:c.pressed = []:=by
      cases q:c.pressed with
      | nil=>rfl
      | cons y l =>
        have:y ∈ c.pressed:=by rw [q]; exact List.mem_cons_self ..
        have:=all y (zFC this)
        subst this
        exact absurd ‹c.floor h ∈ c.pressed› np
    have fl:c.inside.length < h.room:=by
      rcases fl with a | a
      · exact a
      · exact absurd pe a
    have na:c.ahead h c.dir = false:=by
      cases q:c.ahead h c.dir with
      | false=>rfl
      | true=>exact absurd ⟨by omega,q⟩ n1
    rcases no with a | a
    · simp [fl] at a
    · obtain ⟨a1,_,a2⟩:=a
      rcases zEO hf with b | ⟨d,b⟩
      · exact np b
      · rcases ok.cd _ b with z | z
        all_goals
          dsimp only at z
          subst z
          rw [e] at a1 a2 na
          rw [na] at a2
          have:=List.contains_iff_mem.mpr b
          first
            | (rw [this] at a1; cases a1)
            | (simp only [other] at a2; simp at a2; exact absurd b a2)
theorem go_pos {h:House} {c:Car} (hh:yE h) (ok:xJ c) (fl:c.inside.length < h.room∨c.pressed ≠ []) (hs:c.stops ≠ []) (no:c.opens h = false) {d:Nat}
    (hd:d = if c.dir ≠ 0∧c.ahead h c.dir = true then c.dir else if c.dir ≠ 0∧c.ahead h (other c.dir) = true then other c.dir else c.towards h):(d = 1∨d = 2)∧(d = 2→1 ≤ c.pos):=by
  by_cases n1:c.dir ≠ 0∧c.ahead h c.dir = true
  · rw [if_pos n1] at hd
    subst hd
    have:=zA5 ok
    refine ⟨by omega,fun e=>?_⟩
    rw [e] at n1
    obtain ⟨x,_,l⟩:=zB5.mp n1.2
    exact zIE hh (by omega)
  · rw [if_neg n1] at hd
    by_cases n2:c.dir ≠ 0∧c.ahead h (other c.dir) = true
    · rw [if_pos n2] at hd
      subst hd
      rcases zA5 ok with e | e | e
      · exact absurd e n2.1
      · rw [e] at n2 ⊢
        obtain ⟨x,_,l⟩:=zB5.mp n2.2
        exact ⟨.inr rfl,fun _=>zIE hh (by omega)⟩
      · rw [e]
        exact ⟨.inl rfl,fun z=>absurd z (by decide)⟩
    · rw [if_neg n2] at hd
      subst hd
      have nf:=near_else ok fl no n1 n2
      obtain ⟨m,hm,_,e⟩:=zC5 (h:=h) hs
      refine ⟨towards_12 hs,fun z=>?_⟩
      rw [e] at z
      have:¬ c.floor h < m:=fun q=>by rw [if_pos q] at z; cases z
      have:m ≠ c.floor h:=fun q=>nf (by rw [← q]; exact hm)
      exact zIE hh (by omega)
theorem full_next {h:House} {c:Car} (fu:h.room ≤ c.inside.length) (pe:c.pressed = []):(c.alone h).calls = c.calls∧(c.alone h).pressed = []∧(c.alone h).inside = c.inside:=by
  have no:c.opens h = false:=by
    unfold Car.opens
    rw [pe]
    simp
    omega
  unfold Car.alone Car.next
  split
  · split
    · exact ⟨rfl,pe,rfl⟩
    · split
      · exact ⟨rfl,pe,rfl⟩
      · rw [no]
        simp only [Bool.false_eq_true,if_false]
        split
        · exact ⟨rfl,pe,rfl⟩
        · split <;> exact ⟨rfl,pe,rfl⟩
  · split
    · exact ⟨rfl,pe,rfl⟩
    · split
      · exact ⟨rfl,pe,rfl⟩
      · split <;> exact ⟨rfl,pe,rfl⟩
theorem full_waits {h:House} {x:Nat × Nat}:∀ (n:Nat) {c:Car},h.room ≤ c.inside.length→c.pressed = []→x ∈ c.calls→Car.waits h x n c = n
  | 0,_,_,_,_=>rfl
  | n + 1,c,fu,pe,hx=>by
    have ⟨a,b,d⟩:=full_next fu pe
    unfold Car.waits
    rw [if_neg (by rw [List.contains_iff_mem.mpr hx]; decide),full_waits n (by rw [d]; exact fu) b (by rw [a]; exact hx)]
theorem zF3 {h:House} {x:Nat × Nat}:∀ (t n:Nat) {c:Car},(∀ s,s < t→x ∈ (iter h s c).calls)→Car.waits h x (t + n) c = t + Car.waits h x n (iter h t c)
  | 0,n,c,_=>by rw [Nat.zero_add,Nat.zero_add]; rfl
  | t + 1,n,c,hs=>by
    rw [show t + 1 + n = (t + n) + 1 by omega]
    have h0:x ∈ c.calls:=hs 0 (by omega)
    have e:Car.waits h x ((t + n) + 1) c = Car.waits h x (t + n) (c.alone h) + 1:=by
      rw [Car.waits,if_neg (by rw [List.contains_iff_mem.mpr h0]; decide)]
    rw [e,zF3 t n (fun s hs'=>hs (s + 1) (by omega))]
    show t + Car.waits h x n (iter h t (c.alone h)) + 1 = t + 1 + Car.waits h x n (iter h t (c.alone h))
    omega
theorem waits_gone {h:House} {x:Nat × Nat} {n:Nat} {c:Car} (hx:x ∉ c.calls):Car.waits h x n c = 0:=by
  cases n with
  | zero=>rfl
  | succ n =>
    unfold Car.waits
    rw [if_pos (by cases q:c.calls.contains x with
      | false=>rfl
      | true=>exact absurd (List.contains_iff_mem.mp q) hx)]
theorem reck_go {h:House} {x:Nat × Nat} {c:Car} (t:Nat) (hs:∀ s,s < t→x ∈ (iter h s c).calls):Car.waits h x FAR c = if t ≤ FAR then t + Car.waits h x (FAR - t) (iter h t c) else FAR:=by
  split
  · rename_i l
    rw [← zF3 t (FAR - t) hs,show t + (FAR - t) = FAR by omega]
  · rename_i l
    have e:=zF3 (h:=h) (x:=x) (c:=c) FAR 0 (fun s h'=>hs s (by omega))
    rw [Nat.add_zero] at e
    rw [e]
    rfl
theorem reck_step {h:House} {x:Nat × Nat} {c:Car} (hh:yE h) {t:Nat} (hs:∀ s,s < t→x ∈ (iter h s c).calls) (ok:xJ (iter h t c)) (hx:x ∈ (iter h t c).calls) :
    ∀ s,s < t + (quiet h (iter h t c) + 1)→x ∈ (iter h s c).calls:=by
  intro s l
  by_cases z:s < t
  · exact hs s z
  · have e:s = t + (s - t):=by omega
    rw [e,zHP]
    by_cases q:s - t < quiet h (iter h t c)
    · rw [(quiet_iter_lt hh ok q (Nat.le_refl _)).1]
      exact hx
    · have q:s - t = quiet h (iter h t c):=by omega
      rw [q]
      rcases Nat.eq_zero_or_pos (quiet h (iter h t c)) with z | p
      · rw [z]; exact hx
      · rw [zB1 hh _ ok p (Nat.le_refl _),pass_calls]
        exact hx
theorem quiet_pass {h:House} {c:Car} (hh:yE h) (ok:xJ c):iter h (quiet h c) c = zAT h c (quiet h c):=by
  rcases Nat.eq_zero_or_pos (quiet h c) with z | p
  · rw [z]
    show c = zAT h c 0
    unfold zAT
    split
    · rfl
    · rename_i d
      split
      · rename_i l
        unfold quiet at z
        rw [if_neg d,if_pos l] at z
        have lt:=Nat.mod_lt c.pos hh.sp
        split at z <;> omega
      · rfl
  · exact zB1 hh _ ok p (Nat.le_refl _)
end LM
namespace LM
open Lf
def yR (h:House) (c:Car):Nat :=
  if c.does_ ≤ 1 then (if c.level h = true∧c.stops ≠ []∧c.opens h = true then 1 else 0)
  else if 1 < c.left then 0
  else if c.does_ = 2 then 2
  else if c.does_ = 3 then 0
  else 3
theorem next_opens {h:House} {c:Car} (k:c.level h = true∧c.stops ≠ []∧c.opens h = true):c.next h = c.opened h:=by
  unfold Car.next
  rw [if_neg (by rw [k.1]; decide),if_neg (by rw [zAL]; exact k.2.1),if_pos k.2.2]
theorem next_else {h:House} {c:Car} (k:¬ (c.level h = true∧c.stops ≠ []∧c.opens h = true)):(c.next h).does_ ≤ 1∧(c.next h).pressed = c.pressed∧(c.next h).calls = c.calls∧(c.next h).inside = c.inside:=by
  unfold Car.next
  split
  · exact ⟨Nat.le_refl _,rfl,rfl,rfl⟩
  · rename_i l
    split
    · exact ⟨Nat.zero_le _,rfl,rfl,rfl⟩
    · rename_i s
      split
      · rename_i o
        exact absurd ⟨by cases q:c.level h with
          | false=>exact absurd q l
          | true=>rfl,fun q=>s (zAL.mpr q),o⟩ k
      · split
        · exact ⟨Nat.le_refl _,rfl,rfl,rfl⟩
        · split <;> exact ⟨Nat.le_refl _,rfl,rfl,rfl⟩
theorem zDU {h:House} {c:Car} (d:c.does_ ≤ 1):c.alone h = c.next h:=by unfold Car.alone; rw [if_pos d]
theorem zFZ {h:House} {c:Car} (e:yR h c = 1):c.does_ ≤ 1∧c.alone h = c.opened h:=by
  unfold yR at e
  by_cases d:c.does_ ≤ 1
  · rw [if_pos d] at e
    refine ⟨d,?_⟩
    rw [zDU d]
    split at e
    · rename_i k
      exact next_opens k
    · cases e
  · rw [if_neg d] at e
    exfalso
    repeat' (split at e)
    all_goals cases e
theorem zI1 {h:House} {c:Car} (e:yR h c = 2):c.does_ = 2∧c.left ≤ 1∧c.alone h = { c with does_:=3,left:=h.stand }:=by
  unfold yR at e
  by_cases d:c.does_ ≤ 1
  · rw [if_pos d] at e
    split at e <;> cases e
  · rw [if_neg d] at e
    by_cases l:1 < c.left
    · rw [if_pos l] at e; cases e
    · rw [if_neg l] at e
      by_cases z:c.does_ = 2
      · refine ⟨z,by omega,?_⟩
        unfold Car.alone
        rw [if_neg d,if_neg l,if_pos z]
      · rw [if_neg z] at e
        split at e <;> cases e
theorem zFY {h:House} {c:Car} (ok:xJ c) (e:yR h c = 3):c.does_ = 4∧c.left ≤ 1∧c.alone h = { c with does_:=0,left:=0 }:=by
  unfold yR at e
  by_cases d:c.does_ ≤ 1
  · rw [if_pos d] at e
    split at e <;> cases e
  · rw [if_neg d] at e
    by_cases l:1 < c.left
    · rw [if_pos l] at e; cases e
    · rw [if_neg l] at e
      by_cases z:c.does_ = 2
      · rw [if_pos z] at e; cases e
      · rw [if_neg z] at e
        by_cases y:c.does_ = 3
        · rw [if_pos y] at e; cases e
        · have:=ok.does_
          refine ⟨by omega,by omega,?_⟩
          unfold Car.alone
          rw [if_neg d,if_neg l,if_neg z,if_neg y]
theorem brought_0 {h:House} {c:Car} (e:yR h c = 0):(c.alone h).pressed = c.pressed∧(c.alone h).calls = c.calls∧(c.alone h).inside = c.inside ∧
    ((c.does_ ≤ 1∧(c.alone h).does_ ≤ 1)∨(2 ≤ c.does_∧(c.alone h).does_ = c.does_∧(c.alone h).pos = c.pos)∨(c.does_ = 3∧(c.alone h).does_ = 4)):=by
  unfold yR at e
  by_cases d:c.does_ ≤ 1
  · rw [if_pos d] at e
    split at e
    · cases e
    · rename_i k
      rw [zDU d]
      have ⟨a,b1,b2,b3⟩:=next_else k
      exact ⟨b1,b2,b3,.inl ⟨d,a⟩⟩
  · rw [if_neg d] at e
    by_cases l:1 < c.left
    · have q:c.alone h = { c with left:=c.left - 1 }:=by unfold Car.alone; rw [if_neg d,if_pos l]
      rw [q]
      exact ⟨rfl,rfl,rfl,.inr (.inl ⟨by omega,rfl,rfl⟩)⟩
    · rw [if_neg l] at e
      by_cases z:c.does_ = 2
      · rw [if_pos z] at e; cases e
      · rw [if_neg z] at e
        by_cases y:c.does_ = 3
        · have q:c.alone h = { c with does_:=4,left:=h.close }:=by unfold Car.alone; rw [if_neg d,if_neg l,if_neg z,if_pos y]
          rw [q]
          exact ⟨rfl,rfl,rfl,.inr (.inr ⟨y,rfl⟩)⟩
        · rw [if_neg y] at e; cases e
theorem zAR (h:House) (c:Car):yR h c = 0∨yR h c = 1∨yR h c = 2∨yR h c = 3:=by
  unfold yR
  repeat' split
  all_goals simp
theorem quiet_brought {h:House} {c:Car} (hh:yE h) (q:1 ≤ quiet h c):yR h c = 0:=by
  unfold quiet at q
  unfold yR
  by_cases d:2 ≤ c.does_
  · rw [if_pos d] at q
    rw [if_neg (by omega),if_pos (by omega)]
  · rw [if_neg d] at q
    rw [if_pos (by omega)]
    rw [if_neg]
    rintro ⟨l,s,_⟩
    rw [if_neg (by rw [zIR.mp l]; simp)] at q
    rw [if_neg (fun z=>s z.2.2)] at q
    omega
def yL (H:Hall) (i:Nat) (c:Car):Hall:={ H with cars:=H.cars.set i c }
theorem zFX {H:Hall} {i:Nat} {c:Car} (e:H.cars[i]? = some c):H.car i = c:=by
  unfold Hall.car
  rw [List.getD_eq_getElem?_getD,e]
  rfl
theorem withCar_at {H:Hall} {i:Nat} {c d:Car} (e:H.cars[i]? = some c):(yL H i d).cars[i]? = some d:=by
  unfold yL
  exact List.getElem?_set_self (List.getElem?_eq_some_iff.mp e).1
theorem withCar_ne {H:Hall} {i j:Nat} {d:Car} (e:i ≠ j):(yL H i d).cars[j]? = H.cars[j]?:=by
  unfold yL
  exact List.getElem?_set_ne e
theorem turn_0 {H:Hall} {i:Nat} {c:Car} (e:H.cars[i]? = some c) (b:yR H.house c = 0):H.turn i = (yL H i (c.alone H.house),[]):=by
  have ⟨_,_,_,k⟩:=brought_0 b
  unfold Hall.turn
  rw [zFX e]
  simp only []
  rw [if_neg (by omega),if_neg (by omega),if_neg (by omega)]
  rfl
theorem turn_1 {H:Hall} {i:Nat} {c:Car} (e:H.cars[i]? = some c) (b:yR H.house c = 1):H.turn i = (yL H i (c.opened H.house),[⟨H.time,2,i,c.floor H.house,c.serves H.house⟩]):=by
  have ⟨k1,k2⟩:=zFZ b
  unfold Hall.turn
  rw [zFX e]
  simp only []
  rw [k2,if_pos ⟨rfl,by omega⟩]
  rfl
theorem turn_2 {H:Hall} {i:Nat} {c:Car} (e:H.cars[i]? = some c) (b:yR H.house c = 2):H.turn i = (yL H i { c with does_:=3,left:=H.house.stand }).exchange i:=by
  have ⟨k1,k2,k3⟩:=zI1 b
  unfold Hall.turn
  rw [zFX e]
  simp only []
  rw [k3,if_neg (fun z=>absurd z.1 (show ¬ 3 = 2 by decide)),if_pos ⟨k1,rfl⟩]
  rfl
def zA6 (c:Car):Car:={ c with does_:=0,left:=0 }
theorem turn_3 {H:Hall} {i:Nat} {c:Car} (ok:xJ c) (e:H.cars[i]? = some c) (b:yR H.house c = 3) :
    H.turn i = if ((yL H i (zA6 c)).waiting (c.floor H.house) c.dir).isEmpty = true then (yL H i (zA6 c),[⟨H.time,5,i,c.floor H.house,c.inside.length⟩])
      else (((yL H i (zA6 c)).press (c.floor H.house,c.dir)).1,⟨H.time,5,i,c.floor H.house,c.inside.length⟩ :: ((yL H i (zA6 c)).press (c.floor H.house,c.dir)).2):=by
  have ⟨k1,k2,k3⟩:=zFY ok b
  unfold Hall.turn
  rw [zFX e]
  simp only []
  rw [k3,if_neg (fun z=>absurd z.1 (show ¬ 0 = 2 by decide)),if_neg (fun z=>absurd z.2 (show ¬ 0 = 3 by decide)),if_pos ⟨k1,rfl⟩]
  rfl
theorem tick_eq (H:Hall):H.tick = (List.range H.cars.length).foldl (fun (x:Hall × List Event) (i:Nat)=>let y:=x.1.turn i
  (y.1,x.2 ++ y.2)) ({ H with time:=H.time + 1 },[]):=rfl
def later (H:Hall) (k:Nat):Hall:={ H with time:=H.time + k,cars:=H.cars.map (iter H.house k) }
theorem tick_quiet {H:Hall} (hh:yE H.house) (q:∀ c ∈ H.cars,1 ≤ quiet H.house c):H.tick = (later H 1,[]):=by
  rw [tick_eq]
  have gen:∀ m,m ≤ H.cars.length→(List.range m).foldl (fun (x:Hall × List Event) (i:Nat)=>let y:=x.1.turn i
      (y.1,x.2 ++ y.2)) ({ H with time:=H.time + 1 },[]) = ({ H with time:=H.time + 1,cars:=(H.cars.take m).map (iter H.house 1) ++ H.cars.drop m },[]):=by
    intro m
    induction m with
    | zero=>intro _; simp
    | succ m ih =>
      intro hm
      rw [List.range_succ,List.foldl_append,ih (by omega)]
      have lt:m < H.cars.length:=by omega
      obtain ⟨c,hc⟩:∃ c,H.cars[m]? = some c:=⟨_,List.getElem?_eq_getElem lt⟩
      have e1:((H.cars.take m).map (iter H.house 1) ++ H.cars.drop m)[m]? = some c:=by
        rw [List.getElem?_append_right (by rw [List.length_map,List.length_take]; exact Nat.min_le_left ..),List.length_map,List.length_take,Nat.min_eq_left (by omega),Nat.sub_self,List.getElem?_drop]
        exact hc
      have b0:=quiet_brought hh (q c (List.mem_of_getElem? hc))
      have t0:=turn_0 (H:={ H with time:=H.time + 1,cars:=(H.cars.take m).map (iter H.house 1) ++ H.cars.drop m }) e1 b0
      simp only [List.foldl_cons,List.foldl_nil,t0]
      unfold yL
      simp only [List.nil_append,Prod.mk.injEq,and_true]
      congr 1
      have hd:H.cars.drop m = c :: H.cars.drop (m + 1):=by
        rw [List.drop_eq_getElem_cons lt]
        congr 1
        rw [List.getElem?_eq_getElem lt] at hc
        exact Option.some.inj hc
      have ht:H.cars.take (m + 1) = H.cars.take m ++ [c]:=by rw [List.take_add_one,hc]; rfl
      rw [hd,ht,List.map_append,List.set_append_right _ _ (by rw [List.length_map,List.length_take]; exact Nat.min_le_left ..),List.length_map,List.length_take,Nat.min_eq_left (by omega),Nat.sub_self,List.set_cons_zero,List.append_assoc]
      rfl
  rw [gen _ (Nat.le_refl _),List.take_length,List.drop_length,List.append_nil]
  rfl
theorem ticks_quiet {H:Hall} (hh:yE H.house) (ok:∀ c ∈ H.cars,xJ c):∀ (k:Nat),(∀ c ∈ H.cars,k ≤ quiet H.house c)→Hall.ticks k H = (later H k,[]):=by
  intro k
  induction k generalizing H with
  | zero =>
    intro _
    show (H,[]) = (later H 0,[])
    unfold later
    have:H.cars.map (iter H.house 0) = H.cars:=by
      rw [show (iter H.house 0:Car→Car) = id from rfl,List.map_id]
    rw [this]
    rfl
  | succ k ih =>
    intro q
    show (let x:=H.tick
      let y:=Hall.ticks k x.1
      (y.1,x.2 ++ y.2)) = _
    rw [tick_quiet hh (fun c hc=>Nat.le_trans (Nat.le_add_left 1 k) (q c hc))]
    simp only []
    have hk:=ih (H:=later H 1) hh (fun c hc=>by
      obtain ⟨c0,h0,rfl⟩:=List.mem_map.mp hc
      exact iter_ok hh 1 (ok c0 h0)) (fun c hc=>by
      obtain ⟨c0,h0,rfl⟩:=List.mem_map.mp hc
      have a:=zCI hh (ok c0 h0) (Nat.le_trans (Nat.le_add_left 1 k) (q c0 h0))
      have:=q c0 h0
      show k ≤ quiet H.house (c0.alone H.house)
      rw [a.1]
      omega)
    rw [hk]
    simp only [List.nil_append,Prod.mk.injEq,and_true]
    unfold later
    simp only [List.map_map]
    congr 1
    omega
theorem zHV:∀ (m n:Nat) (H:Hall),Hall.ticks (m + n) H = ((Hall.ticks n (Hall.ticks m H).1).1,(Hall.ticks m H).2 ++ (Hall.ticks n (Hall.ticks m H).1).2)
  | 0,n,H=>by rw [Nat.zero_add]; rfl
  | m + 1,n,H=>by
    rw [show m + 1 + n = (m + n) + 1 by omega]
    show ((Hall.ticks (m + n) H.tick.1).1,H.tick.2 ++ (Hall.ticks (m + n) H.tick.1).2) = _
    rw [zHV m n]
    show _ = ((Hall.ticks n (Hall.ticks m H.tick.1).1).1,(H.tick.2 ++ (Hall.ticks m H.tick.1).2) ++ _)
    rw [List.append_assoc]
    rfl
end LM
namespace LM
open Lf
structure zD3 (h:House) (t:Nat) (p:Person):Prop where
  fr:p.from_ < h.floors
  to:p.to_ < h.floors
  ne:p.from_ ≠ p.to_
  came:p.came ≤ t
  ent:∀ n,p.entered = some n→p.came ≤ n∧n ≤ t
  lf:∀ m,p.left = some m→∃ n,p.entered = some n∧n ≤ m∧m ≤ t
structure zCP (H:Hall) (c:Car):Prop where
  ok:xJ c
  room:c.inside.length ≤ H.house.room
  ins:∀ k ∈ c.inside,∃ p n,H.persons[k]? = some p∧p.entered = some n∧(p.to_ ∈ c.pressed∨(c.does_ = 2∧p.to_ = c.floor H.house))
  pnd:c.pressed.Nodup
  pfl:∀ x ∈ c.pressed,x < H.house.floors
  cnd:c.calls.Nodup
  cfl:∀ x ∈ c.calls,x.1 < H.house.floors
structure yV (H:Hall):Prop where
  house:yE H.house
  cars:H.cars.length = H.house.cars
  car:∀ (i:Nat) (c:Car),H.cars[i]? = some c→zCP H c
  people:∀ (k:Nat) (p:Person),H.persons[k]? = some p→zD3 H.house H.time p
  most:H.persons.length ≤ 200
theorem yV.carOk {H:Hall} (ok:yV H):∀ c ∈ H.cars,xJ c:=fun c hc=>by
  obtain ⟨i,hi⟩:=List.mem_iff_getElem?.mp hc
  exact (ok.car i c hi).ok
theorem zHM:∀ (n:Nat) {l:List Nat},l.Nodup→(∀ x ∈ l,x < n)→l.length ≤ n
  | 0,[],_,_=>Nat.le_refl _
  | 0,x :: l,_,h=>absurd (h x (List.mem_cons_self ..)) (Nat.not_lt_zero _)
  | n + 1,l,nd,h=>by
    have h1:=zHM n (l:=l.erase n) (nd.erase n) (fun x hx=>by
      have a:=(nd.mem_erase_iff).mp hx
      have:=h x a.2
      omega)
    rw [List.length_erase] at h1
    split at h1 <;> omega
theorem zCP.pressed_le {H:Hall} {c:Car} (I:zCP H c) (hh:yE H.house):c.pressed.length ≤ 32:=by
  have:=zHM _ I.pnd I.pfl
  have:=hh.flm
  omega
theorem zCP.calls_le {H:Hall} {c:Car} (I:zCP H c) (hh:yE H.house):c.calls.length ≤ 128:=by
  have h1:(c.calls.map fun (x:Nat × Nat)=>3 * x.1 + x.2).Nodup:=by
    rw [List.nodup_iff_pairwise_ne,List.pairwise_map]
    refine List.Pairwise.imp_of_mem ?_ (List.nodup_iff_pairwise_ne.mp I.cnd)
    intro a b ha hb ne e
    have a2:=I.ok.cd a ha
    have b2:=I.ok.cd b hb
    exact ne (Prod.ext (by omega) (by omega))
  have h2:=zHM 98 h1 (fun y hy=>by
    obtain ⟨x,hx,rfl⟩:=List.mem_map.mp hy
    have:=I.cfl x hx
    have:=I.ok.cd x hx
    have:=hh.flm
    omega)
  rw [List.length_map] at h2
  omega
theorem zCP.free {H:Hall} {c:Car} (I:zCP H c) (hh:yE H.house) (d:c.does_ ≠ 2):c.inside.length < H.house.room∨c.pressed ≠ []:=by
  by_cases l:c.inside.length < H.house.room
  · exact .inl l
  · right
    intro e
    cases q:c.inside with
    | nil =>
      rw [q] at l
      have:=hh.rm
      exact l (by show 0 < H.house.room; omega)
    | cons k r =>
      obtain ⟨p,n,_,_,a⟩:=I.ins k (by rw [q]; exact List.mem_cons_self ..)
      rcases a with a | a
      · rw [e] at a; cases a
      · exact d a.1
theorem zBX {H:Hall} {i:Nat} {d:Car} (ok:yV H) (D:zCP H d):yV (yL H i d) where
  house:=ok.house
  cars:=by
    show (H.cars.set i d).length = _
    rw [List.length_set]
    exact ok.cars
  car:=fun j c hc=>by
    have:zCP H c:=by
      by_cases e:i = j
      · subst e
        unfold yL at hc
        have hl:i < H.cars.length:=by
          have:=(List.getElem?_eq_some_iff.mp hc).1
          rw [List.length_set] at this
          exact this
        rw [List.getElem?_set_self hl] at hc
        cases hc
        exact D
      · rw [withCar_ne e] at hc
        exact ok.car j c hc
    exact ⟨this.ok,this.room,this.ins,this.pnd,this.pfl,this.cnd,this.cfl⟩
  people:=ok.people
  most:=ok.most
theorem begun_ok {h:House} (hh:yE h):yV (begun h) where
  house:=hh
  cars:=List.length_replicate
  car:=fun i c hc=>by
    have hm:=List.mem_of_getElem? hc
    have:c = Car.first:=(List.mem_replicate.mp hm).2
    subst this
    exact ⟨xJ.first,Nat.zero_le _,fun _ h=>(by cases h),List.nodup_nil,fun _ h=>(by cases h),List.nodup_nil,fun _ h=>(by cases h)⟩
  people:=fun k p q=>by
    have q:([]:List Person)[k]? = some p:=q
    simp at q
  most:=Nat.zero_le _
theorem best_lt {H:Hall} {x:Nat × Nat} (hl:0 < H.cars.length):H.best x < H.cars.length:=by
  unfold Hall.best
  have gen:∀ (l:List Nat) (o:Option (Nat × Nat)),(∀ i ∈ l,i < H.cars.length)→(∀ b,o = some b→b.1 < H.cars.length) →
      ∀ b,l.foldl (fun (o:Option (Nat × Nat)) (i:Nat)=>let t:=(H.car i).comes H.house x
        match o with
        | none=>some (i,t)
        | some b=>if t < b.2 then some (i,t) else some b) o = some b→b.1 < H.cars.length:=by
    intro l
    induction l with
    | nil=>intro o _ ho b hb; exact ho b hb
    | cons y l ih =>
      intro o hl ho b hb
      refine ih _ (fun i hi=>hl i (List.mem_cons_of_mem _ hi)) (fun b' hb'=>?_) b hb
      have hy:=hl y (List.mem_cons_self ..)
      cases o with
      | none =>
        cases hb'
        exact hy
      | some z =>
        dsimp only at hb'
        split at hb'
        · cases hb'; exact hy
        · cases hb'; exact ho _ rfl
  cases e:(List.range H.cars.length).foldl (fun (o:Option (Nat × Nat)) (i:Nat)=>let t:=(H.car i).comes H.house x
        match o with
        | none=>some (i,t)
        | some b=>if t < b.2 then some (i,t) else some b) none with
  | none=>exact hl
  | some b=>exact gen _ none (fun i hi=>List.mem_range.mp hi) (fun b hb=>by cases hb) b e
theorem given_false {H:Hall} {x:Nat × Nat} (g:H.given x ≠ true):∀ c ∈ H.cars,x ∉ c.calls:=fun c hc hx=>by
  apply g
  unfold Hall.given
  exact List.any_eq_true.mpr ⟨c,hc,List.contains_iff_mem.mpr hx⟩
theorem press_ok {H:Hall} {x:Nat × Nat} (ok:yV H) (hx:x.2 = 1∨x.2 = 2) (hf:x.1 < H.house.floors):yV (H.press x).1:=by
  unfold Hall.press
  split
  · exact ok
  · rename_i g
    have hl:H.best x < H.cars.length:=best_lt (by rw [ok.cars]; exact ok.house.cr)
    obtain ⟨c,hc⟩:∃ c,H.cars[H.best x]? = some c:=⟨_,List.getElem?_eq_getElem hl⟩
    dsimp only
    rw [zFX hc]
    refine zBX (i:=H.best x) ok ?_
    have I:=ok.car _ _ hc
    have nx:=given_false g c (List.mem_of_getElem? hc)
    refine ⟨I.ok.call hx,I.room,I.ins,I.pnd,I.pfl,?_,fun y hy=>?_⟩
    · show (c.calls ++ [x]).Nodup
      rw [List.nodup_append]
      refine ⟨I.cnd,by simp,fun a ha b hb e=>?_⟩
      cases List.mem_singleton.mp hb
      exact nx (e ▸ ha)
    · rcases List.mem_append.mp hy with a | a
      · exact I.cfl y a
      · cases List.mem_singleton.mp a
        exact hf
theorem press_house (H:Hall) (x:Nat × Nat):(H.press x).1.house = H.house∧(H.press x).1.time = H.time∧(H.press x).1.persons = H.persons∧(H.press x).1.cars.length = H.cars.length:=by
  unfold Hall.press
  split
  · exact ⟨rfl,rfl,rfl,rfl⟩
  · exact ⟨rfl,rfl,rfl,List.length_set⟩
theorem qS {H:Hall} {k:Nat} {p:Person} (e:H.persons[k]? = some p):H.person k = p:=by
  unfold Hall.person
  rw [List.getD_eq_getElem?_getD,e]
  rfl
theorem zA4 {H:Hall} {f d k:Nat}:k ∈ H.waiting f d↔∃ p,H.persons[k]? = some p∧p.entered = none∧p.from_ = f∧p.dir = d:=by
  unfold Hall.waiting
  rw [List.mem_filter,List.mem_range]
  constructor
  · rintro ⟨hl,hp⟩
    obtain ⟨p,e⟩:∃ p,H.persons[k]? = some p:=⟨_,List.getElem?_eq_getElem hl⟩
    rw [qS e] at hp
    simp only [Bool.and_eq_true,beq_iff_eq,Option.isNone_iff_eq_none] at hp
    exact ⟨p,e,hp.1,hp.2.1,hp.2.2⟩
  · rintro ⟨p,e,h1,h2,h3⟩
    refine ⟨(List.getElem?_eq_some_iff.mp e).1,?_⟩
    rw [qS e]
    simp [h1,h2,h3]
theorem waiting_nodup (H:Hall) (f d:Nat):(H.waiting f d).Nodup:=by
  unfold Hall.waiting
  exact List.Pairwise.filter _ List.nodup_range
theorem zDZ (p:Person):p.dir = 1∨p.dir = 2:=by
  unfold Person.dir
  split
  · exact .inl rfl
  · exact .inr rfl
theorem waiting_len (H:Hall) (f d:Nat):(H.waiting f d).length ≤ H.persons.length:=by
  unfold Hall.waiting
  exact Nat.le_trans (List.length_filter_le ..) (by rw [List.length_range]; exact Nat.le_refl _)
def outOf (H:Hall) (c:Car):List Nat:=c.inside.filter fun (k:Nat)=>(H.person k).to_ == c.floor H.house
def zFD (H:Hall) (c:Car):List Nat:=c.inside.filter fun (k:Nat)=>(H.person k).to_ != c.floor H.house
def zD9 (H:Hall) (c:Car):List Nat:=(H.waiting (c.floor H.house) c.dir).take (H.house.room - (zFD H c).length)
def zDK (H:Hall) (c:Car):List Nat:=c.pressed ++ (((zD9 H c).map fun (k:Nat)=>(H.person k).to_).eraseDups.filter fun (g:Nat)=>!c.pressed.contains g)
def zI3 (H:Hall) (c:Car):Car:={ c with inside:=zFD H c ++ zD9 H c,pressed:=zDK H c }
def zBI (H:Hall) (c:Car) (k:Nat) (p:Person):Person:=if (outOf H c).contains k = true then { p with left:=some H.time } else if (zD9 H c).contains k = true then { p with entered:=some H.time } else p
def zCZ (H:Hall) (c:Car):List Person:=H.persons.zipIdx.map fun (p:Person × Nat)=>zBI H c p.2 p.1
theorem exchange_eq {H:Hall} {i:Nat} {c:Car} (e:H.cars[i]? = some c):H.exchange i = ({ H with cars:=H.cars.set i (zI3 H c),persons:=zCZ H c },
    ((outOf H c).map fun (k:Nat)=>(⟨H.time,3,i,c.floor H.house,k⟩:Event)) ++ (zD9 H c).map fun (k:Nat)=>⟨H.time,4,i,c.floor H.house,k⟩):=by
  unfold Hall.exchange
  rw [zFX e]
  rfl
theorem zB6 {H:Hall} {c:Car} (k:Nat):(zCZ H c)[k]? = (H.persons[k]?).map (zBI H c k):=by
  unfold zCZ
  rw [List.getElem?_map,List.getElem?_zipIdx]
  cases H.persons[k]? with
  | none=>rfl
  | some p=>simp
theorem zHL (H:Hall) (c:Car) (k:Nat) (p:Person):(zBI H c k p).to_ = p.to_∧(zBI H c k p).from_ = p.from_∧(zBI H c k p).came = p.came∧(zBI H c k p).dir = p.dir:=by
  unfold zBI
  split
  · exact ⟨rfl,rfl,rfl,rfl⟩
  · split <;> exact ⟨rfl,rfl,rfl,rfl⟩
theorem zFE {H:Hall} {c:Car} {k:Nat} {p:Person} (e:p.entered ≠ none):(zBI H c k p).entered ≠ none:=by
  unfold zBI
  split
  · exact e
  · split
    · simp
    · exact e
theorem zD0 {H:Hall} {c:Car} {k:Nat} (h:k ∈ zD9 H c):∃ p,H.persons[k]? = some p∧p.entered = none∧p.from_ = c.floor H.house∧p.dir = c.dir:=zA4.mp (List.mem_of_mem_take h)
theorem mem_outOf {H:Hall} {c:Car} {k:Nat} (h:k ∈ outOf H c):k ∈ c.inside∧(H.person k).to_ = c.floor H.house:=by
  have:=List.mem_filter.mp h
  exact ⟨this.1,by simpa using this.2⟩
theorem mem_stayIn {H:Hall} {c:Car} {k:Nat} (h:k ∈ zFD H c):k ∈ c.inside∧(H.person k).to_ ≠ c.floor H.house:=by
  have:=List.mem_filter.mp h
  exact ⟨this.1,by simpa using this.2⟩
structure Ready (H:Hall) (c:Car):Prop where
  ok:xJ c
  does_:c.does_ = 3
  room:c.inside.length ≤ H.house.room
  ins:∀ k ∈ c.inside,∃ p n,H.persons[k]? = some p∧p.entered = some n∧(p.to_ ∈ c.pressed∨p.to_ = c.floor H.house)
  pnd:c.pressed.Nodup
  pfl:∀ x ∈ c.pressed,x < H.house.floors
  cnd:c.calls.Nodup
  cfl:∀ x ∈ c.calls,x.1 < H.house.floors
theorem out_in {H:Hall} {c:Car} (R:Ready H c) {k:Nat} (h:k ∈ outOf H c):k ∉ zD9 H c:=fun g=>by
  obtain ⟨p,n,a,b,_⟩:=R.ins k (mem_outOf h).1
  obtain ⟨p',a',b',_⟩:=zD0 g
  rw [a] at a'
  cases a'
  rw [b] at b'
  cases b'
theorem stamp_none {H:Hall} {c:Car} (R:Ready H c) {k:Nat} {p:Person} (hp:H.persons[k]? = some p):(zBI H c k p).entered = none↔p.entered = none∧k ∉ zD9 H c:=by
  unfold zBI
  split
  · rename_i h
    have h:=List.contains_iff_mem.mp h
    exact ⟨fun e=>⟨e,out_in R h⟩,fun e=>e.1⟩
  · split
    · rename_i _ h
      have h:=List.contains_iff_mem.mp h
      exact ⟨fun e=>(by cases e),fun e=>absurd h e.2⟩
    · rename_i _ h
      exact ⟨fun e=>⟨e,fun g=>h (List.contains_iff_mem.mpr g)⟩,fun e=>e.1⟩
theorem afterP_len (H:Hall) (c:Car):(zCZ H c).length = H.persons.length:=by
  unfold zCZ
  rw [List.length_map,List.length_zipIdx]
def after (H:Hall) (i:Nat) (c:Car):Hall:={ H with cars:=H.cars.set i (zI3 H c),persons:=zCZ H c }
theorem zFA {H:Hall} {i:Nat} {c:Car} (R:Ready H c) (f d:Nat):(after H i c).waiting f d = (H.waiting f d).filter fun k=>!(zD9 H c).contains k:=by
  unfold Hall.waiting
  have e:(after H i c).persons.length = H.persons.length:=afterP_len H c
  rw [e,List.filter_filter]
  refine List.filter_congr fun k hk=>?_
  have hl:=List.mem_range.mp hk
  obtain ⟨p,hp⟩:∃ p,H.persons[k]? = some p:=⟨_,List.getElem?_eq_getElem hl⟩
  have hp':(after H i c).persons[k]? = some (zBI H c k p):=by
    show (zCZ H c)[k]? = _
    rw [zB6,hp]
    rfl
  rw [qS hp,qS hp']
  obtain ⟨_,s2,_,s4⟩:=zHL H c k p
  simp only []
  rw [s2,s4]
  have:=stamp_none R hp
  rw [Bool.eq_iff_iff]
  simp only [Bool.and_eq_true,Option.isNone_iff_eq_none,this,Bool.not_eq_true',beq_iff_eq]
  constructor
  · rintro ⟨⟨a,b⟩,g⟩
    exact ⟨by cases q:(zD9 H c).contains k with
      | false=>rfl
      | true=>exact absurd (List.contains_iff_mem.mp q) b,a,g⟩
  · rintro ⟨b,a,g⟩
    exact ⟨⟨a,fun q=>by rw [List.contains_iff_mem.mpr q] at b; cases b⟩,g⟩
theorem zDQ:∀ (n:Nat) (l:List Nat),l.length ≤ n→l.eraseDups.Nodup
  | _,[],_=>by simp
  | 0,x :: l,h=>absurd h (by simp)
  | n + 1,x :: l,h=>by
    rw [List.eraseDups_cons,List.nodup_cons]
    refine ⟨fun q=>?_,zDQ n _ ?_⟩
    · rw [List.mem_eraseDups,List.mem_filter] at q
      simp at q
    · have:=List.length_filter_le (fun b=>!b == x) l
      simp only [List.length_cons] at h
      omega
theorem filter_take {l:List Nat} (nd:l.Nodup) (n:Nat):(l.filter fun k=>!(l.take n).contains k) = l.drop n:=by
  have h:l = l.take n ++ l.drop n:=(List.take_append_drop n l).symm
  have nd':=nd
  rw [h,List.nodup_append] at nd'
  conv=>lhs; arg 2; rw [h]
  rw [List.filter_append]
  have e1:(l.take n).filter (fun k=>!(l.take n).contains k) = []:=by
    rw [List.filter_eq_nil_iff]
    intro a ha
    rw [List.contains_iff_mem.mpr ha]
    decide
  have e2:(l.drop n).filter (fun k=>!(l.take n).contains k) = l.drop n:=by
    rw [List.filter_eq_self]
    intro a ha
    cases q:(l.take n).contains a with
    | false=>rfl
    | true=>exact absurd rfl (nd'.2.2 a (List.contains_iff_mem.mp q) a ha)
  rw [e1,e2,List.nil_append]
theorem zE8 {H:Hall} {i:Nat} {c:Car} (R:Ready H c):(after H i c).waiting (c.floor H.house) c.dir = (H.waiting (c.floor H.house) c.dir).drop (H.house.room - (zFD H c).length):=by
  rw [zFA R]
  exact filter_take (waiting_nodup ..) _
theorem zE9 {H:Hall} {i:Nat} {c:Car} (R:Ready H c) {f d:Nat} (ne:¬ (f = c.floor H.house∧d = c.dir)):(after H i c).waiting f d = H.waiting f d:=by
  rw [zFA R,List.filter_eq_self]
  intro k hk
  cases q:(zD9 H c).contains k with
  | false=>rfl
  | true =>
    obtain ⟨p,a,_,a2,a3⟩:=zD0 (List.contains_iff_mem.mp q)
    obtain ⟨p',b,_,b2,b3⟩:=zA4.mp hk
    rw [a] at b
    cases b
    exact absurd ⟨b2.symm.trans a2,b3.symm.trans a3⟩ ne
theorem stay_len {H:Hall} {c:Car}:(zFD H c).length ≤ c.inside.length:=List.length_filter_le ..
theorem after_ok {H:Hall} {i:Nat} {c:Car} (hh:yE H.house) (R:Ready H c) (car:∀ (j:Nat) (d:Car),j ≠ i→H.cars[j]? = some d→zCP H d) (hl:H.cars.length = H.house.cars)
    (people:∀ (k:Nat) (p:Person),H.persons[k]? = some p→zD3 H.house H.time p) (most:H.persons.length ≤ 200):yV (after H i c) where
  house:=hh
  cars:=by
    show (H.cars.set i _).length = _
    rw [List.length_set]
    exact hl
  most:=by
    show (zCZ H c).length ≤ 200
    rw [afterP_len]
    exact most
  people:=fun k q hq=>by
    have hq:(zCZ H c)[k]? = some q:=hq
    rw [zB6] at hq
    cases e:H.persons[k]? with
    | none=>rw [e] at hq; cases hq
    | some p =>
      rw [e] at hq
      cases hq
      have P:=people k p e
      show zD3 H.house H.time _
      unfold zBI
      split
      · rename_i h
        obtain ⟨p',n,a,b,_⟩:=R.ins k (mem_outOf (List.contains_iff_mem.mp h)).1
        rw [e] at a
        cases a
        exact ⟨P.fr,P.to,P.ne,P.came,P.ent,fun m hm=>by cases hm; exact ⟨n,b,(P.ent n b).2,Nat.le_refl _⟩⟩
      · split
        · rename_i _ h
          obtain ⟨p',a,b,_⟩:=zD0 (List.contains_iff_mem.mp h)
          rw [e] at a
          cases a
          refine ⟨P.fr,P.to,P.ne,P.came,fun n hn=>by cases hn; exact ⟨P.came,Nat.le_refl _⟩,fun m hm=>?_⟩
          obtain ⟨n,hn,_⟩:=P.lf m hm
          rw [b] at hn
          cases hn
        · exact P
  car:=fun j d hd=>by
    have hd:(H.cars.set i (zI3 H c))[j]? = some d:=hd
    by_cases e:i = j
    · subst e
      have hl:i < H.cars.length:=by
        have:=(List.getElem?_eq_some_iff.mp hd).1
        rw [List.length_set] at this
        exact this
      rw [List.getElem?_set_self hl] at hd
      cases hd
      have pin:∀ g,g ∈ zDK H c↔g ∈ c.pressed∨∃ k ∈ zD9 H c,(H.person k).to_ = g:=fun g=>by
        unfold zDK
        rw [List.mem_append,List.mem_filter,List.mem_eraseDups,List.mem_map]
        constructor
        · rintro (a | a)
          · exact .inl a
          · exact .inr a.1
        · rintro (a | a)
          · exact .inl a
          · cases q:c.pressed.contains g with
            | true=>exact .inl (List.contains_iff_mem.mp q)
            | false=>exact .inr ⟨a,rfl⟩
      refine ⟨⟨R.ok.dir,R.ok.does_,R.ok.left,fun z=>?_,R.ok.cd⟩,?_,fun k hk=>?_,?_,fun x hx=>?_,R.cnd,R.cfl⟩
      · show zDK H c = []
        have g0:zD9 H c = []:=by
          cases q:zD9 H c with
          | nil=>rfl
          | cons y l =>
            obtain ⟨p,_,_,_,a⟩:=zD0 (show y ∈ zD9 H c by rw [q]; exact List.mem_cons_self ..)
            have z:c.dir = 0:=z
            have:=zDZ p
            omega
        unfold zDK
        rw [g0,R.ok.rest z]
        rfl
      · show (zFD H c ++ zD9 H c).length ≤ H.house.room
        have h1:(zD9 H c).length ≤ H.house.room - (zFD H c).length:=List.length_take_le ..
        have h2:(zFD H c).length ≤ c.inside.length:=stay_len
        have:=R.room
        rw [List.length_append]
        omega
      · have hk:k ∈ zFD H c ++ zD9 H c:=hk
        have look:∀ p,H.persons[k]? = some p→(after H i c).persons[k]? = some (zBI H c k p):=fun p e=>by
          show (zCZ H c)[k]? = _
          rw [zB6,e]
          rfl
        rcases List.mem_append.mp hk with a | a
        · have ⟨a1,a2⟩:=mem_stayIn a
          obtain ⟨p,n,b1,b2,b3⟩:=R.ins k a1
          rw [qS b1] at a2
          have b3:p.to_ ∈ c.pressed:=b3.resolve_right a2
          have ne:(zBI H c k p).entered ≠ none:=zFE (by rw [b2]; simp)
          obtain ⟨n',hn'⟩:=Option.ne_none_iff_exists'.mp ne
          exact ⟨_,n',look p b1,hn',.inl (by rw [(zHL H c k p).1]; exact (pin _).mpr (.inl b3))⟩
        · obtain ⟨p,b1,b2,b3⟩:=zD0 a
          have no:(outOf H c).contains k = false:=by
            cases q:(outOf H c).contains k with
            | false=>rfl
            | true=>exact absurd a (out_in R (List.contains_iff_mem.mp q))
          have st:zBI H c k p = { p with entered:=some H.time }:=by
            unfold zBI
            rw [if_neg (by rw [no]; decide),if_pos (List.contains_iff_mem.mpr a)]
          refine ⟨_,H.time,look p b1,by rw [st],.inl ?_⟩
          rw [(zHL H c k p).1]
          exact (pin _).mpr (.inr ⟨k,a,by rw [qS b1]⟩)
      · show (zDK H c).Nodup
        unfold zDK
        rw [List.nodup_append]
        refine ⟨R.pnd,List.Pairwise.filter _ (zDQ _ _ (Nat.le_refl _)),fun a ha b hb e=>?_⟩
        subst e
        have:=(List.mem_filter.mp hb).2
        rw [List.contains_iff_mem.mpr ha] at this
        cases this
      · rcases (pin x).mp hx with a | ⟨k,a,rfl⟩
        · exact R.pfl x a
        · obtain ⟨p,b1,_⟩:=zD0 a
          rw [qS b1]
          exact (people k p b1).to
    · rw [List.getElem?_set_ne e] at hd
      have D:=car j d (fun q=>e q.symm) hd
      refine ⟨D.ok,D.room,fun k hk=>?_,D.pnd,D.pfl,D.cnd,D.cfl⟩
      obtain ⟨p,n,a,b,g⟩:=D.ins k hk
      have ne:(zBI H c k p).entered ≠ none:=zFE (by rw [b]; simp)
      obtain ⟨n',hn'⟩:=Option.ne_none_iff_exists'.mp ne
      refine ⟨zBI H c k p,n',?_,hn',?_⟩
      · show (zCZ H c)[k]? = _
        rw [zB6,a]
        rfl
      · rw [(zHL H c k p).1]
        exact g
end LM
namespace LM
open Lf
theorem opened_in {H:Hall} {c:Car} (hh:yE H.house) (I:zCP H c) (cl:c.does_ ≤ 1):zCP H (c.opened H.house):=by
  refine ⟨opened_ok hh I.ok,I.room,fun k hk=>?_,List.Pairwise.filter _ I.pnd,fun x hx=>I.pfl x (List.mem_filter.mp hx).1,List.Pairwise.filter _ I.cnd,fun x hx=>I.cfl x (List.mem_filter.mp hx).1⟩
  obtain ⟨p,n,a,b,g⟩:=I.ins k hk
  refine ⟨p,n,a,b,?_⟩
  have g:p.to_ ∈ c.pressed:=g.resolve_right (fun z=>by omega)
  by_cases e:p.to_ = c.floor H.house
  · exact .inr ⟨rfl,e⟩
  · exact .inl (List.mem_filter.mpr ⟨g,by simpa using e⟩)
theorem quietly_in {H:Hall} {c:Car} (hh:yE H.house) (I:zCP H c) (b:yR H.house c = 0):zCP H (c.alone H.house):=by
  have ⟨b1,b2,b3,k⟩:=brought_0 b
  refine ⟨alone_ok hh I.ok,by rw [b3]; exact I.room,fun m hm=>?_,by rw [b1]; exact I.pnd,by rw [b1]; exact I.pfl,by rw [b2]; exact I.cnd,by rw [b2]; exact I.cfl⟩
  rw [b3] at hm
  obtain ⟨p,n,x,y,g⟩:=I.ins m hm
  refine ⟨p,n,x,y,?_⟩
  rw [b1]
  rcases g with g | g
  · exact .inl g
  · right
    rcases k with k | k | k
    · omega
    · refine ⟨by omega,?_⟩
      unfold Car.floor
      rw [k.2.2]
      exact g.2
    · omega
theorem shut_in {H:Hall} {c:Car} (hh:yE H.house) (I:zCP H c) (d:c.does_ = 4):zCP H (zA6 c):=by
  refine ⟨⟨I.ok.dir,(by decide:0 ≤ 4),fun z=>absurd z (show ¬ 2 ≤ 0 by decide),I.ok.rest,I.ok.cd⟩,I.room,fun m hm=>?_,I.pnd,I.pfl,I.cnd,I.cfl⟩
  obtain ⟨p,n,x,y,g⟩:=I.ins m hm
  exact ⟨p,n,x,y,.inl (g.resolve_right fun z=>by omega)⟩
theorem ready_in {H:Hall} {c:Car} (hh:yE H.house) (I:zCP H c) (d:c.does_ = 2):Ready H { c with does_:=3,left:=H.house.stand }:=by
  refine ⟨⟨I.ok.dir,(by decide:3 ≤ 4),fun _=>hh.st,I.ok.rest,I.ok.cd⟩,rfl,I.room,fun m hm=>?_,I.pnd,I.pfl,I.cnd,I.cfl⟩
  obtain ⟨p,n,x,y,g⟩:=I.ins m hm
  refine ⟨p,n,x,y,?_⟩
  rcases g with g | g
  · exact .inl g
  · exact .inr g.2
abbrev jT (H:Hall) (c:Car):Car:={ c with does_:=3,left:=H.house.stand }
theorem turn_2' {H:Hall} {i:Nat} {c:Car} (e:H.cars[i]? = some c) (b:yR H.house c = 2) :
    H.turn i = (after (yL H i (jT H c)) i (jT H c),((outOf H (jT H c)).map fun (k:Nat)=>(⟨H.time,3,i,c.floor H.house,k⟩:Event)) ++ (zD9 H (jT H c)).map fun (k:Nat)=>⟨H.time,4,i,c.floor H.house,k⟩):=by
  rw [turn_2 e b,exchange_eq (withCar_at e)]
  rfl
theorem turn_2r {H:Hall} {i:Nat} {c:Car} (ok:yV H) (e:H.cars[i]? = some c) (b:yR H.house c = 2):Ready (yL H i (jT H c)) (jT H c):=by
  have R:=ready_in ok.house (ok.car i c e) (zI1 b).1
  exact ⟨R.ok,R.does_,R.room,R.ins,R.pnd,R.pfl,R.cnd,R.cfl⟩
theorem turn_ok {H:Hall} {i:Nat} {c:Car} (ok:yV H) (e:H.cars[i]? = some c):yV (H.turn i).1∧(H.turn i).1.house = H.house∧(H.turn i).1.time = H.time:=by
  have I:=ok.car i c e
  rcases zAR H.house c with b | b | b | b
  · rw [turn_0 e b]
    exact ⟨zBX ok (quietly_in ok.house I b),rfl,rfl⟩
  · rw [turn_1 e b]
    exact ⟨zBX ok (opened_in ok.house I (zFZ b).1),rfl,rfl⟩
  · rw [turn_2' e b]
    refine ⟨after_ok ok.house (turn_2r ok e b) (fun j d hj hd=>?_) ?_ ok.people ok.most,rfl,rfl⟩
    · rw [withCar_ne (fun q=>hj q.symm)] at hd
      have D:=ok.car j d hd
      exact ⟨D.ok,D.room,D.ins,D.pnd,D.pfl,D.cnd,D.cfl⟩
    · show (H.cars.set i _).length = _
      rw [List.length_set]
      exact ok.cars
  · rw [turn_3 I.ok e b]
    have W:yV (yL H i (zA6 c)):=zBX ok (shut_in ok.house I (zFY I.ok b).1)
    split
    · exact ⟨W,rfl,rfl⟩
    · rename_i ne
      obtain ⟨k,hk⟩:∃ k,k ∈ (yL H i (zA6 c)).waiting (c.floor H.house) c.dir:=by
        cases q:(yL H i (zA6 c)).waiting (c.floor H.house) c.dir with
        | nil=>rw [q] at ne; exact absurd rfl ne
        | cons y l=>exact ⟨y,List.mem_cons_self ..⟩
      obtain ⟨p,a1,_,a3,a4⟩:=zA4.mp hk
      have hp:=W.people k p a1
      have hd:=zDZ p
      have hpr:=press_house (yL H i (zA6 c)) (c.floor H.house,c.dir)
      refine ⟨press_ok W ?_ ?_,hpr.1,hpr.2.1⟩
      · show c.dir = 1∨c.dir = 2
        rw [← a4]; exact hd
      · show c.floor H.house < H.house.floors
        rw [← a3]; exact hp.fr
theorem later_ok {H:Hall} (ok:yV H) (t:Nat) (l:H.time ≤ t):yV { H with time:=t } where
  house:=ok.house
  cars:=ok.cars
  car:=fun j c hc=>by
    have I:=ok.car j c hc
    exact ⟨I.ok,I.room,I.ins,I.pnd,I.pfl,I.cnd,I.cfl⟩
  people:=fun k p hp=>by
    have P:=ok.people k p hp
    refine ⟨P.fr,P.to,P.ne,Nat.le_trans P.came l,fun n hn=>⟨(P.ent n hn).1,Nat.le_trans (P.ent n hn).2 l⟩,fun m hm=>?_⟩
    obtain ⟨n,a,b,c⟩:=P.lf m hm
    exact ⟨n,a,b,Nat.le_trans c l⟩
  most:=ok.most
def zB9 (H:Hall) (m:Nat):Hall × List Event:=(List.range m).foldl (fun (x:Hall × List Event) (i:Nat)=>let y:=x.1.turn i
  (y.1,x.2 ++ y.2)) ({ H with time:=H.time + 1 },[])
theorem zBY (H:Hall) (m:Nat):zB9 H (m + 1) = (((zB9 H m).1.turn m).1,(zB9 H m).2 ++ ((zB9 H m).1.turn m).2):=by
  unfold zB9
  rw [List.range_succ,List.foldl_append]
  rfl
theorem turns_zero (H:Hall):zB9 H 0 = ({ H with time:=H.time + 1 },[]):=rfl
theorem tick_turns (H:Hall):H.tick = zB9 H H.cars.length:=rfl
theorem zDX {H:Hall} (ok:yV H):∀ (m:Nat),m ≤ H.cars.length→yV (zB9 H m).1∧(zB9 H m).1.house = H.house∧(zB9 H m).1.time = H.time + 1∧(zB9 H m).1.cars.length = H.cars.length
  | 0,_=>⟨later_ok ok _ (Nat.le_succ _),rfl,rfl,rfl⟩
  | m + 1,hm=>by
    obtain ⟨o,a,b,d⟩:=zDX ok m (by omega)
    rw [zBY]
    obtain ⟨c,hc⟩:∃ c,(zB9 H m).1.cars[m]? = some c:=⟨_,List.getElem?_eq_getElem (by omega)⟩
    obtain ⟨o',a',b'⟩:=turn_ok o hc
    refine ⟨o',a'.trans a,b'.trans b,?_⟩
    show ((zB9 H m).1.turn m).1.cars.length = _
    rw [o'.cars,a',a,ok.cars]
theorem tick_ok {H:Hall} (ok:yV H):yV H.tick.1∧H.tick.1.house = H.house∧H.tick.1.time = H.time + 1:=by
  have ⟨a,b,c,_⟩:=zDX ok H.cars.length (Nat.le_refl _)
  exact ⟨a,b,c⟩
theorem ticks_ok:∀ (n:Nat) {H:Hall},yV H→yV (Hall.ticks n H).1∧(Hall.ticks n H).1.house = H.house∧(Hall.ticks n H).1.time = H.time + n
  | 0,_,ok=>⟨ok,rfl,rfl⟩
  | n + 1,H,ok=>by
    obtain ⟨a,b,c⟩:=tick_ok ok
    obtain ⟨a',b',c'⟩:=ticks_ok n a
    refine ⟨a',b'.trans b,?_⟩
    show (Hall.ticks n H.tick.1).1.time = _
    rw [c',c]
    omega
theorem come_mid {H:Hall} (ok:yV H) {f g:Nat} (hf:f < H.house.floors) (hg:g < H.house.floors) (ne:f ≠ g) (m:H.persons.length < 200):yV { H with persons:=H.persons ++ [(⟨f,g,H.time,none,none⟩:Person)] }:=by
  refine ⟨ok.house,ok.cars,fun j c hc=>?_,fun k p hp=>?_,?_⟩
  · have I:=ok.car j c hc
    refine ⟨I.ok,I.room,fun k hk=>?_,I.pnd,I.pfl,I.cnd,I.cfl⟩
    obtain ⟨p,n,a,b,z⟩:=I.ins k hk
    refine ⟨p,n,?_,b,z⟩
    show (H.persons ++ _)[k]? = _
    rw [List.getElem?_append_left (List.getElem?_eq_some_iff.mp a).1]
    exact a
  · have hp:(H.persons ++ [(⟨f,g,H.time,none,none⟩:Person)])[k]? = some p:=hp
    by_cases l:k < H.persons.length
    · rw [List.getElem?_append_left l] at hp
      exact ok.people k p hp
    · rw [List.getElem?_append_right (by omega)] at hp
      cases q:k - H.persons.length with
      | zero =>
        rw [q] at hp
        cases hp
        exact ⟨hf,hg,ne,Nat.le_refl _,fun n hn=>(by cases hn),fun n hn=>(by cases hn)⟩
      | succ j =>
        rw [q] at hp
        simp at hp
  · show (H.persons ++ _).length ≤ 200
    rw [List.length_append]
    simp only [List.length_cons,List.length_nil]
    omega
theorem come_ok {H:Hall} (ok:yV H) {f g:Nat} (hf:f < H.house.floors) (hg:g < H.house.floors) (ne:f ≠ g) (m:H.persons.length < 200):yV (H.come f g).1:=by
  unfold Hall.come
  exact press_ok (come_mid ok hf hg ne m) (zDZ _) hf
theorem waiting_come {H:Hall} (p:Person) (e:p.entered = none) (f d:Nat):({ H with persons:=H.persons ++ [p] }:Hall).waiting f d = if f = p.from_∧d = p.dir then H.waiting f d ++ [H.persons.length] else H.waiting f d:=by
  have at_:∀ k,k < H.persons.length→({ H with persons:=H.persons ++ [p] }:Hall).person k = H.person k:=fun k hk=>by
    unfold Hall.person
    rw [List.getD_eq_getElem?_getD,List.getD_eq_getElem?_getD]
    show ((H.persons ++ [p])[k]?).getD _ = _
    rw [List.getElem?_append_left hk]
  have last:({ H with persons:=H.persons ++ [p] }:Hall).person H.persons.length = p:=by
    unfold Hall.person
    rw [List.getD_eq_getElem?_getD]
    show ((H.persons ++ [p])[H.persons.length]?).getD _ = _
    rw [List.getElem?_concat_length]
    rfl
  unfold Hall.waiting
  show (List.range (H.persons ++ [p]).length).filter _ = _
  rw [List.length_append,List.length_singleton,List.range_succ,List.filter_append]
  have e1:(List.range H.persons.length).filter (fun (k:Nat)=>let q:=({ H with persons:=H.persons ++ [p] }:Hall).person k
      q.entered.isNone && (q.from_ == f && q.dir == d)) = (List.range H.persons.length).filter fun (k:Nat)=>let q:=H.person k
      q.entered.isNone && (q.from_ == f && q.dir == d):=by
    refine List.filter_congr fun k hk=>?_
    rw [at_ k (List.mem_range.mp hk)]
  rw [e1,List.filter_cons,List.filter_nil]
  simp only [last,e]
  by_cases c:f = p.from_∧d = p.dir
  · obtain ⟨rfl,rfl⟩:=c
    simp
  · rw [if_neg c,if_neg,List.append_nil]
    intro z
    simp at z
    exact c ⟨z.1.symm,z.2.symm⟩
theorem qT (p:Nat→Bool):∀ (n:Nat) (l:List Nat),l.length ≤ n→(l.filter p).eraseDups = l.eraseDups.filter p
  | _,[],_=>by simp
  | 0,x :: l,h=>absurd h (by simp)
  | n + 1,x :: l,h=>by
    have hl:(l.filter (fun b=>!b == x)).length ≤ n:=by
      have:=List.length_filter_le (fun b=>!b == x) l
      simp only [List.length_cons] at h
      omega
    rw [List.eraseDups_cons]
    by_cases q:p x = true
    · rw [List.filter_cons_of_pos q,List.filter_cons_of_pos q,List.eraseDups_cons,← qT p n _ hl,List.filter_filter,List.filter_filter]
      congr 2
      exact List.filter_congr fun y _=>Bool.and_comm _ _
    · rw [List.filter_cons_of_neg q,List.filter_cons_of_neg q,← qT p n _ hl,List.filter_filter]
      congr 1
      refine List.filter_congr fun y _=>?_
      by_cases z:y = x
      · subst z
        simp [q]
      · simp [z]
def xV (ps:List Nat) (g:Nat):List Nat:=if g ∈ ps then ps else ps ++ [g]
theorem press_fold:∀ (gs ps:List Nat),gs.foldl xV ps = ps ++ gs.eraseDups.filter fun g=>!ps.contains g
  | [],ps=>by simp
  | g :: gs,ps=>by
    show gs.foldl xV (xV ps g) = _
    rw [press_fold gs,List.eraseDups_cons]
    unfold xV
    by_cases q:g ∈ ps
    · rw [if_pos q,List.filter_cons_of_neg (by simp [q]),qT _ _ _ (Nat.le_refl _),List.filter_filter]
      congr 1
      refine List.filter_congr fun y _=>?_
      by_cases z:y = g
      · subst z
        simp [q]
      · simp [z]
    · rw [if_neg q,List.filter_cons_of_pos (by simp [q]),qT _ _ _ (Nat.le_refl _),List.filter_filter,List.append_assoc]
      show ps ++ (g :: _) = ps ++ (g :: _)
      congr 2
      refine List.filter_congr fun y _=>?_
      by_cases z:y = g
      · subst z
        simp
      · simp [z]
theorem best_spec {H:Hall} {x:Nat × Nat} {j:Nat} (hj:j < H.cars.length) (hm:∀ i,i < H.cars.length→(H.car j).comes H.house x ≤ (H.car i).comes H.house x)
    (hf:∀ i,i < j→(H.car j).comes H.house x < (H.car i).comes H.house x):H.best x = j:=by
  unfold Hall.best
  have gen:∀ m,m ≤ H.cars.length→(List.range m).foldl (fun (o:Option (Nat × Nat)) (i:Nat)=>let t:=(H.car i).comes H.house x
        match o with
        | none=>some (i,t)
        | some b=>if t < b.2 then some (i,t) else some b) none = none∧m = 0∨∃ i,(List.range m).foldl (fun (o:Option (Nat × Nat)) (i:Nat)=>let t:=(H.car i).comes H.house x
        match o with
        | none=>some (i,t)
        | some b=>if t < b.2 then some (i,t) else some b) none = some (i,(H.car i).comes H.house x)∧i < m∧(j < m→i = j):=by
    intro m
    induction m with
    | zero=>intro _; exact .inl ⟨rfl,rfl⟩
    | succ m ih =>
      intro hl
      rw [List.range_succ,List.foldl_append]
      right
      rcases ih (by omega) with ⟨e,z⟩ | ⟨i,e,li,li'⟩
      · rw [e]
        exact ⟨m,rfl,by omega,fun _=>by omega⟩
      · rw [e]
        simp only [List.foldl_cons,List.foldl_nil]
        split
        · rename_i lt
          refine ⟨m,rfl,by omega,fun hjm=>?_⟩
          by_cases q:j < m
          · have:=li' q
            subst this
            have:=hm m (by omega)
            omega
          · omega
        · rename_i lt
          refine ⟨i,rfl,by omega,fun hjm=>?_⟩
          by_cases q:j < m
          · exact li' q
          · have:j = m:=by omega
            subst this
            have:=hf i li
            omega
  rcases gen H.cars.length (Nat.le_refl _) with ⟨_,z⟩ | ⟨i,e,_,li⟩
  · omega
  · have e2:=congrArg (fun (o:Option (Nat × Nat))=>o.elim 0 fun (b:Nat × Nat)=>b.1) e
    exact e2.trans (li hj)
end LM
namespace LM
open Lf
def top (h:House):Nat:=(h.floors - 1) * h.speed
theorem level_pos {h:House} {c:Car} (l:c.level h = true):c.pos = c.floor h * h.speed:=by
  have m:=zIR.mp l
  unfold Car.floor
  have:=Nat.div_add_mod c.pos h.speed
  rw [m,Nat.add_zero,Nat.mul_comm] at this
  exact this.symm
theorem up_pos {h:House} {c:Car} {x:Nat} (l:c.level h = true) (hx:x < h.floors) (lt:c.floor h < x):c.pos + 1 ≤ top h∨h.speed = 0:=by
  rcases Nat.eq_zero_or_pos h.speed with z | z
  · exact .inr z
  · left
    unfold top
    rw [level_pos l]
    have a1:(c.floor h + 1) * h.speed ≤ (h.floors - 1) * h.speed:=Nat.mul_le_mul_right _ (by omega)
    rw [Nat.add_mul,Nat.one_mul] at a1
    omega
theorem zFT {h:House} {c:Car} {d:Nat} (p:c.pos ≤ top h) (u:d = 1→c.pos + 1 ≤ top h):(c.moved d).pos ≤ top h:=by
  unfold Car.moved
  by_cases e:d = 1
  · simp only [if_pos e]
    exact u e
  · simp only [if_neg e]
    omega
theorem alone_pos {h:House} {c:Car} (hh:yE h) (sf:∀ x ∈ c.stops,x < h.floors) (p:c.pos ≤ top h):(c.alone h).pos ≤ top h:=by
  have sp:=hh.sp
  unfold Car.alone
  split
  · unfold Car.next
    split
    · rename_i l
      refine zFT p fun _=>?_
      have m:=zCM.mp l
      have:c.pos ≠ top h:=by
        intro e
        apply m
        rw [e]
        unfold top
        exact Nat.mul_mod_left _ _
      omega
    · rename_i l
      have l:c.level h = true:=by
        cases q:c.level h with
        | true=>rfl
        | false=>exact absurd q l
      have up:∀ x ∈ c.stops,c.floor h < x→c.pos + 1 ≤ top h:=fun x hx lt=>by
        rcases up_pos l (sf x hx) lt with q | q
        · exact q
        · omega
      split
      · exact p
      · rename_i ne
        split
        · exact p
        · split
          · rename_i a
            refine zFT p fun e=>?_
            rw [e] at a
            obtain ⟨x,hx,lt⟩:=zF0.mp a.2
            exact up x hx lt
          · split
            · rename_i a
              refine zFT p fun e=>?_
              rw [e] at a
              obtain ⟨x,hx,lt⟩:=zF0.mp a.2
              exact up x hx lt
            · refine zFT p fun e=>?_
              obtain ⟨m,hm,_,et⟩:=zC5 (h:=h) (c:=c) (fun z=>ne (by rw [z]; rfl))
              rw [et] at e
              by_cases lt:c.floor h < m
              · exact up m hm lt
              · rw [if_neg lt] at e
                omega
  · split
    · exact p
    · split
      · exact p
      · split <;> exact p
def PosOk (H:Hall):Prop:=∀ c ∈ H.cars,c.pos ≤ top H.house
structure Good (H:Hall):Prop where
  ok:yV H
  pos:PosOk H
theorem zCP.stops {H:Hall} {c:Car} (I:zCP H c):∀ x ∈ c.stops,x < H.house.floors:=fun x hx=>by
  rcases zEO hx with q | ⟨d,q⟩
  · exact I.pfl x q
  · exact I.cfl _ q
theorem floor_lt {H:Hall} (g:Good H) {c:Car} (hc:c ∈ H.cars):c.floor H.house < H.house.floors:=by
  have p:=g.pos c hc
  have sp:=g.ok.house.sp
  have fl:=g.ok.house.fl
  unfold Car.floor
  have:c.pos / H.house.speed ≤ H.house.floors - 1:=by
    rw [Nat.div_le_iff_le_mul_add_pred (by omega)]
    unfold top at p
    rw [Nat.mul_comm] at p
    omega
  omega
theorem zID {H:Hall} (p:PosOk H) {i:Nat} {c:Car} (hc:c.pos ≤ top H.house):∀ d ∈ H.cars.set i c,d.pos ≤ top H.house:=fun d hd=>by
  rcases List.mem_or_eq_of_mem_set hd with q | q
  · exact p d q
  · rw [q]
    exact hc
theorem press_pos {H:Hall} (p:PosOk H) (x:Nat × Nat):PosOk (H.press x).1:=by
  unfold Hall.press
  split
  · exact p
  · intro d hd
    refine zID p (i:=H.best x) (c:={ H.car (H.best x) with calls:=(H.car (H.best x)).calls ++ [x] }) ?_ d hd
    show (H.car (H.best x)).pos ≤ top H.house
    unfold Hall.car
    rw [List.getD_eq_getElem?_getD]
    cases q:H.cars[H.best x]? with
    | none=>exact Nat.zero_le _
    | some c=>exact p c (List.mem_of_getElem? q)
theorem turn_pos {H:Hall} {i:Nat} {c:Car} (g:Good H) (e:H.cars[i]? = some c):PosOk (H.turn i).1:=by
  have I:=g.ok.car i c e
  have hc:=g.pos c (List.mem_of_getElem? e)
  have ha:=alone_pos g.ok.house I.stops hc
  rcases zAR H.house c with b | b | b | b
  · rw [turn_0 e b]
    exact zID g.pos ha
  · rw [turn_1 e b]
    rw [(zFZ b).2] at ha
    exact zID g.pos ha
  · rw [turn_2' e b]
    intro d hd
    have hd:d ∈ (H.cars.set i (jT H c)).set i (zI3 (yL H i (jT H c)) (jT H c)):=hd
    rw [List.set_set] at hd
    exact zID g.pos (c:=zI3 (yL H i (jT H c)) (jT H c)) hc d hd
  · rw [turn_3 I.ok e b]
    have W:PosOk (yL H i (zA6 c)):=zID g.pos (c:=zA6 c) hc
    split
    · exact W
    · exact press_pos W _
theorem turn_good {H:Hall} {i:Nat} {c:Car} (g:Good H) (e:H.cars[i]? = some c):Good (H.turn i).1:=⟨(turn_ok g.ok e).1,turn_pos g e⟩
theorem zF4 {H:Hall} (g:Good H):∀ m,m ≤ H.cars.length→Good (zB9 H m).1
  | 0,_=>⟨(zDX g.ok 0 (Nat.zero_le _)).1,g.pos⟩
  | m + 1,h=>by
    have ih:=zF4 g m (by omega)
    have l:=(zDX g.ok m (by omega)).2.2.2
    rw [zBY]
    exact turn_good ih (List.getElem?_eq_getElem (by omega))
theorem tick_good {H:Hall} (g:Good H):Good H.tick.1:=by
  rw [tick_turns]
  exact zF4 g _ (Nat.le_refl _)
theorem zF5:∀ (n:Nat) {H:Hall},Good H→Good (Hall.ticks n H).1
  | 0,_,g=>g
  | n + 1,H,g=>zF5 n (H:=H.tick.1) (tick_good g)
theorem begun_good {h:House} (hh:yE h):Good (begun h):=⟨begun_ok hh,fun c hc=>by
  have:c = Car.first:=(List.mem_replicate.mp hc).2
  rw [this]
  exact Nat.zero_le _⟩
theorem come_good {H:Hall} (g:Good H) {f g':Nat} (hf:f < H.house.floors) (hg:g' < H.house.floors) (ne:f ≠ g') (m:H.persons.length < 200):Good (H.come f g').1:=⟨come_ok g.ok hf hg ne m,by
  unfold Hall.come
  exact press_pos (H:={ H with persons:=H.persons ++ [⟨f,g',H.time,none,none⟩] }) g.pos _⟩
theorem zDJ (H:Hall) (x:Nat × Nat):(H.press x).2.length ≤ 1:=by
  unfold Hall.press
  split
  · exact Nat.zero_le _
  · exact Nat.le_refl _
theorem turn_len {H:Hall} {i:Nat} {c:Car} (g:yV H) (e:H.cars[i]? = some c):(H.turn i).2.length ≤ 100:=by
  have I:=g.car i c e
  have rm:=g.house.rmm
  have r2:=I.room
  rcases zAR H.house c with b | b | b | b
  · rw [turn_0 e b]
    exact Nat.zero_le _
  · rw [turn_1 e b]
    exact (by decide:1 ≤ 100)
  · rw [turn_2' e b]
    have h1:(outOf H (jT H c)).length ≤ c.inside.length:=List.length_filter_le ..
    have h2:(zD9 H (jT H c)).length ≤ H.house.room:=by
      unfold zD9
      rw [List.length_take]
      omega
    show (_ ++ _:List Event).length ≤ 100
    rw [List.length_append,List.length_map,List.length_map]
    omega
  · rw [turn_3 I.ok e b]
    split
    · exact (by decide:1 ≤ 100)
    · have:=zDJ (yL H i (zA6 c)) (c.floor H.house,c.dir)
      show (_ :: _:List Event).length ≤ 100
      rw [List.length_cons]
      omega
theorem zHU {H:Hall} (g:yV H):∀ m,m ≤ H.cars.length→(zB9 H m).2.length ≤ 100 * m
  | 0,_=>Nat.le_refl _
  | m + 1,h=>by
    have ih:=zHU g m (by omega)
    have l:=zDX g m (by omega)
    rw [zBY]
    have:=turn_len (i:=m) l.1 (List.getElem?_eq_getElem (by rw [l.2.2.2]; omega))
    show (_ ++ _:List Event).length ≤ _
    rw [List.length_append]
    omega
theorem tick_len {H:Hall} (g:yV H):H.tick.2.length ≤ 600:=by
  have:=zHU g H.cars.length (Nat.le_refl _)
  have h1:=g.cars
  have h2:=g.house.crm
  rw [tick_turns]
  omega
theorem ticks_len:∀ (n:Nat) {H:Hall},yV H→(Hall.ticks n H).2.length ≤ 600 * n
  | 0,_,_=>Nat.le_refl _
  | n + 1,H,g=>by
    have h1:=tick_len g
    have h2:=ticks_len n (tick_ok g).1
    show (H.tick.2 ++ (Hall.ticks n H.tick.1).2).length ≤ _
    rw [List.length_append]
    omega
end LM
namespace L2
open PySem PySem.Spec PyProof.Rows
abbrev Key:=Sum Int Str
def keyIs:Key→Value→Bool
  | .inl k,v=>Value.isInt k v
  | .inr x,v=>Value.isStrOf x v
def keyH (w:World):Key→Int
  | .inl k=>hashInt k
  | .inr x=>hashStr w x
theorem jP:∀ {k:Key} {v:Value},keyIs k v = true→(∃ i t,k = Sum.inl i∧v = Value.int i t)∨(∃ x t,k = Sum.inr x∧v = Value.str x t)
  | .inl i,v,h=>by
    obtain ⟨t,e⟩:=Value.isInt_shape (k:=i) (v:=v) h
    exact .inl ⟨i,t,rfl,e⟩
  | .inr x,v,h=>by
    obtain ⟨t,e⟩:=Value.isStrOf_shape (x:=x) (v:=v) h
    exact .inr ⟨x,t,rfl,e⟩
theorem keyIs_int (i:Int) (t:Tok):keyIs (.inl i) (.int i t) = true:=by simp [keyIs,Value.isInt]
theorem keyIs_str (x:Str) (t:Tok):keyIs (.inr x) (.str x t) = true:=by simp [keyIs,Value.isStrOf]
theorem key_ll (a b:Int):decide ((Sum.inl a:Key) = Sum.inl b) = (a == b):=by
  by_cases e:a = b
  · subst e; simp
  · have h:¬ (Sum.inl a:Key) = Sum.inl b:=fun q=>e (Sum.inl.inj q)
    rw [decide_eq_false h]
    exact (beq_eq_false_iff_ne.mpr e).symm
theorem key_rr (a b:Str):decide ((Sum.inr a:Key) = Sum.inr b) = decide (a = b):=by
  by_cases e:a = b
  · subst e; simp
  · have h:¬ (Sum.inr a:Key) = Sum.inr b:=fun q=>e (Sum.inr.inj q)
    rw [decide_eq_false h,decide_eq_false e]
theorem key_lr (a:Int) (b:Str):decide ((Sum.inl a:Key) = Sum.inr b) = false:=decide_eq_false (fun q=>nomatch q)
theorem key_rl (a:Str) (b:Int):decide ((Sum.inr a:Key) = Sum.inl b) = false:=decide_eq_false (fun q=>nomatch q)
def qY (prog:Program) (w:World):PySem.KeyKind prog w Key where
  is:=keyIs
  hash:=keyH w
  inj:=fun v a b ha hb=>by
    rcases jP ha with ⟨i,t,rfl,rfl⟩ | ⟨x,t,rfl,rfl⟩
    · rcases jP hb with ⟨j,u,rfl,e⟩ | ⟨y,u,rfl,e⟩
      · injection e with e1 _; rw [e1]
      · exact nomatch e
    · rcases jP hb with ⟨j,u,rfl,e⟩ | ⟨y,u,rfl,e⟩
      · exact nomatch e
      · injection e with e1 _; rw [e1]
  byValue:=fun k v h=>by
    rcases jP h with ⟨i,t,rfl,rfl⟩ | ⟨x,t,rfl,rfl⟩ <;> rfl
  pyHash:=fun hv h=>by
    rcases jP hv with ⟨i,t,rfl,rfl⟩ | ⟨x,t,rfl,rfl⟩
    · exact wpAny_pyHash_int h
    · exact wpAny_pyHash_str h
  eqBool:=fun hu hv h=>by
    rcases jP hu with ⟨i,t,rfl,rfl⟩ | ⟨x,t,rfl,rfl⟩
    · rcases jP hv with ⟨j,u,rfl,rfl⟩ | ⟨y,u,rfl,rfl⟩
      · rw [key_ll] at h; exact wpAny_eqBool_int h
      · rw [key_lr] at h; exact SeqAt.EqAt.int_str i t y u _ _ _ _ h
    · rcases jP hv with ⟨j,u,rfl,rfl⟩ | ⟨y,u,rfl,rfl⟩
      · rw [key_rl] at h; exact SeqAt.EqAt.str_int x t j u _ _ _ _ h
      · rw [key_rr] at h; exact wpAny_eqBool_str h
  «strs»:=fun k x t v h=>by
    rcases jP h with ⟨i,u,rfl,e⟩ | ⟨y,u,rfl,e⟩
    · exact nomatch e
    · injection e with e1 _
      subst e1
      cases v <;> rfl
theorem mixKind_int (prog:Program) (w:World) (i:Int) (t:Tok):(qY prog w).is (.inl i) (.int i t) = true:=keyIs_int i t
theorem mixKind_str (prog:Program) (w:World) (x:Str) (t:Tok):(qY prog w).is (.inr x) (.str x t) = true:=keyIs_str x t
end L2
namespace L2
open PySem PySem.Spec PyProof.Rows
inductive V where
  | non | bl (b:Bool) | int (i:Int) | str (x:Str) | byt (b:Array UInt8) | flt (b:UInt64) | ref (a:Addr) | ty (n:String)
  deriving DecidableEq
def qU:V→Value→Prop
  | .non,u=>u = Value.none
  | .bl b,u=>u = Value.bool b
  | .int i,u=>∃ t,u = Value.int i t
  | .str x,u=>∃ t,u = Value.str x t
  | .byt b,u=>∃ t,u = Value.bytes b t
  | .flt b,u=>∃ t,u = Value.float b t
  | .ref a,u=>u = Value.ref a
  | .ty n,u=>u = Value.type n
abbrev jS:List V→List Value→Prop:=Paired qU
theorem jS.length {xs:List V} {us:List Value} (r:jS xs us):xs.length = us.length:=Paired.length r
theorem jS.get:∀ {xs:List V} {us:List Value} {i:Nat} {x:V},jS xs us→xs[i]? = some x→∃ u,us[i]? = some u∧qU x u
  | _,_,_,_,.nil,e=>by simp at e
  | _,_,0,_,.cons r _,e=>by simp at e; subst e; exact ⟨_,rfl,r⟩
  | _,_,i + 1,x,.cons _ t,e=>by
    obtain ⟨u,h1,h2⟩:=jS.get (i:=i) (x:=x) t (by simpa using e)
    exact ⟨u,by simpa using h1,h2⟩
theorem jS.append:∀ {xs ys:List V} {us ws:List Value},jS xs us→jS ys ws→jS (xs ++ ys) (us ++ ws)
  | _,_,_,_,.nil,s=>s
  | _,_,_,_,.cons r t,s=>.cons r (jS.append t s)
theorem jS.take:∀ {xs:List V} {us:List Value} (n:Nat),jS xs us→jS (xs.take n) (us.take n)
  | _,_,0,_=>.nil
  | _,_,_ + 1,.nil=>.nil
  | _,_,n + 1,.cons r t=>.cons r (jS.take n t)
theorem jS.drop:∀ {xs:List V} {us:List Value} (n:Nat),jS xs us→jS (xs.drop n) (us.drop n)
  | _,_,0,r=>r
  | _,_,_ + 1,.nil=>.nil
  | _,_,n + 1,.cons _ t=>jS.drop n t
def RelO:Option V→Option Value→Prop
  | some v,some u=>qU v u
  | none,none=>True
  | _,_=>False
def KV {κ:Type}:List (κ × V)→List (κ × Value)→Prop:=Paired fun (p:κ × V) (q:κ × Value)=>p.1 = q.1∧qU p.2 q.2
def kV:Key→V
  | .inl i=>.int i
  | .inr x=>.str x
inductive HO where
  | lst (xs:List V)
  | tup (xs:List V)
  | dK (kvs:List (Key × V)) | dT (kvs:List (List Key × V))
  | set (S:Int→Bool) (n:Nat)
  | ins (C dx:Addr) (fs:List (Str × V))
  | own (x:Addr)
  | xd (fs:List (Str × V))
  | met (f x:Addr)
  | rng (lo hi:Int)
  | frz (o:Obj) (u:HO)
  | tbl (q:Str)
  | ext (φ:Heap→Prop)
abbrev Hp:=Addr→Option HO
def upd (H:Hp) (a:Addr) (o:HO):Hp:=fun b=>if b = a then some o else H b
theorem zF {H:Hp} {a:Addr} {o:HO}:upd H a o a = some o:=by unfold upd; rw [if_pos rfl]
theorem zV {H:Hp} {a b:Addr} {o:HO} (h:b ≠ a):upd H a o b = H b:=by unfold upd; rw [if_neg h]
theorem jC {H:Hp} {a b:Addr} {o u:HO} (h:H a = some o) (h':H b = some u) (d:o ≠ u):a ≠ b:=by
  intro e; subst e; rw [h] at h'; exact d (Option.some.inj h')
theorem zM {H:Hp} {a b:Addr} {o:HO} (h:H a = some o) (h':H b = none):a ≠ b:=by
  intro e; subst e; rw [h] at h'; cases h'
section
variable (P:Program) (w:World)
def zAF (H:Hp) (h:Heap) (a:Addr):HO→Prop
  | .lst xs=>xs.length ≤ sizeLine∧∃ (its:List Value) (n:Nat),jS xs its∧h.get? a = some { cls:=.type "list", data:=.seq its.toArray n }
  | .tup xs=>xs.length ≤ sizeLine∧∃ its:List Value,jS xs its∧IsTup h a its.toArray
  | .dK kvs=>kvs.length ≤ sizeLine∧(a == sysModules) = false∧∃ vs,KV kvs vs∧h.DictOf (qY P w) a vs
  | .dT kvs=>kvs.length ≤ sizeLine∧(a == sysModules) = false∧∃ xs:List (List Key × Addr × Value),
      Paired (fun (p:List Key × V) (q:List Key × Addr × Value)=>p.1 = q.1∧H q.2.1 = some (.tup (p.1.map kV))∧qU p.2 q.2.2) kvs xs ∧
      ∃ o es ep,h.get? a = some o∧o.ExactDict∧o.data = .dict es ep∧es.toList = xs.map (entryOfKey (tupleKind (qY P w)))∧(xs.map (·.1)).Nodup
  | .set S n=>h.SetOf (intKind P w) a S n
  | .ins C dx fs=>H dx = some (.own a)∧fs.length ≤ 1000∧dx ≠ a∧h.get? a = some (PySem.W.instObj C dx) ∧
      ∃ mA,h.Ns1 dx mA∧(∀ f,RelO (fs.lookup f) (mA f))∧PySem.Within mA (fs.map (·.1))
  | .own _=>∃ o,h.get? a = some o
  | .xd fs=>∃ mA,h.Ns1 a mA∧∀ f,RelO (fs.lookup f) (mA f)
  | .rng lo hi=>∃ t u v,h.get? a = some { cls:=.type "range", data:=.fields #[.int lo t,.int hi u,.int 1 v] }
  | .frz o u=>h.get? a = some o∧zAF H h a u
  | .tbl q=>∃ qs:Array Value,h.get? a = some { cls:=.none,data:=.fields qs }∧TriplesOk qs.toList∧∀ pos cv,codeAmong pos qs.toList = some cv→∃ c,cv = .ref c∧H c = some (.own a)∧h.CodeRec (.ref c) q
  | .met f x=>h.get? a = some (PySem.W.methodObj (.ref f) (.ref x))
  | .ext φ=>φ h∧(∃ o,h.get? a = some o)∧∀ h1 h2:Heap,φ h1→(∀ o,h1.get? a = some o→h2.get? a = some o)→φ h2
def HOk (H:Hp) (h:Heap):Prop:=∀ a o,H a = some o→zAF P w H h a o
end
section
variable {P:Program} {w:World} {H H':Hp} {h h':Heap} {a:Addr} {o:HO}
theorem zAF.lt (x:zAF P w H h a o):a < h.objs.size:=by
  cases o with
  | lst xs=>obtain ⟨_,_,_,_,e⟩:=x; exact Heap.lt_size e
  | tup xs=>obtain ⟨_,_,_,p⟩:=x; exact p.lt
  | dK kvs=>obtain ⟨_,_,_,_,o,_,_,e,_⟩:=x; exact Heap.lt_size e
  | dT kvs=>obtain ⟨_,_,_,_,o,_,_,e,_⟩:=x; exact Heap.lt_size e
  | set S n=>obtain ⟨o,_,_,_,e,_⟩:=x; exact Heap.lt_size e
  | ins C dx fs=>obtain ⟨_,_,_,e,_⟩:=x; exact Heap.lt_size e
  | own y=>obtain ⟨_,e⟩:=x; exact Heap.lt_size e
  | xd fs=>obtain ⟨_,⟨_,_,_,e,_⟩,_⟩:=x; exact Heap.lt_size e
  | rng lo hi=>obtain ⟨_,_,_,e⟩:=x; exact Heap.lt_size e
  | frz ob u=>obtain ⟨e,_⟩:=x; exact Heap.lt_size e
  | tbl q=>obtain ⟨_,e,_⟩:=x; exact Heap.lt_size e
  | met f y=>exact Heap.lt_size (show h.get? a = some _ from x)
  | ext φ=>obtain ⟨_,⟨_,e⟩,_⟩:=x; exact Heap.lt_size e
theorem Paired.mapP {α β:Type} {F G:α→β→Prop}:∀ {l₁:List α} {l₂:List β},Paired F l₁ l₂→(∀ a b,F a b→G a b)→Paired G l₁ l₂
  | _,_,.nil,_=>.nil
  | _,_,.cons r t,f=>.cons (f _ _ r) (Paired.mapP t f)
theorem zAF.stay (x:zAF P w H h a o) (k:∀ b u,(b = a∨H b = some (.own a))→h.get? b = some u→h'.get? b = some u)
    (ho:∀ b,H b = some (.own a)→H' b = some (.own a)) (ht:∀ b xs,H b = some (.tup xs)→H' b = some (.tup xs)):zAF P w H' h' a o:=by
  induction o with
  | lst xs=>obtain ⟨z,its,n,r,e⟩:=x; exact ⟨z,its,n,r,k _ _ (.inl rfl) e⟩
  | tup xs=>obtain ⟨z,its,r,ob,e,c⟩:=x; exact ⟨z,its,r,ob,k _ _ (.inl rfl) e,c⟩
  | dK kvs=>obtain ⟨z,y,vs,r,ob,es,ep,e,c⟩:=x; exact ⟨z,y,vs,r,ob,es,ep,k _ _ (.inl rfl) e,c⟩
  | dT kvs =>
    obtain ⟨z,y,xs,r,ob,es,ep,e,c⟩:=x
    exact ⟨z,y,xs,Paired.mapP r fun p q z=>⟨z.1,ht _ _ z.2.1,z.2.2⟩,ob,es,ep,k _ _ (.inl rfl) e,c⟩
  | set S n=>obtain ⟨ob,es,ep,t,e,c⟩:=x; exact ⟨ob,es,ep,t,k _ _ (.inl rfl) e,c⟩
  | ins C dx fs =>
    obtain ⟨d,z,ne,e,mA,⟨od,es,ep,e2,c⟩,r⟩:=x
    exact ⟨ho _ d,z,ne,k _ _ (.inl rfl) e,mA,⟨od,es,ep,k _ _ (.inr d) e2,c⟩,r⟩
  | own y=>obtain ⟨ob,e⟩:=x; exact ⟨ob,k _ _ (.inl rfl) e⟩
  | xd fs=>obtain ⟨mA,⟨od,es,ep,e,c⟩,r⟩:=x; exact ⟨mA,⟨od,es,ep,k _ _ (.inl rfl) e,c⟩,r⟩
  | rng lo hi=>obtain ⟨t,u,v,e⟩:=x; exact ⟨t,u,v,k _ _ (.inl rfl) e⟩
  | frz ob u ih=>obtain ⟨e,q⟩:=x; exact ⟨k _ _ (.inl rfl) e,ih q⟩
  | tbl q =>
    obtain ⟨qs,e,tr,z⟩:=x
    refine ⟨qs,k a _ (.inl rfl) e,tr,fun pos cv hc=>?_⟩
    obtain ⟨c,e1,e2,c3,o3,v3,t3,z1,z2,z3,z4⟩:=z pos cv hc
    have z1':c = c3:=by injection z1
    subst z1'
    exact ⟨c,e1,ho _ e2,c,o3,v3,t3,rfl,k c o3 (.inr e2) z2,z3,z4⟩
  | met f y =>
    have e:h.get? a = some (PySem.W.methodObj (.ref f) (.ref y)):=x
    show h'.get? a = some (PySem.W.methodObj (.ref f) (.ref y))
    exact k a _ (.inl rfl) e
  | ext φ=>obtain ⟨p,⟨o,e⟩,st⟩:=x; exact ⟨st _ _ p fun o q=>k _ _ (.inl rfl) q,⟨o,k _ _ (.inl rfl) e⟩,st⟩
theorem HOk.lt (x:HOk P w H h) (e:H a = some o):a < h.objs.size:=(x a o e).lt
theorem HOk.fresh (x:HOk P w H h) (e:h.objs.size ≤ a):H a = none:=by
  cases q:H a with
  | none=>rfl
  | some u=>exact absurd (Nat.lt_of_lt_of_le (x.lt q) e) (Nat.lt_irrefl _)
theorem HOk.kept (x:HOk P w H h) (k:∀ b u,h.get? b = some u→h'.get? b = some u):HOk P w H h':=fun a o e =>
  (x a o e).stay (fun b u _ q=>k b u q) (fun _ q=>q) fun _ _ q=>q
theorem HOk.laid (x:HOk P w H h) (k:∀ b u,h.get? b = some u→h'.get? b = some u) (hp:h.objs.size ≤ a) (new:zAF P w (upd H a o) h' a o):HOk P w (upd H a o) h':=fun b u e=>by
  have hn:=x.fresh hp
  by_cases hb:b = a
  · subst hb; rw [zF] at e; cases e; exact new
  · rw [zV hb] at e
    exact (x b u e).stay (fun c v _ q=>k c v q) (fun c q=>by rw [zV (zM q hn)]; exact q) fun c xs q=>by rw [zV (zM q hn)]; exact q
end
def Rd (H:Hp) (a:Addr) (u:HO):Prop:=H a = some u∨∃ o,H a = some (.frz o u)
theorem Rd.ok {P:Program} {w:World} {H:Hp} {h:Heap} {a:Addr} {u:HO} (r:Rd H a u) (x:HOk P w H h):zAF P w H h a u:=by
  rcases r with r | ⟨o,r⟩
  · exact x a u r
  · obtain ⟨_,q⟩:=x a _ r
    exact q
def Mut:Option HO→Prop
  | some (.lst _)=>True
  | some (.dK _)=>True
  | some (.dT _)=>True
  | some (.set _ _)=>True
  | some (.ins _ _ _)=>True
  | some (.ext _)=>True
  | _=>False
section
variable {P:Program} {w:World} {H:Hp} {h h':Heap} {x e:Addr} {o':HO}
theorem HOk.write (ok:HOk P w H h) (mu:Mut (H x)) (he:e = x∨H e = some (.own x)) (k:∀ b u,b ≠ e→h.get? b = some u→h'.get? b = some u) (heo:∃ u,h'.get? e = some u)
    (new:zAF P w (upd H x o') h' x o'):HOk P w (upd H x o') h':=fun b u q=>by
  have nown:∀ c y,H c = some (.own y)→c ≠ x:=fun c y r z=>by subst z; rw [r] at mu; exact mu
  have ntup:∀ c xs,H c = some (.tup xs)→c ≠ x:=fun c xs r z=>by subst z; rw [r] at mu; exact mu
  by_cases hb:b = x
  · subst hb; rw [zF] at q; cases q; exact new
  · rw [zV hb] at q
    by_cases hbe:b = e
    · have q':H b = some (.own x):=by
        rcases he with z | z
        · exact absurd (hbe.trans z) hb
        · rw [hbe]; exact z
      rw [q] at q'; cases q'
      obtain ⟨v,hv⟩:=heo
      exact ⟨v,by rw [hbe]; exact hv⟩
    · refine (ok b u q).stay (fun c v hc r=>k c v ?_ r) (fun c r=>by rw [zV (nown c b r)]; exact r) fun c xs r=>by rw [zV (ntup c xs r)]; exact r
      rcases hc with rfl | hc
      · exact hbe
      · rintro rfl
        rcases he with z | z
        · exact nown c b hc z
        · rw [hc] at z; cases z; exact hb rfl
end
structure Un (fs ex:List Addr) (H H':Hp) (h h':Heap):Prop where
  keep:∀ b o,h.get? b = some o→H b = none→b ∉ fs→b ∉ ex→h'.get? b = some o
  slot:∀ b o,h.get? b = some o→H b = none→b ∈ fs→b ∉ ex→∃ sl,h'.get? b = some { o with slots:=sl }
  free:∀ b o,h.get? b = some o→H b = none→b ∉ ex→H' b = none
  there:∀ b o,h.get? b = some o→b ∉ ex→∃ o',h'.get? b = some o'
  tups:∀ b xs,H b = some (.tup xs)→H' b = some (.tup xs)
  frzs:∀ b o u,H b = some (.frz o u)→H' b = some (.frz o u)
  tbls:∀ b q,H b = some (.tbl q)→H' b = some (.tbl q)
section
variable {fs fs' ex ex':List Addr} {H H1 H2:Hp} {h h1 h2 h':Heap} {a x e:Addr} {o:HO}
theorem Un.any (u:Un fs ex H H1 h h1) {b:Addr} {ob:Obj} (q:h.get? b = some ob) (n:H b = none) (hx:b ∉ ex):∃ sl,h1.get? b = some { ob with slots:=sl }:=by
  by_cases hb:b ∈ fs
  · exact u.slot b ob q n hb hx
  · exact ⟨ob.slots,u.keep b ob q n hb hx⟩
theorem Un.kept (k:∀ b u,h.get? b = some u→h'.get? b = some u):Un fs ex H H h h' :=
  ⟨fun b ob q _ _ _=>k b ob q,fun b ob q _ _ _=>⟨ob.slots,k b ob q⟩,fun _ _ _ n _=>n,fun b ob q _=>⟨ob,k b ob q⟩,fun _ _ q=>q,fun _ _ _ q=>q,fun _ _ q=>q⟩
theorem Un.refl:Un fs ex H H h h:=Un.kept fun _ _ q=>q
theorem Un.laid (k:∀ b u,h.get? b = some u→h'.get? b = some u) (hp:h.objs.size ≤ a) (hn:H a = none):Un fs ex H (upd H a o) h h' where
  keep:=fun b u q _ _ _=>k b u q
  slot:=fun b u q _ _ _=>⟨u.slots,k b u q⟩
  free:=fun b u q n _=>by rw [zV (Nat.ne_of_lt (Nat.lt_of_lt_of_le (Heap.lt_size q) hp))]; exact n
  there:=fun b u q _=>⟨u,k b u q⟩
  tups:=fun b xs q=>by rw [zV (zM q hn)]; exact q
  frzs:=fun b u xs q=>by rw [zV (zM q hn)]; exact q
  tbls:=fun b ps q=>by rw [zV (zM q hn)]; exact q
theorem Un.write (mu:Mut (H x)) (he:e = x∨H e = some (.own x)) (k:∀ b u,b ≠ e→h.get? b = some u→h'.get? b = some u) (heo:∃ u,h'.get? e = some u):Un fs ex H (upd H x o) h h':=by
  have hx:∀ b,H b = none→b ≠ x:=fun b n z=>by subst z; rw [n] at mu; exact mu
  have hb:∀ b,H b = none→b ≠ e:=fun b n z=>by
    subst z
    rcases he with r | r
    · exact hx b n r
    · rw [n] at r; cases r
  have hm:∀ b u,H b = some u→¬ Mut (some u)→b ≠ x:=fun b u q nm z=>by subst z; rw [q] at mu; exact nm mu
  refine ⟨fun b u q n _ _=>k b u (hb b n) q,fun b u q n _ _=>⟨u.slots,k b u (hb b n) q⟩,fun b u q n _=>by rw [zV (hx b n)]; exact n,fun b u q _=>?_,
    fun b xs q=>by rw [zV (hm b _ q fun z=>z)]; exact q,fun b u xs q=>by rw [zV (hm b _ q fun z=>z)]; exact q,fun b ps q=>by rw [zV (hm b _ q fun z=>z)]; exact q⟩
  by_cases hbe:b = e
  · subst hbe; exact heo
  · exact ⟨u,k b u hbe q⟩
end
def trk (h:Heap) (H:Hp):List Addr:=(List.range h.objs.size).filter fun a=>(H a).isSome
def hidT (h:Heap) (H:Hp):Heap:=PySem.W.hideAll h (trk h H)
theorem hidT_size (h:Heap) (H:Hp):(hidT h H).objs.size = h.objs.size:=PySem.W.hideAll_size _ _
theorem hidT_get {h:Heap} {H:Hp} {b:Addr} {o:Obj} (e:h.get? b = some o) (n:H b = none):(hidT h H).get? b = some o :=
  PySem.W.hideAll_get _ e fun hm=>by
    have q:(H b).isSome = true:=(List.mem_filter.mp hm).2
    rw [n] at q; simp at q
theorem of_hidT {h:Heap} {H:Hp} {b:Addr} {o:Obj} (e:(hidT h H).get? b = some o):h.get? b = some o∧H b = none:=by
  have e':h.get? b = some o:=PySem.W.of_hideAll (trk h H) e
  refine ⟨e',?_⟩
  cases q:H b with
  | none=>rfl
  | some x =>
    have hm:b ∈ trk h H:=List.mem_filter.mpr ⟨List.mem_range.mpr (Heap.lt_size e'),by simp [q]⟩
    have z:(hidT h H).get? b = none:=PySem.W.hideAll_none (trk h H) hm
    rw [z] at e; cases e
end L2
namespace L2
open PySem PySem.Spec PyProof.Rows
structure Mod (K:PySem.W.Frag) (mg:Str→Option Value) (base:Heap):Prop where
  kin:K.In base
  glob:base.Ns mainGlobals mg
  blt:∃ mb,base.Ns builtinsNs mb∧∀ x:Str,x ≠ "__name__" → mb x = bootBuiltins x
  nolimit:base.NoLimit
  bm:∃ bm ob,mg "__builtins__" = some (.ref bm)∧bm ≠ builtinsNs∧base.get? bm = some ob∧ob.cls = .type "module" ∧ ob.dict = some builtinsNs∧ob.data = .plain
structure Cx where
  prog:Program
  w:World
  K:PySem.W.Frag
  mg:Str→Option Value
  base:Heap
  A:Around
  N:List Str
  s_0:Shared
  H_0:Hp
  env:Env
  outer:List Env
  stack:List Env
  ex:List Addr
  fn:Str→Bool
  calm:Bool
  pn:List (Addr × Obj)
  xe:Value→Shared→Prop
def frs (l:List Env):List Addr:=l.filterMap (·.frame)
abbrev Cx.fs (X:Cx):List Addr:=frs X.outer
def Vis (sc:Scope) (x:Str):Prop:=sc.names.lookup x = some .local∨sc.names.lookup x = some .cell∨sc.names.lookup x = some .free
def Loc (sc:Scope) (x:Str):Prop:=sc.names.lookup x = some .local∨sc.names.lookup x = some .cell
def Look (env:Env) (h:Heap) (m:Str→Option Value) (x:Str) (u:Value):Prop :=
  (env.kindOf x = some .local∧m x = some u)∨((env.kindOf x = some .cell∨env.kindOf x = some .free)∧∃ c,env.cells.lookup x = some c∧h.IsCell c (some u))
def zHW:Str := "towards_nearest.<locals>.<lambda>"
def tabAt (K:PySem.W.Frag) (mg:Str→Option Value) (T:Addr):Prop:=∃ (f c:Addr) (o oc:Obj) (fd:FuncData) (vs:Array Value),mg "towards_nearest" = some (.ref f)∧K.lookup f = some o∧o.data = .func fd∧fd.code = .ref c∧K.lookup c = some oc∧oc.data = .fields vs∧vs[11]? = some (.ref T)
def Tb (K:PySem.W.Frag) (mg:Str→Option Value) (H:Hp):Prop:=∀ T,tabAt K mg T→H T = some (.tbl zHW)
structure Cx.Ok (X:Cx):Prop where
  mod:Mod X.K X.mg X.base
  kind:X.env.scope.kind = .function
  glob:X.env.globals = mainGlobals
  blt:X.env.builtins = builtinsNs
  above:X.s_0.heap.objs.size ≤ X.env.locals
  inj:∀ x y c,X.env.cells.lookup x = some c→X.env.cells.lookup y = some c→x = y
  has:∀ x,(X.env.kindOf x = some .cell∨X.env.kindOf x = some .free)→∃ c,X.env.cells.lookup x = some c
  cab:∀ x c,X.fn x = true→X.env.cells.lookup x = some c→X.s_0.heap.objs.size ≤ c
  hd:X.calm = true→X.A.handled = none
  frames:X.A.frames = some X.stack
  stk:X.stack = X.outer∨(X.stack = X.env :: X.outer∧X.env.frame = some X.env.locals)
  exf:∀ b ∈ X.ex,b ≠ X.env.locals∧∀ x c,X.env.cells.lookup x = some c→c ≠ b
  bs:∀ b o,X.base.get? b = some o→X.s_0.heap.get? b = some o∧X.H_0 b = none
  bsz:X.base.objs.size ≤ X.s_0.heap.objs.size
  noex:∀ b o,X.base.get? b = some o→b ∉ X.ex
  exfs:∀ b ∈ X.ex,b ∉ X.fs
  funs:X.s_0.heap.FunFrames X.base X.outer
  frf:∀ b ∈ X.fs,X.H_0 b = none
  tab:Tb X.K X.mg X.H_0
structure Inv (X:Cx) (pins:List (Addr × Obj)) (σ:List (Option V)) (H:Hp) (s:Shared):Prop where
  ok:X.Ok
  os:s.os = X.s_0.os
  bare:AllBare s.gens
  base:Un X.fs X.ex X.H_0 H X.s_0.heap s.heap
  loc:∃ m,s.heap.Ns X.env.locals m∧∀ (i:Nat) (x:Str) (v:V),X.N[i]? = some x→σ[i]? = some (some v)→Vis X.env.scope x→∃ u,qU v u∧Look X.env s.heap m x u
  cell:∀ x c,X.env.cells.lookup x = some c→∃ v,s.heap.IsCell c v
  free:H X.env.locals = none
  freeC:∀ x c,X.env.cells.lookup x = some c→H c = none
  pin:∀ p ∈ X.pn ++ pins,s.heap.get? p.1 = some p.2∧H p.1 = none∧p.1 ≠ X.env.locals∧p.1 ∉ X.fs∧∀ v,p.2.data ≠ .cell v
  hok:HOk X.prog X.w H s.heap
  len:σ.length = X.N.length
section
variable {X:Cx} {pins:List (Addr × Obj)} {σ:List (Option V)} {H H':Hp} {s:Shared} {h':Heap}
theorem Cx.Ok.nofr (ok:X.Ok) {b:Addr} {o:Obj} (e:X.base.get? b = some o):b ∉ X.fs:=fun hb=>by
  have:=(ok.funs.mem hb).1
  rw [e] at this; cases this
theorem Inv.bs (I:Inv X pins σ H s):∀ b o,X.base.get? b = some o→s.heap.get? b = some o∧H b = none:=fun b o e =>
  ⟨I.base.keep b o (I.ok.bs b o e).1 (I.ok.bs b o e).2 (I.ok.nofr e) (I.ok.noex b o e),I.base.free b o (I.ok.bs b o e).1 (I.ok.bs b o e).2 (I.ok.noex b o e)⟩
theorem Inv.bk (I:Inv X pins σ H s):∀ b o,X.base.get? b = some o→s.heap.get? b = some o:=fun b o e=>(I.bs b o e).1
theorem Inv.tab (I:Inv X pins σ H s):Tb X.K X.mg H:=fun T h=>I.base.tbls T _ (I.ok.tab T h)
theorem Inv.mod (I:Inv X pins σ H s):Mod X.K X.mg X.base:=I.ok.mod
theorem Inv.kIn (I:Inv X pins σ H s):X.K.In s.heap:=I.ok.mod.kin.keeps I.bk
theorem Inv.lt (I:Inv X pins σ H s):X.env.locals < s.heap.objs.size:=let ⟨_,hn,_⟩:=I.loc; hn.lt
theorem Inv.sz (I:Inv X pins σ H s):X.s_0.heap.objs.size ≤ s.heap.objs.size:=Nat.le_trans I.ok.above (Nat.le_of_lt I.lt)
theorem Inv.nofs (I:Inv X pins σ H s) {a:Addr} (h:s.heap.objs.size ≤ a):a ∉ X.fs:=fun hb=>by
  obtain ⟨_,o,ho,_⟩:=I.ok.funs.mem hb
  exact absurd (Nat.lt_of_lt_of_le (Heap.lt_size ho) (Nat.le_trans I.sz h)) (Nat.lt_irrefl _)
theorem Inv.cne (I:Inv X pins σ H s):∀ x c,X.env.cells.lookup x = some c→c ≠ X.env.locals:=fun x c e z=>by
  obtain ⟨v,o,ho,hd⟩:=I.cell x c e
  obtain ⟨m,⟨o',es,ep,ho',hd',_⟩,_⟩:=I.loc
  rw [z,ho'] at ho; cases ho; rw [hd'] at hd; cases hd
theorem Inv.funs (I:Inv X pins σ H s):s.heap.FunFrames X.base X.outer:=by
  have all:∀ (l:List Env),(∀ b ∈ frs l,b ∈ X.fs)→X.s_0.heap.FunFrames X.base l→s.heap.FunFrames X.base l:=by
    intro l
    induction l with
    | nil=>intro _ _; trivial
    | cons env r ih =>
      intro hs hl
      obtain ⟨hk,⟨L,o,hf,hn,ho,hd⟩,hr⟩:=hl
      have hL:L ∈ X.fs:=hs L (by unfold frs; rw [List.filterMap_cons,hf]; exact List.mem_cons_self)
      obtain ⟨sl,e⟩:=I.base.slot L o ho (I.ok.frf L hL) hL fun z=>I.ok.exfs L z hL
      exact ⟨hk,⟨L,_,hf,hn,e,hd⟩,ih (fun b hb=>hs b (by unfold frs; rw [List.filterMap_cons,hf]; exact List.mem_cons_of_mem _ hb)) hr⟩
  exact all X.outer (fun _ hb=>hb) I.ok.funs
theorem Inv.stack (I:Inv X pins σ H s):s.heap.FunFrames X.base X.stack:=by
  rcases I.ok.stk with e | ⟨e,hf⟩
  · rw [e]; exact I.funs
  · rw [e]
    obtain ⟨m,hn,_⟩:=I.loc
    refine .cons (by rw [I.ok.kind]; decide) hf hn ?_ I.funs
    exact Heap.get?_none_of_le (Nat.le_trans I.ok.bsz I.ok.above)
theorem Inv.stkSub (I:Inv X pins σ H s):∀ b ∈ frs X.stack,b ∈ X.env.locals :: X.fs:=fun b hb=>by
  rcases I.ok.stk with e | ⟨e,hf⟩
  · rw [e] at hb; exact List.mem_cons_of_mem _ hb
  · rw [e] at hb
    unfold frs at hb
    rw [List.filterMap_cons,hf] at hb
    exact hb
theorem Inv.stkFree (I:Inv X pins σ H s):∀ b ∈ frs X.stack,H b = none:=fun b hb=>by
  rcases List.mem_cons.mp (I.stkSub b hb) with e | hb
  · rw [e]; exact I.free
  · obtain ⟨_,o,ho,_⟩:=I.ok.funs.mem hb
    exact I.base.free b o ho (I.ok.frf b hb) fun z=>I.ok.exfs b z hb
theorem Inv.step {g':Array GenState} {t':Nat} {d':Drawn} {ch:List Addr} (I:Inv X pins σ H s)
    (hch:∀ b ∈ ch,(b ∈ X.ex∨X.s_0.heap.objs.size ≤ b)∧b ≠ X.env.locals∧(∀ x c,X.env.cells.lookup x = some c→c ≠ b)∧∀ p ∈ X.pn ++ pins,p.1 ≠ b)
    (keep:∀ b o,b ≠ X.env.locals→b ∉ X.fs→b ∉ ch→s.heap.get? b = some o→H b = none→h'.get? b = some o)
    (slot:∀ b o,b ≠ X.env.locals→b ∈ X.fs→b ∉ ch→s.heap.get? b = some o→H b = none→∃ sl,h'.get? b = some { o with slots:=sl }) (free:∀ b o,b ∉ ch→s.heap.get? b = some o→H b = none→H' b = none)
    (there:∀ b o,b ∉ ch→s.heap.get? b = some o→∃ o',h'.get? b = some o')
    (tups:∀ b xs,H b = some (.tup xs)→H' b = some (.tup xs)) (frzs:∀ b o u,H b = some (.frz o u)→H' b = some (.frz o u)) (tbls:∀ b q,H b = some (.tbl q)→H' b = some (.tbl q))
    (ns:∀ m,s.heap.Ns X.env.locals m→h'.Ns X.env.locals m) (hok:HOk X.prog X.w H' h') (hg:AllBare g') :
    Inv X pins σ H' { s with heap:=h',gens:=g',drawn:=d',toks:=t' }:=by
  have neL:∀ b o,X.s_0.heap.get? b = some o→b ≠ X.env.locals:=fun b o e=>Nat.ne_of_lt (Nat.lt_of_lt_of_le (Heap.lt_size e) I.ok.above)
  have neC:∀ b o,X.s_0.heap.get? b = some o→b ∉ X.ex→b ∉ ch:=fun b o e hx hb=>by
    rcases (hch b hb).1 with z | z
    · exact hx z
    · exact absurd (Nat.lt_of_lt_of_le (Heap.lt_size e) z) (Nat.lt_irrefl _)
  have cellK:∀ x c,X.env.cells.lookup x = some c→∀ v,s.heap.IsCell c v→h'.IsCell c v:=fun x c e v ⟨o,ho,hd⟩=>by
    have nch:c ∉ ch:=fun z=>(hch c z).2.2.1 x c e rfl
    by_cases hc:c ∈ X.fs
    · obtain ⟨sl,q⟩:=slot c o (I.cne x c e) hc nch ho (I.freeC x c e)
      exact ⟨_,q,hd⟩
    · exact ⟨o,keep c o (I.cne x c e) hc nch ho (I.freeC x c e),hd⟩
  refine ⟨I.ok,I.os,hg,⟨fun b o e n hb hx=>?_,fun b o e n hb hx=>?_,fun b o e n hx=>?_,fun b o e hx=>?_,fun b xs e=>tups b xs (I.base.tups b xs e),fun b o xs e=>frzs b o xs (I.base.frzs b o xs e),fun b ps e=>tbls b ps (I.base.tbls b ps e)⟩,?_,fun x c e=>?_,?_,fun x c e=>?_,fun p hp=>?_,hok,I.len⟩
  · exact keep b o (neL b o e) hb (neC b o e hx) (I.base.keep b o e n hb hx) (I.base.free b o e n hx)
  · obtain ⟨sl,e1⟩:=I.base.slot b o e n hb hx
    obtain ⟨sl',e2⟩:=slot b _ (neL b o e) hb (neC b o e hx) e1 (I.base.free b o e n hx)
    exact ⟨sl',e2⟩
  · obtain ⟨o',e1⟩:=I.base.there b o e hx
    exact free b o' (neC b o e hx) e1 (I.base.free b o e n hx)
  · obtain ⟨o',e1⟩:=I.base.there b o e hx
    exact there b o' (neC b o e hx) e1
  · obtain ⟨m,hn,hl⟩:=I.loc
    refine ⟨m,ns m hn,fun i x v e1 e2 e3=>?_⟩
    obtain ⟨u,r,l⟩:=hl i x v e1 e2 e3
    refine ⟨u,r,?_⟩
    rcases l with l | ⟨k,c,e,z⟩
    · exact .inl l
    · exact .inr ⟨k,c,e,cellK x c e _ z⟩
  · obtain ⟨v,z⟩:=I.cell x c e
    exact ⟨v,cellK x c e v z⟩
  · obtain ⟨m,⟨o,_,_,ho,_⟩,_⟩:=I.loc
    exact free _ o (fun z=>(hch _ z).2.1 rfl) ho I.free
  · obtain ⟨v,o,ho,hd⟩:=I.cell x c e
    exact free c o (fun z=>(hch c z).2.2.1 x c e rfl) ho (I.freeC x c e)
  · obtain ⟨e,n,ne,nf,d⟩:=I.pin p hp
    have nch:p.1 ∉ ch:=fun z=>(hch p.1 z).2.2.2 p hp rfl
    exact ⟨keep p.1 p.2 ne nf nch e n,free p.1 p.2 nch e n,ne,nf,d⟩
theorem Inv.un {t':Nat} (I:Inv X pins σ H s) (u:Un X.fs [] H H' s.heap h') (hok:HOk X.prog X.w H' h'):Inv X pins σ H' { s with heap:=h',toks:=t' }:=by
  obtain ⟨m,⟨o,es,ep,ho,r⟩,_⟩:=id I.loc
  obtain ⟨sl,hL⟩:=u.any ho I.free (by simp)
  exact I.step (g':=s.gens) (d':=s.drawn) (ch:=[]) (fun _ z=>nomatch z) (fun b o _ hb _ e n=>u.keep b o e n hb (by simp)) (fun b o _ hb _ e n=>u.slot b o e n hb (by simp)) (fun b o _ e n=>u.free b o e n (by simp)) (fun b o _ e=>u.there b o e (by simp)) u.tups u.frzs u.tbls (fun m' hm=>by
    obtain ⟨o',es',ep',ho',r'⟩:=hm
    rw [ho] at ho'; cases ho'
    exact ⟨_,es',ep',hL,r'⟩) hok I.bare
theorem Inv.call {g':Array GenState} {t':Nat} {d':Drawn} {ch:List Addr} (I:Inv X pins σ H s) (u:Un (frs X.stack) ch H H' s.heap h') (hok:HOk X.prog X.w H' h') (hg:AllBare g')
    (hch:∀ b ∈ ch,(b ∈ X.ex∨X.s_0.heap.objs.size ≤ b)∧b ≠ X.env.locals∧(∀ x c,X.env.cells.lookup x = some c→c ≠ b)∧∀ p ∈ X.pn ++ pins,p.1 ≠ b) :
    Inv X pins σ H' { s with heap:=h',gens:=g',drawn:=d',toks:=t' }:=by
  obtain ⟨m,⟨o,es,ep,ho,r⟩,_⟩:=id I.loc
  obtain ⟨sl,hL⟩:=u.any ho I.free fun z=>(hch _ z).2.1 rfl
  exact I.step (ch:=ch) hch (fun b o hL hb hc e n=>u.keep b o e n (fun z=>(List.mem_cons.mp (I.stkSub b z)).elim hL hb) hc) (fun b o _ _ hc e n=>u.any e n hc) (fun b o hc e n=>u.free b o e n hc) (fun b o hc e=>u.there b o e hc) u.tups u.frzs u.tbls (fun m' hm=>by
    obtain ⟨o',es',ep',ho',r'⟩:=hm
    rw [ho] at ho'; cases ho'
    exact ⟨_,es',ep',hL,r'⟩) hok hg
theorem Inv.turned {t':Nat} {it:Addr} (I:Inv X pins σ H s) (k:∀ b o,b ≠ it→s.heap.get? b = some o→h'.get? b = some o) (hn:H it = none) (hL:it ≠ X.env.locals)
    (h1:it ∈ X.ex∨X.s_0.heap.objs.size ≤ it) (h2:∀ x c,X.env.cells.lookup x = some c→c ≠ it) (h3:∀ p ∈ X.pn ++ pins,p.1 ≠ it):Inv X pins σ H { s with heap:=h',toks:=t' }:=by
  have nit:∀ b u,H b = some u→b ≠ it:=fun b u e z=>by rw [z,hn] at e; cases e
  refine I.step (g':=s.gens) (d':=s.drawn) (ch:=[it]) (fun b hb=>?_) (fun b o _ _ hc e _=>k b o (fun z=>hc (by simp [z])) e) (fun b o _ _ hc e _=>⟨o.slots,k b o (fun z=>hc (by simp [z])) e⟩) (fun _ _ _ _ n=>n)
    (fun b o hc e=>⟨o,k b o (fun z=>hc (by simp [z])) e⟩) (fun _ _ e=>e) (fun _ _ _ e=>e) (fun _ _ e=>e) (fun m hm=>?_) (fun b u e=>?_) I.bare
  · have e:b = it:=by simpa using hb
    subst e
    exact ⟨h1,hL,h2,h3⟩
  · obtain ⟨o,es,ep,ho,r⟩:=hm
    exact ⟨o,es,ep,k _ o (Ne.symm hL) ho,r⟩
  · refine (I.hok b u e).stay (fun c v hc q=>k c v ?_ q) (fun _ q=>q) fun _ _ q=>q
    rcases hc with z | z
    · rw [z]; exact nit b u e
    · exact nit c _ z
theorem Inv.tok (I:Inv X pins σ H s) (t:Nat):Inv X pins σ H { s with toks:=t }:=I.un (h':=s.heap) (t':=t) Un.refl I.hok
theorem Inv.kept {t':Nat} (I:Inv X pins σ H s) (k:∀ b u,s.heap.get? b = some u→h'.get? b = some u):Inv X pins σ H { s with heap:=h',toks:=t' }:=I.un (Un.kept k) (I.hok.kept k)
theorem Inv.laid {a:Addr} {o:HO} {t':Nat} (I:Inv X pins σ H s) (k:∀ b u,s.heap.get? b = some u→h'.get? b = some u) (hp:s.heap.objs.size ≤ a) (new:zAF X.prog X.w (upd H a o) h' a o) :
    Inv X pins σ (upd H a o) { s with heap:=h',toks:=t' }:=I.un (Un.laid k hp (I.hok.fresh hp)) (I.hok.laid k hp new)
theorem Inv.write {x e:Addr} {o:HO} {t':Nat} (I:Inv X pins σ H s) (mu:Mut (H x)) (he:e = x∨H e = some (.own x)) (k:∀ b u,b ≠ e→s.heap.get? b = some u→h'.get? b = some u) (heo:∃ u,h'.get? e = some u)
    (new:zAF X.prog X.w (upd H x o) h' x o):Inv X pins σ (upd H x o) { s with heap:=h',toks:=t' }:=I.un (Un.write mu he k heo) (I.hok.write mu he k heo new)
theorem Inv.weak {σ':List (Option V)} (I:Inv X pins σ H s) (hl:σ'.length = σ.length) (w:∀ (i:Nat) v,σ'[i]? = some (some v)→σ[i]? = some (some v)):Inv X pins σ' H s :=
  ⟨I.ok,I.os,I.bare,I.base,let ⟨m,hn,hl'⟩:=I.loc; ⟨m,hn,fun i x v e1 e2 e3=>hl' i x v e1 (w i v e2) e3⟩,I.cell,I.free,I.freeC,I.pin,I.hok,hl.trans I.len⟩
theorem Inv.pins_of {pins':List (Addr × Obj)} (I:Inv X pins σ H s) (h:∀ p ∈ pins',s.heap.get? p.1 = some p.2∧H p.1 = none∧p.1 ≠ X.env.locals∧p.1 ∉ X.fs∧∀ v,p.2.data ≠ .cell v):Inv X pins' σ H s :=
  ⟨I.ok,I.os,I.bare,I.base,I.loc,I.cell,I.free,I.freeC,fun p hp=>(List.mem_append.mp hp).elim (fun z=>I.pin p (List.mem_append_left _ z)) (h p),I.hok,I.len⟩
theorem nodup_ix {N:List Str} (hN:N.Nodup) {i j:Nat} {x:Str} (a:N[i]? = some x) (b:N[j]? = some x):i = j:=by
  obtain ⟨h1,e1⟩:=List.getElem?_eq_some_iff.mp a
  obtain ⟨h2,e2⟩:=List.getElem?_eq_some_iff.mp b
  exact (List.getElem_inj hN).mp (e1.trans e2.symm)
theorem store_ok2 {M:Model} {A:Around} {E:Value→Shared→Prop} {i:Nat} {x:Str} {v:V} {u:Value} {Q:Unit→Shared→Prop} (I:Inv X pins σ H s) (hN:X.N.Nodup) (hi:X.N[i]? = some x) (hx:Loc X.env.scope x) (r:qU v u)
    (h:∀ s',Inv X pins (σ.set i (some v)) H s'→(∃ a,Heap.SameBut a s.heap s'.heap∧(a = X.env.locals∨X.env.cells.lookup x = some a))→Q () s') (hf:X.fn x = true∨X.env.scope.names.lookup x = some .local:=by first | exact .inl rfl | exact .inr rfl | assumption):wpAny M A (storeName X.env x u) Q E s:=by
  obtain ⟨m,hn,hl⟩:=id I.loc
  have hcls:(X.env.scope.kind == .class || (X.env.scope.kind == .module && X.env.locals != X.env.globals)) = false:=by rw [I.ok.kind]; rfl
  have hiσ:i < σ.length:=by rw [I.len]; exact (List.getElem?_eq_some_iff.mp hi).1
  have cne:=I.cne
  have tracked:∀ {a:Addr} {h':Heap},(∃ o,s.heap.get? a = some o∧H a = none)→Heap.SameBut a s.heap h'→HOk X.prog X.w H h':=fun {a h'} ha hs b ob e=>by
    obtain ⟨_,_,hfree⟩:=ha
    refine (I.hok b ob e).stay (fun c w' hc q=>(hs.2 c ?_).trans q) (fun _ q=>q) fun _ _ q=>q
    rintro rfl
    rcases hc with rfl | hc
    · rw [hfree] at e; cases e
    · rw [hfree] at hc; cases hc
  rcases hx with hk | hk
  · refine wpAny_storeName_local hk hn (fun h' hn' hs=>?_) hcls
    obtain ⟨oL,_,_,hoL,_⟩:=id hn
    refine h _ ⟨I.ok,I.os,I.bare,⟨fun b o e n hb hx=>?_,fun b o e n hb hx=>?_,I.base.free,fun b o e hx=>?_,I.base.tups,I.base.frzs,I.base.tbls⟩,⟨_,hn',fun j y v' e1 e2 e3=>?_⟩,fun y c e=>?_,I.free,I.freeC,fun p hp=>?_,tracked ⟨oL,hoL,I.free⟩ hs,by simpa using I.len⟩ ⟨_,hs,.inl rfl⟩
    · exact (hs.2 b (Nat.ne_of_lt (Nat.lt_of_lt_of_le (Heap.lt_size e) I.ok.above))).trans (I.base.keep b o e n hb hx)
    · obtain ⟨sl,e1⟩:=I.base.slot b o e n hb hx
      exact ⟨sl,(hs.2 b (Nat.ne_of_lt (Nat.lt_of_lt_of_le (Heap.lt_size e) I.ok.above))).trans e1⟩
    · obtain ⟨o',e1⟩:=I.base.there b o e hx
      exact ⟨o',(hs.2 b (Nat.ne_of_lt (Nat.lt_of_lt_of_le (Heap.lt_size e) I.ok.above))).trans e1⟩
    · by_cases hj:j = i
      · subst hj
        rw [hi] at e1; cases e1
        rw [List.getElem?_set_self hiσ] at e2
        cases e2
        exact ⟨u,r,.inl ⟨hk,by simp⟩⟩
      · rw [List.getElem?_set_ne (Ne.symm hj)] at e2
        obtain ⟨u',r',q⟩:=hl j y v' e1 e2 e3
        refine ⟨u',r',?_⟩
        rcases q with ⟨k,e⟩ | ⟨k,c,e,z⟩
        · refine .inl ⟨k,?_⟩
          have:y ≠ x:=fun e=>hj (nodup_ix hN e1 (e ▸ hi))
          simp [this,e]
        · exact .inr ⟨k,c,e,z.sameBut hs (cne y c e)⟩
    · obtain ⟨w',z⟩:=I.cell y c e
      exact ⟨w',z.sameBut hs (cne y c e)⟩
    · obtain ⟨e,n,ne,nf,d⟩:=I.pin p hp
      exact ⟨(hs.2 p.1 ne).trans e,n,ne,nf,d⟩
  · have hfn:X.fn x = true:=by
      rcases hf with z | z
      · exact z
      · rw [z] at hk; cases hk
    obtain ⟨c,hc⟩:=I.ok.has x (.inl hk)
    obtain ⟨w',z⟩:=I.cell x c hc
    refine wpAny_storeName_cell I.ok.kind hk hc z (fun h' hc' hs=>?_)
    obtain ⟨oc,hoc,hocd⟩:=id z
    refine h { s with heap:=h' } ⟨I.ok,I.os,I.bare,⟨fun b o e n hb hx=>?_,fun b o e n hb hx=>?_,I.base.free,fun b o e hx=>?_,I.base.tups,I.base.frzs,I.base.tbls⟩,⟨m,hn.sameBut hs (Ne.symm (cne x c hc)),fun j y v' e1 e2 e3=>?_⟩,fun y c' e=>?_,I.free,I.freeC,fun p hp=>?_,tracked ⟨oc,hoc,I.freeC x c hc⟩ hs,by simpa using I.len⟩ ⟨c,hs,.inr hc⟩
    · exact (hs.2 b (Nat.ne_of_lt (Nat.lt_of_lt_of_le (Heap.lt_size e) (I.ok.cab x c hfn hc)))).trans (I.base.keep b o e n hb hx)
    · obtain ⟨sl,e1⟩:=I.base.slot b o e n hb hx
      exact ⟨sl,(hs.2 b (Nat.ne_of_lt (Nat.lt_of_lt_of_le (Heap.lt_size e) (I.ok.cab x c hfn hc)))).trans e1⟩
    · obtain ⟨o',e1⟩:=I.base.there b o e hx
      exact ⟨o',(hs.2 b (Nat.ne_of_lt (Nat.lt_of_lt_of_le (Heap.lt_size e) (I.ok.cab x c hfn hc)))).trans e1⟩
    · by_cases hj:j = i
      · subst hj
        rw [hi] at e1; cases e1
        rw [List.getElem?_set_self hiσ] at e2
        cases e2
        exact ⟨u,r,.inr ⟨.inl hk,c,hc,hc'⟩⟩
      · rw [List.getElem?_set_ne (Ne.symm hj)] at e2
        obtain ⟨u',r',q⟩:=hl j y v' e1 e2 e3
        refine ⟨u',r',?_⟩
        rcases q with q | ⟨k,c',e,z'⟩
        · exact .inl q
        · refine .inr ⟨k,c',e,z'.sameBut hs ?_⟩
          rintro rfl
          exact hj (nodup_ix hN e1 (I.ok.inj _ _ _ e hc ▸ hi))
    · by_cases hcc:c' = c
      · subst hcc; exact ⟨_,hc'⟩
      · obtain ⟨w2,z2⟩:=I.cell y c' e
        exact ⟨w2,z2.sameBut hs hcc⟩
    · obtain ⟨e,n,ne,nf,d⟩:=I.pin p hp
      refine ⟨(hs.2 p.1 ?_).trans e,n,ne,nf,d⟩
      intro q
      rw [q,hoc] at e
      have q':oc = p.2:=Option.some.inj e
      exact d w' (by rw [← q']; exact hocd)
theorem store_ok {M:Model} {A:Around} {E:Value→Shared→Prop} {i:Nat} {x:Str} {v:V} {u:Value} {Q:Unit→Shared→Prop} (I:Inv X pins σ H s) (hN:X.N.Nodup) (hi:X.N[i]? = some x) (hx:Loc X.env.scope x) (r:qU v u)
    (h:∀ s',Inv X pins (σ.set i (some v)) H s'→Q () s') (hf:X.fn x = true∨X.env.scope.names.lookup x = some .local:=by first | exact .inl rfl | exact .inr rfl | assumption):wpAny M A (storeName X.env x u) Q E s :=
  store_ok2 I hN hi hx r (fun s' I' _=>h s' I') hf
theorem Inv.call' {s':Shared} {ch:List Addr} (I:Inv X pins σ H s) (ho:s'.os = s.os) (u:Un (frs X.stack) ch H H' s.heap s'.heap) (hok:HOk X.prog X.w H' s'.heap) (hg:AllBare s'.gens)
    (hch:∀ b ∈ ch,(b ∈ X.ex∨X.s_0.heap.objs.size ≤ b)∧b ≠ X.env.locals∧(∀ x c,X.env.cells.lookup x = some c→c ≠ b)∧∀ p ∈ X.pn ++ pins,p.1 ≠ b):Inv X pins σ H' s':=by
  obtain ⟨h',g',d',t',o'⟩:=s'
  have e:o' = s.os:=ho
  subst e
  exact I.call (g':=g') (t':=t') (d':=d') u hok hg hch
end
abbrev XK:=Value→Option Addr→Hp→Prop
abbrev St:=List (Option V)
abbrev VK:=V→Hp→Prop
abbrev TE:=St→Hp→VK→Prop
abbrev TT:=St→Hp→(Bool→Hp→Prop)→Prop
abbrev TA:=St→Hp→(List V→Hp→Prop)→Prop
structure zC4 where
  nx:St→Hp→Prop
  rt:VK
  bk:St→Hp→Prop:=fun _ _=>False
  ct:St→Hp→Prop:=fun _ _=>False
abbrev TS:=zC4→St→Hp→Prop
def EP (X:Cx) (pins:List (Addr × Obj)) (σ:St) (Q:VK) (u:Value) (s':Shared):Prop:=∃ v H',Inv X pins σ H' s'∧qU v u∧Q v H'
def TP (X:Cx) (pins:List (Addr × Obj)) (σ:St) (Q:Bool→Hp→Prop) (b:Bool) (s':Shared):Prop:=∃ H',Inv X pins σ H' s'∧Q b H'
def AP (X:Cx) (pins:List (Addr × Obj)) (σ:St) (Q:List V→Hp→Prop) (us:List Value) (s':Shared):Prop:=∃ vs H',Inv X pins σ H' s'∧jS vs us∧Q vs H'
def SP (X:Cx) (pins:List (Addr × Obj)) (D:zC4) (f:Flow) (s':Shared):Prop :=
  match f with
  | .next=>∃ σ' H',Inv X pins σ' H' s'∧D.nx σ' H'
  | .brk=>∃ σ' H',Inv X pins σ' H' s'∧D.bk σ' H'
  | .cont=>∃ σ' H',Inv X pins σ' H' s'∧D.ct σ' H'
  | .ret u=>∃ v σ' H',Inv X pins σ' H' s'∧qU v u∧D.rt v H'
def PE (X:Cx) (e:Expr) (t:TE):Prop :=
  ∀ (pins:List (Addr × Obj)) (s:Shared) (σ:St) (H:Hp) (Q:VK),Inv X pins σ H s→t σ H Q→wpAny (model X.prog X.w) X.A (eval e X.env) (EP X pins σ Q) X.xe s
def PT (X:Cx) (e:Expr) (t:TT):Prop :=
  ∀ (pins:List (Addr × Obj)) (s:Shared) (σ:St) (H:Hp) (Q:Bool→Hp→Prop),Inv X pins σ H s→t σ H Q→wpAny (model X.prog X.w) X.A (isTrue e X.env (eval e X.env)) (TP X pins σ Q) X.xe s
def PW (X:Cx) (e:Expr) (t:TT):Prop :=
  ∀ (whole:Sem Value) (pins:List (Addr × Obj)) (s:Shared) (σ:St) (H:Hp) (Q:Bool→Hp→Prop),Inv X pins σ H s→t σ H Q→wpAny (model X.prog X.w) X.A (isTrue e X.env whole) (TP X pins σ Q) X.xe s
theorem PW.pt {X:Cx} {e:Expr} {t:TT} (h:PW X e t):PT X e t:=h _
def PA (X:Cx) (es:List Expr) (t:TA):Prop :=
  ∀ (pos:Pos) (pins:List (Addr × Obj)) (s:Shared) (σ:St) (H:Hp) (Q:List V→Hp→Prop),Inv X pins σ H s→t σ H Q→wpAny (model X.prog X.w) X.A (spliced (backTo pos (starEach es X.env))) (AP X pins σ Q) X.xe s
def PS (X:Cx) (st:Stmt) (t:TS):Prop :=
  ∀ (pins:List (Addr × Obj)) (s:Shared) (σ:St) (H:Hp) (D:zC4),Inv X pins σ H s→t D σ H→wpAny (model X.prog X.w) X.A (exec st X.env) (SP X pins D) X.xe s
def PSs (X:Cx) (st:List Stmt) (t:TS):Prop :=
  ∀ (pins:List (Addr × Obj)) (s:Shared) (σ:St) (H:Hp) (D:zC4),Inv X pins σ H s→t D σ H→wpAny (model X.prog X.w) X.A (execs st X.env) (SP X pins D) X.xe s
theorem thn {α:Type} {t:Sem α} {Q Q':α→Shared→Prop} {M:Model} {A:Around} {E:Value→Shared→Prop} {s:Shared} (h:wpAny M A t Q E s) (hQ:∀ a s,Q a s→Q' a s):wpAny M A t Q' E s:=wpAny_mono h hQ fun _ _ x=>x
end L2
namespace L2
open PySem PySem.Spec PyProof.Rows
section
variable {X:Cx}
def zD4 (i:Nat):TE:=fun σ H Q=>∃ v,σ[i]? = some (some v)∧Q v H
def tC (v:V):TE:=fun _ H Q=>Q v H
theorem pe_var {i:Nat} {x:Str} {pos:Pos} (hN:X.N[i]? = some x) (hv:Vis X.env.scope x) (hd:(x == ("__debug__" : Str)) = false:=by decide) (hcd:(x == ("__classdict__" : Str)) = false:=by decide):PE X (.Name x pos) (zD4 i):=by
  intro pins s σ H Q I h
  obtain ⟨v,e,h⟩:=h
  obtain ⟨m,hn,hl⟩:=I.loc
  obtain ⟨u,r,l⟩:=hl i x v hN e hv
  have fin:EP X pins σ Q u s:=⟨v,H,I,r,h⟩
  rcases l with ⟨hk,hm⟩ | ⟨hk,c,hc,hcell⟩
  · exact wpAny_Name (wpAny_loadName_local I.ok.kind hk hn hm fin) hd
  · rcases hk with hk | hk
    · exact wpAny_Name (wpAny_loadName_cell I.ok.kind hk hc hcell fin) hd
    · exact wpAny_Name (wpAny_loadName_free I.ok.kind hk hc hcell fin hcd) hd
theorem yC {i j pos}:PE X (.Constant (.int i) j pos) (tC (.int i)):=fun _ _ _ H _ I h=>wpAny_Constant_int ⟨.int i,H,I.tok _,⟨_,rfl⟩,h⟩
theorem pe_bl {b j pos}:PE X (.Constant (.bool b) j pos) (tC (.bl b)):=fun _ _ _ H _ I h=>Constant_bool ⟨.bl b,H,I,rfl,h⟩
theorem pe_non {j pos}:PE X (.Constant .none j pos) (tC .non):=fun _ _ _ H _ I h=>Constant_none ⟨.non,H,I,rfl,h⟩
def Gl (X:Cx) (x:Str):Prop:=X.env.kindOf x = some .globalImplicit
theorem ld_glob {E:Value→Shared→Prop} {pins:List (Addr × Obj)} {s:Shared} {σ:St} {H:Hp} {x:Str} {u:Value} {pos:Pos} {Q:Value→Shared→Prop} (I:Inv X pins σ H s) (hg:Gl X x) (hm:X.mg x = some u) (h:Q u s)
    (hd:(x == ("__debug__" : Str)) = false:=by decide):wpAny (model X.prog X.w) X.A (eval (.Name x pos) X.env) Q E s :=
  Calls.Name_function_global I.ok.kind hg (Calls.loadGlobal_global (by rw [I.ok.glob]; exact I.mod.glob.keeps I.bk) hm h) hd
theorem zIU {E:Value→Shared→Prop} {pins:List (Addr × Obj)} {s:Shared} {σ:St} {H:Hp} {x:Str} {u:Value} {pos:Pos} {Q:Value→Shared→Prop} (I:Inv X pins σ H s) (hg:Gl X x) (hm:X.mg x = none) (hv:bootBuiltins x = some u) (h:Q u s)
    (hn:x ≠ "__name__" := by decide) (hd:(x == ("__debug__" : Str)) = false:=by decide):wpAny (model X.prog X.w) X.A (eval (.Name x pos) X.env) Q E s:=by
  obtain ⟨mb,h1,h2⟩:=I.mod.blt
  exact Calls.Name_function_global I.ok.kind hg (Calls.loadGlobal_builtin (by rw [I.ok.glob]; exact I.mod.glob.keeps I.bk) hm (by rw [I.ok.blt]; exact h1.keeps I.bk) ((h2 x hn).trans hv) h) hd
theorem pe_glob {x:Str} {v:V} {u:Value} {pos:Pos} (hg:Gl X x) (hm:X.mg x = some u) (r:qU v u) (hd:(x == ("__debug__" : Str)) = false:=by decide):PE X (.Name x pos) (tC v) :=
  fun _ _ _ H _ I h=>ld_glob I hg hm ⟨v,H,I,r,h⟩ hd
variable {a b:Expr} {ta tb:TE} {pos:Pos}
def tB (t:TE):TT:=fun σ H Q=>t σ H fun x H1=>∃ c,x = .bl c∧Q c H1
theorem zAJ {e:Expr} {t:TE} (h:PE X e t) (he:∀ whole,isTrue e X.env whole = (do let v ← whole; standAt e.pos; holding [v] (truthy v)):=by intro _; rfl):PT X e (tB t):=by
  intro pins s σ H Q I hw
  refine isTrue_plain (thn (h pins s σ H _ I hw) fun v s1 ⟨x,H1,I1,r1,q1⟩=>?_) (he _)
  obtain ⟨d,rfl,q⟩:=q1
  cases r1
  exact wpAny_truthy_bool ⟨H1,I1,q⟩
variable {tA tB':TT} {rest:List Expr}
def tAnd (t u:TT):TT:=fun σ H Q=>t σ H fun c H1=>if c = true then u σ H1 Q else Q false H1
def tOr (t u:TT):TT:=fun σ H Q=>t σ H fun c H1=>if c = true then Q true H1 else u σ H1 Q
def tNot (t:TT):TT:=fun σ H Q=>t σ H fun c H1=>Q (!c) H1
theorem pw_and1 (ha:PT X a tA):PW X (.BoolOp .And [a] pos) tA:=by
  intro wh pins s σ H Q I h
  refine isTrue_and (thn (ha pins s σ H Q I h) fun c s1 e=>?_)
  cases c with
  | true=>exact isTrue_and_nil e
  | false=>exact e
theorem pw_or1 (ha:PT X a tA):PW X (.BoolOp .Or [a] pos) tA:=by
  intro wh pins s σ H Q I h
  refine isTrue_or (thn (ha pins s σ H Q I h) fun c s1 e=>?_)
  cases c with
  | false=>exact isTrue_or_nil e
  | true=>exact e
theorem pw_and (ha:PT X a tA) (hb:PW X (.BoolOp .And (b :: rest) pos) tB'):PW X (.BoolOp .And (a :: b :: rest) pos) (tAnd tA tB'):=by
  intro wh pins s σ H Q I h
  refine isTrue_and (thn (ha pins s σ H _ I h) fun c s1 ⟨H1,I1,q1⟩=>?_)
  cases c with
  | true=>exact hb wh pins s1 σ H1 Q I1 q1
  | false=>exact ⟨H1,I1,q1⟩
theorem pw_or (ha:PT X a tA) (hb:PW X (.BoolOp .Or (b :: rest) pos) tB'):PW X (.BoolOp .Or (a :: b :: rest) pos) (tOr tA tB'):=by
  intro wh pins s σ H Q I h
  refine isTrue_or (thn (ha pins s σ H _ I h) fun c s1 ⟨H1,I1,q1⟩=>?_)
  cases c with
  | true=>exact ⟨H1,I1,q1⟩
  | false=>exact hb wh pins s1 σ H1 Q I1 q1
theorem pt_not (ha:PT X a tA):PT X (.UnaryOp .Not a pos) (tNot tA):=by
  intro pins s σ H Q I h
  exact isTrue_not (ha pins s σ H (fun c H1=>Q (!c) H1) I h)
def tAndV (ta tb:TE):TE:=fun σ H Q=>ta σ H fun x H1=>∃ c,x = .bl c∧if c = true then tb σ H1 Q else Q (.bl false) H1
def tOrV (ta tb:TE):TE:=fun σ H Q=>ta σ H fun x H1=>∃ c,x = .bl c∧if c = true then Q (.bl true) H1 else tb σ H1 Q
theorem pe_one {op} {t:TE} (h:PE X a t):PE X (.BoolOp op [a] pos) t:=fun pins s σ H Q I hw=>BoolOp_one (h pins s σ H Q I hw)
theorem pe_and (ha:PE X a ta) (hb:PE X (.BoolOp .And (b :: rest) pos) tb):PE X (.BoolOp .And (a :: b :: rest) pos) (tAndV ta tb):=by
  intro pins s σ H Q I h
  refine BoolOp_and (thn (ha pins s σ H _ I h) fun v s1 ⟨x,H1,I1,r1,q1⟩=>?_)
  obtain ⟨c,rfl,q1⟩:=q1
  cases r1
  refine wpAny_truthy_bool ?_
  cases c with
  | true=>exact hb pins s1 σ H1 Q I1 q1
  | false=>exact ⟨.bl false,H1,I1,rfl,q1⟩
theorem pe_or (ha:PE X a ta) (hb:PE X (.BoolOp .Or (b :: rest) pos) tb):PE X (.BoolOp .Or (a :: b :: rest) pos) (tOrV ta tb):=by
  intro pins s σ H Q I h
  refine BoolOp_or (thn (ha pins s σ H _ I h) fun v s1 ⟨x,H1,I1,r1,q1⟩=>?_)
  obtain ⟨c,rfl,q1⟩:=q1
  cases r1
  refine wpAny_truthy_bool ?_
  cases c with
  | false=>exact hb pins s1 σ H1 Q I1 q1
  | true=>exact ⟨.bl true,H1,I1,rfl,q1⟩
def tIf (t:TT) (ta tb:TE):TE:=fun σ H Q=>t σ H fun c H1=>if c = true then ta σ H1 Q else tb σ H1 Q
theorem zCJ {c:Expr} (hc:PT X c tA) (ha:PE X a ta) (hb:PE X b tb):PE X (.IfExp c a b pos) (tIf tA ta tb):=by
  intro pins s σ H Q I h
  refine wpAny_IfExp (thn (hc pins s σ H _ I h) fun d s1 ⟨H1,I1,q1⟩=>?_)
  cases d with
  | true=>exact ha pins s1 σ H1 Q I1 q1
  | false=>exact hb pins s1 σ H1 Q I1 q1
end
end L2
namespace L2
open PySem PySem.Spec PyProof.Rows
def SqL (K:PySem.W.Frag) (H:Hp) (a:Addr) (xs:List V):Prop :=
  Rd H a (.lst xs) ∨
    ∃ (o:Obj) (its:Array Value) (n:Nat),K.lookup a = some o∧o.cls = .type "list" ∧ o.dict = none∧o.data = .seq its n∧its.size ≤ sizeLine∧jS xs its.toList
def SqT (K:PySem.W.Frag) (H:Hp) (a:Addr) (xs:List V):Prop :=
  Rd H a (.tup xs) ∨
    ∃ (o:Obj) (its:Array Value) (n:Nat),K.lookup a = some o∧o.cls = .type "tuple" ∧ o.data = .seq its n∧its.size ≤ sizeLine∧jS xs its.toList
def absV:Value→Option V
  | .none=>some .non
  | .bool b=>some (.bl b)
  | .int i _=>some (.int i)
  | .str x _=>some (.str x)
  | .bytes b _=>some (.byt b)
  | .float b _=>some (.flt b)
  | .ref a=>some (.ref a)
  | .type n=>some (.ty n)
  | _=>none
theorem qU.abs {x:V} {u:Value} (r:qU x u):absV u = some x:=by
  cases x with
  | non=>cases r; rfl
  | bl _=>cases r; rfl
  | int _=>obtain ⟨t,rfl⟩:=r; rfl
  | str _=>obtain ⟨t,rfl⟩:=r; rfl
  | byt _=>obtain ⟨t,rfl⟩:=r; rfl
  | flt _=>obtain ⟨t,rfl⟩:=r; rfl
  | ref _=>cases r; rfl
  | ty _=>cases r; rfl
theorem qU.inj {x y:V} {u:Value} (r:qU x u) (q:qU y u):x = y:=Option.some.inj (r.abs.symm.trans q.abs)
theorem jS.inj:∀ {xs ys:List V} {us:List Value},jS xs us→jS ys us→xs = ys
  | _,_,_,.nil,.nil=>rfl
  | _,_,_,.cons r t,.cons r' t'=>by rw [r.inj r',jS.inj t t']
section
variable {X:Cx} {pins:List (Addr × Obj)} {σ:St} {H:Hp} {s:Shared} {a:Addr} {xs ys:List V}
theorem SqL.of {K:PySem.W.Frag} (h:H a = some (.lst xs)):SqL K H a xs:=.inl (.inl h)
theorem SqT.of {K:PySem.W.Frag} (h:H a = some (.tup xs)):SqT K H a xs:=.inl (.inl h)
theorem Inv.list (I:Inv X pins σ H s) (h:SqL X.K H a xs):∃ its:List Value,jS xs its∧PlainL s.heap a its.toArray∧xs.length ≤ sizeLine:=by
  rcases h with h | ⟨o,its,n,hk,hc,hd,hs,hz,r⟩
  · obtain ⟨z,its,n,r,e⟩:=h.ok I.hok
    exact ⟨its,r,⟨_,n,e,rfl,rfl,rfl⟩,z⟩
  · refine ⟨its.toList,r,⟨o,n,I.kIn a o hk,hc,hd,by simpa using hs⟩,?_⟩
    have e:=r.length
    simp only [Array.length_toList] at e
    omega
theorem Inv.tuple (I:Inv X pins σ H s) (h:SqT X.K H a xs):∃ its:List Value,jS xs its∧IsTup s.heap a its.toArray∧xs.length ≤ sizeLine:=by
  rcases h with h | ⟨o,its,n,hk,hc,hs,hz,r⟩
  · obtain ⟨z,its,r,p⟩:=h.ok I.hok
    exact ⟨its,r,p,z⟩
  · refine ⟨its.toList,r,⟨o,I.kIn a o hk,hc,n,by simpa using hs⟩,?_⟩
    have e:=r.length
    simp only [Array.length_toList] at e
    omega
theorem Inv.list_inj (I:Inv X pins σ H s) (h:SqL X.K H a xs) (h':SqL X.K H a ys):xs = ys:=by
  obtain ⟨its,r,⟨o,n,e,_,_,d⟩,_⟩:=I.list h
  obtain ⟨its',r',⟨o',n',e',_,_,d'⟩,_⟩:=I.list h'
  rw [e] at e'; cases e'
  rw [d] at d'
  injection d' with d1 _
  have:its = its':=by simpa using congrArg Array.toList d1
  subst this
  exact r.inj r'
theorem Inv.tuple_inj (I:Inv X pins σ H s) (h:SqT X.K H a xs) (h':SqT X.K H a ys):xs = ys:=by
  obtain ⟨its,r,⟨o,e,_,n,d⟩,_⟩:=I.tuple h
  obtain ⟨its',r',⟨o',e',_,n',d'⟩,_⟩:=I.tuple h'
  rw [e] at e'; cases e'
  rw [d] at d'
  injection d' with d1 _
  have:its = its':=by simpa using congrArg Array.toList d1
  subst this
  exact r.inj r'
end
abbrev Cx.wish (X:Cx) (E:Value→Shared→Prop):Cx:={ X with xe:=E }
abbrev Cx.nox (X:Cx):Cx:=X.wish fun _ _=>False
theorem Cx.Ok.wish {X:Cx} (ok:X.Ok) (E:Value→Shared→Prop):(X.wish E).Ok :=
  ⟨ok.mod,ok.kind,ok.glob,ok.blt,ok.above,ok.inj,ok.has,ok.cab,ok.hd,ok.frames,ok.stk,ok.exf,ok.bs,ok.bsz,ok.noex,ok.exfs,ok.funs,ok.frf,ok.tab⟩
theorem Cx.Ok.unwish {X:Cx} {E:Value→Shared→Prop} (ok:(X.wish E).Ok):X.Ok :=
  ⟨ok.mod,ok.kind,ok.glob,ok.blt,ok.above,ok.inj,ok.has,ok.cab,ok.hd,ok.frames,ok.stk,ok.exf,ok.bs,ok.bsz,ok.noex,ok.exfs,ok.funs,ok.frf,ok.tab⟩
section
variable {X:Cx} {pins:List (Addr × Obj)} {σ:St} {H:Hp} {s:Shared} {E:Value→Shared→Prop}
theorem Inv.wish (I:Inv X pins σ H s) (E:Value→Shared→Prop):Inv (X.wish E) pins σ H s:=⟨I.ok.wish E,I.os,I.bare,I.base,I.loc,I.cell,I.free,I.freeC,I.pin,I.hok,I.len⟩
theorem Inv.unwish (I:Inv (X.wish E) pins σ H s):Inv X pins σ H s:=⟨I.ok.unwish,I.os,I.bare,I.base,I.loc,I.cell,I.free,I.freeC,I.pin,I.hok,I.len⟩
theorem SP.unwish {D:zC4} {f:Flow} {s':Shared} (h:SP (X.wish E) pins D f s'):SP X pins D f s':=by
  cases f with
  | next=>obtain ⟨σ',H',I,q⟩:=h; exact ⟨σ',H',I.unwish,q⟩
  | brk=>obtain ⟨σ',H',I,q⟩:=h; exact ⟨σ',H',I.unwish,q⟩
  | cont=>obtain ⟨σ',H',I,q⟩:=h; exact ⟨σ',H',I.unwish,q⟩
  | ret u=>obtain ⟨v,σ',H',I,r,q⟩:=h; exact ⟨v,σ',H',I.unwish,r,q⟩
theorem PSs.nox {st:List Stmt} {t:TS} (h:PSs X.nox st t):PSs X st t:=fun pins s σ H D I hw =>
  wpAny_mono (h pins s σ H D (I.wish _) hw) (fun _ _ q=>q.unwish) fun _ _ z=>False.elim z
end
section
variable {X:Cx} {st:Stmt} {rest:List Stmt} {t u:TS} {e:Expr} {te:TE} {pos:Pos}
def tNext:TS:=fun D σ H=>D.nx σ H
def zBW (t u:TS):TS:=fun D σ H=>t { D with nx:=u D } σ H
theorem zU:PSs X [] tNext:=fun _ _ σ H _ I h=>wpAny_execs_nil ⟨σ,H,I,h⟩
theorem zC (h1:PS X st t) (h2:PSs X rest u):PSs X (st :: rest) (zBW t u):=by
  intro pins s σ H D I h
  refine wpAny_execs_cons (thn (h1 pins s σ H { D with nx:=u D } I h) fun f s1 q=>?_)
  cases f with
  | next =>
    obtain ⟨σ',H',I',q⟩:=q
    exact h2 pins s1 σ' H' D I' q
  | ret v=>exact q
  | brk=>exact q
  | cont=>exact q
theorem zH (h1:PS X st t):PSs X [st] t:=by
  intro pins s σ H D I h
  refine wpAny_execs_cons (thn (h1 pins s σ H D I h) fun f s1 q=>?_)
  cases f with
  | next=>exact wpAny_execs_nil q
  | ret v=>exact q
  | brk=>exact q
  | cont=>exact q
theorem Inv.quiet {pins:List (Addr × Obj)} {σ:St} {H:Hp} {s:Shared} (I:Inv X pins σ H s):interactive X.env = false:=by simp [interactive,I.ok.kind]
def zC0 (te:TE):TS:=fun D σ H=>te σ H fun _ H1=>D.nx σ H1
theorem xL (he:PE X e te) (hs:swapsWith e none pos.line X.env = pure false:=by rfl):PS X (.Expr e pos) (zC0 te):=by
  intro pins s σ H D I h
  exact wpAny_Expr_any (thn (he pins s σ H _ I h) fun v s1 ⟨x,H1,I1,r1,q1⟩=>⟨σ,H1,I1,q1⟩) I.quiet hs
def tRet (te:TE):TS:=fun D σ H=>te σ H D.rt
theorem zO (he:PE X e te):PS X (.Return (some e) pos) (tRet te):=by
  intro pins s σ H D I h
  exact wpAny_Return_some (thn (he pins s σ H _ I h) fun v s1 ⟨x,H1,I1,r1,q1⟩=>⟨x,σ,H1,I1,r1,q1⟩)
def tIfS (c:TT) (t u:TS):TS:=fun D σ H=>c σ H fun b H1=>if b = true then t D σ H1 else u D σ H1
theorem yX {c:Expr} {a b:List Stmt} {tc:TT} (hc:PT X c tc) (ha:PSs X a t) (hb:PSs X b u):PS X (.If c a b pos) (tIfS tc t u):=by
  intro pins s σ H D I h
  refine wpAny_If (thn (hc pins s σ H _ I h) fun d s1 ⟨H1,I1,q1⟩=>?_)
  cases d with
  | true=>exact ha pins s1 σ H1 D I1 q1
  | false=>exact hb pins s1 σ H1 D I1 q1
end
abbrev TG:=V→St→Hp→(St→Hp→Prop)→Prop
abbrev TGs:=List V→St→Hp→(St→Hp→Prop)→Prop
def PG (X:Cx) (target:Expr) (t:TG):Prop :=
  ∀ (pins:List (Addr × Obj)) (s:Shared) (σ:St) (H:Hp) (v:V) (u:Value) (Q:St→Hp→Prop),Inv X pins σ H s→qU v u→t v σ H Q →
    wpAny (model X.prog X.w) X.A (assign target X.env u) (fun _ s'=>∃ σ' H',Inv X pins σ' H' s'∧Q σ' H') X.xe s
def PGs (X:Cx) (ts:List Expr) (t:TGs):Prop :=
  ∀ (pins:List (Addr × Obj)) (s:Shared) (σ:St) (H:Hp) (vs:List V) (us:List Value) (Q:St→Hp→Prop),Inv X pins σ H s→jS vs us→t vs σ H Q →
    wpAny (model X.prog X.w) X.A (assignInOrder ((assignEach ts X.env).map (·.2)) us) (fun _ s'=>∃ σ' H',Inv X pins σ' H' s'∧Q σ' H') X.xe s
abbrev TIp:=V→V→Hp→VK→Prop
def PIp (X:Cx) (op:Operator) (t:TIp):Prop :=
  ∀ (pins:List (Addr × Obj)) (s:Shared) (σ:St) (H:Hp) (x y:V) (v u:Value) (Q:VK),Inv X pins σ H s→qU x v→qU y u→t x y H Q →
    wpAny (model X.prog X.w) X.A (inplaceOp op v u) (EP X pins σ Q) X.xe s
section
variable {X:Cx} {pos:Pos}
def zA7 (i:Nat):TG:=fun v σ H Q=>Q (σ.set i (some v)) H
theorem jZ {i:Nat} {x:Str} (hN:X.N.Nodup) (hi:X.N[i]? = some x) (hx:Loc X.env.scope x) (hf:X.fn x = true∨X.env.scope.names.lookup x = some .local:=by first | exact .inl rfl | exact .inr rfl | assumption):PG X (.Name x pos) (zA7 i):=by
  intro pins s σ H v u Q I r h
  exact wpAny_assign_Name (store_ok I hN hi hx r (fun s' I'=>⟨_,H,I',h⟩) hf)
def gNil:TGs:=fun vs σ H Q=>vs = []∧Q σ H
def gCons (t:TG) (u:TGs):TGs:=fun vs σ H Q=>∃ v r,vs = v :: r∧t v σ H fun σ' H'=>u r σ' H' Q
theorem pgs_nil:PGs X [] gNil:=by
  intro pins s σ H vs us Q I r h
  obtain ⟨e,h⟩:=h
  subst e
  cases r
  exact assignInOrder_nil ⟨σ,H,I,h⟩
theorem pgs_cons {e:Expr} {es:List Expr} {t:TG} {u:TGs} (h1:PG X e t) (h2:PGs X es u)
    (hs:(assignEach (e :: es) X.env).map (·.2) = assign e X.env :: (assignEach es X.env).map (·.2):=by rfl):PGs X (e :: es) (gCons t u):=by
  intro pins s σ H vs us Q I r h
  obtain ⟨v,vr,e1,h⟩:=h
  subst e1
  cases r with
  | cons r rr =>
    rw [hs]
    refine assignInOrder_cons (thn (h1 pins s σ H _ _ _ I r h) fun _ s1 ⟨σ1,H1,I1,q1⟩=>?_)
    exact h2 pins s1 σ1 H1 _ _ Q I1 rr q1
def gTup (K:PySem.W.Frag) (n:Nat) (t:TGs):TG:=fun v σ H Q=>∃ a xs,v = .ref a∧SqT K H a xs∧xs.length = n∧t xs σ H Q
theorem pg_tup {es:List Expr} {k:Nat} {t:TGs} {n:Nat} (hc:X.calm = true) (h:PGs X es t)
    (hn:(assignEach es X.env).length = n:=by rfl) (hst:(assignEach es X.env).findIdx? (·.1) = none:=by rfl):PG X (.Tuple es k pos) (gTup X.K n t):=by
  intro pins s σ H v u Q I r hw
  obtain ⟨a,xs,e1,hq,hl,hw⟩:=hw
  subst e1
  cases r
  obtain ⟨its,rv,ht,hz⟩:=I.tuple hq
  refine assign_Tuple_tuple (I.ok.hd hc) ht (by simp [hn,← hl,rv.length]) hst fun h' hx=>?_
  have I1:Inv X pins σ H { s with heap:=h' }:=I.kept (t':=s.toks) fun b o e=>hx b o (Nat.ne_of_lt (Heap.lt_size e)) e
  exact h pins _ σ H xs _ Q I1 (by simpa using rv) hw
def tAsg (te:TE) (g:TG):TS:=fun D σ H=>te σ H fun x H1=>g x σ H1 D.nx
theorem yG {i:Nat} {x:Str} {e:Expr} {te:TE} {pos':Pos} (hN:X.N.Nodup) (hi:X.N[i]? = some x) (hx:Loc X.env.scope x) (he:PE X e te) (hs:swapsWith e (some (.Name x pos')) pos.line X.env = pure false:=by rfl) (hf:X.fn x = true∨X.env.scope.names.lookup x = some .local:=by first | exact .inl rfl | exact .inr rfl | assumption) :
    PS X (.Assign [.Name x pos'] e pos) (tAsg te (zA7 i)):=by
  intro pins s σ H D I h
  refine wpAny_Assign_Name (thn (he pins s σ H _ I h) fun v s1 ⟨y,H1,I1,r1,q1⟩=>?_) hs
  exact store_ok I1 hN hi hx r1 (fun s2 I2=>⟨_,H1,I2,q1⟩) hf
def tAug (i:Nat) (te:TE) (ti:TIp):TS:=fun D σ H=>∃ x,σ[i]? = some (some x)∧te σ H fun y H1=>ti x y H1 fun z H2=>D.nx (σ.set i (some z)) H2
theorem ps_aug {i:Nat} {x:Str} {e:Expr} {te:TE} {op:Operator} {ti:TIp} {pos':Pos} (hN:X.N.Nodup) (hi:X.N[i]? = some x) (hx:Loc X.env.scope x) (he:PE X e te) (ho:PIp X op ti) (hf:X.fn x = true∨X.env.scope.names.lookup x = some .local:=by first | exact .inl rfl | exact .inr rfl | assumption) :
    PS X (.AugAssign (.Name x pos') op e pos) (tAug i te ti):=by
  intro pins s σ H D I h
  obtain ⟨v,e1,h⟩:=h
  obtain ⟨m,hn,hl⟩:=I.loc
  have vis:Vis X.env.scope x:=by rcases hx with k | k; exact .inl k; exact .inr (.inl k)
  obtain ⟨u,r,l⟩:=hl i x v hi e1 vis
  refine wpAny_AugAssign_Name ?_
  have go:wpAny (model X.prog X.w) X.A (eval e X.env) (fun w s₂=>wpAny (model X.prog X.w) X.A (inplaceOp op u w) (fun r s₃=>wpAny (model X.prog X.w) X.A (storeName X.env x r) (fun _=>SP X pins D .next) X.xe s₃) X.xe s₂) X.xe s:=by
    refine thn (he pins s σ H _ I h) fun w s1 ⟨y,H1,I1,r1,q1⟩=>?_
    refine thn (ho pins s1 σ H1 v y u w _ I1 r r1 q1) fun z s2 ⟨zv,H2,I2,r2,q2⟩=>?_
    exact store_ok I2 hN hi hx r2 (fun s3 I3=>⟨_,H2,I3,q2⟩) hf
  rcases l with ⟨hk,hm⟩ | ⟨hk,c,hc,hcell⟩
  · exact wpAny_loadName_local I.ok.kind hk hn hm go
  · rcases hk with hk | hk
    · exact wpAny_loadName_cell I.ok.kind hk hc hcell go
    · rcases hx with k | k
      · have:X.env.scope.names.lookup x = some .free:=hk
        rw [k] at this; cases this
      · have:X.env.scope.names.lookup x = some .free:=hk
        rw [k] at this; cases this
def ipI (f:Int→Int→Int):TIp:=fun x y H Q=>∃ i j,x = .int i∧y = .int j∧Q (.int (f i j)) H
theorem ip_add:PIp X .Add (ipI fun i j=>i + j):=by
  intro pins s σ H x y v u Q I r1 r2 h
  obtain ⟨i,j,e1,e2,q⟩:=h
  subst e1; subst e2
  obtain ⟨t,rfl⟩:=r1
  obtain ⟨t',rfl⟩:=r2
  exact iadd_int ⟨.int _,H,I.tok _,⟨_,rfl⟩,q⟩
end
section
variable {X:Cx} {pos:Pos}
def tWhile (c:TT) (tb:TS):TS:=fun D σ H=>∃ W:Nat→St→Hp→Prop,(∃ m,W m σ H)∧∀ m σ H,W m σ H →
  c σ H fun b H1=>if b = true then ∃ N:St→Hp→Prop,(∀ σ' H',N σ' H'→∃ m',m' < m∧W m' σ' H')∧tb { D with nx:=N,ct:=N,bk:=D.nx } σ H1 else D.nx σ H1
theorem ps_while {c:Expr} {body:List Stmt} {tc:TT} {tb:TS} (hp:PassesOwn (model X.prog X.w) X.A X.env X.xe) (hc:PT X c tc) (hb:PSs X body tb):PS X (.While c body [] pos) (tWhile tc tb):=by
  intro pins s σ H D I h
  obtain ⟨W,⟨m0,w0⟩,turn⟩:=h
  refine wpAny_While (codeAny_whileLoop (fun n s'=>∃ σ' H',Inv X pins σ' H' s'∧W n σ' H') ?_ m0 ⟨σ,H,I,w0⟩)
  rintro n s1 ⟨σ1,H1,I1,w1⟩
  refine wpAny_passesOwn hp (thn (hc pins s1 σ1 H1 _ I1 (turn n σ1 H1 w1)) fun b s2 ⟨H2,I2,q2⟩=>?_)
  cases b with
  | true =>
    obtain ⟨N,hN,q2⟩:=q2
    rw [if_pos rfl]
    refine wpAny_passesOwn hp (thn (hb pins s2 σ1 H2 _ I2 q2) fun f s3 q3=>?_)
    cases f with
    | next =>
      obtain ⟨σ3,H3,I3,n3⟩:=q3
      obtain ⟨m',hm,w3⟩:=hN σ3 H3 n3
      exact ⟨m',hm,σ3,H3,I3,w3⟩
    | cont =>
      obtain ⟨σ3,H3,I3,n3⟩:=q3
      obtain ⟨m',hm,w3⟩:=hN σ3 H3 n3
      exact ⟨m',hm,σ3,H3,I3,w3⟩
    | brk=>exact q3
    | ret v=>exact q3
  | false =>
    rw [if_neg Bool.false_ne_true]
    exact wpAny_execs_nil ⟨σ1,H2,I2,q2⟩
end
structure It where
  go:Nat→Hp→Prop
  yld:Nat→Hp→V→Hp→Prop
  stop:Nat→Hp→Prop
def FpOk (X:Cx) (pins:List (Addr × Obj)) (H:Hp) (b:Addr):Prop :=
  H b = none∧b ≠ X.env.locals∧b ∉ X.fs∧(b ∈ X.ex∨X.s_0.heap.objs.size ≤ b)∧(∀ x c,X.env.cells.lookup x = some c→c ≠ b)∧∀ p ∈ X.pn ++ pins,p.1 ≠ b
theorem Inv.fpOk {X:Cx} {pins:List (Addr × Obj)} {σ:St} {H H':Hp} {s:Shared} {b:Addr} (I:Inv X pins σ H s) (hb:s.heap.objs.size ≤ b) (hn:H' b = none):FpOk X pins H' b:=by
  refine ⟨hn,Nat.ne_of_gt (Nat.lt_of_lt_of_le I.lt hb),I.nofs hb,.inr (Nat.le_trans I.sz hb),fun x c e z=>?_,fun p hp z=>?_⟩
  · obtain ⟨v,q⟩:=I.cell x c e
    exact absurd (Nat.lt_of_lt_of_le q.lt (by rw [z]; exact hb)) (Nat.lt_irrefl _)
  · exact absurd (Nat.lt_of_lt_of_le (Heap.lt_size (I.pin p hp).1) (by rw [z]; exact hb)) (Nat.lt_irrefl _)
structure Turn (P:Program) (w:World) (K:PySem.W.Frag) (tg:Expr) (J:It) (fp:List Addr) (it:Addr) (tn:Nat→Heap→Prop):Prop where
  mem:it ∈ fp
  obj:∀ i h,tn i h→∀ b ∈ fp,∃ o,h.get? b = some o∧∀ v,o.data ≠ .cell v
  keep:∀ i h h',tn i h→(∀ b ∈ fp,∀ o,h.get? b = some o→h'.get? b = some o)→tn i h'
  item:∀ (X:Cx),X.prog = P→X.w = w→X.K = K→X.calm = true→∀ (i:Nat) (pins:List (Addr × Obj)) (s:Shared) (σ:St) (H:Hp) (E:Value→Shared→Prop),Inv X pins σ H s→(∀ b ∈ fp,FpOk X pins H b)→tn i s.heap→J.go i H →
    wpAny (model P w) X.A (pyNext (.ref it)) (fun r s1=>∃ u,r = some u ∧
      wpAny (model P w) X.A (letOwnedTupleGo tg (.ref it) u) (fun _ s2=>∃ x H',Inv X pins σ H' s2∧qU x u∧J.yld i H x H'∧tn (i + 1) s2.heap∧∀ b ∈ fp,H' b = none) E s1) E s
  done:∀ (X:Cx),X.prog = P→X.w = w→X.K = K→X.calm = true→∀ (i:Nat) (pins:List (Addr × Obj)) (s:Shared) (σ:St) (H:Hp) (E:Value→Shared→Prop),Inv X pins σ H s→(∀ b ∈ fp,FpOk X pins H b)→tn i s.heap→J.stop i H →
    wpAny (model P w) X.A (pyNext (.ref it)) (fun r s1=>r = none∧Inv X pins σ H s1) E s
  self:∀ (A:Around) (i:Nat) (s:Shared) (Q:Value→Shared→Prop) (E:Value→Shared→Prop),tn i s.heap→Q (.ref it) s→wpAny (model P w) A (pyIter (.ref it)) Q E s
abbrev TI:=St→Hp→(It→Hp→Prop)→Prop
def PIE (X:Cx) (pins:List (Addr × Obj)) (σ:St) (tg:Expr) (R:It→Hp→Prop) (itv:Value) (s2:Shared):Prop :=
  ∃ (it:Addr) (fp:List Addr) (tn:Nat→Heap→Prop) (J:It) (H':Hp),itv = .ref it∧Inv X pins σ H' s2∧Turn X.prog X.w X.K tg J fp it tn∧tn 0 s2.heap∧(∀ b ∈ fp,FpOk X pins H' b)∧R J H'
def PI (X:Cx) (tg iter:Expr) (wi:TI):Prop :=
  ∀ (pins:List (Addr × Obj)) (s:Shared) (σ:St) (H:Hp) (R:It→Hp→Prop),Inv X pins σ H s→wi σ H R →
    wpAny (model X.prog X.w) X.A (eval iter X.env) (fun v s1=>wpAny (model X.prog X.w) X.A (pyIter v) (PIE X pins σ tg R) X.xe s1) X.xe s
theorem go_of {M:Model} {A:Around} {E:Value→Shared→Prop} {s:Shared} {tg:Expr} {it:Addr} {u:Value} {o:Obj} {n:String} {vs:Array Value} {Q:Unit→Shared→Prop} (ho:s.heap.get? it = some o) (hc:o.cls = .type n) (hd:o.data = .fields vs)
    (hn:["enumerate", "zip", "dict_itemiterator", "dict_reverseitemiterator", "odict_iterator", "itertools.zip_longest", "itertools.pairwise"].contains n = false) (hQ:Q () s):wpAny M A (letOwnedTupleGo tg (.ref it) u) Q E s:=by
  unfold letOwnedTupleGo
  cases tg <;> first
    | exact wpAny_pure hQ
    | (cases u <;> first
        | exact wpAny_pure hQ
        | (refine wpAny_bind (wpAny_load ho ?_)
           rw [hc,hd]
           show wpAny M A (if (["enumerate", "zip", "dict_itemiterator", "dict_reverseitemiterator", "odict_iterator", "itertools.zip_longest", "itertools.pairwise"].contains n && vs[0]? == some (rawInt _)) = true then _ else _) Q E s
           rw [if_neg (by intro h; rw [hn,Bool.false_and] at h; cases h)]
           exact wpAny_pure hQ))
def Itl (K:PySem.W.Frag) (a:Addr):It :=
  ⟨fun i H=>∃ xs x,SqL K H a xs∧xs[i]? = some x,fun i H x H'=>H' = H∧∀ xs,SqL K H a xs→xs[i]? = some x,fun i H=>∃ xs,SqL K H a xs∧xs.length ≤ i⟩
def Itr (lo:Int) (n:Nat):It:=⟨fun i _=>i < n,fun i H x H'=>H' = H∧x = .int (lo + i),fun i _=>n ≤ i⟩
theorem turn_list {P:Program} {w:World} {K:PySem.W.Frag} {tg:Expr} (a it:Addr):Turn P w K tg (Itl K a) [it] it (fun i h=>h.IsListIter it a i) where
  mem:=by simp
  obj:=fun i h st b hb=>by
    have e:b = it:=by simpa using hb
    subst e
    obtain ⟨o,e,c,d⟩:=st
    exact ⟨o,e,fun v z=>by rw [d] at z; cases z⟩
  keep:=fun i h h' st k=>st.at fun o e=>k it (by simp) o e
  item:=by
    intro X hP hw hK hc i pins s σ H E I hf st hg
    subst hP hw hK
    obtain ⟨xs,x,hq,hx⟩:=hg
    obtain ⟨its,rv,p,hz⟩:=I.list hq
    obtain ⟨u,hu,ru⟩:=rv.get hx
    obtain ⟨f0,f1,f2,f3,f4,f5⟩:=hf it (by simp)
    refine wpAny_pyNext_list_item st p.isList (x:=u) (by simpa using hu) fun h' st' sb=>?_
    have I1:Inv X pins σ H { s with heap:=h' }:=I.turned (t':=s.toks) (fun b o hb e=>(sb.2 b hb).trans e) f0 f1 f3 f4 f5
    obtain ⟨o,e,c,d⟩:=id st'
    exact ⟨u,rfl,go_of (s:={ s with heap:=h' }) e c d (by decide) ⟨x,H,I1,ru,⟨rfl,fun ys hy=>by rw [I.list_inj hy hq]; exact hx⟩,st',fun b hb=>(hf b hb).1⟩⟩
  done:=by
    intro X hP hw hK hc i pins s σ H E I hf st hg
    subst hP hw hK
    obtain ⟨xs,hq,hx⟩:=hg
    obtain ⟨its,rv,p,hz⟩:=I.list hq
    obtain ⟨f0,f1,f2,f3,f4,f5⟩:=hf it (by simp)
    have hl:=rv.length
    exact wpAny_pyNext_list_end (I.ok.hd hc) st p.isList (by simp; omega) fun h' eb=>⟨rfl,I.turned (t':=s.toks) (fun b o hb e=>eb b o hb e) f0 f1 f3 f4 f5⟩
  self:=fun _ _ _ _ _ st h=>wpAny_pyIter_listiter st h
theorem turn_range {P:Program} {w:World} {K:PySem.W.Frag} {tg:Expr} (it:Addr) (lo:Int) (n:Nat):Turn P w K tg (Itr lo n) [it] it (fun i h=>IsRangeIter h it (lo + (i:Nat) * 1) ((n:Int) - (i:Nat)) 1) where
  mem:=by simp
  obj:=fun i h st b hb=>by
    have e:b = it:=by simpa using hb
    subst e
    exact ⟨_,st,fun v z=>by
      have z':Data.fields _ = Data.cell v:=z
      cases z'⟩
  keep:=fun i h h' st k=>k it (by simp) _ st
  item:=by
    intro X hP hw hK hc i pins s σ H E I hf st hg
    subst hP hw hK
    obtain ⟨f0,f1,f2,f3,f4,f5⟩:=hf it (by simp)
    have W:=Walks.range (prog:=X.prog) (w:=X.w) (I.ok.hd hc) it lo 1 n
    refine W.item i s _ _ hg st fun v h' tk hv st' kk=>?_
    obtain ⟨t,rfl⟩:=hv
    have I1:Inv X pins σ H { s with heap:=h',toks:=tk }:=I.turned (fun b o hb e=>kk b o (by simpa using hb) e) f0 f1 f3 f4 f5
    refine ⟨_,rfl,go_of (s:={ s with heap:=h',toks:=tk }) (n := "range_iterator") st' rfl rfl (by decide) ⟨.int (lo + i),H,I1,⟨t,?_⟩,⟨rfl,rfl⟩,st',fun b hb=>(hf b hb).1⟩⟩
    rw [Int.mul_one]
  done:=by
    intro X hP hw hK hc i pins s σ H E I hf st hg
    subst hP hw hK
    obtain ⟨f0,f1,f2,f3,f4,f5⟩:=hf it (by simp)
    exact wpAny_pyNext_range_end (I.ok.hd hc) st (by have:n ≤ i:=hg; omega) fun h' eb=>⟨rfl,I.turned (t':=s.toks) (fun b o hb e=>eb b o hb e) f0 f1 f3 f4 f5⟩
  self:=fun _ _ _ _ _ st h=>wpAny_pyIter_rangeiter st h
end L2
namespace L2
open PySem PySem.Spec PyProof.Rows
section
variable {X:Cx} {tg:Expr}
def iList (K:PySem.W.Frag) (tl:TE):TI:=fun σ H R=>tl σ H fun x H1=>∃ a,x = .ref a∧(∃ xs,SqL K H1 a xs)∧R (Itl K a) H1
theorem wT {l:Expr} {tl:TE} (hl:PE X l tl):PI X tg l (iList X.K tl):=by
  intro pins s σ H R I h
  refine thn (hl pins s σ H _ I h) fun v s1 ⟨x,H1,I1,r1,q1⟩=>?_
  obtain ⟨a,e,⟨xs,hq⟩,q⟩:=q1
  subst e
  cases r1
  obtain ⟨its,rv,p,hz⟩:=I1.list hq
  refine wpAny_pyIter_list p.isList ?_
  refine ⟨s1.heap.objs.size,[s1.heap.objs.size],_,_,H1,rfl,I1.kept (t':=s1.toks) fun b o e=>Heap.get?_push_of_some _ e,turn_list a _,⟨_,Heap.get?_push_size _ rfl,rfl,rfl⟩,fun b hb=>?_,q⟩
  have e:b = s1.heap.objs.size:=by simpa using hb
  subst e
  exact I1.fpOk (Nat.le_refl _) (I1.hok.fresh (Nat.le_refl _))
theorem range_it {pins:List (Addr × Obj)} {σ:St} {H:Hp} {s:Shared} {R:It→Hp→Prop} {E:Value→Shared→Prop} {lo hi:Int} {t u v:Tok} {tk:Nat} (I:Inv X pins σ H s) (h1:-(2 ^ 62) ≤ lo) (h2:lo < 2 ^ 62) (h3:-(2 ^ 62) ≤ hi) (h4:hi < 2 ^ 62)
    (q:R (Itr lo (hi - lo).toNat) H):wpAny (model X.prog X.w) X.A (pyIter (.ref s.heap.objs.size)) (PIE X pins σ tg R) E { s with heap:=s.heap.push { cls:=.type "range", data:=.fields #[.int lo t,.int hi u,.int 1 v] },toks:=tk }:=by
  refine wpAny_pyIter_range (IsRange.new ..) (small_one h1 h2 h3 h4) ?_
  have I1:Inv X pins σ H { s with heap:=s.heap.push { cls:=.type "range", data:=.fields #[.int lo t,.int hi u,.int 1 v] },toks:=tk }:=I.kept fun b o e=>Heap.get?_push_of_some _ e
  refine ⟨(s.heap.push { cls:=.type "range", data:=.fields #[.int lo t,.int hi u,.int 1 v] }).objs.size,[(s.heap.push { cls:=.type "range", data:=.fields #[.int lo t,.int hi u,.int 1 v] }).objs.size],_,_,H,rfl,
    I1.kept (t':=tk) fun b o e=>Heap.get?_push_of_some _ e,turn_range _ lo (hi - lo).toNat,?_,fun b hb=>?_,q⟩
  · have e1:lo + ((0:Nat):Int) * 1 = lo:=by simp
    have e2:(((hi - lo).toNat:Nat):Int) - ((0:Nat):Int) = Builtin.Range.rangeSize lo hi 1:=by rw [rangeSize_one]; split <;> omega
    show IsRangeIter _ _ (lo + ((0:Nat):Int) * 1) ((((hi - lo).toNat:Nat):Int) - ((0:Nat):Int)) 1
    rw [e1,e2]
    exact Heap.get?_push_size _ rfl
  · have e:b = (s.heap.push { cls:=.type "range", data:=.fields #[.int lo t,.int hi u,.int 1 v] }).objs.size:=by simpa using hb
    subst e
    exact I1.fpOk (Nat.le_refl _) (I1.hok.fresh (Nat.le_refl _))
def iRng1 (ta:TA):TI:=fun σ H R=>ta σ H fun vs H1=>∃ j:Int,vs = [.int j]∧-(2 ^ 62) ≤ j∧j < 2 ^ 62∧R (Itr 0 j.toNat) H1
theorem pi_range1 {a:Expr} {ta:TA} {p pos:Pos} (hg:Gl X "range") (hm:X.mg "range" = none) (ha:PA X [a] ta) (hs:starEach [a] X.env = [(false,eval a X.env)]:=by rfl):PI X tg (.Call (.Name "range" p) [a] [] pos) (iRng1 ta):=by
  intro pins s σ H R I h
  refine Call_ (zIU I hg hm boot_range (PyProof.Rows.callWith_type1 (thn (ha pos pins s σ H _ I h) fun us s1 ⟨vs,H1,I1,r1,q1⟩=>?_) hs rfl))
  obtain ⟨j,e,q1,q2,q⟩:=q1
  subst e
  cases r1 with
  | cons r rr =>
    cases rr
    obtain ⟨t,rfl⟩:=r
    exact call_range_1 (range_it I1 (by omega) (by omega) q1 q2 (by simpa using q))
def tFor (wi:TI) (g:TG) (tb:TS):TS:=fun D σ H=>wi σ H fun J H1=>∃ W:Nat→Nat→St→Hp→Prop,(∃ m,W 0 m σ H1)∧∀ i m σ H,W i m σ H →
  (J.stop i H∧D.nx σ H)∨(J.go i H∧∃ N:St→Hp→Prop,(∀ σ' H',N σ' H'→∃ m',m' < m∧W (i + 1) m' σ' H')∧∀ x H',J.yld i H x H'→g x σ H' fun σ2 H2=>tb { D with nx:=N,ct:=N,bk:=D.nx } σ2 H2)
def pinsAt (fp:List Addr) (h:Heap):List (Addr × Obj):=fp.filterMap fun b=>(h.get? b).map fun o=>(b,o)
theorem zGQ {fp:List Addr} {h:Heap} {b:Addr} {o:Obj} (hb:b ∈ fp) (e:h.get? b = some o):(b,o) ∈ pinsAt fp h:=List.mem_filterMap.mpr ⟨b,hb,by rw [e]; rfl⟩
theorem of_pinsAt {fp:List Addr} {h:Heap} {p:Addr × Obj} (hp:p ∈ pinsAt fp h):p.1 ∈ fp∧h.get? p.1 = some p.2:=by
  obtain ⟨b,hb,e⟩:=List.mem_filterMap.mp hp
  cases q:h.get? b with
  | none=>rw [q] at e; cases e
  | some o =>
    rw [q] at e
    have e':(b,o) = p:=Option.some.inj e
    subst e'
    exact ⟨hb,q⟩
theorem Inv.pinned {pins:List (Addr × Obj)} {σ:St} {H:Hp} {s:Shared} {fp:List Addr} (I:Inv X pins σ H s) (hf:∀ b ∈ fp,FpOk X pins H b) (ho:∀ b ∈ fp,∃ o,s.heap.get? b = some o∧∀ v,o.data ≠ .cell v):Inv X (pins ++ pinsAt fp s.heap) σ H s :=
  I.pins_of fun p hp=>(List.mem_append.mp hp).elim (fun z=>I.pin p (List.mem_append_right _ z)) fun z=>by
    obtain ⟨hb,e⟩:=of_pinsAt z
    obtain ⟨f0,f1,f2,_⟩:=hf p.1 hb
    obtain ⟨o,e',d⟩:=ho p.1 hb
    rw [e] at e'; cases e'
    exact ⟨e,f0,f1,f2,d⟩
theorem Inv.unpinned {pins pl:List (Addr × Obj)} {σ:St} {H:Hp} {s:Shared} (I:Inv X (pins ++ pl) σ H s):Inv X pins σ H s:=I.pins_of fun p hp=>I.pin p (List.mem_append_right _ (List.mem_append_left _ hp))
theorem ps_for {iter:Expr} {body:List Stmt} {wi:TI} {g:TG} {tb:TS} {pos:Pos} (hp:PassesOwn (model X.prog X.w) X.A X.env X.xe) (hc:X.calm = true) (hi:PI X tg iter wi) (hg:PG X tg g) (hb:PSs X body tb)
    (hs:∀ x,foldedSetIterable iter X.env x = pure x:=by intro _; rfl):PS X (.For tg iter body [] pos) (tFor wi g tb):=by
  intro pins s σ H D I h
  refine wpAny_For (thn (hi pins s σ H _ I h) fun v s1 h1=>thn h1 fun itv s2 h2=>?_) hs
  obtain ⟨it,fp,tn,J,H2,e,I2,T,st2,f2,W,⟨m0,w0⟩,turn⟩:=h2
  subst e
  have stat:∀ {H':Hp},(∀ b ∈ fp,H' b = none)→∀ b ∈ fp,FpOk X pins H' b:=fun hn b hb=>⟨hn b hb,(f2 b hb).2⟩
  refine codeAny_forLoop_any (fun n s'=>∃ i σ' H',Inv X pins σ' H' s'∧tn i s'.heap∧(∀ b ∈ fp,H' b = none)∧W i n σ' H') ?_ m0 ⟨0,σ,H2,I2,st2,fun b hb=>(f2 b hb).1,w0⟩
  rintro n s3 ⟨i,σ3,H3,I3,st3,fr3,w3⟩
  rcases turn i n σ3 H3 w3 with ⟨stop,qn⟩ | ⟨go,N,hN,step⟩
  · refine wpAny_passesOwn hp (thn (T.done X rfl rfl rfl hc i pins s3 σ3 H3 X.xe I3 (stat fr3) st3 stop) fun r s4 ⟨hr,I4⟩=>?_)
    subst hr
    exact wpAny_execs_nil ⟨σ3,H3,I4,qn⟩
  · refine wpAny_passesOwn hp (thn (T.item X rfl rfl rfl hc i pins s3 σ3 H3 X.xe I3 (stat fr3) st3 go) fun r s4 ⟨u,hr,h4⟩=>?_)
    subst hr
    refine wpAny_passesOwn hp (thn h4 fun _ s5 ⟨x,H5,I5,r5,y5,st5,fr5⟩=>?_)
    have I5':=I5.pinned (stat fr5) (T.obj _ _ st5)
    refine wpAny_passesOwn hp (thn (hg _ s5 σ3 H5 x u _ I5' r5 (step x H5 y5)) fun _ s6 ⟨σ6,H6,I6,q6⟩=>?_)
    refine wpAny_passesOwn hp (thn (hb _ s6 σ6 H6 _ I6 q6) fun f s7 q7=>?_)
    have again:∀ {σ7:St} {H7:Hp},Inv X (pins ++ pinsAt fp s5.heap) σ7 H7 s7→N σ7 H7→∃ m,m < n∧∃ i σ' H',Inv X pins σ' H' s7∧tn i s7.heap∧(∀ b ∈ fp,H' b = none)∧W i m σ' H':=fun {σ7 H7} I7 n7=>by
      obtain ⟨m',hm,w7⟩:=hN σ7 H7 n7
      refine ⟨m',hm,i + 1,σ7,H7,I7.unpinned,T.keep _ _ _ st5 fun b hb o e=>(I7.pin (b,o) (List.mem_append_right _ (List.mem_append_right _ (zGQ hb e)))).1,fun b hb=>?_,w7⟩
      obtain ⟨o,e,d⟩:=T.obj _ _ st5 b hb
      exact (I7.pin (b,o) (List.mem_append_right _ (List.mem_append_right _ (zGQ hb e)))).2.1
    cases f with
    | next=>obtain ⟨σ7,H7,I7,n7⟩:=q7; exact again I7 n7
    | cont=>obtain ⟨σ7,H7,I7,n7⟩:=q7; exact again I7 n7
    | brk=>obtain ⟨σ7,H7,I7,q7⟩:=q7; exact ⟨σ7,H7,I7.unpinned,q7⟩
    | ret v=>obtain ⟨x7,σ7,H7,I7,r7,q7⟩:=q7; exact ⟨x7,σ7,H7,I7.unpinned,r7,q7⟩
end
theorem for_list {K:PySem.W.Frag} {a:Addr} {xs:List V} {g:TG} {tb:TS} {D:zC4} {σ:St} {H:Hp} (Pv:Nat→St→Hp→Prop) (h0:Pv 0 σ H) (hl:∀ i σ H,i ≤ xs.length→Pv i σ H→SqL K H a xs)
    (hs:∀ i x σ H,xs[i]? = some x→Pv i σ H→g x σ H fun σ2 H2=>tb { D with nx:=Pv (i + 1),ct:=Pv (i + 1),bk:=D.nx } σ2 H2) (hd:∀ σ H,Pv xs.length σ H→D.nx σ H) :
    ∃ W:Nat→Nat→St→Hp→Prop,(∃ m,W 0 m σ H)∧∀ i m σ H,W i m σ H →
      ((Itl K a).stop i H∧D.nx σ H)∨((Itl K a).go i H∧∃ N:St→Hp→Prop,(∀ σ' H',N σ' H'→∃ m',m' < m∧W (i + 1) m' σ' H')∧∀ x H',(Itl K a).yld i H x H'→g x σ H' fun σ2 H2=>tb { D with nx:=N,ct:=N,bk:=D.nx } σ2 H2):=by
  refine ⟨fun i m σ H=>m = xs.length - i∧i ≤ xs.length∧Pv i σ H,⟨xs.length,by simp,Nat.zero_le _,h0⟩,?_⟩
  rintro i m σ H ⟨rfl,hi,p⟩
  have q:=hl i σ H hi p
  by_cases hlt:i < xs.length
  · refine .inr ⟨⟨xs,xs[i],q,by simp [hlt]⟩,Pv (i + 1),fun σ' H' p'=>⟨xs.length - (i + 1),by omega,rfl,hlt,p'⟩,fun x H' y=>?_⟩
    obtain ⟨e,y⟩:=y
    subst e
    exact hs i x σ _ (y xs q) p
  · have e:i = xs.length:=by omega
    subst e
    exact .inl ⟨⟨xs,q,Nat.le_refl _⟩,hd σ H p⟩
theorem for_range {lo:Int} {n:Nat} {g:TG} {tb:TS} {D:zC4} {σ:St} {H:Hp} (Pv:Nat→St→Hp→Prop) (h0:Pv 0 σ H)
    (hs:∀ i σ H,i < n→Pv i σ H→g (.int (lo + i)) σ H fun σ2 H2=>tb { D with nx:=Pv (i + 1),ct:=Pv (i + 1),bk:=D.nx } σ2 H2) (hd:∀ σ H,Pv n σ H→D.nx σ H) :
    ∃ W:Nat→Nat→St→Hp→Prop,(∃ m,W 0 m σ H)∧∀ i m σ H,W i m σ H →
      ((Itr lo n).stop i H∧D.nx σ H)∨((Itr lo n).go i H∧∃ N:St→Hp→Prop,(∀ σ' H',N σ' H'→∃ m',m' < m∧W (i + 1) m' σ' H')∧∀ x H',(Itr lo n).yld i H x H'→g x σ H' fun σ2 H2=>tb { D with nx:=N,ct:=N,bk:=D.nx } σ2 H2):=by
  refine ⟨fun i m σ H=>m = n - i∧i ≤ n∧Pv i σ H,⟨n,by simp,Nat.zero_le _,h0⟩,?_⟩
  rintro i m σ H ⟨rfl,hi,p⟩
  by_cases hlt:i < n
  · refine .inr ⟨hlt,Pv (i + 1),fun σ' H' p'=>⟨n - (i + 1),by omega,rfl,hlt,p'⟩,fun x H' y=>?_⟩
    obtain ⟨e,y⟩:=y
    subst e y
    exact hs i σ _ hlt p
  · have e:i = n:=by omega
    subst e
    exact .inl ⟨Nat.le_refl _,hd σ H p⟩
theorem while_by {c:TT} {tb:TS} {D:zC4} {σ:St} {H:Hp} (Pv:St→Hp→Prop) (μ:St→Hp→Nat) (h0:Pv σ H)
    (hs:∀ σ H,Pv σ H→c σ H fun b H1=>if b = true then tb { D with nx:=fun σ' H'=>Pv σ' H'∧μ σ' H' < μ σ H,ct:=fun σ' H'=>Pv σ' H'∧μ σ' H' < μ σ H,bk:=D.nx } σ H1 else D.nx σ H1)
    (mono:∀ σ H Q Q',(∀ b H1,Q b H1→Q' b H1)→c σ H Q→c σ H Q'):tWhile c tb D σ H:=by
  refine ⟨fun m σ H=>m = μ σ H∧Pv σ H,⟨_,rfl,h0⟩,?_⟩
  rintro m σ H ⟨rfl,p⟩
  refine mono σ H _ _ (fun b H1 q=>?_) (hs σ H p)
  cases b with
  | true=>exact ⟨_,fun σ' H' ⟨p',l⟩=>⟨_,l,rfl,p'⟩,q⟩
  | false=>exact q
end L2
namespace L2
open PySem PySem.Spec PyProof.Rows
abbrev R2:=V→V→Hp→VK→Prop
def OpR (X:Cx) (f:Value→Value→Sem Value) (r:R2):Prop :=
  ∀ (pins:List (Addr × Obj)) (s:Shared) (σ:St) (H:Hp) (x y:V) (v u:Value) (Q:VK),Inv X pins σ H s→qU x v→qU y u→r x y H Q →
    wpAny (model X.prog X.w) X.A (f v u) (EP X pins σ Q) X.xe s
def UnR (X:Cx) (f:Value→Sem Value) (r:V→Hp→VK→Prop):Prop :=
  ∀ (pins:List (Addr × Obj)) (s:Shared) (σ:St) (H:Hp) (x:V) (v:Value) (Q:VK),Inv X pins σ H s→qU x v→r x H Q →
    wpAny (model X.prog X.w) X.A (f v) (EP X pins σ Q) X.xe s
def CallR (X:Cx) (f:Value) (r:List V→Hp→VK→Prop):Prop :=
  ∀ (pins:List (Addr × Obj)) (s:Shared) (σ:St) (H:Hp) (xs:List V) (us:List Value) (Q:VK),Inv X pins σ H s→jS xs us→r xs H Q →
    wpAny (model X.prog X.w) X.A (call f us) (EP X pins σ Q) X.xe s
def tOp (r:R2) (ta tb:TE):TE:=fun σ H Q=>ta σ H fun x H1=>tb σ H1 fun y H2=>r x y H2 Q
def tUn (r:V→Hp→VK→Prop) (ta:TE):TE:=fun σ H Q=>ta σ H fun x H1=>r x H1 Q
def rI (C:Int→Int→Prop) (g:Int→Int→V):R2:=fun x y H Q=>∃ i j,x = .int i∧y = .int j∧C i j∧Q (g i j) H
def rI0 (g:Int→Int→V):R2:=fun x y H Q=>∃ i j,x = .int i∧y = .int j∧Q (g i j) H
def rU (g:Int→V):V→Hp→VK→Prop:=fun x H Q=>∃ i,x = .int i∧Q (g i) H
section
variable {X:Cx} {a b c:Expr} {ta tb tc:TE} {pos:Pos}
theorem binT (ha:PE X a ta) (hb:PE X b tb) {pins:List (Addr × Obj)} {s:Shared} {σ:St} {H:Hp} {R:V→V→Hp→Prop} (I:Inv X pins σ H s)
    (h:ta σ H fun x H1=>tb σ H1 fun y H2=>R x y H2) {Q:Value→Shared→Prop} {f:Value→Value→Sem Value}
    (hf:∀ v u s2 x y H2,Inv X pins σ H2 s2→qU x v→qU y u→R x y H2→wpAny (model X.prog X.w) X.A (f v u) Q X.xe s2) :
    wpAny (model X.prog X.w) X.A (eval a X.env) (fun v s₁=>wpAny (model X.prog X.w) X.A (eval b X.env) (fun u s₂=>wpAny (model X.prog X.w) X.A (f v u) Q X.xe s₂) X.xe s₁) X.xe s:=by
  refine thn (ha pins s σ H _ I h) fun v s1 ⟨x,H1,I1,r1,q1⟩=>?_
  refine thn (hb pins s1 σ H1 _ I1 q1) fun u s2 ⟨y,H2,I2,r2,q2⟩=>?_
  exact hf v u s2 x y H2 I2 r1 r2 q2
theorem qX {op:Operator} {r:R2} (ho:OpR X (binaryOp op) r) (ha:PE X a ta) (hb:PE X b tb):PE X (.BinOp a op b pos) (tOp r ta tb):=by
  intro pins s σ H Q I h
  exact wpAny_BinOp (binT ha hb I h fun v u s2 x y H2 I2 rx ry q=>ho pins s2 σ H2 x y v u Q I2 rx ry q)
theorem pe_un {op:UnaryOp} {r:V→Hp→VK→Prop} (ho:UnR X (unaryOp op) r) (ha:PE X a ta):PE X (.UnaryOp op a pos) (tUn r ta):=by
  intro pins s σ H Q I h
  exact UnaryOp_ (thn (ha pins s σ H _ I h) fun v s1 ⟨x,H1,I1,r1,q1⟩=>ho pins s1 σ H1 x v Q I1 r1 q1)
theorem opI {f:Value→Value→Sem Value} {C:Int→Int→Prop} {g:Int→Int→Int}
    (rule:∀ (i j:Int) (t u:Tok) (s:Shared) (Q:Value→Shared→Prop) (E:Value→Shared→Prop),C i j→Q (.int (g i j) s.toks) { s with toks:=s.toks + 1 }→wpAny (model X.prog X.w) X.A (f (.int i t) (.int j u)) Q E s) :
    OpR X f (rI C fun i j=>.int (g i j)):=by
  intro pins s σ H x y v u Q I rx ry h
  obtain ⟨i,j,rfl,rfl,hc,q⟩:=h
  obtain ⟨t,rfl⟩:=rx
  obtain ⟨t',rfl⟩:=ry
  exact rule i j t t' s _ _ hc ⟨.int (g i j),H,I.tok _,⟨_,rfl⟩,q⟩
theorem opI0 {f:Value→Value→Sem Value} {g:Int→Int→Int}
    (rule:∀ (i j:Int) (t u:Tok) (s:Shared) (Q:Value→Shared→Prop) (E:Value→Shared→Prop),Q (.int (g i j) s.toks) { s with toks:=s.toks + 1 }→wpAny (model X.prog X.w) X.A (f (.int i t) (.int j u)) Q E s) :
    OpR X f (rI0 fun i j=>.int (g i j)):=by
  intro pins s σ H x y v u Q I rx ry h
  obtain ⟨i,j,rfl,rfl,q⟩:=h
  obtain ⟨t,rfl⟩:=rx
  obtain ⟨t',rfl⟩:=ry
  exact rule i j t t' s _ _ ⟨.int (g i j),H,I.tok _,⟨_,rfl⟩,q⟩
theorem opB0 {f:Value→Value→Sem Value} {g:Int→Int→Bool}
    (rule:∀ (i j:Int) (t u:Tok) (s:Shared) (Q:Value→Shared→Prop) (E:Value→Shared→Prop),Q (.bool (g i j)) s→wpAny (model X.prog X.w) X.A (f (.int i t) (.int j u)) Q E s) :
    OpR X f (rI0 fun i j=>.bl (g i j)):=by
  intro pins s σ H x y v u Q I rx ry h
  obtain ⟨i,j,rfl,rfl,q⟩:=h
  obtain ⟨t,rfl⟩:=rx
  obtain ⟨t',rfl⟩:=ry
  exact rule i j t t' s _ _ ⟨.bl (g i j),H,I,rfl,q⟩
def CDiv (i j:Int):Prop:=0 < j∧j < 1073741824
theorem zCV:OpR X (binaryOp .Add) (rI0 fun i j=>.int (i + j)):=opI0 fun _ _ _ _ _ _ _ q=>add_int q
theorem zG6:OpR X (binaryOp .Sub) (rI0 fun i j=>.int (i - j)):=opI0 fun _ _ _ _ _ _ _ q=>sub_int q
theorem op_fdiv:OpR X (binaryOp .FloorDiv) (rI CDiv fun i j=>.int (i / j)):=opI fun i j _ _ _ _ _ hc q=>by
  have h1:(0:Int) < j:=hc.1
  have h2:j < 1073741824:=hc.2
  exact floordiv_int (by omega) (by rw [Int.fdiv_eq_ediv_of_nonneg i (by omega)]; exact q) (.inl (PyProof.noPylong_small (by omega)))
theorem op_mod:OpR X (binaryOp .Mod) (rI (fun _ j=>0 < j) fun i j=>.int (i % j)):=opI fun i j _ _ _ _ _ hc q=>by
  have h1:(0:Int) < j:=hc
  exact mod_int' (by omega) (by rw [Int.fmod_eq_emod_of_nonneg i (by omega)]; exact q)
theorem unI {f:Value→Sem Value} {g:Int→Int}
    (rule:∀ (i:Int) (t:Tok) (s:Shared) (Q:Value→Shared→Prop) (E:Value→Shared→Prop),Q (.int (g i) s.toks) { s with toks:=s.toks + 1 }→wpAny (model X.prog X.w) X.A (f (.int i t)) Q E s) :
    UnR X f (rU fun i=>.int (g i)):=by
  intro pins s σ H x v Q I rx h
  obtain ⟨i,rfl,q⟩:=h
  obtain ⟨t,rfl⟩:=rx
  exact rule i t s _ _ ⟨.int (g i),H,I.tok _,⟨_,rfl⟩,q⟩
theorem un_neg:UnR X (unaryOp .USub) (rU fun i=>.int (-i)):=unI fun _ _ _ _ _ q=>neg_int q
end
def scal:V→V→Bool
  | .non,.non=>true | .non,.int _=>true | .int _,.non=>true | .non,.bl _=>true | .bl _,.non=>true | .non,.str _=>true | .str _,.non=>true
  | .int _,.int _=>true | .bl _,.bl _=>true | .str _,.str _=>true | .byt _,.byt _=>true
  | .int _,.str _=>true | .str _,.int _=>true | .bl _,.str _=>true | .str _,.bl _=>true
  | _,_=>false
def rEq:R2:=fun x y H Q=>scal x y = true∧Q (.bl (decide (x = y))) H
def rNe:R2:=fun x y H Q=>scal x y = true∧Q (.bl (!decide (x = y))) H
theorem dec_int {i j:Int}:decide (V.int i = V.int j) = (i == j):=by
  rw [Bool.eq_iff_iff]
  simp
theorem dec_bl {i j:Bool}:decide (V.bl i = V.bl j) = (i == j):=by
  rw [Bool.eq_iff_iff]
  simp
theorem dec_str {i j:Str}:decide (V.str i = V.str j) = (i == j):=by
  rw [Bool.eq_iff_iff]
  simp
theorem dec_byt {i j:Array UInt8}:decide (V.byt i = V.byt j) = (i.toList == j.toList):=by
  rw [Bool.eq_iff_iff]
  cases i
  cases j
  simp
section
variable {X:Cx} {a b c:Expr} {ta tb tc:TE} {pos:Pos}
theorem xU {pins:List (Addr × Obj)} {σ:St} {H:Hp} {s:Shared} {Q:VK} {k k':Bool} (I:Inv X pins σ H s) (q:Q (.bl k) H) (e:k = k'):EP X pins σ Q (.bool k') s:=by
  subst e
  exact ⟨.bl k,H,I,rfl,q⟩
theorem qJ:OpR X (compareOp .Eq) rEq:=by
  intro pins s σ H x y v u Q I rx ry h
  obtain ⟨hs,q⟩:=h
  cases x with
  | non =>
    cases rx
    cases y with
    | non=>cases ry; exact PySem.EqNone.eq_none_none (xU I q (by simp))
    | bl j=>cases ry; exact PySem.EqNone.eq_none_bool (xU I q (by simp))
    | int j=>obtain ⟨t',rfl⟩:=ry; exact PySem.EqNone.eq_none_int (xU I q (by simp))
    | str j=>obtain ⟨t',rfl⟩:=ry; exact PySem.EqNone.eq_none_str (xU I q (by simp))
    | _=>exact absurd (show false = true from hs) Bool.false_ne_true
  | bl i =>
    cases rx
    cases y with
    | non=>cases ry; exact PySem.EqNone.eq_bool_none (xU I q (by simp))
    | bl j=>cases ry; exact eq_bool (xU I q dec_bl)
    | str j=>obtain ⟨t',rfl⟩:=ry; exact PySem.EqMixed.eq_bool_str (xU I q (by simp))
    | _=>exact absurd (show false = true from hs) Bool.false_ne_true
  | int i =>
    obtain ⟨t,rfl⟩:=rx
    cases y with
    | non=>cases ry; exact PySem.EqNone.eq_int_none (xU I q (by simp))
    | int j=>obtain ⟨t',rfl⟩:=ry; exact eq_int (xU I q dec_int)
    | str j=>obtain ⟨t',rfl⟩:=ry; exact PySem.EqMixed.eq_int_str (xU I q (by simp))
    | _=>exact absurd (show false = true from hs) Bool.false_ne_true
  | str i =>
    obtain ⟨t,rfl⟩:=rx
    cases y with
    | non=>cases ry; exact PySem.EqNone.eq_str_none (xU I q (by simp))
    | bl j=>cases ry; exact PySem.EqMixed.eq_str_bool (xU I q (by simp))
    | int j=>obtain ⟨t',rfl⟩:=ry; exact PySem.EqMixed.eq_str_int (xU I q (by simp))
    | str j=>obtain ⟨t',rfl⟩:=ry; exact eq_str (xU I q dec_str)
    | _=>exact absurd (show false = true from hs) Bool.false_ne_true
  | byt i =>
    obtain ⟨t,rfl⟩:=rx
    cases y with
    | byt j=>obtain ⟨t',rfl⟩:=ry; exact PySem.W.eq_bytes (xU I q dec_byt)
    | _=>exact absurd (show false = true from hs) Bool.false_ne_true
  | _=>cases y <;> exact absurd (show false = true from hs) Bool.false_ne_true
theorem op_ne:OpR X (compareOp .NotEq) rNe:=by
  intro pins s σ H x y v u Q I rx ry h
  obtain ⟨hs,q⟩:=h
  cases x with
  | non =>
    cases rx
    cases y with
    | non=>cases ry; exact PySem.EqNone.ne_none_none (xU I q (by simp))
    | bl j=>cases ry; exact PySem.EqNone.ne_none_bool (xU I q (by simp))
    | int j=>obtain ⟨t',rfl⟩:=ry; exact PySem.EqNone.ne_none_int (xU I q (by simp))
    | str j=>obtain ⟨t',rfl⟩:=ry; exact PySem.EqNone.ne_none_str (xU I q (by simp))
    | _=>exact absurd (show false = true from hs) Bool.false_ne_true
  | bl i =>
    cases rx
    cases y with
    | non=>cases ry; exact PySem.EqNone.ne_bool_none (xU I q (by simp))
    | bl j=>cases ry; exact ne_bool (xU I q (congrArg not dec_bl))
    | str j=>obtain ⟨t',rfl⟩:=ry; exact PySem.EqMixed.ne_bool_str (xU I q (by simp))
    | _=>exact absurd (show false = true from hs) Bool.false_ne_true
  | int i =>
    obtain ⟨t,rfl⟩:=rx
    cases y with
    | non=>cases ry; exact PySem.EqNone.ne_int_none (xU I q (by simp))
    | int j=>obtain ⟨t',rfl⟩:=ry; exact ne_int (xU I q (congrArg not dec_int))
    | str j=>obtain ⟨t',rfl⟩:=ry; exact PySem.EqMixed.ne_int_str (xU I q (by simp))
    | _=>exact absurd (show false = true from hs) Bool.false_ne_true
  | str i =>
    obtain ⟨t,rfl⟩:=rx
    cases y with
    | non=>cases ry; exact PySem.EqNone.ne_str_none (xU I q (by simp))
    | bl j=>cases ry; exact PySem.EqMixed.ne_str_bool (xU I q (by simp))
    | int j=>obtain ⟨t',rfl⟩:=ry; exact PySem.EqMixed.ne_str_int (xU I q (by simp))
    | str j=>obtain ⟨t',rfl⟩:=ry; exact ne_str (xU I q (congrArg not dec_str))
    | _=>exact absurd (show false = true from hs) Bool.false_ne_true
  | byt i =>
    obtain ⟨t,rfl⟩:=rx
    cases y with
    | byt j=>obtain ⟨t',rfl⟩:=ry; exact PySem.W.ne_bytes (xU I q (congrArg not dec_byt))
    | _=>exact absurd (show false = true from hs) Bool.false_ne_true
  | _=>cases y <;> exact absurd (show false = true from hs) Bool.false_ne_true
theorem op_lt:OpR X (compareOp .Lt) (rI0 fun i j=>.bl (decide (i < j))):=opB0 fun _ _ _ _ _ _ _ q=>lt_int q
theorem op_le:OpR X (compareOp .LtE) (rI0 fun i j=>.bl (decide (i ≤ j))):=opB0 fun _ _ _ _ _ _ _ q=>le_int q
theorem op_gt:OpR X (compareOp .Gt) (rI0 fun i j=>.bl (decide (j < i))):=opB0 fun _ _ _ _ _ _ _ q=>gt_int q
theorem op_ge:OpR X (compareOp .GtE) (rI0 fun i j=>.bl (decide (j ≤ i))):=opB0 fun _ _ _ _ _ _ _ q=>ge_int q
theorem op_isN:OpR X (compareOp .Is) (fun x y H Q=>y = .non∧Q (.bl (decide (x = .non))) H):=by
  intro pins s σ H x y v u Q I rx ry h
  obtain ⟨rfl,q⟩:=h
  cases ry
  refine is_none_gen (xU I q ?_)
  cases x <;> first
    | (cases rx; rfl)
    | (obtain ⟨t,rfl⟩:=rx; rfl)
theorem zY (b:Expr) {op:CmpOp} (h:op ≠ .In:=by decide) (h2:op ≠ .NotIn:=by decide):behindInMarks op b = false:=by
  have e1:(op == CmpOp.In) = false:=by cases op <;> first | rfl | exact absurd rfl h
  have e2:(op == CmpOp.NotIn) = false:=by cases op <;> first | rfl | exact absurd rfl h2
  cases b <;> simp [behindInMarks,e1,e2]
theorem zAE {op:CmpOp} {r:R2} (ho:OpR X (compareOp op) r) (ha:PE X a ta) (hb:PE X b tb) (hm:behindInMarks op b = false):PE X (.Compare a [op] [b] pos) (tOp r ta tb):=by
  intro pins s σ H Q I h
  exact wpAny_Compare1 (binT ha hb I h fun v u s2 x y H2 I2 rx ry q=>ho pins s2 σ H2 x y v u Q I2 rx ry q) hm
def tTest (t:TE):TT:=fun σ H Q=>t σ H fun x H'=>∃ k,x = .bl k∧Q k H'
theorem zQ {op:CmpOp} {r:R2} (ho:OpR X (compareOp op) r) (ha:PE X a ta) (hb:PE X b tb) (hm:behindInMarks op b = false):PT X (.Compare a [op] [b] pos) (tTest (tOp r ta tb)):=by
  intro pins s σ H Q I h
  refine wpAny_isTrue_Compare1 (thn (ha pins s σ H _ I h) fun v s1 ⟨x,H1,I1,r1,q1⟩=>thn (hb pins s1 σ H1 _ I1 q1) fun u s2 ⟨y,H2,I2,r2,q2⟩ =>
    thn (ho pins s2 σ H2 x y v u _ I2 r1 r2 q2) fun c s3 ⟨z,H3,I3,r3,k,e,q3⟩=>?_) hm
  subst e
  cases r3
  exact wpAny_truthy_bool ⟨H3,I3,q3⟩
theorem line63:(sizeLine:Nat) < 2 ^ 63:=by rw [sizeLine_eq]; decide
theorem vals1 {x:V} {us:List Value} (r:jS [x] us):∃ u,us = [u]∧qU x u:=by
  cases r with
  | cons r1 r2=>cases r2; exact ⟨_,rfl,r1⟩
theorem vals2 {x y:V} {us:List Value} (r:jS [x,y] us):∃ u w',us = [u,w']∧qU x u∧qU y w':=by
  cases r with
  | cons r1 r2 =>
    cases r2 with
    | cons r3 r4=>cases r4; exact ⟨_,_,rfl,r1,r3⟩
theorem call_min2 (hc:X.calm = true):CallR X (.builtin "min") (fun xs H Q=>∃ i j,xs = [.int i,.int j]∧Q (.int (if j < i then j else i)) H):=by
  intro pins s σ H xs us Q I r h
  obtain ⟨i,j,rfl,q⟩:=h
  obtain ⟨u,w',rfl,⟨t,rfl⟩,⟨t',rfl⟩⟩:=vals2 r
  refine min_two_ints (I.ok.hd hc) fun h' tk k=>⟨_,H,I.kept k,?_,q⟩
  by_cases hj:j < i
  · rw [if_pos hj,if_pos hj]; exact ⟨_,rfl⟩
  · rw [if_neg hj,if_neg hj]; exact ⟨_,rfl⟩
end
end L2
namespace L2
open PySem PySem.Spec PyProof.Rows
structure ObjM (h:Heap) (x dx C:Addr) (mA:Str→Option Value):Prop where
  obj:h.get? x = some (PySem.W.instObj C dx)
  ns:h.Ns1 dx mA
  ne:dx ≠ x
theorem lookIn_ns {h:Heap} {dx:Addr} {mA:Str→Option Value} (n:h.Ns1 dx mA):∃ od,h.get? dx = some od∧∀ name,PySem.W.lookIn name od = some (mA name):=by
  obtain ⟨o,es,ep,ho,hd,hk,_,hm⟩:=n
  refine ⟨o,ho,fun name=>?_⟩
  have e:=hm name
  unfold nsFind findBy at e
  rw [← Array.find?_toList] at e
  unfold PySem.W.lookIn
  rw [hd]
  dsimp only
  split
  · rename_i y q
    rw [q] at e
    exact congrArg some e
  · rename_i q
    rw [q] at e
    have a:es.toList.any (·.refKey) = false:=by
      rw [List.any_eq_false]
      intro y hy
      obtain ⟨z,t,hkey⟩:=hk y (Array.mem_toList_iff.mp hy)
      simp [DictEntry.refKey,hkey]
    have a':¬ es.toList.any (·.refKey) = true:=by rw [a]; exact Bool.false_ne_true
    rw [if_neg a']
    exact congrArg some e
theorem ObjM.look {h:Heap} {x dx C:Addr} {mA:Str→Option Value} (I:ObjM h x dx C mA):∃ od,PySem.W.InstAt h x (PySem.W.instObj C dx) C (some od)∧∀ name,PySem.W.lookIn name od = some (mA name) :=
  let ⟨od,ho,hl⟩:=lookIn_ns I.ns
  ⟨od,⟨I.obj,rfl,rfl,ho⟩,hl⟩
section
variable {prog:Program} {w:World} {A:Around} {E:Value→Shared→Prop} {s:Shared} {K:PySem.W.Frag} {x dx C f:Addr} {mA:Str→Option Value} {name:Str} {v:Value}
theorem get_map {expr:Bool} {Q:Value→Shared→Prop} (X:K.In s.heap) (I:ObjM s.heap x dx C mA) (hg:PySem.W.plainGet K C name = true) (hh:PySem.W.hasDictIn K C = true)
    (ha:PySem.W.findIn K (.ref C) name = some none) (hv:mA name = some v) (hv':PySem.W.handedIn v = true) (h:Q v { s with toks:=s.toks + 1 }) :
    wpAny (model prog w) A (getAttr (.ref x) name expr) Q E s:=by
  obtain ⟨od,J,hl⟩:=I.look
  exact PySem.W.get_value X J (PySem.W.plainGet_of hg).1 (PySem.W.findObj_own hh ha rfl (by rw [hl,hv])) hv' h
theorem get_meth {pl:Sem Bool} {Q:Value × List Value→Shared→Prop} (X:K.In s.heap) (I:ObjM s.heap x dx C mA) (hg:PySem.W.plainGet K C name = true)
    (hf:PySem.W.findIn K (.ref C) name = some (some (.ref f))) (ht:PySem.W.isFn K (.ref f) = true) (hv:mA name = none) (h:Q (.ref f,[.ref x]) s) :
    wpAny (model prog w) A (getMethod (.ref x) name pl) Q E s:=by
  obtain ⟨od,J,hl⟩:=I.look
  exact PySem.W.method_fn X J (PySem.W.plainGet_of hg).1 (PySem.W.plainGet_of hg).2 hf (beq_iff_eq.mp ht) (by show (PySem.W.lookIn name od).map (·.isSome) = some false; rw [hl,hv]; rfl) h
theorem set_map {ns:List Str} {Q:Unit→Shared→Prop} (X:K.In s.heap) (I:ObjM s.heap x dx C mA)
    (hs:PySem.W.findIn K (.ref C) "__setattr__" = some (some (.builtin "object.__setattr__"))) (hp:PySem.W.plainOver K C = true) (ht:PySem.W.takerIn K C name = some none) (hh:PySem.W.hasDictIn K C = true)
    (hw:PySem.Within mA ns) (hsz:ns.length ≤ sizeLine)
    (h:∀ h',ObjM h' x dx C (fun y=>if y = name then some v else mA y)→Heap.SameBut dx s.heap h'→Q () { s with heap:=h',toks:=s.toks + 2 }) :
    wpAny (model prog w) A (setAttr (.ref x) name v) Q E s:=by
  obtain ⟨od,J,hl⟩:=I.look
  refine PySem.W.set_plain X J hs (PySem.W.osa_open (s:={ s with toks:=s.toks + 1 }) (r:=none) X J hp ht fun b=>?_)
  obtain ⟨cd,hc,hd'⟩:=PySem.W.any_some hh
  have hx:s.heap.get? x = some ⟨.ref C,some dx,.plain,#[]⟩:=I.obj
  refine wpAny_bind (wpAny_pure (wpAny_bind (wpAny_bind (wpAny_loadPart hx (wpAny_bind (PySem.W.Looks.here (s:={ s with toks:=s.toks + 1 }) (PySem.W.looks_clsIn X hc) ?_))))))
  rw [hd']
  refine wpAny_pure (a:=some dx) (wpAny_bind (wpAny_pure (wpAny_bind ?_)))
  refine wpAny_nsSet1 (s:={ s with toks:=s.toks + 1 }) I.ns fun h' hn2 hs2=>?_
  obtain ⟨oD,esD,epD,hoD,hdD,hcD⟩:=hn2.count (PySem.Within.cons name v hw)
  refine wpAny_bind (wpAny_lookBehind hoD (by rw [hdD]; exact pastItsLine_dict (Nat.le_trans hcD (by rw [List.length_cons]; omega))) ?_)
  exact wpAny_pure (h _ ⟨(hs2.2 _ (Ne.symm I.ne)).trans I.obj,hn2,I.ne⟩ hs2)
theorem make_map {R:Result→Shared→Prop} {vs:List Value} {kw:List (Str × Value)} (X:K.In s.heap) (hm:PySem.W.makesIn K C = true)
    (hi:PySem.W.findIn K (.ref C) "__init__" = some (some (.ref f))) (hf:PySem.W.typeIn K (.ref f) = some (.type "function"))
    (h:codeAny (model prog w) (A.under (.builtin "type.__call__" ⟨.ref C :: vs,kw⟩)) (.call (.ref f) ⟨.ref (s.heap.objs.size + 1) :: vs,kw⟩) (PySem.W.InitBack (s.heap.objs.size + 1) R)
      { s with heap:=(s.heap.push PySem.W.emptyDict).push (PySem.W.instObj C s.heap.objs.size) }) :
    codeAny (model prog w) A (.call (.ref C) ⟨vs,kw⟩) R s:=by
  obtain ⟨hh,g,d,t,os⟩:=s
  exact PySem.W.make_core (PySem.W.makes_of X hm) (PySem.W.looks_findIn X hi) (fun self=>PySem.W.bind_fn X self hf) (.inl rfl) h
end
def wV (f:Str) (v:V):List (Str × V)→List (Str × V)
  | []=>[(f,v)]
  | (g,x) :: r=>if g = f then (g,v) :: r else (g,x) :: wV f v r
theorem zIQ (f g:Str) (v:V):∀ fs:List (Str × V),(wV f v fs).lookup g = if g = f then some v else fs.lookup g
  | []=>by
    show List.lookup g [(f,v)] = _
    by_cases h:g = f
    · have hb:(g == f) = true:=beq_iff_eq.mpr h
      simp only [List.lookup,hb,if_pos h]
    · have hb:(g == f) = false:=beq_eq_false_iff_ne.mpr h
      simp only [List.lookup,hb,if_neg h]
  | (k,x) :: r=>by
    have ih:=zIQ f g v r
    rw [show wV f v ((k,x) :: r) = (if k = f then (k,v) :: r else (k,x) :: wV f v r) from rfl]
    by_cases hk:k = f
    · rw [if_pos hk]
      by_cases h:g = k
      · have hb:(g == k) = true:=beq_iff_eq.mpr h
        simp only [List.lookup,hb,if_pos (h.trans hk)]
      · have hb:(g == k) = false:=beq_eq_false_iff_ne.mpr h
        simp only [List.lookup,hb,if_neg (fun e:g = f=>h (e.trans hk.symm))]
    · rw [if_neg hk]
      by_cases h:g = k
      · have hb:(g == k) = true:=beq_iff_eq.mpr h
        simp only [List.lookup,hb,if_neg (fun e:g = f=>hk (h.symm.trans e))]
      · have hb:(g == k) = false:=beq_eq_false_iff_ne.mpr h
        simp only [List.lookup,hb]
        exact ih
theorem zIV (f:Str) (v:V):∀ fs:List (Str × V),f ∈ (wV f v fs).map (·.1)∧∀ g,g ∈ fs.map (·.1)→g ∈ (wV f v fs).map (·.1)
  | []=>⟨by simp [wV],fun g h=>by simp at h⟩
  | (k,x) :: r=>by
    obtain ⟨i1,i2⟩:=zIV f v r
    rw [show wV f v ((k,x) :: r) = (if k = f then (k,v) :: r else (k,x) :: wV f v r) from rfl]
    by_cases hk:k = f
    · rw [if_pos hk]
      subst hk
      exact ⟨by simp,fun g h=>by simpa using h⟩
    · rw [if_neg hk]
      refine ⟨?_,fun g h=>?_⟩
      · rw [List.map_cons]
        exact List.mem_cons_of_mem _ i1
      · rw [List.map_cons] at h ⊢
        rcases List.mem_cons.mp h with e | e
        · exact List.mem_cons.mpr (.inl e)
        · exact List.mem_cons_of_mem _ (i2 g e)
theorem zIT (f:Str) (v:V):∀ fs:List (Str × V),(wV f v fs).length ≤ fs.length + 1
  | []=>by simp [wV]
  | (k,x) :: r=>by
    have ih:=zIT f v r
    rw [show wV f v ((k,x) :: r) = (if k = f then (k,v) :: r else (k,x) :: wV f v r) from rfl]
    by_cases hk:k = f
    · rw [if_pos hk,List.length_cons,List.length_cons]; omega
    · rw [if_neg hk,List.length_cons,List.length_cons]; omega
theorem RelO.some_of {v:V} {o:Option Value} (r:RelO (some v) o):∃ u,o = some u∧qU v u:=by
  cases o with
  | none=>exact (show False from r).elim
  | some u=>exact ⟨u,rfl,r⟩
theorem RelO.none_of {o:Option Value} (r:RelO none o):o = none:=by
  cases o with
  | none=>rfl
  | some u=>exact (show False from r).elim
theorem handed_of {v:V} {u:Value} (r:qU v u):PySem.W.handedIn u = true:=by
  cases v with
  | non=>cases (show u = Value.none from r); rfl
  | bl b=>cases (show u = Value.bool b from r); rfl
  | int i=>obtain ⟨t,e⟩:=(show ∃ t,u = Value.int i t from r); cases e; rfl
  | str x=>obtain ⟨t,e⟩:=(show ∃ t,u = Value.str x t from r); cases e; rfl
  | byt b=>obtain ⟨t,e⟩:=(show ∃ t,u = Value.bytes b t from r); cases e; rfl
  | flt b=>obtain ⟨t,e⟩:=(show ∃ t,u = Value.float b t from r); cases e; rfl
  | ref a=>cases (show u = Value.ref a from r); rfl
  | ty n=>cases (show u = Value.type n from r); rfl
section
variable {P:Program} {w:World} {H H':Hp} {h h':Heap} {a C dx:Addr} {fs fs':List (Str × V)}
theorem ins_get (hok:HOk P w H h) (e:H a = some (.ins C dx fs)):∃ mA,ObjM h a dx C mA∧(∀ f,RelO (fs.lookup f) (mA f))∧PySem.Within mA (fs.map (·.1))∧fs.length ≤ 1000∧H dx = some (.own a):=by
  obtain ⟨d,z,ne,ob,mA,n,r,q⟩:=(show zAF P w H h a (.ins C dx fs) from hok a _ e)
  exact ⟨mA,⟨ob,n,ne⟩,r,q,z,d⟩
end
structure Cls (K:PySem.W.Frag) (C:Addr):Prop where
  pg:PySem.W.plainGet K C Str.empty = true
  hd:PySem.W.hasDictIn K C = true
  po:PySem.W.plainOver K C = true
  sa:PySem.W.findIn K (.ref C) "__setattr__" = some (some (.builtin "object.__setattr__"))
theorem Cls.get {K:PySem.W.Frag} {C:Addr} (c:Cls K C) (f:Str):PySem.W.plainGet K C f = true:=c.pg
def yP (K:PySem.W.Frag) (C:Addr) (f:Str):Prop:=PySem.W.findIn K (.ref C) f = some none
theorem yP.taker {K:PySem.W.Frag} {C:Addr} {f:Str} (n:yP K C f):PySem.W.takerIn K C f = some none:=by
  unfold PySem.W.takerIn
  rw [show PySem.W.findIn K (.ref C) f = some none from n]
  rfl
structure Meth (K:PySem.W.Frag) (C:Addr) (m:Str) (f:Addr):Prop where
  at_:PySem.W.findIn K (.ref C) m = some (some (.ref f))
  fn:PySem.W.isFn K (.ref f) = true
  kp:PySem.W.keepIn K (.ref f) = true
section
variable {X:Cx} {pins:List (Addr × Obj)} {σ:St} {H:Hp} {s:Shared} {a C dx:Addr} {fs:List (Str × V)} {f:Str} {v:V} {A:Around} {E:Value→Shared→Prop}
theorem getattr_ok {b:Bool} {Q:Value→Shared→Prop} (I:Inv X pins σ H s) (e:H a = some (.ins C dx fs)) (c:Cls X.K C) (n:yP X.K C f) (l:fs.lookup f = some v)
    (h:∀ u s',Inv X pins σ H s'→qU v u→Q u s'):wpAny (model X.prog X.w) A (getAttr (.ref a) f b) Q E s:=by
  obtain ⟨mA,O,r,_,_,_⟩:=ins_get I.hok e
  obtain ⟨u,hu,ru⟩:=RelO.some_of (v:=v) (o:=mA f) (by rw [← l]; exact r f)
  exact get_map I.kIn O (c.get f) c.hd n hu (handed_of ru) (h u _ (I.tok _) ru)
theorem getmeth_ok {m:Str} {g:Addr} {pl:Sem Bool} {Q:Value × List Value→Shared→Prop} (I:Inv X pins σ H s) (e:H a = some (.ins C dx fs)) (c:Cls X.K C) (k:Meth X.K C m g) (l:fs.lookup m = none)
    (h:Q (.ref g,[.ref a]) s):wpAny (model X.prog X.w) A (getMethod (.ref a) m pl) Q E s:=by
  obtain ⟨mA,O,r,_,_,_⟩:=ins_get I.hok e
  have hn:mA m = none:=RelO.none_of (by rw [← l]; exact r m)
  exact get_meth I.kIn O (c.get m) k.at_ k.fn hn h
theorem setattr_ok {y:V} {u:Value} {Q:Unit→Shared→Prop} (I:Inv X pins σ H s) (e:H a = some (.ins C dx fs)) (c:Cls X.K C) (n:yP X.K C f) (hl:fs.length < 1000) (ry:qU y u)
    (h:∀ s',Inv X pins σ (upd H a (.ins C dx (wV f y fs))) s'→Q () s'):wpAny (model X.prog X.w) A (setAttr (.ref a) f u) Q E s:=by
  obtain ⟨mA,O,r,wi,_,ho⟩:=ins_get I.hok e
  have hz:(fs.map (·.1)).length ≤ sizeLine:=by rw [List.length_map,sizeLine_eq]; omega
  refine set_map I.kIn O c.sa c.po n.taker c.hd wi hz fun h' O' sb=>h _ ?_
  have hd:∃ o,h'.get? dx = some o:=let ⟨o,_,_,e',_⟩:=O'.ns; ⟨o,e'⟩
  refine I.write (x:=a) (e:=dx) (by rw [e]; exact True.intro) (.inr ho) (fun b q hb z=>(sb.2 b hb).trans z) hd ?_
  refine ⟨by rw [zV O.ne]; exact ho,?_,O.ne,O'.obj,_,O'.ns,fun g=>?_,fun g hg=>?_⟩
  · have:=zIT f y fs; omega
  · show RelO ((wV f y fs).lookup g) (if g = f then some u else mA g)
    rw [zIQ]
    by_cases q:g = f
    · rw [if_pos q,if_pos q]; exact ry
    · rw [if_neg q,if_neg q]; exact r g
  · by_cases q:g = f
    · rw [q]; exact (zIV f y fs).1
    · refine (zIV f y fs).2 g (wi g fun z=>hg ?_)
      show (if g = f then some u else mA g) = none
      rw [if_neg q]; exact z
theorem Inv.made (I:Inv X pins σ H s):Inv X pins σ (upd (upd H s.heap.objs.size (.own (s.heap.objs.size + 1))) (s.heap.objs.size + 1) (.ins C s.heap.objs.size []))
    { s with heap:=(s.heap.push PySem.W.emptyDict).push (PySem.W.instObj C s.heap.objs.size) }:=by
  have e1:(s.heap.push PySem.W.emptyDict).get? s.heap.objs.size = some PySem.W.emptyDict:=Heap.get?_push_size s.heap rfl
  have e2:((s.heap.push PySem.W.emptyDict).push (PySem.W.instObj C s.heap.objs.size)).get? (s.heap.objs.size + 1) = some (PySem.W.instObj C s.heap.objs.size):=by
    have:=Heap.get?_push_size (s.heap.push PySem.W.emptyDict) (o:=PySem.W.instObj C s.heap.objs.size) rfl
    rwa [Heap.size_push] at this
  have e3:(s.heap.push PySem.W.emptyDict).Ns s.heap.objs.size (fun _=>none):=⟨PySem.W.emptyDict,#[],_,e1,rfl,(fun e he=>absurd he (by simp)),fun _=>rfl⟩
  have I1:=I.laid (a:=s.heap.objs.size) (o:=.own (s.heap.objs.size + 1)) (h':=s.heap.push PySem.W.emptyDict) (t':=s.toks) (fun b u q=>Heap.get?_push_of_some _ q) (Nat.le_refl _) ⟨_,e1⟩
  refine I1.laid (a:=s.heap.objs.size + 1) (o:=.ins C s.heap.objs.size []) (t':=s.toks) (fun b u q=>Heap.get?_push_of_some _ q) (Nat.le_of_eq (Heap.size_push _ _)) ?_
  have ne:s.heap.objs.size ≠ s.heap.objs.size + 1:=Nat.ne_of_lt (Nat.lt_succ_self _)
  refine ⟨by rw [zV ne,zF],Nat.zero_le _,ne,e2,fun _=>none,(Heap.Ns1.of_empty e3).at fun o q=>Heap.get?_push_of_some _ q,fun _=>True.intro,fun y hy=>absurd rfl hy⟩
theorem attr_of {prog:Program} {w:World} {env:Env} {e:Expr} {f:Str} {pos:Pos} {s:Shared} {Q:Value→Shared→Prop} (hb:attributeBase e f env (eval e env) = eval e env)
    (h:wpAny (model prog w) A (eval e env) (fun o s₁=>wpAny (model prog w) A (getAttr o f true) Q E s₁) E s):wpAny (model prog w) A (eval (.Attribute e f pos) env) Q E s :=
  Attribute_any_ h (by rw [arm_eval_Attribute,hb])
end
def tFld (K:PySem.W.Frag) (ta:TE) (f:Str):TE:=fun σ H Q=>ta σ H fun x H1=>∃ a C dx fs v,x = .ref a∧H1 a = some (.ins C dx fs)∧Cls K C∧yP K C f∧fs.lookup f = some v∧Q v H1
def sFld (K:PySem.W.Frag) (ta tv:TE) (f:Str):TS:=fun D σ H=>tv σ H fun y H1=>ta σ H1 fun x H2=>∃ a C dx fs,x = .ref a∧H2 a = some (.ins C dx fs)∧Cls K C∧yP K C f∧fs.length < 1000 ∧
  D.nx σ (upd H2 a (.ins C dx (wV f y fs)))
def InOp (X:Cx) (op:Operator) (rd:V→V→Hp→VK→Prop):Prop :=
  ∀ (pins:List (Addr × Obj)) (s:Shared) (σ:St) (H:Hp) (x y:V) (u v:Value) (Q:VK),Inv X pins σ H s→qU x u→qU y v→rd x y H Q→wpAny (model X.prog X.w) X.A (inplaceOp op u v) (EP X pins σ Q) X.xe s
def zEW (K:PySem.W.Frag) (ta tv:TE) (rd:V→V→Hp→VK→Prop) (f:Str):TS:=fun D σ H=>ta σ H fun x H1=>∃ a C dx fs v,x = .ref a∧H1 a = some (.ins C dx fs)∧Cls K C∧yP K C f∧fs.lookup f = some v ∧
  tv σ H1 fun y H2=>rd v y H2 fun z H3=>∃ dx' fs',H3 a = some (.ins C dx' fs')∧fs'.length < 1000∧D.nx σ (upd H3 a (.ins C dx' (wV f z fs')))
section
variable {X:Cx} {o e value:Expr} {f:Str} {pos pos' tpos:Pos} {ta tv:TE}
theorem zJ (he:PE X e ta) (hb:attributeBase e f X.env (eval e X.env) = eval e X.env):PE X (.Attribute e f pos) (tFld X.K ta f):=by
  intro pins s σ H Q I h
  refine attr_of hb (thn (he pins s σ H _ I h) fun u s1 ⟨x,H1,I1,rx,a,C,dx,fs,v,ex,ea,c,n,l,q⟩=>?_)
  subst ex
  obtain rfl:u = Value.ref a:=rx
  exact getattr_ok I1 ea c n l fun u' s2 I2 ru=>⟨v,H1,I2,ru,q⟩
theorem yI (ha:PE X o ta) (hv:PE X value tv) (hs:swapsWith value (some (.Attribute o f pos')) pos.line X.env = pure false):PS X (.Assign [.Attribute o f pos'] value pos) (sFld X.K ta tv f):=by
  intro pins s σ H D I h
  refine plainObj_wpAny_Assign_Attribute (thn (hv pins s σ H _ I h) fun u s1 ⟨y,H1,I1,ry,q⟩=>thn (ha pins s1 σ H1 _ I1 q) fun ov s2 ⟨x,H2,I2,rx,a,C,dx,fs,ex,ea,c,n,l,q2⟩=>?_) hs
  subst ex
  obtain rfl:ov = Value.ref a:=rx
  exact setattr_ok I2 ea c n l ry fun s3 I3=>⟨σ,_,I3,q2⟩
theorem zB2 {op:Operator} {rd:V→V→Hp→VK→Prop} (ha:PE X o ta) (hv:PE X value tv) (hop:InOp X op rd):PS X (.AugAssign (.Attribute o f tpos) op value pos) (zEW X.K ta tv rd f):=by
  intro pins s σ H D I h
  refine wpAny_AugAssign_AttributeAny (thn (ha pins s σ H _ I h) fun ov s1 ⟨x,H1,I1,rx,a,C,dx,fs,v,ex,ea,c,n,l,q⟩=>?_)
  subst ex
  obtain rfl:ov = Value.ref a:=rx
  refine getattr_ok I1 ea c n l fun u s2 I2 ru=>thn (hv pins s2 σ H1 _ I2 q) fun w3 s3 ⟨y,H2,I3,ry,q3⟩=>thn (hop pins s3 σ H2 v y u w3 _ I3 ru ry q3) fun w4 s4 ⟨z,H3,I4,rz,dx',fs',ea',l',q4⟩=>?_
  exact setattr_ok I4 ea' c n l' rz fun s5 I5=>⟨σ,_,I5,q4⟩
def rAdd:V→V→Hp→VK→Prop:=fun x y H Q=>∃ i j,x = .int i∧y = .int j∧Q (.int (i + j)) H
def rSub:V→V→Hp→VK→Prop:=fun x y H Q=>∃ i j,x = .int i∧y = .int j∧Q (.int (i - j)) H
theorem in_add:InOp X .Add rAdd:=by
  rintro pins s σ H x y u v Q I rx ry ⟨i,j,rfl,rfl,q⟩
  obtain ⟨t,rfl⟩:=(show ∃ t,u = Value.int i t from rx)
  obtain ⟨t',rfl⟩:=(show ∃ t',v = Value.int j t' from ry)
  exact PyProof.Rows.iadd_int ⟨.int (i + j),H,I.tok _,⟨_,rfl⟩,q⟩
theorem in_sub:InOp X .Sub rSub:=by
  rintro pins s σ H x y u v Q I rx ry ⟨i,j,rfl,rfl,q⟩
  obtain ⟨t,rfl⟩:=(show ∃ t,u = Value.int i t from rx)
  obtain ⟨t',rfl⟩:=(show ∃ t',v = Value.int j t' from ry)
  exact PyProof.Rows.isub_int ⟨.int (i - j),H,I.tok _,⟨_,rfl⟩,q⟩
end
section
variable {X:Cx} {pins:List (Addr × Obj)} {σ:St} {H:Hp} {s:Shared} {A:Around} {E:Value→Shared→Prop} {Q:Value→Shared→Prop} {c:Value} {b:Bool}
end
end L2
namespace L2
open PySem PySem.Spec PyProof.Rows
structure zB7 (k:Nat) (A:Around):Prop where
  hd:A.handled = none
  dp:A.depth + 3 * k + 5 < recursionLimit
  un:A.units + 16 * k + 200 < cLine
theorem zB7.mono {j k:Nat} {A:Around} (r:zB7 k A) (h:j ≤ k):zB7 j A:=⟨r.hd,by have:=r.dp; omega,by have:=r.un; omega⟩
theorem zB7.deeper {k:Nat} {A:Around} (r:zB7 (k + 1) A) (env:Env):zB7 k (A.deeper env) :=
  ⟨r.hd,by have:=r.dp; show A.depth + 1 + 3 * k + 5 < _; omega,by have:=r.un; show A.units + 3 + 16 * k + 200 < _; omega⟩
theorem zB7.in1 {k:Nat} {A:Around} (r:zB7 (k + 1) A):zB7 k A.in1 :=
  ⟨r.hd,by have:=r.dp; show A.depth + 3 * k + 5 < _; omega,by have:=r.un; show A.units + 1 + 16 * k + 200 < _; omega⟩
theorem make_depth {A:Around} {C:Addr} {us:List Value} {kw:List (Str × Value)}:(A.under (.builtin "type.__call__" ⟨.ref C :: us,kw⟩)).depth = A.depth + 1:=by
  first | rfl | simp [Around.under,Code.weight,Code.isCreation,Code.isGuard,Code.isCaller,Code.frames,Code.isFrame,guardIds]
theorem make_units {A:Around} {C:Addr} {us:List Value} {kw:List (Str × Value)}:(A.under (.builtin "type.__call__" ⟨.ref C :: us,kw⟩)).units = A.units + 1:=by
  first | rfl | simp [Around.under,Code.cUnits,Code.frames,Code.isFrame]
theorem zB7.make {k:Nat} {A:Around} (r:zB7 (k + 1) A) (C:Addr) (us:List Value) (kw:List (Str × Value)):zB7 k (A.under (.builtin "type.__call__" ⟨.ref C :: us,kw⟩)) :=
  ⟨r.hd,by have:=r.dp; rw [make_depth]; omega,by have:=r.un; rw [make_units]; omega⟩
theorem zB7.depth {k:Nat} {A:Around} (r:zB7 k A):A.depth < recursionLimit:=by have:=r.dp; omega
theorem zB7.units {k:Nat} {A:Around} (r:zB7 k A):A.units + 64 < cLine:=by have:=r.un; omega
theorem zB7.units0 {k:Nat} {A:Around} (r:zB7 k A):A.units < cLine:=by have:=r.un; omega
def zAG:TA:=fun _ H Q=>Q [] H
def yW (ta:TE) (tr:TA):TA:=fun σ H Q=>ta σ H fun x H1=>tr σ H1 fun xs H2=>Q (x :: xs) H2
section
variable {X:Cx} {e:Expr} {es:List Expr} {te:TE} {t:TA} {pos:Pos}
theorem zE:PA X [] zAG:=fun _ _ _ _ H Q I h=>Calls.spliced_nil ⟨[],H,I,.nil,h⟩
theorem zB (ha:PE X e te) (hr:PA X es t) (hs:starEach (e :: es) X.env = (false,eval e X.env) :: starEach es X.env:=by rfl):PA X (e :: es) (yW te t):=by
  intro pos pins s σ H Q I h
  rw [hs]
  show wpAny _ _ (spliced ((false,eval e X.env) :: backTo pos (starEach es X.env))) _ _ s
  refine Calls.spliced_cons (thn (ha pins s σ H _ I h) fun u s1 ⟨x,H1,I1,r1,q1⟩=>?_)
  exact thn (hr pos pins s1 σ H1 _ I1 q1) fun us s2 ⟨xs,H2,I2,r2,q2⟩=>⟨x :: xs,H2,I2,.cons r1 r2,q2⟩
def tTup (t:TA):TE:=fun σ H Q=>t σ H fun xs H1=>xs.length ≤ sizeLine∧∀ p,H1 p = none→Q (.ref p) (upd H1 p (.tup xs))
def tLst (t:TA):TE:=fun σ H Q=>t σ H fun xs H1=>xs.length ≤ sizeLine∧∀ p,H1 p = none→Q (.ref p) (upd H1 p (.lst xs))
theorem xN {x1} (h:PA X es t):PE X (.Tuple es x1 pos) (tTup t):=by
  intro pins s σ H Q I hq
  refine wpAny_Tuple_spliced (thn (h pos pins s σ H _ I hq) fun us s1 ⟨xs,H1,I1,r,z,q⟩=>⟨by rw [← r.length]; exact z,?_⟩)
  have hf:H1 s1.heap.objs.size = none:=I1.hok.fresh (Nat.le_refl _)
  refine ⟨.ref s1.heap.objs.size,upd H1 s1.heap.objs.size (.tup xs),I1.laid (t':=s1.toks) (fun b u e=>Heap.get?_push_of_some _ e) (Nat.le_refl _) ?_,rfl,q _ hf⟩
  exact ⟨z,us,r,⟨_,Heap.get?_push_size _ rfl,rfl,_,rfl⟩⟩
theorem xH (h:PA X es t):PE X (.List es pos) (tLst t):=by
  intro pins s σ H Q I hq
  refine wpAny_List_spliced (thn (h pos pins s σ H _ I hq) fun us s1 ⟨xs,H1,I1,r,z,q⟩=>⟨by rw [← r.length]; exact z,?_⟩)
  have hf:H1 s1.heap.objs.size = none:=I1.hok.fresh (Nat.le_refl _)
  refine ⟨.ref s1.heap.objs.size,upd H1 s1.heap.objs.size (.lst xs),I1.laid (t':=s1.toks) (fun b u e=>Heap.get?_push_of_some _ e) (Nat.le_refl _) ?_,rfl,q _ hf⟩
  exact ⟨z,us,0,r,Heap.get?_push_size _ rfl⟩
end
abbrev Sp:=List V→Hp→VK→XK→Prop
abbrev CXT:=List Env→Hp→Shared→XK→Value→Shared→Prop
structure zHR (P:Program) (w:World) (K:PySem.W.Frag) (mg:Str→Option Value) (base:Heap) (A:Around) (outer:List Env) (s:Shared) (H:Hp):Prop where
  frames:A.frames = some outer
  mod:Mod K mg base
  bs:∀ b o,base.get? b = some o→s.heap.get? b = some o∧H b = none
  bsz:base.objs.size ≤ s.heap.objs.size
  funs:s.heap.FunFrames base outer
  frf:∀ b ∈ frs outer,H b = none
  hok:HOk P w H s.heap
  bare:AllBare s.gens
  tab:Tb K mg H
def CE (outer:List Env) (P:Program) (w:World) (H:Hp) (s:Shared) (Q:VK) (u:Value) (s':Shared):Prop :=
  ∃ v H',s'.os = s.os∧AllBare s'.gens∧Un (frs outer) [] H H' s.heap s'.heap∧HOk P w H' s'.heap∧qU v u∧Q v H'
def CR (CX:CXT) (outer:List Env) (P:Program) (w:World) (H:Hp) (s:Shared) (Q:VK) (E:XK) (r:Result) (s':Shared):Prop :=
  match r with
  | .ok (.ret u)=>CE outer P w H s Q u s'
  | .ok _=>False
  | .error e=>CX outer H s E e s'
structure qL (P:Program) (w:World) (K:PySem.W.Frag) (mg:Str→Option Value) (base:Heap) (CX:CXT) (k:Nat) (f:Addr) (fd:FuncData) (ps:List Str) (sp:Sp):Prop where
  len:∀ vs H Q E,sp vs H Q E→vs.length = ps.length
  run:∀ (A:Around) (outer:List Env) (s:Shared) (H:Hp) (args:Args) (us:List Value) (vs:List V) (Q:VK) (E:XK),zB7 k A→zHR P w K mg base A outer s H→BindsTo s fd args (ps.zip us)→jS vs us→sp vs H Q E →
    codeAny (model P w) A (.call (.ref f) args) (CR CX outer P w H s Q E) s
theorem zHR.make {P:Program} {w:World} {K:PySem.W.Frag} {mg:Str→Option Value} {base:Heap} {A:Around} {outer:List Env} {s:Shared} {H:Hp} (e:zHR P w K mg base A outer s H) (C:Addr) (us:List Value) (kw:List (Str × Value)) :
    zHR P w K mg base (A.under (.builtin "type.__call__" ⟨.ref C :: us,kw⟩)) outer s H:=⟨by first | exact e.frames | (simpa [Around.under,Code.envs,Code.isFrame,pushEnvs] using e.frames),e.mod,e.bs,e.bsz,e.funs,e.frf,e.hok,e.bare,e.tab⟩
theorem zHR.in1 {P:Program} {w:World} {K:PySem.W.Frag} {mg:Str→Option Value} {base:Heap} {A:Around} {outer:List Env} {s:Shared} {H:Hp} (e:zHR P w K mg base A outer s H) :
    zHR P w K mg base A.in1 outer s H:=⟨e.frames,e.mod,e.bs,e.bsz,e.funs,e.frf,e.hok,e.bare,e.tab⟩
section
variable {X:Cx} {pins:List (Addr × Obj)} {σ:St} {H:Hp} {s s':Shared}
theorem Inv.env0 (I:Inv X pins σ H s):zHR X.prog X.w X.K X.mg X.base X.A X.stack s H :=
  ⟨I.ok.frames,I.ok.mod,I.bs,Nat.le_trans I.ok.bsz I.sz,I.stack,I.stkFree,I.hok,I.bare,I.tab⟩
theorem Inv.after {Q:VK} {u:Value} (I:Inv X pins σ H s) (h:CE X.stack X.prog X.w H s Q u s'):EP X pins σ Q u s':=by
  obtain ⟨v,H',os,bare,un,hok,r,q⟩:=h
  obtain ⟨hh,g,d,t,os'⟩:=s'
  obtain rfl:os' = s.os:=os
  exact ⟨v,H',I.call (h':=hh) (g':=g) (d':=d) (t':=t) (ch:=[]) un hok bare (fun b z=>absurd z (by simp)),r,q⟩
end
def zC6 (sp:Sp) (dvs:List V) (E:XK) (t:TA):TE:=fun σ H Q=>t σ H fun vs H1=>sp (vs ++ dvs) H1 Q E
def zEN (C:Addr) (m:Str) (sp:Sp) (dvs:List V) (E:XK) (ta:TE) (t:TA):TE:=fun σ H Q=>ta σ H fun x H1=>∃ a dx fs,x = .ref a∧H1 a = some (.ins C dx fs)∧fs.lookup m = none ∧
  t σ H1 fun vs H2=>sp (x :: (vs ++ dvs)) H2 Q E
def tMake (C:Addr) (sp:Sp) (dvs:List V) (E:XK) (t:TA):TE:=fun σ H Q=>t σ H fun vs H1=>∀ x dx,H1 x = none→H1 dx = none→dx ≠ x →
  sp (.ref x :: (vs ++ dvs)) (upd (upd H1 dx (.own x)) x (.ins C dx [])) (fun v H2=>v = .non∧Q (.ref x) H2) E
def zGW (K:PySem.W.Frag) (fd:FuncData) (ps:List Str) (ds:List Value):Prop :=
  ∀ (s:Shared) (us:List Value),K.In s.heap→(us ++ ds).length = ps.length→BindsTo s fd ⟨us,[]⟩ (ps.zip (us ++ ds))
theorem zGW.all {K:PySem.W.Frag} {fd:FuncData} {ps:List Str} (h:∀ us:List Value,us.length = ps.length→bindArgs fd ⟨us,[]⟩ = pure (ps.zip us)):zGW K fd ps []:=fun s us _ hl=>by
  rw [List.append_nil] at hl ⊢
  exact .of_eq (h us hl)
def zHB (CX:CXT) (X:Cx) (E:XK):Prop:=∀ (pins:List (Addr × Obj)) (σ:St) (H:Hp) (s:Shared) (e:Value) (s':Shared),Inv X pins σ H s→CX X.stack H s E e s'→X.xe e s'
section
variable {X:Cx} {CX:CXT} {k:Nat} {f C:Addr} {fd:FuncData} {ps:List Str} {sp:Sp} {dvs:List V} {ds:List Value} {E:XK} {x m:Str} {p pos apos:Pos} {e o:Expr} {es:List Expr} {ta:TE} {t:TA}
theorem run_fn {pins:List (Addr × Obj)} {σ:St} {H:Hp} {s:Shared} {Q:VK} {us:List Value} {vs:List V} (F:qL X.prog X.w X.K X.mg X.base CX k f fd ps sp) (hr:zB7 k X.A) (hb:zGW X.K fd ps ds) (hd:jS dvs ds) (hx:zHB CX X E)
    (I:Inv X pins σ H s) (r:jS vs us) (h:sp (vs ++ dvs) H Q E):wpAny (model X.prog X.w) X.A (call (.ref f) us) (EP X pins σ Q) X.xe s:=by
  have r2:jS (vs ++ dvs) (us ++ ds):=r.append hd
  have hl:(us ++ ds).length = ps.length:=by rw [← r2.length]; exact F.len _ _ _ _ h
  refine wpAny_call (codeAny_mono (F.run X.A X.stack s H ⟨us,[]⟩ (us ++ ds) (vs ++ dvs) Q E hr I.env0 (hb s us I.kIn hl) r2 h) fun r s' hq=>?_)
  cases r with
  | error e=>exact hx pins σ H s e s' I hq
  | ok fl =>
    cases fl with
    | ret u=>exact I.after hq
    | next=>exact False.elim hq
    | brk=>exact False.elim hq
    | cont=>exact False.elim hq
theorem yA (F:qL X.prog X.w X.K X.mg X.base CX k f fd ps sp) (hr:zB7 k X.A) (hg:Gl X x) (hm:X.mg x = some (.ref f)) (hk:PySem.W.keepIn X.K (.ref f) = true) (hb:zGW X.K fd ps ds) (hd:jS dvs ds) (hx:zHB CX X E)
    (ha:PA X (e :: es) t) (hdb:(x == ("__debug__" : Str)) = false:=by decide) (he:starEach (e :: es) X.env = (false,eval e X.env) :: starEach es X.env:=by rfl) (hpl:(backTo pos (starEach es X.env)).any (·.1) = false:=by rfl) :
    PE X (.Call (.Name x p) (e :: es) [] pos) (zC6 sp dvs E t):=by
  intro pins s σ H Q I h
  refine wpAny_Call_Name_kw (ld_glob I hg hm ?_ hdb)
  refine PySem.W.callWith_K (h₀:=X.base) I.ok.mod.kin hk (thn (ha pos pins s σ H _ I h) fun us s1 ⟨vs,H1,I1,r,q⟩=>⟨I1.kIn,?_⟩) he hpl
  exact run_fn F hr hb hd hx I1 r q
theorem xT {pl:Sem Bool} (he:PE X o ta) (c:Cls X.K C) (hm:Meth X.K C m f) (F:qL X.prog X.w X.K X.mg X.base CX k f fd ps sp) (hr:zB7 k X.A) (hb:zGW X.K fd ps ds) (hd:jS dvs ds) (hx:zHB CX X E) (ha:PA X (e :: es) t)
    (hst:starEach (e :: es) X.env = (false,eval e X.env) :: starEach es X.env:=by rfl) (hpl:(backTo pos (starEach es X.env)).any (·.1) = false:=by rfl)
    (ht:eval (.Call (.Attribute o m apos) (e :: es) [] pos) X.env = (do
      let ov ← eval o X.env
      standAt apos.atName
      let (f,first) ← holding [ov] (getMethod ov m pl)
      callWith pos f first (backTo pos (starEach (e :: es) X.env)) (backToKw pos (keywordEach [] X.env))):=by rfl) :
    PE X (.Call (.Attribute o m apos) (e :: es) [] pos) (zEN C m sp dvs E ta t):=by
  intro pins s σ H Q I h
  refine PySem.W.methodCall_KW (pl:=pl) (thn (he pins s σ H _ I h) fun u s1 ⟨x,H1,I1,rx,a,dx,fs,ex,ea,l,q⟩=>?_) ht
  subst ex
  obtain rfl:u = Value.ref a:=rx
  refine getmeth_ok I1 ea c hm l ?_
  refine PySem.W.callWith_K (first:=[.ref a]) (h₀:=X.base) I.ok.mod.kin hm.kp (thn (ha pos pins s1 σ H1 _ I1 q) fun us s2 ⟨vs,H2,I2,r,q2⟩=>⟨I2.kIn,?_⟩) hst hpl
  exact run_fn (us:=.ref a :: us) (vs:=.ref a :: vs) F hr hb hd hx I2 (.cons rfl r) q2
theorem pe_meth0 {pl:Sem Bool} (he:PE X o ta) (c:Cls X.K C) (hm:Meth X.K C m f) (F:qL X.prog X.w X.K X.mg X.base CX k f fd ps sp) (hr:zB7 k X.A) (hb:zGW X.K fd ps ds) (hd:jS dvs ds) (hx:zHB CX X E)
    (ht:eval (.Call (.Attribute o m apos) [] [] pos) X.env = (do
      let ov ← eval o X.env
      standAt apos.atName
      let (f,first) ← holding [ov] (getMethod ov m pl)
      callWith pos f first (backTo pos (starEach [] X.env)) (backToKw pos (keywordEach [] X.env))):=by rfl) :
    PE X (.Call (.Attribute o m apos) [] [] pos) (zEN C m sp dvs E ta zAG):=by
  intro pins s σ H Q I h
  refine PySem.W.methodCall_KW (pl:=pl) (thn (he pins s σ H _ I h) fun u s1 ⟨x,H1,I1,rx,a,dx,fs,ex,ea,l,q⟩=>?_) ht
  subst ex
  obtain rfl:u = Value.ref a:=rx
  refine getmeth_ok I1 ea c hm l ?_
  exact PySem.W.callWith_K0 (first:=[.ref a]) I1.kIn hm.kp (run_fn (us:=[.ref a]) (vs:=[.ref a]) F hr hb hd hx I1 (.cons rfl .nil) q)
structure Mk (K:PySem.W.Frag) (C f:Addr):Prop where
  makes:PySem.W.makesIn K C = true
  init:PySem.W.findIn K (.ref C) "__init__" = some (some (.ref f))
  fn:PySem.W.isFn K (.ref f) = true
  kp:PySem.W.keepIn K (.ref C) = true
theorem run_make {pins:List (Addr × Obj)} {σ:St} {H:Hp} {s:Shared} {Q:VK} {us:List Value} {vs:List V} (M:Mk X.K C f) (F:qL X.prog X.w X.K X.mg X.base CX k f fd ps sp) (hr:zB7 (k + 1) X.A) (hb:zGW X.K fd ps ds) (hd:jS dvs ds)
    (hx:zHB CX X E) (I:Inv X pins σ H s) (r:jS vs us)
    (h:∀ x dx,H x = none→H dx = none→dx ≠ x→sp (.ref x :: (vs ++ dvs)) (upd (upd H dx (.own x)) x (.ins C dx [])) (fun v H2=>v = .non∧Q (.ref x) H2) E) :
    wpAny (model X.prog X.w) X.A (call (.ref C) us) (EP X pins σ Q) X.xe s:=by
  have hq:=h (s.heap.objs.size + 1) s.heap.objs.size (I.hok.fresh (Nat.le_succ _)) (I.hok.fresh (Nat.le_refl _)) (Nat.ne_of_lt (Nat.lt_succ_self _))
  have I2:=Inv.made (C:=C) I
  have r2:jS (V.ref (s.heap.objs.size + 1) :: (vs ++ dvs)) (Value.ref (s.heap.objs.size + 1) :: (us ++ ds)):=.cons rfl (r.append hd)
  have hl:(Value.ref (s.heap.objs.size + 1) :: us ++ ds).length = ps.length:=by
    have e:=r2.length
    rw [F.len _ _ _ _ hq] at e
    exact e.symm
  refine wpAny_call (make_map (f:=f) I.kIn M.makes M.init (beq_iff_eq.mp M.fn) (codeAny_mono (F.run _ X.stack _ _ ⟨Value.ref (s.heap.objs.size + 1) :: us,[]⟩ (Value.ref (s.heap.objs.size + 1) :: (us ++ ds)) _ _ E (hr.make C us [])
    (I2.env0.make C us []) (hb _ (Value.ref (s.heap.objs.size + 1) :: us) I2.kIn hl) r2 hq) fun r s' hq'=>?_))
  cases r with
  | error e=>exact hx pins σ _ _ e s' I2 hq'
  | ok fl =>
    cases fl with
    | ret u =>
      obtain ⟨v,H',I3,rv,ev,q3⟩:=I2.after hq'
      subst ev
      exact ⟨rv,⟨V.ref (s.heap.objs.size + 1),H',I3,rfl,q3⟩⟩
    | next=>exact False.elim hq'
    | brk=>exact False.elim hq'
    | cont=>exact False.elim hq'
theorem pe_make (M:Mk X.K C f) (F:qL X.prog X.w X.K X.mg X.base CX k f fd ps sp) (hr:zB7 (k + 1) X.A) (hg:Gl X x) (hm:X.mg x = some (.ref C)) (hb:zGW X.K fd ps ds) (hd:jS dvs ds) (hx:zHB CX X E)
    (ha:PA X (e :: es) t) (hdb:(x == ("__debug__" : Str)) = false:=by decide) (he:starEach (e :: es) X.env = (false,eval e X.env) :: starEach es X.env:=by rfl) (hpl:(backTo pos (starEach es X.env)).any (·.1) = false:=by rfl) :
    PE X (.Call (.Name x p) (e :: es) [] pos) (tMake C sp dvs E t):=by
  intro pins s σ H Q I h
  refine wpAny_Call_Name_kw (ld_glob I hg hm ?_ hdb)
  refine PySem.W.callWith_K (h₀:=X.base) I.ok.mod.kin M.kp (thn (ha pos pins s σ H _ I h) fun us s1 ⟨vs,H1,I1,r,q⟩=>⟨I1.kIn,?_⟩) he hpl
  exact run_make M F hr hb hd hx I1 r q
theorem pe_make0 (M:Mk X.K C f) (F:qL X.prog X.w X.K X.mg X.base CX k f fd ps sp) (hr:zB7 (k + 1) X.A) (hg:Gl X x) (hm:X.mg x = some (.ref C)) (hb:zGW X.K fd ps ds) (hd:jS dvs ds) (hx:zHB CX X E)
    (hdb:(x == ("__debug__" : Str)) = false:=by decide):PE X (.Call (.Name x p) [] [] pos) (tMake C sp dvs E zAG):=by
  intro pins s σ H Q I h
  refine wpAny_Call_Name_kw (ld_glob I hg hm ?_ hdb)
  exact PySem.W.callWith_K0 I.kIn M.kp (run_make (us:=[]) M F hr hb hd hx I .nil h)
end
def PK (X:Cx) (kws:List Keyword) (t:TA):Prop :=
  ∀ (pos:Pos) (pins:List (Addr × Obj)) (s:Shared) (σ:St) (H:Hp) (Q:List V→Hp→Prop),Inv X pins σ H s→t σ H Q→wpAny (model X.prog X.w) X.A (evalAll ((backToKw pos (keywordEach kws X.env)).map (·.2))) (AP X pins σ Q) X.xe s
section
variable {X:Cx} {CX:CXT} {k:Nat} {f C:Addr} {fd:FuncData} {ps ks:List Str} {sp:Sp} {E:XK} {x m:Str} {p pos apos kpos:Pos} {e o:Expr} {es:List Expr} {kws:List Keyword} {te ta:TE} {t tk:TA} {nm:Option Str}
theorem pk_nil:PK X [] zAG:=fun _ _ _ _ H Q I h=>wpAny_evalAll_nil ⟨[],H,I,.nil,h⟩
theorem pk_cons (ha:PE X e te) (hr:PK X kws t):PK X (⟨nm,e,kpos⟩ :: kws) (yW te t):=by
  intro pos pins s σ H Q I h
  show wpAny _ _ (evalAll ((do let v ← eval e X.env; standAt pos; pure v) :: (backToKw pos (keywordEach kws X.env)).map (·.2))) _ _ s
  refine wpAny_evalAll_cons (wpAny_bind (thn (ha pins s σ H _ I h) fun u s1 ⟨x,H1,I1,r1,q1⟩=>wpAny_bind (wpAny_standAt (wpAny_pure ?_))))
  exact thn (hr pos pins s1 σ H1 _ I1 q1) fun us s2 ⟨xs,H2,I2,r2,q2⟩=>⟨x :: xs,H2,I2,.cons r1 r2,q2⟩
variable {g:List Value→List Value→List Value} {gV:List V→List V→List V}
end
structure zS (N P:List Str) (sc:Scope):Prop where
  kind:sc.kind = .function
  co:sc.isCoroutine = false
  gen:sc.isGenerator = false
  nd:N.Nodup
  pre:N.take P.length = P
  par:∀ x ∈ P,sc.names.lookup x = some .local∨sc.names.lookup x = some .cell
  nofree:∀ y ∈ sc.names,y.2 ≠ .free
theorem bindL_out {kindOf:Str→Option NameKind} {x:Str}:∀ {binds:List (Str × Value)} {m:Str→Option Value},(∀ v,(x,v) ∉ binds)→bindL kindOf binds m x = m x
  | [],_,_=>rfl
  | (n,v) :: r,m,h=>by
    unfold bindL
    rw [bindL_out fun w hw=>h w (List.mem_cons_of_mem _ hw)]
    split
    · have:x ≠ n:=by rintro rfl; exact h v List.mem_cons_self
      simp [this]
    · rfl
theorem bindC_out {kindOf:Str→Option NameKind} {x:Str}:∀ {binds:List (Str × Value)} {m:Str→Option Value},(∀ v,(x,v) ∉ binds)→bindC kindOf binds m x = m x
  | [],_,_=>rfl
  | (n,v) :: r,m,h=>by
    unfold bindC
    rw [bindC_out fun w hw=>h w (List.mem_cons_of_mem _ hw)]
    split
    · rfl
    · have:x ≠ n:=by rintro rfl; exact h v List.mem_cons_self
      simp [this]
theorem bindL_get {kindOf:Str→Option NameKind} {x:Str} {v:Value}:∀ {P:List Str} {vs:List Value} {i:Nat} {m:Str→Option Value},P.Nodup→P[i]? = some x→vs[i]? = some v→kindOf x = some .local →
    bindL kindOf (P.zip vs) m x = some v
  | [],_,_,_,_,h,_,_=>by simp at h
  | _ :: _,[],_,_,_,_,h,_=>by simp at h
  | p :: P,w :: vs,0,m,nd,h1,h2,hk=>by
    simp at h1 h2; subst h1; subst h2
    show bindL kindOf ((p,w) :: P.zip vs) m p = _
    unfold bindL
    rw [bindL_out fun v hv=>(List.nodup_cons.mp nd).1 (List.of_mem_zip hv).1,if_pos hk]
    simp
  | p :: P,w :: vs,i + 1,m,nd,h1,h2,hk=>by
    show bindL kindOf ((p,w) :: P.zip vs) m x = _
    unfold bindL
    exact bindL_get (i:=i) (List.nodup_cons.mp nd).2 (by simpa using h1) (by simpa using h2) hk
theorem bindC_get {kindOf:Str→Option NameKind} {x:Str} {v:Value}:∀ {P:List Str} {vs:List Value} {i:Nat} {m:Str→Option Value},P.Nodup→P[i]? = some x→vs[i]? = some v→kindOf x ≠ some .local →
    bindC kindOf (P.zip vs) m x = some v
  | [],_,_,_,_,h,_,_=>by simp at h
  | _ :: _,[],_,_,_,_,h,_=>by simp at h
  | p :: P,w :: vs,0,m,nd,h1,h2,hk=>by
    simp at h1 h2; subst h1; subst h2
    show bindC kindOf ((p,w) :: P.zip vs) m p = _
    unfold bindC
    rw [bindC_out fun v hv=>(List.nodup_cons.mp nd).1 (List.of_mem_zip hv).1,if_neg hk]
    simp
  | p :: P,w :: vs,i + 1,m,nd,h1,h2,hk=>by
    show bindC kindOf ((p,w) :: P.zip vs) m x = _
    unfold bindC
    exact bindC_get (i:=i) (List.nodup_cons.mp nd).2 (by simpa using h1) (by simpa using h2) hk
def start (N:List Str) (vs:List V):St:=vs.map some ++ List.replicate (N.length - vs.length) none
def cxOf (CX:CXT) (P:Program) (w:World) (K:PySem.W.Frag) (mg:Str→Option Value) (base:Heap) (N:List Str) (qual:Str) (scope:Scope) (f:Addr) (cd:Value) (A:Around) (outer:List Env) (s:Shared) (H:Hp) (E:XK):Cx where
  prog:=P
  w:=w
  K:=K
  mg:=mg
  base:=base
  A:=A.deeper (envOfC qual scope s.heap.objs.size f cd)
  N:=N
  s_0:=s
  H_0:=H
  env:=envOfC qual scope s.heap.objs.size f cd
  outer:=outer
  stack:=envOfC qual scope s.heap.objs.size f cd :: outer
  ex:=[]
  calm:=true
  fn:=fun _=>true
  pn:=[]
  xe:=fun e s'=>wpAny (model P w) (A.deeper (envOfC qual scope s.heap.objs.size f cd)) (leaving (envOfC qual scope s.heap.objs.size f cd) e) (fun _ s''=>CX outer H s E e s'') (fun e' s''=>CX outer H s E e' s'') s'
theorem cell_has {sc:Scope} {n:Nat} {x:Str} (h:sc.names.lookup x = some .cell):∃ c,(cellsFrom n sc.names []).lookup x = some c:=by
  have q:=PySem.W.cellsFrom_some sc.names n [] (.inl h)
  exact Option.isSome_iff_exists.mp q
theorem inv_start {CX:CXT} {P:Program} {w:World} {K:PySem.W.Frag} {mg:Str→Option Value} {base:Heap} {N ps:List Str} {qual:Str} {scope:Scope} {f:Addr} {cd:Value} {A:Around} {outer:List Env} {s s1:Shared} {H:Hp} {E:XK} {us:List Value} {vs:List V}
    (S:zS N ps scope) (hd:A.handled = none) (e0:zHR P w K mg base A outer s H) (hl:vs.length = ps.length) (r:jS vs us)
    (x:InCallC s s.heap.objs.size (bindL (envOfC qual scope s.heap.objs.size f cd).kindOf (ps.zip us) fun _=>none) (cellsFrom (s.heap.objs.size + 1) scope.names []) (bindC (envOfC qual scope s.heap.objs.size f cd).kindOf (ps.zip us) fun _=>none) s1) :
    Inv (cxOf CX P w K mg base N qual scope f cd A outer s H E) [] (start N vs) H s1:=by
  have hpl:ps.length ≤ N.length:=by have:=congrArg List.length S.pre; rw [List.length_take] at this; omega
  obtain ⟨h1,tk,rfl,hk⟩:=x.done
  have noA:∀ b:Addr,b ∉ (cxOf CX P w K mg base N qual scope f cd A outer s H E).ex:=fun b z=>absurd (show b ∈ ([]:List Addr) from z) (by simp)
  refine ⟨⟨e0.mod,S.kind,rfl,rfl,Nat.le_refl _,fun y z c h1 h2=>?_,fun y hy=>?_,fun y c _ h=>?_,fun _=>hd,Around.frames_deeper e0.frames,.inr ⟨rfl,rfl⟩,fun b z=>absurd z (noA b),e0.bs,e0.bsz,fun b _ _=>noA b,fun b z=>absurd z (noA b),e0.funs,e0.frf,e0.tab⟩,
    rfl,e0.bare,Un.kept hk,⟨_,x.toInCall.ns,fun i y v h1 h2 h3=>?_⟩,fun y c h=>⟨_,x.cell y c h⟩,e0.hok.fresh (Nat.le_refl _),fun y c h=>?_,fun p hp=>absurd (show p ∈ ([]:List (Addr × Obj)) from hp) (by simp),e0.hok.kept hk,?_⟩
  · exact name_of_addr x.apart (PySem.mem_of_lookup h1) (PySem.mem_of_lookup h2)
  · have hy:scope.names.lookup y = some .cell∨scope.names.lookup y = some .free:=hy
    rcases hy with hy | hy
    · exact cell_has hy
    · exact absurd rfl (S.nofree _ (PySem.mem_of_lookup hy))
  · exact Nat.le_of_lt (x.above y c (PySem.mem_of_lookup h))
  · have hi:i < vs.length:=by
      unfold start at h2
      by_cases hi:i < vs.length
      · exact hi
      · rw [List.getElem?_append_right (by simpa using hi)] at h2
        rw [List.getElem?_replicate] at h2
        split at h2 <;> cases h2
    have ha:vs[i]? = some v:=by
      unfold start at h2
      rw [List.getElem?_append_left (by simpa using hi),List.getElem?_map] at h2
      cases e:vs[i]? with
      | none=>rw [e] at h2; cases h2
      | some a=>rw [e] at h2; cases h2; rfl
    obtain ⟨u,hu,rv⟩:=r.get ha
    have hp:ps[i]? = some y:=by
      rw [← S.pre,List.getElem?_take_of_lt (by omega)]; exact h1
    have ndP:ps.Nodup:=by rw [← S.pre]; exact S.nd.sublist (List.take_sublist _ _)
    refine ⟨u,rv,?_⟩
    rcases S.par y (List.mem_of_getElem? hp) with k | k
    · exact .inl ⟨k,bindL_get ndP hp hu k⟩
    · obtain ⟨c,e⟩:=cell_has (n:=s.heap.objs.size + 1) k
      refine .inr ⟨.inl k,c,e,?_⟩
      have q:=x.cell y c e
      rw [bindC_get ndP hp hu (by show scope.names.lookup y ≠ _; rw [k]; decide)] at q
      exact q
  · exact e0.hok.fresh (Nat.le_of_lt (x.above y c (PySem.mem_of_lookup h)))
  · unfold start
    show _ = N.length
    rw [List.length_append,List.length_map,List.length_replicate]
    omega
theorem fn_of {CX:CXT} {P:Program} {w:World} {K:PySem.W.Frag} {mg:Str→Option Value} {base:Heap} {k:Nat} {f:Addr} {name qual:Str} {params:Arguments} {body:List Stmt} {scope:Scope} {dV kV doc pm cdv ct oc:Value} {an od:Option Addr}
    {osl:Array (Option Value)} {N ps:List Str} {sp:Sp} (lk:K.lookup f = some ⟨oc,od,.func (PySem.W.fnOf name qual params body scope dV kV doc pm an cdv ct),osl⟩) (hcd:PySem.W.codeIn K cdv qual = true) (S:zS N ps scope)
    (len:∀ vs H Q E,sp vs H Q E→vs.length = ps.length)
    (hbody:∀ (A:Around) (outer:List Env) (s:Shared) (H:Hp) (vs:List V) (Q:VK) (E:XK),zB7 k (A.deeper (envOfC qual scope s.heap.objs.size f cdv))→sp vs H Q E →
      ∃ t,PSs (cxOf CX P w K mg base N qual scope f cdv A outer s H E) body t∧t { nx:=fun _ H'=>Q .non H',rt:=Q } (start N vs) H) :
    qL P w K mg base CX (k + 1) f (PySem.W.fnOf name qual params body scope dV kV doc pm an cdv ct) ps sp:=by
  refine ⟨len,fun A outer s H args us vs Q E hr e0 hb r hsp=>?_⟩
  have hl:=len _ _ _ _ hsp
  have KX:K.In s.heap:=e0.mod.kin.keeps fun b o e=>(e0.bs b o e).1
  have lim:s.heap.NoLimit:=e0.mod.nolimit.keeps fun b o e=>(e0.bs b o e).1
  have hkind:∀ y ∈ ps.zip us,scope.names.lookup y.1 = some .local∨(scope.names.lookup y.1 = some .cell∧((cellsFrom (s.heap.objs.size + 1) scope.names []).lookup y.1).isSome = true):=fun ⟨n,v⟩ hy=>by
    rcases S.par n (List.of_mem_zip hy).1 with q | q
    · exact .inl q
    · exact .inr ⟨q,PySem.W.cellsFrom_some _ _ _ (.inl q)⟩
  refine codeAny_call_function hr.depth (KX _ _ lk) rfl S.co S.gen rfl (PySem.W.codeRec_of KX hcd) (hb _ _ _ _ ?_)
  refine wpAny_newFunctionEnv_cells S.kind hkind fun env he s1 x=>?_
  subst he
  refine ⟨lim.keeps x.toInCall.keep,codeAny_func ?_⟩
  obtain ⟨t,ht,hq⟩:=hbody A outer s H vs Q E (hr.deeper _) hsp
  have I:Inv (cxOf CX P w K mg base N qual scope f cdv A outer s H E) [] (start N vs) H s1:=inv_start S hr.hd e0 hl r x
  refine wpAny_mono (ht [] s1 (start N vs) H _ I hq) (fun fl s' hs=>?_) fun e s' hs=>hs
  have fin:∀ {σ':St} {H':Hp} {v:V} {u:Value},Inv (cxOf CX P w K mg base N qual scope f cdv A outer s H E) [] σ' H' s'→qU v u→Q v H'→CE outer P w H s Q u s' :=
    fun {σ' H' v u} J rv q=>⟨v,H',J.os,J.bare,J.base,J.hok,rv,q⟩
  cases fl with
  | ret u =>
    obtain ⟨v,σ',H',J,rv,q⟩:=hs
    exact fin J rv q
  | next =>
    obtain ⟨σ',H',J,q⟩:=hs
    exact fin (v:=V.non) (u:=Value.none) J rfl q
  | brk =>
    obtain ⟨_,_,_,q⟩:=hs
    exact False.elim q
  | cont =>
    obtain ⟨_,_,_,q⟩:=hs
    exact False.elim q
end L2
namespace L2
open PySem PySem.Spec PyProof.Rows
section
variable {X:Cx} {x:Str} {p pos:Pos} {e:Expr} {es:List Expr} {t:TA} {id T:String} {r:List V→Hp→VK→Prop}
def tCB (r:List V→Hp→VK→Prop) (t:TA):TE:=fun σ H Q=>t σ H fun vs H1=>r vs H1 Q
theorem yJ (hc:CallR X (.builtin id) r) (hg:Gl X x) (hm:X.mg x = none) (hv:bootBuiltins x = some (.builtin id)) (ha:PA X (e :: es) t) (hn:x ≠ "__name__" := by decide) (hdb:(x == ("__debug__" : Str)) = false:=by decide)
    (he:starEach (e :: es) X.env = (false,eval e X.env) :: starEach es X.env:=by rfl) (hpl:(backTo pos (starEach es X.env)).any (·.1) = false:=by rfl):PE X (.Call (.Name x p) (e :: es) [] pos) (tCB r t):=by
  intro pins s σ H Q I h
  refine wpAny_Call_Name_kw (zIU I hg hm hv ?_ hn hdb)
  exact PyProof.Rows.callWith_builtin1 (thn (ha pos pins s σ H _ I h) fun us s1 ⟨vs,H1,I1,r1,q1⟩=>hc pins s1 σ H1 vs us Q I1 r1 q1) he hpl
theorem zFL (hc:CallR X (.type T) r) (hg:Gl X x) (hm:X.mg x = none) (hv:bootBuiltins x = some (.type T)) (ha:PA X (e :: es) t) (hn:x ≠ "__name__" := by decide) (hdb:(x == ("__debug__" : Str)) = false:=by decide)
    (he:starEach (e :: es) X.env = (false,eval e X.env) :: starEach es X.env:=by rfl) (hpl:(backTo pos (starEach es X.env)).any (·.1) = false:=by rfl):PE X (.Call (.Name x p) (e :: es) [] pos) (tCB r t):=by
  intro pins s σ H Q I h
  refine wpAny_Call_Name_kw (zIU I hg hm hv ?_ hn hdb)
  exact PyProof.Rows.callWith_type1 (thn (ha pos pins s σ H _ I h) fun us s1 ⟨vs,H1,I1,r1,q1⟩=>hc pins s1 σ H1 vs us Q I1 r1 q1) he hpl
end
end L2
namespace HT
open PySem PyProof.Rows
def zAP:List Int→List Int→Bool
  | [],[]=>false
  | [],_ :: _=>true
  | _ :: _,[]=>false
  | x :: xs,y :: ys=>if x = y then zAP xs ys else decide (x < y)
theorem zGS (x y:Int) (xs ys:List Int):zAP (x :: xs) (y :: ys) = if x = y then zAP xs ys else decide (x < y):=rfl
theorem zFU:zAP [] [] = false:=rfl
theorem lexLt_nil_cons (y:Int) (ys:List Int):zAP [] (y :: ys) = true:=rfl
theorem lexLt_cons_nil (x:Int) (xs:List Int):zAP (x :: xs) [] = false:=rfl
theorem eqAt_int (A:Around) (s:Shared) (a:Int) (t:Tok) (c:Int) (u:Tok):∃ e,SeqAt.EqAt A s (.int a t) (.int c u) e∧(e = true↔a = c) :=
  ⟨(a == c),SeqAt.EqAt.int_int a t c u,by simp⟩
theorem rcLt_int (A:Around) (s:Shared) (a:Int) (t:Tok) (c:Int) (u:Tok) (prog:Program) (w:World) (E:Value→Shared→Prop) (Q:Value→Shared→Prop) (h:Q (.bool (decide (a < c))) s) :
    wpAny (model prog w) A (richCompare .Lt (.int a t) (.int c u)) Q E s :=
  (PyProof.Rows.lt_int h:wpAny (model prog w) A (compareOp .Lt (.int a t) (.int c u)) Q E s)
section
open PySem.SeqAt
open PySem.AutoSeq1 (wpAny_loadPart')
open PySem.MeetsSeq PySem.MeetsSeq2 PySem.MeetsSeq3
theorem tuple_lt_ints (l b:Addr) (items items2:Array Value) (n n2:Nat) (dd dd2:Option Addr) (sl sl2:Array (Option Value)) (ns ms:List Int) (hi:IntsAre items.toList ns) (hj:IntsAre items2.toList ms) :
    Meets (Builtin.«tuple.__lt__» ⟨[.ref l,.ref b],[]⟩)
      (fun _ R s=>s.heap.get? l = some { cls:=.type "tuple", dict:=dd,data:=.seq items n,slots:=sl }∧s.heap.get? b = some { cls:=.type "tuple", dict:=dd2,data:=.seq items2 n2,slots:=sl2 } ∧
        R (.ok (.ret (.bool (zAP ns ms)))) s) :=
  .of_wp fun prog w A R s h=>by
    obtain ⟨hp,g,d,tk,os⟩:=s; obtain ⟨hl,hb,h⟩:=h
    have f2:=AutoSeq1.sub_tuple_tuple
    have z1:items.size = ns.length:=by rw [← hi.length]; simp
    have z2:items2.size = ms.length:=by rw [← hj.length]; simp
    wp_walk using wpAny_loadPart' hl,wpAny_loadPart' hb,wpAny_forIn_list _ (fun rest b s'=>b.1 = none∧s' = ⟨hp,g,d,tk,os⟩∧∃ (vs ws:List Value) (ns' ms':List Int),rest = vs.zip ws ∧
      IntsAre vs ns'∧IntsAre ws ms'∧ns'.length + items2.size = ms'.length + items.size∧R (.ok (.ret (.bool (zAP ns' ms')))) ⟨hp,g,d,tk,os⟩) _
    case turn =>
      rintro ⟨y,x⟩ rest b s' ⟨hb',rfl,vs,ws,ns',ms',hz,hvi,hwi,hlen,hR⟩
      cases hvi with
      | nil=>rw [List.zip_nil_left] at hz; cases hz
      | cons a t hvi' =>
        cases hwi with
        | nil=>rw [List.zip_nil_right] at hz; cases hz
        | cons c u hwi' =>
          rw [List.zip_cons_cons] at hz
          injection hz with hyx hrest
          injection hyx with hy hx
          subst hy hx
          rw [zGS] at hR
          simp only [List.length_cons] at hlen
          obtain ⟨e,he,hiff⟩:=eqAt_int A.in1 ⟨hp,g,d,tk,os⟩ a t c u
          refine wpAny_bind (he prog w _ _ ?_)
          cases e with
          | true =>
            rw [if_pos (hiff.mp rfl)] at hR
            wp_walk
            exact ⟨rfl,rfl,_,_,_,_,hrest,hvi',hwi',by omega,hR⟩
          | false =>
            rw [if_neg (fun q=>absurd (hiff.mpr q) Bool.false_ne_true)] at hR
            have hri:=rcLt_int A.in1 ⟨hp,g,d,tk,os⟩ a t c u prog w
            wp_walk using hri
            exact ⟨_,rfl,by simpa using hR⟩
    case fin =>
      rintro ⟨b1,b2⟩ s' ⟨hb',rfl,vs,ws,ns',ms',hz,hvi,hwi,hlen,hR⟩
      simp only at hb'
      subst hb'
      have hv:zAP ns' ms' = decide (items.size < items2.size):=by
        cases hvi with
        | nil =>
          cases hwi with
          | nil =>
            simp only [List.length_nil] at hlen
            rw [zFU]
            exact (decide_eq_false (by omega)).symm
          | cons c u hw =>
            simp only [List.length_nil,List.length_cons] at hlen
            rw [lexLt_nil_cons]
            exact (decide_eq_true (by omega)).symm
        | cons a t hv =>
          cases hwi with
          | nil =>
            simp only [List.length_nil,List.length_cons] at hlen
            rw [lexLt_cons_nil]
            exact (decide_eq_false (by omega)).symm
          | cons c u hw =>
            rw [List.zip_cons_cons] at hz
            cases hz
      rw [hv] at hR
      wp_walk
      exact ⟨_,rfl,by simpa [Builtin.Tuple.tupleCompareSizes] using hR⟩
    case h =>
      exact ⟨rfl,rfl,items.toList,items2.toList,ns,ms,rfl,hi,hj,by omega,h⟩
end
section
variable {prog:Program} {w:World} {A:Around} {E:Value→Shared→Prop} {s:Shared}
theorem lt_tupInts {l b:Addr} {items items2:Array Value} {ns ms:List Int} {Q:Value→Shared→Prop} (hl:IsTup s.heap l items) (hb:IsTup s.heap b items2) (hi:IntsAre items.toList ns) (hj:IntsAre items2.toList ms)
    (hu:A.units < cLine) (h:Q (.bool (zAP ns ms)) s):wpAny (model prog w) A (compareOp .Lt (.ref l) (.ref b)) Q E s:=by
  obtain ⟨⟨cls,dd,data,sl⟩,ho,hc,n,hd⟩:=id hl
  obtain ⟨⟨cls2,dd2,data2,sl2⟩,ho2,hc2,n2,hd2⟩:=id hb
  simp only at hc hd hc2 hd2
  subst hc hd hc2 hd2
  exact richCompare_meets_room (op:=.Lt) ⟨_,ho,rfl⟩ ⟨_,ho2,rfl⟩ PySem.F.slot_tuple_lt PySem.F.entry_tuple_lt (PySem.F.args_tuple_lt_2 _ _) (tuple_lt_ints l b items items2 n n2 dd dd2 sl sl2 ns ms hi hj)
    ⟨ho,ho2,show Value.bool (zAP ns ms) ≠ Value.notImplemented∧Q (.bool (zAP ns ms)) s from ⟨(fun x=>nomatch x),h⟩⟩ hu
def sIx (n d:Nat):Option Int→Nat
  | none=>d
  | some v=>if v < 0 then (v + (n:Int)).toNat else min v.toNat n
theorem sIx_none (n d:Nat):sIx n d none = d:=rfl
theorem sIx_nat (n d k:Nat):sIx n d (some (k:Int)) = min k n:=by
  show (if (k:Int) < 0 then ((k:Int) + (n:Int)).toNat else min (k:Int).toNat n) = min k n
  rw [if_neg (by omega),Int.toNat_natCast]
end
end HT
namespace L2
open PySem PySem.Spec PyProof.Rows
abbrev TO:=St→Hp→(Option Int→Hp→Prop)→Prop
def PO (X:Cx) (e:Option Expr) (t:TO):Prop :=
  ∀ (pins:List (Addr × Obj)) (s:Shared) (σ:St) (H:Hp) (Q:Option Int→Hp→Prop),Inv X pins σ H s→t σ H Q →
    wpAny (model X.prog X.w) X.A (evalPart e X.env) (fun u s'=>∃ o H',Inv X pins σ H' s'∧IsPart u o∧Q o H') X.xe s
def tNoPart:TO:=fun _ H Q=>Q none H
def tPart (t:TE):TO:=fun σ H Q=>t σ H fun x H1=>∃ i,x = .int i∧Q (some i) H1
section
variable {X:Cx} {e:Expr} {te:TE} {lo hi:Option Expr} {tl th:TO} {pos p2:Pos}
theorem po_none:PO X none tNoPart:=by
  intro pins s σ H Q I h
  rw [evalPart_none]
  exact wpAny_pure ⟨none,H,I,.none,h⟩
theorem po_some (h:PE X e te):PO X (some e) (tPart te):=by
  intro pins s σ H Q I hw
  rw [evalPart_some]
  refine thn (h pins s σ H _ I hw) fun u s1 ⟨x,H1,I1,r1,q1⟩=>?_
  obtain ⟨i,rfl,q⟩:=q1
  obtain ⟨t,rfl⟩:=r1
  exact ⟨some i,H1,I1,.int i t,q⟩
def SlR (X:Cx) (r:V→Option Int→Option Int→Hp→VK→Prop):Prop :=
  ∀ (pins:List (Addr × Obj)) (s:Shared) (σ:St) (H:Hp) (x:V) (v vl vu:Value) (lo hi:Option Int) (sl:Addr) (Q:VK),Inv X pins σ H s→qU x v→s.heap.IsSliceOf sl vl vu .none→IsPart vl lo→IsPart vu hi→r x lo hi H Q →
    ∃ T id,typeLookup (.type T) "__getitem__" = pure (some (.builtin id))∧s.TypeIs v T∧wpAny (model X.prog X.w) X.A (getItem v (.ref sl)) (EP X pins σ Q) X.xe s
def tSl (r:V→Option Int→Option Int→Hp→VK→Prop) (te:TE) (tl th:TO):TE:=fun σ H Q=>te σ H fun x H1=>tl σ H1 fun l H2=>th σ H2 fun u H3=>r x l u H3 Q
theorem pe_slice {r:V→Option Int→Option Int→Hp→VK→Prop} (hr:SlR X r) (he:PE X e te) (hl:PO X lo tl) (hu:PO X hi th):PE X (.Subscript e (.Slice lo hi none p2) pos) (tSl r te tl th):=by
  intro pins s σ H Q I h
  refine Subscript_ (thn (he pins s σ H _ I h) fun v s1 ⟨x,H1,I1,r1,q1⟩=>?_)
  refine wpAny_Slice (thn (hl pins s1 σ H1 _ I1 q1) fun vl s2 ⟨l,H2,I2,pl,q2⟩=>thn (hu pins s2 σ H2 _ I2 q2) fun vu s3 ⟨u,H3,I3,pu,q3⟩=>?_)
  rw [evalPart_none]
  refine wpAny_pure ?_
  have I4:Inv X pins σ H3 { s3 with heap:=s3.heap.push { cls:=.type "slice", data:=.fields #[vl,vu,.none] } }:=I3.kept (t':=s3.toks) fun b ob q=>Heap.get?_push_of_some _ q
  obtain ⟨T,id,hT,ht,hg⟩:=hr pins { s3 with heap:=s3.heap.push { cls:=.type "slice", data:=.fields #[vl,vu,.none] } } σ H3 x v vl vu l u s3.heap.objs.size Q I4 r1 (Heap.IsSliceOf.new ..) pl pu q3
  show wpAny (model X.prog X.w) X.A (subscriptTail e (.Slice lo hi none p2) v (.ref s3.heap.objs.size)) (EP X pins σ Q) X.xe { s3 with heap:=s3.heap.push { cls:=.type "slice", data:=.fields #[vl,vu,.none] } }
  exact tail_any (ops:=[.ref s3.heap.objs.size,v]) ht hT hg (by with_unfolding_all rfl)
def cutV (xs:List V) (lo hi:Option Int):List V:=(xs.drop (HT.sIx xs.length 0 lo)).take (HT.sIx xs.length xs.length hi - HT.sIx xs.length 0 lo)
theorem cutV_length (xs:List V) (lo hi:Option Int):(cutV xs lo hi).length ≤ xs.length:=by
  unfold cutV
  rw [List.length_take,List.length_drop]
  omega
end
end L2
namespace L2
open PySem PySem.Spec PyProof.Rows
def ixN (n:Nat) (i:Int):Option Nat:=if 0 ≤ i then (if i < n then some i.toNat else none) else if -(n:Int) ≤ i then some (i + n).toNat else none
def atI {α:Type} (xs:List α) (i:Int):Option α:=(ixN xs.length i).bind fun j=>xs[j]?
theorem ixN_seq {n:Nat} {i:Int} {j:Nat} (h:ixN n i = some j):seqIndex? i n = some j∧j < n∧-(n:Int) ≤ i∧i < n:=by
  unfold ixN at h
  by_cases h0:0 ≤ i
  · rw [if_pos h0] at h
    by_cases h1:i < n
    · rw [if_pos h1] at h
      have e:i.toNat = j:=Option.some.inj h
      exact ⟨by rw [seqIndex_of h0 h1,e],by omega,by omega,h1⟩
    · rw [if_neg h1] at h; cases h
  · rw [if_neg h0] at h
    by_cases h1:-(n:Int) ≤ i
    · rw [if_pos h1] at h
      have e:(i + n).toNat = j:=Option.some.inj h
      exact ⟨by rw [seqIndex_neg (by omega) h1,e],by omega,h1,by omega⟩
    · rw [if_neg h1] at h; cases h
theorem atI_get {α:Type} {xs:List α} {i:Int} {v:α} (h:atI xs i = some v):∃ j,seqIndex? i xs.length = some j∧xs[j]? = some v∧j < xs.length∧-(xs.length:Int) ≤ i∧i < xs.length:=by
  unfold atI at h
  cases e:ixN xs.length i with
  | none=>rw [e] at h; cases h
  | some j =>
    rw [e] at h
    obtain ⟨h1,h2,h3,h4⟩:=ixN_seq e
    exact ⟨j,h1,h,h2,h3,h4⟩
theorem atI_nat {α:Type} {xs:List α} {j:Nat} {v:α} (h:xs[j]? = some v):atI xs (j:Int) = some v:=by
  have hj:j < xs.length:=(List.getElem?_eq_some_iff.mp h).1
  have e:ixN xs.length (j:Int) = some j:=by
    unfold ixN
    rw [if_pos (by omega),if_pos (by omega)]; simp
  unfold atI; rw [e]; exact h
def PlainIx (b:Expr):Prop:=∀ o i,subscripted b false o i = operate [o,i] (getItem o i)
def IxR (X:Cx) (r:R2):Prop :=
  ∀ (value slice:Expr) (pins:List (Addr × Obj)) (s:Shared) (σ:St) (H:Hp) (x y:V) (v u:Value) (Q:VK),Inv X pins σ H s→qU x v→qU y u→r x y H Q →
    subscripted slice false v u = operate [v,u] (getItem v u)→wpAny (model X.prog X.w) X.A (subscriptTail value slice v u) (EP X pins σ Q) X.xe s
def MtR (X:Cx) (id:String) (r:V→List V→Hp→VK→Prop):Prop :=
  ∀ (pins:List (Addr × Obj)) (s:Shared) (σ:St) (H:Hp) (x:V) (xs:List V) (v:Value) (us:List Value) (Q:VK),Inv X pins σ H s→qU x v→jS xs us→r x xs H Q →
    wpAny (model X.prog X.w) X.A (call (.builtin id) (v :: us)) (EP X pins σ Q) X.xe s
section
variable {X:Cx} {a b:Expr} {ta tb:TE} {pos:Pos}
theorem qA {r:R2} (hr:IxR X r) (ha:PE X a ta) (hb:PE X b tb) (hs:PlainIx b):PE X (.Subscript a b pos) (tOp r ta tb):=by
  intro pins s σ H Q I h
  exact Subscript_ (binT ha hb I h fun v u s2 x y H2 I2 rx ry q=>hr a b pins s2 σ H2 x y v u Q I2 rx ry q (hs _ _))
def rIxL (K:PySem.W.Frag):R2:=fun x y H Q=>∃ p xs i v,x = .ref p∧y = .int i∧SqL K H p xs∧atI xs i = some v∧Q v H
def rIxT (K:PySem.W.Frag):R2:=fun x y H Q=>∃ p xs i v,x = .ref p∧y = .int i∧SqT K H p xs∧atI xs i = some v∧Q v H
theorem xF:IxR X (rIxL X.K):=by
  intro value slice pins s σ H x y v u Q I rx ry h hs
  obtain ⟨p,xs,i,z,rfl,rfl,hq,he,q⟩:=h
  cases rx
  obtain ⟨t,rfl⟩:=ry
  obtain ⟨its,r,pl,hz⟩:=I.list hq
  obtain ⟨j,h1,h2,h3,h4,h5⟩:=atI_get he
  obtain ⟨w,ew,rw'⟩:=r.get h2
  have hl:=r.length
  have hn:=line63
  have fin:EP X pins σ Q w s:=⟨z,H,I,rw',q⟩
  by_cases h0:0 ≤ i
  · have hj:i.toNat = j:=by
      rw [seqIndex_of h0 h5] at h1
      exact Option.some.inj h1
    exact item_listR pl.isList h0 (by omega) (by rw [hj]; simpa using ew) fin hs
  · have hj:(i + (its.toArray.size:Int)).toNat = j:=by
      rw [seqIndex_neg (by omega) h4] at h1
      rw [List.size_toArray,← hl]
      exact Option.some.inj h1
    exact subscriptTail_builtinR (x:=w) pl.isList.typeIs slot_list_getitem.lookup
      (wpAny_getItem_list_neg (Q:=fun r s'=>r = w∧EP X pins σ Q r s') pl.isList (by omega) (by rw [List.size_toArray] <;> omega) (by omega) (by rw [hj]; simpa using ew) ⟨rfl,fin⟩) hs
theorem zG8:IxR X (rIxT X.K):=by
  intro value slice pins s σ H x y v u Q I rx ry h hs
  obtain ⟨p,xs,i,z,rfl,rfl,hq,he,q⟩:=h
  cases rx
  obtain ⟨t,rfl⟩:=ry
  obtain ⟨its,r,pl,hz⟩:=I.tuple hq
  obtain ⟨j,h1,h2,h3,h4,h5⟩:=atI_get he
  obtain ⟨w,ew,rw'⟩:=r.get h2
  have hl:=r.length
  have hn:=line63
  have fin:EP X pins σ Q w s:=⟨z,H,I,rw',q⟩
  exact subscriptTail_builtinR (x:=w) pl.typeIs slot_tuple_getitem.lookup
    (getItem_tuple (j:=j) (Q:=fun r s'=>r = w∧EP X pins σ Q r s') pl (by omega) (by omega) (by rw [List.size_toArray,← hl]; exact h1) (by simpa using ew) ⟨rfl,fin⟩) hs
theorem slice_bounds (lo hi:Option Int) (n:Nat):(sliceBounds lo hi none n).1 = ((HT.sIx n 0 lo:Nat):Int)∧(sliceBounds lo hi none n).2.1 = ((HT.sIx n n hi:Nat):Int)∧(sliceBounds lo hi none n).2.2 = 1:=by
  refine ⟨?_,?_,rfl⟩
  · cases lo with
    | none=>simp [sliceBounds,HT.sIx]
    | some i =>
      simp only [sliceBounds,HT.sIx,Option.getD_none,show (1:Int) > 0 by decide,if_true]
      by_cases h:i < 0
      · simp only [h,if_true] <;> omega
      · simp only [h,if_false] <;> omega
  · cases hi with
    | none=>simp [sliceBounds,HT.sIx]
    | some i =>
      simp only [sliceBounds,HT.sIx,Option.getD_none,show (1:Int) > 0 by decide,if_true]
      by_cases h:i < 0
      · simp only [h,if_true] <;> omega
      · simp only [h,if_false] <;> omega
theorem slicePick_cut (its:List Value) (lo hi:Option Int):slicePick its.toArray lo hi none = ((its.drop (HT.sIx its.length 0 lo)).take (HT.sIx its.length its.length hi - HT.sIx its.length 0 lo)).toArray:=by
  obtain ⟨h1,h2,h3⟩:=slice_bounds lo hi its.toArray.size
  unfold slicePick
  rw [h1,h2,h3]
  simp only [sliceRange_one,pick_run,List.size_toArray] <;> rfl
def rSlL (K:PySem.W.Frag):V→Option Int→Option Int→Hp→VK→Prop:=fun x lo hi H Q=>∃ a xs,x = .ref a∧SqL K H a xs∧∀ p,H p = none→Q (.ref p) (upd H p (.lst (cutV xs lo hi)))
theorem sl_list:SlR X (rSlL X.K):=by
  intro pins s σ H x v vl vu lo hi sl Q I rx hs pl pu h
  obtain ⟨a,xs,rfl,hx,q⟩:=h
  cases rx
  obtain ⟨its,r,ht,hz⟩:=I.list hx
  have hlen:=r.length
  refine ⟨"list", _,slot_list_getitem.lookup,ht.isList.typeIs,?_⟩
  refine wpAny_getItem_list_slice ht.isList hs pl pu .none (by simp) ?_ (by rw [List.size_toArray] <;> omega)
  rw [slicePick_cut,← hlen]
  refine ⟨.ref s.heap.objs.size,_,I.laid (t':=s.toks) (o:=.lst (cutV xs lo hi)) (fun b ob q=>Heap.get?_push_of_some _ q) (Nat.le_refl _) ?_,rfl,q _ (I.hok.fresh (Nat.le_refl _))⟩
  exact ⟨Nat.le_trans (cutV_length xs lo hi) hz,_,0,(r.drop (HT.sIx xs.length 0 lo)).take (HT.sIx xs.length xs.length hi - HT.sIx xs.length 0 lo),Heap.get?_push_size _ rfl⟩
def zE2:V→Bool
  | .non=>true
  | .bl _=>true
  | .int _=>true
  | .str _=>true
  | _=>false
def eqV:V→V→Bool
  | .non,.non=>true
  | .bl a,.bl b=>a == b
  | .bl a,.int b=>(if a then 1 else 0) == b
  | .int a,.bl b=>a == (if b then 1 else 0)
  | .int a,.int b=>a == b
  | .str a,.str b=>a == b
  | _,_=>false
theorem eqAt_V {A:Around} {s:Shared} {y x:V} {u v:Value} (ry:qU y u) (rx:qU x v) (fy:zE2 y = true) (fx:zE2 x = true):SeqAt.EqAt A s u v (eqV y x):=by
  cases y with
  | non =>
    cases ry
    cases x with
    | non=>cases rx; exact SeqAt.EqAt.same _
    | bl b=>cases rx; exact SeqAt.EqAt.none_bool b
    | int b=>obtain ⟨t,rfl⟩:=rx; exact SeqAt.EqAt.none_int b t
    | str b=>obtain ⟨t,rfl⟩:=rx; exact SeqAt.EqAt.none_str b t
    | _=>exact absurd (show false = true from fx) Bool.false_ne_true
  | bl a =>
    cases ry
    cases x with
    | non=>cases rx; exact SeqAt.EqAt.bool_none a
    | bl b=>cases rx; exact SeqAt.EqAt.bool_bool a b
    | int b=>obtain ⟨t,rfl⟩:=rx; exact SeqAt.EqAt.bool_int a b t
    | str b=>obtain ⟨t,rfl⟩:=rx; exact SeqAt.EqAt.bool_str a b t
    | _=>exact absurd (show false = true from fx) Bool.false_ne_true
  | int a =>
    obtain ⟨t',rfl⟩:=ry
    cases x with
    | non=>cases rx; exact SeqAt.EqAt.int_none a t'
    | bl b=>cases rx; exact SeqAt.EqAt.int_bool a t' b
    | int b=>obtain ⟨t,rfl⟩:=rx; exact SeqAt.EqAt.int_int a t' b t
    | str b=>obtain ⟨t,rfl⟩:=rx; exact SeqAt.EqAt.int_str a t' b t
    | _=>exact absurd (show false = true from fx) Bool.false_ne_true
  | str a =>
    obtain ⟨t',rfl⟩:=ry
    cases x with
    | non=>cases rx; exact SeqAt.EqAt.str_none a t'
    | bl b=>cases rx; exact SeqAt.EqAt.str_bool a t' b
    | int b=>obtain ⟨t,rfl⟩:=rx; exact SeqAt.EqAt.str_int a t' b t
    | str b=>obtain ⟨t,rfl⟩:=rx; exact SeqAt.EqAt.str_str a t' b t
    | _=>exact absurd (show false = true from fx) Bool.false_ne_true
  | _=>exact absurd (show false = true from fy) Bool.false_ne_true
def eqU (x:V) (u:Value):Bool:=match u with
  | .none=>eqV .non x
  | .bool b=>eqV (.bl b) x
  | .int i _=>eqV (.int i) x
  | .str z _=>eqV (.str z) x
  | _=>false
theorem eqU_of {x y:V} {u:Value} (r:qU y u) (f:zE2 y = true):eqU x u = eqV y x:=by
  cases y with
  | non=>cases r; rfl
  | bl b=>cases r; rfl
  | int i=>obtain ⟨t,rfl⟩:=r; rfl
  | str z=>obtain ⟨t,rfl⟩:=r; rfl
  | _=>exact absurd (show false = true from f) Bool.false_ne_true
theorem zI2 {x:V}:∀ {xs:List V} {us:List Value},jS xs us→xs.all zE2 = true→us.any (eqU x) = xs.any fun y=>eqV y x
  | _,_,.nil,_=>rfl
  | y :: xs,u :: us,.cons r t,f=>by
    rw [List.all_cons,Bool.and_eq_true] at f
    rw [List.any_cons,List.any_cons,eqU_of r f.1,zI2 t f.2]
theorem zD1 {A:Around} {s:Shared} {x:V} {v:Value} (rx:qU x v) (fx:zE2 x = true):∀ {xs:List V} {us:List Value},jS xs us→xs.all zE2 = true→∀ u ∈ us,SeqAt.EqAt A s u v (eqU x u)
  | _,_,.nil,_=>fun u hu=>by cases hu
  | y :: xs,u :: us,.cons r t,f=>fun u' hu=>by
    rw [List.all_cons,Bool.and_eq_true] at f
    rcases List.mem_cons.mp hu with rfl | hu
    · rw [eqU_of r f.1]; exact eqAt_V r rx f.1 fx
    · exact zD1 rx fx t f.2 u' hu
def inV (x:V) (xs:List V):Bool:=xs.any fun y=>eqV y x
def rIn (K:PySem.W.Frag) (neg:Bool):R2:=fun x y H Q=>∃ p xs,y = .ref p∧(SqL K H p xs∨SqT K H p xs)∧zE2 x = true∧xs.all zE2 = true∧Q (.bl (if neg then !inV x xs else inV x xs)) H
theorem op_in_seq:OpR X (compareOp .In) (rIn X.K false):=by
  intro pins s σ H x y v u Q I rx ry h
  obtain ⟨p,xs,rfl,hq,fx,fs,q⟩:=h
  cases ry
  rcases hq with hq | hq
  · obtain ⟨its,r,pl,hz⟩:=I.list hq
    refine SeqAt.in_listAt (eqU x) pl.isList (fun w hw=>zD1 rx fx r fs w (by simpa using hw)) ⟨.bl _,H,I,rfl,?_⟩
    rw [show its.toArray.any (eqU x) = its.any (eqU x) by simp,zI2 r fs]
    exact q
  · obtain ⟨its,r,pl,hz⟩:=I.tuple hq
    refine SeqAt.in_tupleAt (eqU x) pl (fun w hw=>zD1 rx fx r fs w (by simpa using hw)) ⟨.bl _,H,I,rfl,?_⟩
    rw [show its.toArray.any (eqU x) = its.any (eqU x) by simp,zI2 r fs]
    exact q
theorem op_notIn_seq:OpR X (compareOp .NotIn) (rIn X.K true):=by
  intro pins s σ H x y v u Q I rx ry h
  obtain ⟨p,xs,rfl,hq,fx,fs,q⟩:=h
  cases ry
  rcases hq with hq | hq
  · obtain ⟨its,r,pl,hz⟩:=I.list hq
    refine SeqAt.notIn_listAt (eqU x) pl.isList (fun w hw=>zD1 rx fx r fs w (by simpa using hw)) ⟨.bl _,H,I,rfl,?_⟩
    rw [show its.toArray.any (eqU x) = its.any (eqU x) by simp,zI2 r fs]
    exact q
  · obtain ⟨its,r,pl,hz⟩:=I.tuple hq
    refine SeqAt.notIn_tupleAt (eqU x) pl (fun w hw=>zD1 rx fx r fs w (by simpa using hw)) ⟨.bl _,H,I,rfl,?_⟩
    rw [show its.toArray.any (eqU x) = its.any (eqU x) by simp,zI2 r fs]
    exact q
theorem zZ:CallR X (.builtin "len") (fun xs H Q=>∃ p ys,xs = [.ref p]∧(SqL X.K H p ys∨SqT X.K H p ys)∧Q (.int ys.length) H):=by
  intro pins s σ H xs us Q I r h
  obtain ⟨p,ys,rfl,hq,q⟩:=h
  obtain ⟨u,rfl,rx⟩:=vals1 r
  cases rx
  have hn:=line63
  rcases hq with hq | hq
  · obtain ⟨its,r',pl,hz⟩:=I.list hq
    have hlen:=r'.length
    exact Calls.call_len_list pl.isList (by simp only [List.size_toArray] <;> omega) ⟨.int ys.length,H,I.tok _,⟨s.toks + 1,by rw [List.size_toArray,hlen]⟩,q⟩
  · obtain ⟨its,r',pl,hz⟩:=I.tuple hq
    have hlen:=r'.length
    exact len_tuple pl (by simp only [List.size_toArray] <;> omega) ⟨.int ys.length,H,I.tok _,⟨s.toks + 1,by rw [List.size_toArray,hlen]⟩,q⟩
theorem zBH:CallR X (.type "list") (fun xs H Q=>∃ p ys,xs = [.ref p]∧(SqL X.K H p ys∨SqT X.K H p ys)∧∀ l,H l = none→Q (.ref l) (upd H l (.lst ys))):=by
  intro pins s σ H xs us Q I r h
  obtain ⟨p,ys,rfl,hq,q⟩:=h
  obtain ⟨u,rfl,rx⟩:=vals1 r
  cases rx
  have fin:∀ (its:List Value),jS ys its→ys.length ≤ sizeLine→∀ (h':Heap) (c':Nat),(∀ b o',s.heap.get? b = some o'→h'.get? b = some o') →
      h'.get? s.heap.objs.size = some { cls:=.type "list", dict:=none,data:=.seq its.toArray c',slots:=#[] }→EP X pins σ Q (.ref s.heap.objs.size) { s with heap:=h' }:=fun its r' hz h' c' kp e =>
    ⟨.ref s.heap.objs.size,_,I.laid (t':=s.toks) kp (Nat.le_refl _) (show zAF X.prog X.w _ h' _ (.lst ys) from ⟨hz,its,c',r',e⟩),rfl,q _ (I.hok.fresh (Nat.le_refl _))⟩
  rcases hq with hq | hq
  · obtain ⟨its,r',pl,hz⟩:=I.list hq
    have hlen:=r'.length
    obtain ⟨o,ho,hc,n,hd⟩:=pl.isList
    exact call_list_seq p (.inl rfl) ho hc hd (fun h' c' kp e=>fin its r' hz h' c' kp e) (by simp only [List.size_toArray] <;> omega)
  · obtain ⟨its,r',pl,hz⟩:=I.tuple hq
    have hlen:=r'.length
    obtain ⟨o,ho,hc,n,hd⟩:=pl
    exact call_list_seq p (.inr rfl) ho hc hd (fun h' c' kp e=>fin its r' hz h' c' kp e) (by simp only [List.size_toArray] <;> omega)
def tyV (K:PySem.W.Frag) (T:String) (x:V) (H:Hp):Prop:=match x with
  | .str _=>T = "str"
  | .int _=>T = "int"
  | .ref p=>(T = "list" ∧ ∃ xs,SqL K H p xs)∨(T = "tuple" ∧ ∃ o,K.lookup p = some o∧o.cls = .type "tuple" ∧ o.dict = none) ∨
      (T = "dict" ∧ ((∃ kvs,H p = some (.dK kvs))∨∃ kvs,H p = some (.dT kvs)))∨(T = "set" ∧ ∃ S n,H p = some (.set S n))
  | _=>False
theorem tyV_is {pins:List (Addr × Obj)} {σ:St} {H:Hp} {s:Shared} {T:String} {x:V} {v:Value} (I:Inv X pins σ H s) (r:qU x v) (ty:tyV X.K T x H) :
    s.TypeIs v T∧∀ a,v = .ref a→∃ ob,s.heap.get? a = some ob∧ob.dict = none:=by
  cases x with
  | str z =>
    obtain ⟨t,rfl⟩:=r
    cases (show T = "str" from ty)
    exact ⟨typeIs_str s z t,fun _ e=>nomatch e⟩
  | int i =>
    obtain ⟨t,rfl⟩:=r
    cases (show T = "int" from ty)
    exact ⟨typeIs_int s i t,fun _ e=>nomatch e⟩
  | ref p =>
    cases r
    rcases ty with ⟨rfl,xs,hq⟩ | ⟨rfl,o,hk,hc,hd⟩ | ⟨rfl,hk⟩ | ⟨rfl,S,n,hk⟩
    · obtain ⟨its,_,pl,_⟩:=I.list hq
      refine ⟨pl.isList.typeIs,fun a e=>?_⟩
      cases e
      obtain ⟨o,n,e,c,hd,_⟩:=pl
      exact ⟨o,e,hd⟩
    · refine ⟨⟨o,I.kIn p o hk,hc⟩,fun a e=>?_⟩
      cases e
      exact ⟨o,I.kIn _ o hk,hd⟩
    · have z:∃ o,s.heap.get? p = some o∧o.ExactDict:=by
        rcases hk with ⟨kvs,hk⟩ | ⟨kvs,hk⟩
        · obtain ⟨_,_,_,_,o,_,_,e,ex,_⟩:=I.hok p _ hk
          exact ⟨o,e,ex⟩
        · obtain ⟨_,_,_,_,o,_,_,e,ex,_⟩:=I.hok p _ hk
          exact ⟨o,e,ex⟩
      obtain ⟨o,e,ex⟩:=z
      refine ⟨⟨o,e,ex.1⟩,fun a e2=>?_⟩
      cases e2
      exact ⟨o,e,ex.2.1⟩
    · obtain ⟨o,_,_,_,e,ex,_⟩:=I.hok p _ hk
      refine ⟨⟨o,e,ex.1⟩,fun a e2=>?_⟩
      cases e2
      exact ⟨o,e,ex.2.1⟩
  | _=>exact False.elim ty
def tBM (K:PySem.W.Frag) (T:String) (r:V→List V→Hp→VK→Prop) (to:TE) (t:TA):TE:=fun σ H Q=>to σ H fun x H1=>tyV K T x H1∧t σ H1 fun xs H2=>r x xs H2 Q
variable {o e:Expr} {es:List Expr} {to:TE} {t:TA} {name:Str} {apos cpos:Pos} {T id:String} {r:V→List V→Hp→VK→Prop}
theorem zD6 (pa:PlainAttrs T) (slot:Slot T name id) (hty:typeOf (.builtin id) = pure (.type "method_descriptor")) (hm:MtR X id r) (ho:PE X o to) (ha:PA X (e :: es) t)
    (hbase:attributeBase o name X.env (eval o X.env) = eval o X.env:=by rfl)
    (hfew:((backTo cpos (starEach (e :: es) X.env)).all (fun x=>!x.1) && (backToKw cpos (keywordEach [] X.env)).all (fun x=>x.1.isSome)
      && decide ((e :: es).length + ([]:List Keyword).length + (if ([]:List Keyword).isEmpty then 0 else 1) < 30)) = true:=by rfl)
    (hline:(apos.endLine == cpos.line) = true:=by rfl) (hs:starEach (e :: es) X.env = (false,eval e X.env) :: starEach es X.env:=by rfl) (hplain:(backTo cpos (starEach es X.env)).any (·.1) = false:=by rfl) :
    PE X (.Call (.Attribute o name apos) (e :: es) [] cpos) (tBM X.K T r to t):=by
  intro pins s σ H Q I h
  refine wpAny_Call_method_late hbase hfew hline rfl (thn (ho pins s σ H _ I h) fun v s1 ⟨x,H1,I1,r1,ty,q1⟩=>?_)
  obtain ⟨h1,h2⟩:=tyV_is I1 r1 ty
  refine ⟨T,id,pa,slot,hty,h1,h2,?_⟩
  have hA:=ha cpos pins s1 σ H1 _ I1 q1
  rw [hs] at hA ⊢
  refine Calls.callWith_builtin (by show (false || (backTo cpos (starEach es X.env)).any (·.1)) = false; rw [hplain] <;> rfl) (Calls.evalArgs_plain ?_)
  exact thn hA fun us s2 ⟨vs,H2,I2,r2,q2⟩=>hm pins s2 σ H2 x vs v us Q I2 r1 r2 q2
end
end L2
namespace L2
open PySem PySem.Spec PyProof.Rows
def MtM (X:Cx) (id:String) (r:V→List V→Hp→VK→Prop):Prop :=
  ∀ (pins:List (Addr × Obj)) (s:Shared) (σ:St) (H:Hp) (x:V) (xs:List V) (v:Value) (us:List Value) (Q:VK),Inv X pins σ H s→qU x v→jS xs us→r x xs H Q →
    wpAny (model X.prog X.w) X.A (call (.builtin id) (v :: us)) (EP X pins σ Q) X.xe s
theorem jS.one:∀ {x:V} {us:List Value},jS [x] us→∃ u,us = [u]∧qU x u
  | _,_,.cons r .nil=>⟨_,rfl,r⟩
section
variable {X:Cx} {pins:List (Addr × Obj)} {σ:St} {H:Hp} {s:Shared} {l b:Addr} {xs ys zs:List V}
theorem Inv.lset {its its':List Value} {n:Nat} {f:Array Value→Array Value} {t':Nat} (I:Inv X pins σ H s) (hH:H l = some (.lst xs))
    (e:s.heap.get? l = some { cls:=.type "list", data:=.seq its.toArray n }) (hf:f its.toArray = its'.toArray) (hv:jS ys its') (hz:ys.length ≤ sizeLine) :
    Inv X pins σ (upd H l (.lst ys)) { s with heap:=s.heap.update l (Obj.mapSeq f),toks:=t' }:=by
  have q:=PySem.IsL.update e f
  rw [hf] at q
  refine I.write (x:=l) (e:=l) (by rw [hH]; exact trivial) (.inl rfl) (fun b' u hb hu=>(Heap.get?_update_other s.heap (Obj.mapSeq f) (Ne.symm hb)).trans hu) ⟨_,q⟩ ?_
  exact ⟨hz,its',_,hv,q⟩
theorem Inv.lnew {its:List Value} {t':Nat} (I:Inv X pins σ H s) (hv:jS ys its) (hz:ys.length ≤ sizeLine) :
    Inv X pins σ (upd H s.heap.objs.size (.lst ys)) { s with heap:=s.heap.push { cls:=.type "list", data:=.seq its.toArray },toks:=t' } :=
  I.laid (fun _ _ q=>Heap.get?_push_of_some _ q) (Nat.le_refl _) ⟨hz,its,0,hv,Heap.get?_push_size _ rfl⟩
theorem Inv.fresh (I:Inv X pins σ H s):H s.heap.objs.size = none:=I.hok.fresh (Nat.le_refl _)
theorem Inv.lstM (I:Inv X pins σ H s) (hH:H l = some (.lst xs)):xs.length ≤ sizeLine∧∃ (its:List Value) (n:Nat),jS xs its∧xs.length = its.length∧s.heap.get? l = some { cls:=.type "list", data:=.seq its.toArray n }:=by
  obtain ⟨z,its,n,r,e⟩:=I.hok l _ hH
  exact ⟨z,its,n,r,r.length,e⟩
theorem notLongL {n:Nat} (h:n ≤ sizeLine):Builtin.List.listTooLong n = false:=by
  unfold Builtin.List.listTooLong
  exact decide_eq_false (by omega)
end
section
variable {X:Cx}
def zIC:V→List V→Hp→VK→Prop:=fun x vs H Q=>∃ l xs y,x = .ref l∧vs = [y]∧H l = some (.lst xs)∧xs.length < sizeLine∧Q .non (upd H l (.lst (xs ++ [y])))
theorem zB3:MtM X "list.append" zIC:=by
  intro pins s σ H x vs v us Q I rx rv h
  obtain ⟨l,xs,y,rfl,rfl,hH,hz,q⟩:=h
  cases rx
  obtain ⟨u,rfl,ru⟩:=rv.one
  obtain ⟨z,its,n,r,hl,e⟩:=I.lstM hH
  refine call_meets F.slot_list_append ⟨_,e,rfl⟩ F.entry_list_append (F.args_list_append_2 _ _) (PySem.list_append l its.toArray n u (by rw [List.size_toArray]; omega)) ⟨e,?_⟩
  refine ⟨.non,_,I.lset (its':=its ++ [u]) hH e (by simp) (r.append (.cons ru .nil)) ?_,rfl,q⟩
  rw [List.length_append,List.length_singleton]
  omega
def zDI:V→List V→Hp→VK→Prop:=fun x vs H Q=>∃ l b xs zs,x = .ref l∧vs = [.ref b]∧H l = some (.lst xs)∧H b = some (.lst zs)∧xs.length + zs.length ≤ sizeLine∧Q .non (upd H l (.lst (xs ++ zs)))
theorem wY:MtM X "list.extend" zDI:=by
  intro pins s σ H x vs v us Q I rx rv h
  obtain ⟨l,b,xs,zs,rfl,rfl,hH,hB,hz,q⟩:=h
  cases rx
  obtain ⟨u,rfl,ru⟩:=rv.one
  cases ru
  obtain ⟨z,its,n,r,hl,e⟩:=I.lstM hH
  obtain ⟨z2,its2,n2,r2,hl2,e2⟩:=I.lstM hB
  have hsz:its.toArray.size + its2.toArray.size ≤ sizeLine:=by rw [List.size_toArray,List.size_toArray]; omega
  have hlong:¬ (!its.toArray.isEmpty && Builtin.List.listTooLong (its.toArray.size + its2.toArray.size)) = true:=by
    rw [notLongL hsz,Bool.and_false]
    exact Bool.false_ne_true
  refine call_meets F.slot_list_extend ⟨_,e,rfl⟩ F.entry_list_extend (F.args_list_extend_2 _ _)
    (AutoSeq1.list_extend_list_list_0 l its.toArray n b its2.toArray n2 hlong (by rw [List.size_toArray]; omega) (by omega)) ⟨e,e2,?_⟩
  refine ⟨.non,_,I.lset (its':=its ++ its2) hH e (by simp) (r.append r2) ?_,rfl,q⟩
  rw [List.length_append]
  omega
def rCat:R2:=fun x y H Q=>∃ l b xs zs,x = .ref l∧y = .ref b∧H l = some (.lst xs)∧H b = some (.lst zs)∧xs.length + zs.length ≤ sizeLine∧∀ p,H p = none→Q (.ref p) (upd H p (.lst (xs ++ zs)))
theorem op_cat:OpR X (binaryOp .Add) rCat:=by
  intro pins s σ H x y v u Q I rx ry h
  obtain ⟨l,b,xs,zs,rfl,rfl,hH,hB,hz,q⟩:=h
  cases rx
  cases ry
  obtain ⟨z,its,n,r,hl,e⟩:=I.lstM hH
  obtain ⟨z2,its2,n2,r2,hl2,e2⟩:=I.lstM hB
  refine PySem.P.add_list e e2 ?_ (by rw [List.size_toArray,List.size_toArray]; omega)
  have ea:its.toArray ++ its2.toArray = (its ++ its2).toArray:=by simp
  rw [ea]
  exact ⟨.ref _,_,I.lnew (t':=s.toks) (r.append r2) (by rw [List.length_append]; omega),rfl,q _ I.fresh⟩
end
section
variable {prog:Program} {w:World} {A:Around} {E:Value→Shared→Prop} {s:Shared}
end
section
variable {X:Cx}
end
end L2
namespace L2
open PySem PySem.Spec PyProof.Rows
theorem jS.ints:∀ {ns:List Int} {us:List Value},jS (ns.map V.int) us→IntsAre us ns
  | [],us,h=>by
    rw [List.map_nil] at h
    cases h
    exact IntsAre.nil
  | n :: ns,us,h=>by
    rw [List.map_cons] at h
    cases h with
    | cons r t =>
      obtain ⟨k,rfl⟩:=r
      exact IntsAre.cons n k (jS.ints t)
theorem jS.bls:∀ {bs:List Bool} {us:List Value},jS (bs.map V.bl) us→us = bs.map Value.bool
  | [],us,h=>by
    rw [List.map_nil] at h
    cases h
    rfl
  | b :: bs,us,h=>by
    rw [List.map_cons] at h
    cases h with
    | cons r t =>
      cases r
      rw [jS.bls t,List.map_cons]
theorem jS.ref1 {a:Addr} {us:List Value} (r:jS [V.ref a] us):us = [Value.ref a]:=by
  cases r with
  | cons r t =>
    cases t
    cases r
    rfl
section
variable {prog:Program} {w:World} {A:Around} {E:Value→Shared→Prop} {s:Shared} {l:Addr} {its:List Value} {ns:List Int} {Q:Value→Shared→Prop}
theorem sum_raw (hh:A.handled = none) (hl:s.heap.IsList l its.toArray) (hi:IntsAre its ns)
    (h:∀ h' tk t',(∀ b o,s.heap.get? b = some o→h'.get? b = some o)→Q (.int ns.sum t') { s with heap:=h',toks:=tk }):wpAny (model prog w) A (call (.builtin "sum") [.ref l]) Q E s:=by
  obtain ⟨xs,e⟩:=hi.allInts.items
  have hn:numsOf (intItems xs).toList = ns:=by rw [← e]; exact hi.numsOf
  rw [nums_intItems] at hn
  rw [e] at hl
  refine PySem.sum_intListG hh hl fun h' tk t' hk=>?_
  have:=h h' tk t' hk
  rw [preSum_eq,List.take_of_length_le (by simp),hn]; exact this
theorem min_raw (hh:A.handled = none) (hl:s.heap.IsList l its.toArray) (hi:IntsAre its ns) (hne:0 < ns.length)
    (h:∀ h' tk M t',(∀ b o,s.heap.get? b = some o→h'.get? b = some o)→M ∈ ns→(∀ a,a ∈ ns→M ≤ a)→Q (.int M t') { s with heap:=h',toks:=tk }):wpAny (model prog w) A (call (.builtin "min") [.ref l]) Q E s:=by
  obtain ⟨xs,e⟩:=hi.allInts.items
  have hn:numsOf (intItems xs).toList = ns:=by rw [← e]; exact hi.numsOf
  rw [nums_intItems] at hn
  subst hn
  rw [e] at hl
  have hsz:0 < xs.size:=by simpa using hne
  refine PySem.min_intList hh hl hsz fun v h' tk hv hk=>?_
  obtain ⟨t,rfl⟩:=intItems_at hv
  obtain ⟨h1,h2⟩:=argBest_lt (numAt xs) (xs.size - 1)
  refine h h' tk _ t hk ?_ fun a ha=>?_
  · rw [numAt_eq]; exact PySem.getD_mem (by rw [List.length_map,Array.length_toList]; omega)
  · obtain ⟨j,hj,rfl⟩:=mem_getD ha
    rw [List.length_map,Array.length_toList] at hj
    rw [← numAt_eq]; exact h2 j (by omega)
end
section
variable {X:Cx}
def rSum (K:PySem.W.Frag):List V→Hp→VK→Prop:=fun vs H Q=>∃ (a:Addr) (ns:List Int),vs = [V.ref a]∧SqL K H a (ns.map V.int)∧Q (.int ns.sum) H
def rMin (K:PySem.W.Frag):List V→Hp→VK→Prop:=fun vs H Q=>∃ (a:Addr) (ns:List Int),vs = [V.ref a]∧SqL K H a (ns.map V.int)∧0 < ns.length∧∀ m,m ∈ ns→(∀ y,y ∈ ns→m ≤ y)→Q (.int m) H
theorem cr_sum (hc:X.calm = true):CallR X (.builtin "sum") (rSum X.K):=by
  intro pins s σ H vs us Q I r h
  obtain ⟨a,ns,rfl,hs,q⟩:=h
  obtain ⟨its,rv,hl,_⟩:=I.list hs
  rw [jS.ref1 r]
  exact sum_raw (I.ok.hd hc) hl.isList rv.ints fun h' tk t' hk=>⟨.int _,H,I.kept hk,⟨_,rfl⟩,q⟩
theorem cr_min (hc:X.calm = true):CallR X (.builtin "min") (rMin X.K):=by
  intro pins s σ H vs us Q I r h
  obtain ⟨a,ns,rfl,hs,hne,q⟩:=h
  obtain ⟨its,rv,hl,_⟩:=I.list hs
  rw [jS.ref1 r]
  exact min_raw (I.ok.hd hc) hl.isList rv.ints hne fun h' tk m t' hk h1 h2=>⟨.int _,H,I.kept hk,⟨_,rfl⟩,q m h1 h2⟩
end
section
variable {X:Cx}
def rIndex (K:PySem.W.Frag):V→List V→Hp→VK→Prop:=fun x xs H Q=>∃ (a:Addr) (ys:List V) (y:V) (j:Nat) (z:V),x = V.ref a∧xs = [y]∧SqL K H a ys∧zE2 y = true∧ys.all zE2 = true∧ys[j]? = some z∧eqV z y = true ∧
  (∀ (m:Nat) (z':V),m < j→ys[m]? = some z'→eqV z' y = false)∧Q (.int (j:Nat)) H
theorem flat_at {ys:List V} (f:ys.all zE2 = true) {j:Nat} {z:V} (h:ys[j]? = some z):zE2 z = true:=List.all_eq_true.mp f z (List.mem_of_getElem? h)
theorem mt_index:MtR X "list.index" (rIndex X.K):=by
  intro pins s σ H x xs v us Q I rx rxs h
  obtain ⟨a,ys,y,j,z,rfl,rfl,hs,fy,fys,hz,hzj,hno,q⟩:=h
  cases rx
  cases rxs with
  | cons ry rt =>
    rename_i uy ut
    cases rt
    obtain ⟨its,rv,⟨⟨cls,dd,data,sl⟩,n,ho,hc,hdn,hd⟩,hlen⟩:=I.list hs
    simp only at hc hd
    subst hc hd
    obtain ⟨u,hu,ru⟩:=rv.get hz
    obtain ⟨hjl,hje⟩:=List.getElem?_eq_some_iff.mp hu
    have hvl:=rv.length
    have hj:j < its.toArray.size:=by simpa using hjl
    have hsl:=sizeLine_eq
    refine call_meets PySem.F.slot_list_index ⟨_,ho,rfl⟩ PySem.F.entry_list_index (PySem.F.args_list_index_2 _ _)
      (SeqAt.list_indexAt a its.toArray n dd sl uy (eqU y) j hj (by omega) ?_ ?_) ⟨ho,fun u' hu'=>zD1 ry fy rv fys u' (by simpa using hu'),?_⟩
    · have e1:its.toArray[j] = u:=by simpa using hje
      rw [e1,eqU_of ru (flat_at fys hz)]
      exact hzj
    · intro m hm hmj
      have hml:m < its.length:=by simpa using hm
      have hmy:m < ys.length:=by omega
      have hy':ys[m]? = some ys[m]:=List.getElem?_eq_getElem hmy
      obtain ⟨u2,hu2,ru2⟩:=rv.get hy'
      obtain ⟨_,hme⟩:=List.getElem?_eq_some_iff.mp hu2
      have e1:its.toArray[m] = u2:=by simpa using hme
      rw [e1,eqU_of ru2 (flat_at fys hy')]
      exact hno m _ hmj hy'
    · exact ⟨.int (j:Nat),H,I.tok _,⟨_,rfl⟩,q⟩
end
section
variable {X:Cx}
end
theorem iter_any {prog:Program} {w:World} {A:Around} {E:Value→Shared→Prop} {s:Shared} {l:Addr} {items:Array Value} {Q:Value→Shared→Prop} (hl:s.heap.IsList l items)
    (h:∀ s₂:Shared,s₂ = { s with heap:=s.heap.push { cls:=.type "list_iterator", data:=.fields #[.ref l,.int 0 0] } } →
      (s₂.heap.IsListIter s.heap.objs.size l 0∧s₂.heap.IsList l items)→l ≠ s.heap.objs.size→Q (.ref s.heap.objs.size) s₂):wpAny (model prog w) A (pyIter (.ref l)) Q E s:=by
  have hlt:l < s.heap.objs.size:=by obtain ⟨_,e,_⟩:=hl; exact Heap.lt_size e
  exact wpAny_pyIter_list hl (h _ rfl ⟨⟨_,Heap.get?_push_size _ rfl,rfl,rfl⟩,hl.push _⟩ (Nat.ne_of_lt hlt))
theorem truth_bools {prog:Program} {w:World} {A:Around} {bs:List Bool} {its:List Value} (e:its = bs.map Value.bool) :
    TruthOf prog w A (fun i v=>its.toArray[i]? = some v) (fun i=>bs.getD i false):=fun i v s Q E hv hq=>by
  have hv':its[i]? = some v:=by simpa using hv
  rw [e,List.getElem?_map] at hv'
  obtain ⟨b,hb,rfl⟩:=Option.map_eq_some_iff.mp hv'
  have hg:bs.getD i false = b:=by rw [List.getD_eq_getElem?_getD,hb] <;> rfl
  have hq':Q (bs.getD i false) s:=hq
  rw [hg] at hq'
  exact wpAny_truthy_bool hq'
theorem any_range:∀ bs:List Bool,(List.range bs.length).any (fun i=>bs.getD i false) = bs.any id
  | []=>rfl
  | b :: bs=>by
    rw [List.length_cons,List.range_succ_eq_map,List.any_cons,List.any_map,List.any_cons,← any_range bs]
    all_goals rfl
section
variable {X:Cx}
def rAny (K:PySem.W.Frag):List V→Hp→VK→Prop:=fun vs H Q=>∃ (a:Addr) (bs:List Bool),vs = [V.ref a]∧SqL K H a (bs.map V.bl)∧Q (.bl (bs.any id)) H
theorem cr_any (hc:X.calm = true):CallR X (.builtin "any") (rAny X.K):=by
  intro pins s σ H vs us Q I r h
  obtain ⟨a,bs,rfl,hs,q⟩:=h
  obtain ⟨its,rv,hl,_⟩:=I.list hs
  rw [jS.ref1 r]
  have hb:=rv.bls
  refine call_any_walk (iter_any hl.isList fun s₂ e2 st hne=>?_)
  subst e2
  refine ⟨_,_,_,_,_,_,_,rfl,Walks.list (A:=X.A.in1) (I.ok.hd hc) _ a hne its.toArray,st,truth_bools hb,fun h' tk hk=>?_⟩
  refine ⟨.bl _,H,I.kept fun b o eo=>hk b o (fun hmem=>?_) (Heap.get?_push_of_some _ eo),?_,q⟩
  · rcases List.mem_cons.mp hmem with e1 | hmem
    · exact absurd (e1 ▸ Heap.lt_size eo) (Nat.lt_irrefl _)
    · cases hmem
  · show Value.bool _ = Value.bool _
    rw [← any_range,hb,List.size_toArray,List.length_map]
end
mutual
inductive Dp (K:PySem.W.Frag) (H:Hp):V→PyData→Prop
  | non:Dp K H .non .none
  | bl (b:Bool):Dp K H (.bl b) (.bool b)
  | int (i:Int):Dp K H (.int i) (.int i)
  | str (x:Str):Dp K H (.str x) (.str x)
  | lst {a:Addr} {xs:List V} {ds:List PyData}:SqL K H a xs→DpAll K H xs ds→Dp K H (.ref a) (.list ds)
  | tup {a:Addr} {xs:List V} {ds:List PyData}:SqT K H a xs→DpAll K H xs ds→Dp K H (.ref a) (.tuple ds)
inductive DpAll (K:PySem.W.Frag) (H:Hp):List V→List PyData→Prop
  | nil:DpAll K H [] []
  | cons {v:V} {vs:List V} {d:PyData} {ds:List PyData}:Dp K H v d→DpAll K H vs ds→DpAll K H (v :: vs) (d :: ds)
end
section
variable {X:Cx} {pins:List (Addr × Obj)} {σ:St} {H:Hp} {s:Shared}
mutual
theorem Dp.reads (I:Inv X pins σ H s):∀ (d:PyData) (v:V) (u:Value),Dp X.K H v d→qU v u→∃ as,Reads s.heap u d as
  | .none,_,_,h,r=>by
    cases h
    cases r
    exact ⟨_,Reads.none⟩
  | .bool b,_,_,h,r=>by
    cases h
    cases r
    exact ⟨_,Reads.bool b⟩
  | .int i,_,_,h,r=>by
    cases h
    obtain ⟨t,rfl⟩:=r
    exact ⟨_,Reads.int i t⟩
  | .str x,_,_,h,r=>by
    cases h
    obtain ⟨t,rfl⟩:=r
    exact ⟨_,Reads.str x t⟩
  | .list ds,_,_,h,r=>by
    cases h with
    | lst hs ha =>
      cases r
      obtain ⟨its,rv,⟨o,n,ho,hc,_,hd⟩,_⟩:=I.list hs
      obtain ⟨as,hr⟩:=Dp.readsAll I ds _ its ha rv
      exact ⟨_,Reads.list ho hc hd hr⟩
  | .tuple ds,_,_,h,r=>by
    cases h with
    | tup hs ha =>
      cases r
      obtain ⟨its,rv,⟨o,ho,hc,n,hd⟩,_⟩:=I.tuple hs
      obtain ⟨as,hr⟩:=Dp.readsAll I ds _ its ha rv
      exact ⟨_,Reads.tuple ho hc hd hr⟩
  | .dict _,_,_,h,_=>by cases h
theorem Dp.readsAll (I:Inv X pins σ H s):∀ (ds:List PyData) (vs:List V) (us:List Value),DpAll X.K H vs ds→jS vs us→∃ as,ReadsAll s.heap us ds as
  | [],_,_,h,r=>by
    cases h
    cases r
    exact ⟨_,ReadsAll.nil⟩
  | d :: ds,_,_,h,r=>by
    cases h with
    | cons h1 h2 =>
      cases r with
      | cons r1 r2 =>
        obtain ⟨as,q1⟩:=Dp.reads I d _ _ h1 r1
        obtain ⟨bs,q2⟩:=Dp.readsAll I ds _ _ h2 r2
        exact ⟨_,ReadsAll.cons q1 q2⟩
end
end
section
variable {X:Cx}
def rNeD (K:PySem.W.Frag):R2:=fun x y H Q=>∃ d e,Dp K H x d∧Dp K H y e∧SeqAt.shaped d = true∧SeqAt.shaped e = true∧Q (.bl (!PyData.eqv d e)) H
theorem op_neD (hu:X.A.units + 64 < cLine):OpR X (compareOp .NotEq) (rNeD X.K):=by
  intro pins s σ H x y v u Q I rx ry h
  obtain ⟨d,e,hd,he,sd,se,q⟩:=h
  obtain ⟨as,r1⟩:=Dp.reads I d x v hd rx
  obtain ⟨bs,r2⟩:=Dp.reads I e y u he ry
  exact SeqAt.compareNe_shaped r1 r2 sd se hu ⟨.bl _,H,I,rfl,q⟩
end
end L2
namespace L2
open PySem PySem.Spec PyProof.Rows
abbrev CellAt (h:Heap) (c:Addr) (v:Option Value):Prop:=h.IsCell c v
def relS (scope sc:Scope):Scope :=
  { scope with names:=scope.names.map fun (n,k)=>if (k == .free && sc.kind == .function && sc.names.lookup n == some .cell) then (n,.cell) else (n,k) }
def jF (cells:List (Str × Addr)):List (Str × NameKind)→List (Str × Addr)→List (Str × Addr)
  | [],acc=>acc
  | (n,k) :: r,acc=>if k == .free then jF cells r ((n,(cells.lookup n).getD 0) :: acc) else jF cells r acc
theorem zG9 (env:Env) (f:Str × NameKind→List (Str × Addr)→Sem (ForInStep (List (Str × Addr))))
    (hf:∀ n k c,f (n,k) c = if k == .free then (do let a ← cellOf env n; pure (.yield ((n,a) :: c))) else pure (.yield c)) :
    ∀ (names:List (Str × NameKind)) (acc:List (Str × Addr)),(∀ y ∈ names,y.2 = .free→∃ c,env.cells.lookup y.1 = some c)→forIn names acc f = pure (jF env.cells names acc)
  | [],acc,_=>by rw [List.forIn_nil]; rfl
  | (n,k) :: r,acc,h=>by
    rw [List.forIn_cons,hf]
    have ih:=fun acc=>zG9 env f hf r acc fun y hy=>h y (List.mem_cons_of_mem _ hy)
    unfold jF
    by_cases hk:(k == NameKind.free) = true
    · rw [if_pos hk,if_pos hk]
      obtain ⟨c,hc⟩:=h (n,k) List.mem_cons_self (by simpa using hk)
      have e:cellOf env n = pure c:=by unfold cellOf; rw [hc]
      rw [e]
      have e2:(env.cells.lookup n).getD 0 = c:=by rw [hc]; rfl
      rw [e2]
      exact ih _
    · rw [if_neg hk,if_neg hk]
      exact ih _
theorem closure_ok {scope:Scope} {env:Env} (h:∀ y ∈ scope.names,y.2 = .free→∃ c,env.cells.lookup y.1 = some c):closureFor scope env = pure (jF env.cells scope.names []):=by
  simp only [closureFor]
  rw [zG9 env _ (fun n k c=>rfl) scope.names [] h]
  rfl
theorem zGR {α:Type}:∀ {l:List (Str × α)} {n:Str} {c:α},(n,c) ∈ l→∃ c',l.lookup n = some c'
  | (k,v) :: r,n,c,h=>by
    rw [List.lookup_cons]
    cases hb:n == k with
    | true=>exact ⟨_,rfl⟩
    | false =>
      rcases List.mem_cons.mp h with e | h
      · cases e; simp at hb
      · exact zGR h
theorem zCN {cells:List (Str × Addr)}:∀ {names:List (Str × NameKind)} {acc:List (Str × Addr)} {n:Str} {c:Addr},(n,c) ∈ jF cells names acc→(n,c) ∈ acc∨((n,.free) ∈ names∧c = (cells.lookup n).getD 0)
  | [],_,_,_,h=>.inl h
  | (m,k) :: r,acc,n,c,h=>by
    unfold jF at h
    split at h
    · rename_i hk
      have hk:k = .free:=by simpa using hk
      rcases zCN h with h | ⟨h1,h2⟩
      · rcases List.mem_cons.mp h with e | h
        · cases e; exact .inr ⟨hk ▸ List.mem_cons_self,rfl⟩
        · exact .inl h
      · exact .inr ⟨List.mem_cons_of_mem _ h1,h2⟩
    · rcases zCN h with h | ⟨h1,h2⟩
      · exact .inl h
      · exact .inr ⟨List.mem_cons_of_mem _ h1,h2⟩
theorem zE6 {cells:List (Str × Addr)}:∀ {names:List (Str × NameKind)} {acc:List (Str × Addr)} {p:Str × Addr},p ∈ acc→p ∈ jF cells names acc
  | [],_,_,h=>h
  | (m,k) :: r,acc,p,h=>by
    unfold jF
    split
    · exact zE6 (List.mem_cons_of_mem _ h)
    · exact zE6 h
theorem zE5 {cells:List (Str × Addr)}:∀ {names:List (Str × NameKind)} {acc:List (Str × Addr)} {n:Str},(n,.free) ∈ names→(n,(cells.lookup n).getD 0) ∈ jF cells names acc
  | (m,k) :: r,acc,n,h=>by
    unfold jF
    rcases List.mem_cons.mp h with e | h
    · cases e
      exact zE6 List.mem_cons_self
    · split
      · exact zE5 h
      · exact zE5 h
theorem zDS:∀ {names:List (Str × NameKind)} {h:Heap} {acc:List (Str × Addr)} {x:Str} {c:Addr},(x,c) ∈ cellsFrom h.objs.size names acc →
    (x,c) ∈ acc∨((x,.cell) ∈ names∧h.objs.size ≤ c∧CellAt (pushCells h names) c none)
  | [],_,_,_,_,h=>.inl h
  | (n,k) :: r,h,acc,x,c,hm=>by
    unfold cellsFrom at hm
    unfold pushCells
    split at hm
    · rename_i hk
      rw [if_pos hk]
      have hk:k = .cell:=by simpa using hk
      rw [← Heap.size_push h { cls:=.type "cell", data:=.cell none }] at hm
      rcases zDS hm with hm | ⟨h1,h2,h3⟩
      · rcases List.mem_cons.mp hm with e | hm
        · cases e
          exact .inr ⟨hk ▸ List.mem_cons_self,Nat.le_refl _,_,pushCells_keeps r _ _ _ (Heap.get?_push_size _ rfl),rfl⟩
        · exact .inl hm
      · rw [Heap.size_push] at h2
        exact .inr ⟨List.mem_cons_of_mem _ h1,Nat.le_of_succ_le h2,h3⟩
    · rename_i hk
      rw [if_neg hk]
      rcases zDS hm with hm | ⟨h1,h2,h3⟩
      · exact .inl hm
      · exact .inr ⟨List.mem_cons_of_mem _ h1,h2,h3⟩
theorem zFW:∀ {names:List (Str × NameKind)} {n:Nat} {acc:List (Str × Addr)} {p:Str × Addr},p ∈ acc→p ∈ cellsFrom n names acc
  | [],_,_,_,h=>h
  | (m,k) :: r,n,acc,p,h=>by
    unfold cellsFrom
    split
    · exact zFW (List.mem_cons_of_mem _ h)
    · exact zFW h
theorem zI0:∀ {names:List (Str × NameKind)} {n:Nat} {acc:List (Str × Addr)} {x:Str},(x,.cell) ∈ names→∃ c,(x,c) ∈ cellsFrom n names acc
  | (m,k) :: r,n,acc,x,h=>by
    unfold cellsFrom
    rcases List.mem_cons.mp h with e | h
    · cases e
      exact ⟨n,zFW List.mem_cons_self⟩
    · split
      · exact zI0 h
      · exact zI0 h
theorem zIZ:∀ {names:List (Str × NameKind)} {h:Heap} {acc:List (Str × Addr)} {x y:Str} {c:Addr},(∀ p ∈ acc,p.2 < h.objs.size)→(∀ x y c,(x,c) ∈ acc→(y,c) ∈ acc→x = y) →
    (x,c) ∈ cellsFrom h.objs.size names acc→(y,c) ∈ cellsFrom h.objs.size names acc→x = y
  | [],_,_,_,_,_,_,hi,h1,h2=>hi _ _ _ h1 h2
  | (n,k) :: r,h,acc,x,y,c,hl,hi,h1,h2=>by
    unfold cellsFrom at h1 h2
    split at h1
    · rename_i hk
      rw [if_pos hk] at h2
      rw [← Heap.size_push h { cls:=.type "cell", data:=.cell none }] at h1 h2
      refine zIZ (h:=h.push _) (fun p hp=>?_) (fun x y c a b=>?_) h1 h2
      · rw [Heap.size_push]
        rcases List.mem_cons.mp hp with rfl | hp
        · exact Nat.lt_succ_self _
        · exact Nat.lt_succ_of_lt (hl p hp)
      · rcases List.mem_cons.mp a with e | a <;> rcases List.mem_cons.mp b with e' | b
        · cases e; cases e'; rfl
        · cases e; exact absurd (hl _ b) (Nat.lt_irrefl _)
        · cases e'; exact absurd (hl _ a) (Nat.lt_irrefl _)
        · exact hi _ _ _ a b
    · rename_i hk
      rw [if_neg hk] at h2
      exact zIZ hl hi h1 h2
theorem newEnv_comp {M:Model} {A:Around} {E:Value→Shared→Prop} {s:Shared} {scope:Scope} {globals:Addr} {closure:List (Str × Addr)} {qual:Str} {func:Option Addr} {code:Value} {around:Env} {builtins:Addr} {Q:Env→Shared→Prop}
    (h:Q (newEnv scope s.heap.objs.size globals (cellsFrom (s.heap.objs.size + 1) scope.names closure) qual func code (some around) builtins)
      { s with heap:=pushCells (s.heap.push { cls:=.type "dict", data:=.dict #[] }) scope.names }) :
    wpAny M A (newFunctionEnv scope globals closure [] qual func code (some around) builtins) Q E s:=by
  simp only [newFunctionEnv,Option.isSome_some,if_true]
  refine wpAny_bind (wpAny_alloc ?_)
  refine wpAny_bind (wpAny_layCells _ (fun n k c=>rfl) scope.names closure _ _ ?_)
  rw [show ({ s with heap:=s.heap.push { cls:=.type "dict", data:=.dict #[] } }:Shared).heap.objs.size = s.heap.objs.size + 1 from Heap.size_push ..]
  rw [List.forIn_nil]
  exact wpAny_bind (wpAny_pure (wpAny_pure h))
theorem zE1 {sc:Scope}:∀ {names:List (Str × NameKind)} {x:Str} {k:NameKind},
    (names.map fun (n,k)=>if (k == NameKind.free && sc.kind == .function && sc.names.lookup n == some .cell) then (n,NameKind.cell) else (n,k)).lookup x = some k →
    ∃ k',names.lookup x = some k'∧(k = k'∨(k' = .free∧k = .cell))
  | [],_,_,h=>by simp at h
  | (n,k₀) :: r,x,k,h=>by
    have ih:=@zE1 sc r x k
    have h':List.lookup x ((if (k₀ == NameKind.free && sc.kind == .function && sc.names.lookup n == some .cell) = true then (n,NameKind.cell) else (n,k₀)) :: (r.map _)) = some k:=h
    cases hx:x == n with
    | true =>
      simp only [List.lookup_cons,hx]
      by_cases hc:(k₀ == NameKind.free && sc.kind == .function && sc.names.lookup n == some .cell) = true
      · rw [if_pos hc] at h'
        simp only [List.lookup_cons,hx] at h'
        cases h'
        simp only [Bool.and_eq_true,beq_iff_eq] at hc
        exact ⟨k₀,rfl,.inr ⟨hc.1.1,rfl⟩⟩
      · rw [if_neg hc] at h'
        simp only [List.lookup_cons,hx] at h'
        cases h'
        exact ⟨_,rfl,.inl rfl⟩
    | false =>
      simp only [List.lookup_cons,hx]
      by_cases hc:(k₀ == NameKind.free && sc.kind == .function && sc.names.lookup n == some .cell) = true
      · rw [if_pos hc] at h'
        simp only [List.lookup_cons,hx] at h'
        exact ih h'
      · rw [if_neg hc] at h'
        simp only [List.lookup_cons,hx] at h'
        exact ih h'
structure BlkOk (N:List Str) (sc scope:Scope) (own:List (Str × Nat)):Prop where
  kind:scope.kind = .function
  uniq:∀ y ∈ scope.names,scope.names.lookup y.1 = some y.2
  ix:∀ p ∈ own,N[p.2]? = some p.1
  free:∀ y ∈ scope.names,y.2 = .free→sc.names.lookup y.1 = some .cell∨sc.names.lookup y.1 = some .free
  own:∀ y ∈ scope.names,y.2 = .local∨y.2 = .cell→y.1 ∈ own.map (·.1)∨y.1 ∉ N
def zHD (σ:St):List Nat→St
  | []=>σ
  | v :: vs=>(zHD σ vs).set v none
theorem zEM (σ:St):∀ vs:List Nat,(zHD σ vs).length = σ.length
  | []=>rfl
  | v :: vs=>by unfold zHD; rw [List.length_set,zEM σ vs]
theorem zHS {σ:St} {i:Nat} {x:V}:∀ {vs:List Nat},(zHD σ vs)[i]? = some (some x)→σ[i]? = some (some x)∧i ∉ vs
  | [],h=>⟨h,by simp⟩
  | v :: vs,h=>by
    unfold zHD at h
    by_cases hi:v = i
    · subst hi
      by_cases hv:v < (zHD σ vs).length
      · rw [List.getElem?_set_self hv] at h; cases h
      · rw [List.getElem?_eq_none (by simpa using hv)] at h; cases h
    · rw [List.getElem?_set_ne hi] at h
      obtain ⟨h1,h2⟩:=zHS h
      exact ⟨h1,by simp only [List.mem_cons,not_or]; exact ⟨fun e=>hi e.symm,h2⟩⟩
abbrev Cx.blk (X:Cx) (s:Shared) (H:Hp) (scope:Scope) (cenv:Env) (fp:List Addr):Cx:={ X with s_0:=s,H_0:=H,env:=cenv,outer:=X.stack,ex:=fp,fn:=fun x=>scope.names.lookup x == some .cell,pn:=[],xe:=fun _ _=>False }
section
variable {X:Cx} {pins:List (Addr × Obj)} {σ:St} {H:Hp} {s:Shared}
theorem block_start {scope:Scope} {own:List (Str × Nat)} {fp:List Addr} (I:Inv X pins σ H s) (ok:BlkOk X.N X.env.scope scope own) (hN:X.N.Nodup) (hfp:∀ b ∈ fp,FpOk X pins H b∧b < s.heap.objs.size) :
    Inv (X.blk s H scope (compEnvC scope (cellsFrom (s.heap.objs.size + 1) scope.names (jF X.env.cells scope.names [])) s.heap.objs.size X.env) fp) [] (zHD σ (own.map (·.2))) H { s with heap:=pushCells (s.heap.push { cls:=.type "dict", data:=.dict #[] }) scope.names }:=by
  have hfree:∀ y ∈ scope.names,y.2 = .free→∃ c,X.env.cells.lookup y.1 = some c:=fun y hy e=>by
    rcases ok.free y hy e with k | k
    · exact I.ok.has _ (.inl k)
    · exact I.ok.has _ (.inr k)
  generalize hcenv:compEnvC scope (cellsFrom (s.heap.objs.size + 1) scope.names (jF X.env.cells scope.names [])) s.heap.objs.size X.env = cenv
  have kp:∀ b o,s.heap.get? b = some o→(pushCells (s.heap.push { cls:=.type "dict", data:=.dict #[] }) scope.names).get? b = some o:=fun b o e=>pushCells_keeps _ _ _ _ (Heap.get?_push_of_some _ e)
  have hL:cenv.locals = s.heap.objs.size:=by rw [← hcenv]; rfl
  have hcl:cenv.cells = cellsFrom (s.heap.objs.size + 1) scope.names (jF X.env.cells scope.names []):=by rw [← hcenv]; rfl
  have hsc:cenv.scope = relS scope X.env.scope:=by rw [← hcenv]; rfl
  rw [← Heap.size_push s.heap { cls:=.type "dict", data:=.dict #[] }] at hcl
  have cm:∀ {y c},(y,c) ∈ jF X.env.cells scope.names []→X.env.cells.lookup y = some c∧c < s.heap.objs.size:=fun {y c} hm=>by
    rcases zCN hm with hm | ⟨h1,rfl⟩
    · cases hm
    · obtain ⟨c,hc⟩:=hfree _ h1 rfl
      rw [hc]
      obtain ⟨w,z⟩:=I.cell _ _ hc
      exact ⟨rfl,z.lt⟩
  have mem:∀ {y c},cenv.cells.lookup y = some c→(X.env.cells.lookup y = some c∧c < s.heap.objs.size)∨(s.heap.objs.size + 1 ≤ c∧CellAt (pushCells (s.heap.push { cls:=.type "dict", data:=.dict #[] }) scope.names) c none):=fun {y c} e=>by
    rw [hcl] at e
    rcases zDS (PySem.mem_of_lookup e) with hm | ⟨_,h2,h3⟩
    · exact .inl (cm hm)
    · rw [Heap.size_push] at h2; exact .inr ⟨h2,h3⟩
  have look:∀ {y},scope.names.lookup y = some .free→∃ c,cenv.cells.lookup y = some c∧X.env.cells.lookup y = some c:=fun {y} hl=>by
    have hy:(y,NameKind.free) ∈ scope.names:=PySem.mem_of_lookup hl
    obtain ⟨c',e'⟩:=zGR (zFW (names:=scope.names) (n:=(s.heap.push { cls:=.type "dict", data:=.dict #[] }).objs.size) (zE5 (cells:=X.env.cells) (acc:=[]) hy))
    rw [← hcl] at e'
    refine ⟨c',e',?_⟩
    rw [hcl] at e'
    rcases zDS (PySem.mem_of_lookup e') with hm | ⟨h1,_,_⟩
    · exact (cm hm).1
    · have:=ok.uniq _ h1
      rw [hl] at this; cases this
  have okB:(X.blk s H scope cenv fp).Ok:=by
    refine ⟨I.ok.mod,by show cenv.scope.kind = _; rw [hsc]; exact ok.kind,by show cenv.globals = _; rw [← hcenv]; exact I.ok.glob,by show cenv.builtins = _; rw [← hcenv]; exact I.ok.blt,by show s.heap.objs.size ≤ cenv.locals; rw [hL]; exact Nat.le_refl _,
      fun y z c e1 e2=>?_,fun y hy=>?_,fun y c z e=>?_,I.ok.hd,I.ok.frames,.inl rfl,fun b hb=>⟨?_,fun y c e z=>?_⟩,I.bs,Nat.le_trans I.ok.bsz I.sz,fun b o e hb=>?_,fun b hb z=>?_,I.stack,I.stkFree,I.tab⟩
    · have e1:cenv.cells.lookup y = some c:=e1
      have e2:cenv.cells.lookup z = some c:=e2
      rw [hcl] at e1 e2
      refine zIZ (fun p hp=>?_) (fun y z c a b=>I.ok.inj y z c (cm a).1 (cm b).1) (PySem.mem_of_lookup e1) (PySem.mem_of_lookup e2)
      rw [Heap.size_push]
      exact Nat.lt_succ_of_lt (cm (y:=p.1) (c:=p.2) hp).2
    · show ∃ c,cenv.cells.lookup y = some c
      have key:∀ k,cenv.kindOf y = some k→(k = .cell∨k = .free)→∃ c,cenv.cells.lookup y = some c:=fun k hk hk'=>by
        unfold Env.kindOf at hk
        rw [hsc] at hk
        obtain ⟨k',e,r⟩:=zE1 hk
        have:k' = .cell∨k' = .free:=by
          rcases r with rfl | ⟨rfl,_⟩
          · exact hk'
          · exact .inr rfl
        rcases this with rfl | rfl
        · obtain ⟨c,hm⟩:=zI0 (n:=(s.heap.push { cls:=.type "dict", data:=.dict #[] }).objs.size) (acc:=jF X.env.cells scope.names []) (PySem.mem_of_lookup e)
          obtain ⟨c',e'⟩:=zGR hm
          exact ⟨c',by rw [hcl]; exact e'⟩
        · obtain ⟨c,h1,_⟩:=look e
          exact ⟨c,h1⟩
      rcases hy with hy | hy
      · exact key _ hy (.inl rfl)
      · exact key _ hy (.inr rfl)
    · have z:(scope.names.lookup y == some NameKind.cell) = true:=z
      have z:scope.names.lookup y = some .cell:=by simpa using z
      have e:cenv.cells.lookup y = some c:=e
      rw [hcl] at e
      rcases zDS (PySem.mem_of_lookup e) with hm | ⟨_,h2,_⟩
      · rcases zCN hm with hm | ⟨h1,_⟩
        · cases hm
        · have q:=ok.uniq _ h1
          rw [z] at q; cases q
      · rw [Heap.size_push] at h2
        exact Nat.le_of_succ_le h2
    · show b ≠ cenv.locals
      rw [hL]; exact Nat.ne_of_lt (hfp b hb).2
    · have e:cenv.cells.lookup y = some c:=e
      rcases mem e with ⟨h1,_⟩ | ⟨h1,_⟩
      · exact (hfp b hb).1.2.2.2.2.1 y c h1 z
      · have h2:s.heap.objs.size + 1 ≤ b:=by rw [← z]; exact h1
        exact absurd (Nat.lt_of_lt_of_le (hfp b hb).2 (Nat.le_of_succ_le h2)) (Nat.lt_irrefl _)
    · rcases (hfp b hb).1.2.2.2.1 with z | z
      · exact I.ok.noex b o e z
      · exact absurd (Nat.lt_of_lt_of_le (Heap.lt_size e) (Nat.le_trans I.ok.bsz z)) (Nat.lt_irrefl _)
    · rcases List.mem_cons.mp (I.stkSub b z) with z | z
      · exact (hfp b hb).1.2.1 z
      · exact (hfp b hb).1.2.2.1 z
  refine ⟨okB,rfl,I.bare,Un.kept kp,⟨fun _=>none,?_,fun i y av e1 e2 e3=>?_⟩,fun y c e=>?_,?_,fun y c e=>?_,fun p hp=>?_,I.hok.kept kp,by rw [zEM]; exact I.len⟩
  · show Heap.Ns _ cenv.locals _
    rw [hL]
    exact Heap.Ns.keeps (Heap.Ns.new ..) fun b o e=>pushCells_keeps _ _ _ _ e
  · obtain ⟨e2,hne⟩:=zHS e2
    have hfr:scope.names.lookup y = some .free∧(cenv.kindOf y = some .cell∨cenv.kindOf y = some .free):=by
      have key:∀ k,cenv.scope.names.lookup y = some k→k = .local∨k = .cell∨k = .free→scope.names.lookup y = some .free∧(cenv.kindOf y = some .cell∨cenv.kindOf y = some .free):=fun k hk hk'=>by
        have hk0:=hk
        rw [hsc] at hk
        obtain ⟨k',e,r⟩:=zE1 hk
        have no:¬ (k' = .local∨k' = .cell):=fun hh=>by
          rcases ok.own _ (PySem.mem_of_lookup e) hh with e' | e'
          · obtain ⟨p,hp,hpy⟩:=List.mem_map.mp e'
            have e3:=ok.ix p hp
            have:p.1 = y:=hpy
            rw [this] at e3
            exact hne (List.mem_map.mpr ⟨p,hp,nodup_ix hN e3 e1⟩)
          · exact e' (List.mem_of_getElem? e1)
        rcases r with rfl | ⟨rfl,rfl⟩
        · rcases hk' with rfl | rfl | rfl
          · exact absurd (.inl rfl) no
          · exact absurd (.inr rfl) no
          · exact ⟨e,.inr hk0⟩
        · exact ⟨e,.inl hk0⟩
      have e3:Vis cenv.scope y:=e3
      rcases e3 with e3 | e3 | e3
      · exact key _ e3 (.inl rfl)
      · exact key _ e3 (.inr (.inl rfl))
      · exact key _ e3 (.inr (.inr rfl))
    obtain ⟨m,hn,hl⟩:=I.loc
    have hvis:Vis X.env.scope y:=(ok.free _ (PySem.mem_of_lookup hfr.1) rfl).elim (fun k=>.inr (.inl k)) (fun k=>.inr (.inr k))
    obtain ⟨w,r,q⟩:=hl i y av e1 e2 hvis
    refine ⟨w,r,.inr ⟨hfr.2,?_⟩⟩
    obtain ⟨c,h1,h2⟩:=look hfr.1
    rcases q with ⟨k,_⟩ | ⟨_,c',e',z⟩
    · have k:X.env.scope.names.lookup y = some .local:=k
      rcases ok.free _ (PySem.mem_of_lookup hfr.1) rfl with k' | k' <;> rw [show X.env.scope.names.lookup y = _ from k'] at k <;> cases k
    · rw [h2] at e'; cases e'
      exact ⟨c,h1,z.keeps kp⟩
  · have e:cenv.cells.lookup y = some c:=e
    rcases mem e with ⟨h1,_⟩ | ⟨_,z⟩
    · obtain ⟨w,z⟩:=I.cell y c h1
      exact ⟨w,z.keeps kp⟩
    · exact ⟨_,z⟩
  · show H cenv.locals = none
    rw [hL]; exact I.hok.fresh (Nat.le_refl _)
  · have e:cenv.cells.lookup y = some c:=e
    rcases mem e with ⟨h1,_⟩ | ⟨h1,_⟩
    · exact I.freeC y c h1
    · exact I.hok.fresh (Nat.le_of_succ_le h1)
  · exact absurd (show p ∈ ([]:List (Addr × Obj)) ++ [] from hp) (by simp)
theorem app_ok {E:Value→Shared→Prop} {D:Addr} {xs:List V} {y:V} {v:Value} {Q:Value→Shared→Prop} (I:Inv X pins σ H s) (hD:H D = some (.lst xs)) (hz:xs.length < sizeLine) (r:qU y v)
    (h:∀ s',Inv X pins σ (upd H D (.lst (xs ++ [y]))) s'→Q .none s'):wpAny (model X.prog X.w) X.A (call (.builtin "list.append") [.ref D,v]) Q E s:=by
  obtain ⟨hz',its,n,ri,e⟩:=I.hok D _ hD
  have hl:=ri.length
  refine append_at (hsz:=by rw [List.size_toArray]; omega) e fun h' sb ho'=>?_
  refine h { s with heap:=h' } (I.write (t':=s.toks) (by rw [hD]; trivial) (.inl rfl) (fun b u hb q=>(sb.2 b hb).trans q) ⟨_,ho'⟩ ⟨by rw [List.length_append]; exact hz,its ++ [v],n + 1,ri.append (.cons r .nil),?_⟩)
  rw [ho']
  simp
def PTs (X:Cx) (ifs:List Expr) (t:TT):Prop :=
  ∀ (pins:List (Addr × Obj)) (s:Shared) (σ:St) (H:Hp) (Q:Bool→Hp→Prop),Inv X pins σ H s→t σ H Q →
    wpAny (model X.prog X.w) X.A (forIn ifs true fun c r=>if r = true then do let ok ← isTrue c X.env (eval c X.env); pure (ForInStep.yield ok) else pure (ForInStep.yield r)) (TP X pins σ Q) X.xe s
def tYes:TT:=fun _ H Q=>Q true H
theorem zEX:PTs X [] tYes:=fun _ _ _ H _ I h=>wpAny_tests_nil ⟨H,I,h⟩
theorem pts_one {c:Expr} {t:TT} (h:PT X c t):PTs X [c] t:=fun pins s σ H Q I hw=>wpAny_tests_one (h pins s σ H Q I hw)
end
theorem thnF {α:Type} {t:Sem α} {Q Q':α→Shared→Prop} {M:Model} {A:Around} {E:Value→Shared→Prop} {s:Shared} (h:wpAny M A t Q (fun _ _=>False) s) (hQ:∀ a s,Q a s→Q' a s):wpAny M A t Q' E s:=wpAny_mono h hQ fun _ _ z=>False.elim z
theorem compLoop_any {prog:Program} {w:World} {A:Around} {R:Result→Shared→Prop} {s:Shared} {elt target iter:Expr} {ifs:List Expr} {scope:Scope} {pos:Pos} {it acc:Value} {env:Env} (I:Nat→Shared→Prop)
    (turn:∀ n s,I n s→wpAny (model prog w) A (pyNext it) (fun r s₁=>match r with
      | none=>R (.ok .next) s₁
      | some v=>wpAny (model prog w) A (letOwnedTupleGo target it v) (fun _ s₁'=>wpAny (model prog w) A (assign target env v) (fun _ s₂ =>
          wpAny (model prog w) A (forIn ifs true fun c r=>if r = true then do let ok ← isTrue c env (eval c env); pure (ForInStep.yield ok) else pure (ForInStep.yield r)) (fun ok s₃ =>
            if ok = true then wpAny (model prog w) A (eval elt env) (fun x s₄ =>
              wpAny (model prog w) A (call (.builtin "list.append") [acc,x]) (fun _ s₅=>∃ m,m < n∧I m s₅) (notedBy (model prog w) A env fun e s'=>R (.error e) s') s₄) (notedBy (model prog w) A env fun e s'=>R (.error e) s') s₃
            else ∃ m,m < n∧I m s₃) (notedBy (model prog w) A env fun e s'=>R (.error e) s') s₂) (notedBy (model prog w) A env fun e s'=>R (.error e) s') s₁') (notedBy (model prog w) A env fun e s'=>R (.error e) s') s₁) (notedBy (model prog w) A env fun e s'=>R (.error e) s') s)
    (n:Nat) (h:I n s) :
    codeAny (model prog w) A (.compLoop (.ListComp elt [⟨target,iter,ifs,0⟩] scope pos) 0 it acc env) R s:=by
  refine codeAny_loop rfl I (fun n s hI=>?_) n h
  show wpAny _ A ((compTurn (.ListComp elt [⟨target,iter,ifs,0⟩] scope pos) 0 it acc env).onRaise (fun x=>do noteFrame x env; theTreesLotGoes x)) _ _ s
  refine wpAny_noted ?_
  rw [compTurn_list]
  refine wpAny_bind (wpAny_standAt (wpAny_bind (wpAny_mono (turn n s hI) (fun r s₁ h₁=>?_) fun _ _ h'=>h')))
  cases r with
  | none=>exact wpAny_pure h₁
  | some v =>
    refine wpAny_bind (wpAny_mono h₁ (fun _ s₁' h₁'=>?_) fun _ _ h'=>h')
    refine wpAny_bind (wpAny_mono h₁' (fun _ s₂ h₂=>wpAny_bind (wpAny_mono h₂ (fun ok s₃ h₃=>?_) fun _ _ h'=>h')) fun _ _ h'=>h')
    cases ok with
    | false=>exact wpAny_pure ⟨rfl,h₃⟩
    | true =>
      exact wpAny_bind (wpAny_bind (wpAny_mono h₃ (fun x s₄ h₄=>wpAny_bind (wpAny_mono h₄ (fun _ s₅ h₅=>wpAny_pure (wpAny_pure ⟨rfl,h₅⟩)) fun _ _ h'=>h')) fun _ _ h'=>h'))
section
variable {X:Cx}
def tLc (wi:TI) (g:TG) (tt:TT) (te:TE) (vs:List Nat):TE:=fun σ H Q=>wi σ H fun J H1=>∀ D,H1 D = none→∃ W:Nat→Nat→Hp→Prop,(∃ m,W 0 m (upd H1 D (.lst [])))∧∀ i m H,W i m H →
  (J.stop i H∧Q (.ref D) H)∨(J.go i H∧∃ Nx:Hp→Prop,(∀ H',Nx H'→∃ m',m' < m∧W (i + 1) m' H')∧∀ x H',J.yld i H x H'→g x (zHD σ vs) H' fun σ2 H2=>zHD σ2 vs = zHD σ vs∧tt σ2 H2 fun b H3 =>
    if b = true then te σ2 H3 fun y H4=>∃ acc,H4 D = some (.lst acc)∧acc.length < sizeLine∧Nx (upd H4 D (.lst (acc ++ [y]))) else Nx H3)
theorem lc_core {pins:List (Addr × Obj)} {s:Shared} {σ:St} {H:Hp} {Q:VK} {elt tg iter:Expr} {ifs:List Expr} {scope:Scope} {own:List (Str × Nat)} {pos pos':Pos} {wi:TI} {g:TG} {tt:TT} {te:TE} {use:Option (Value→Sem Unit)} {Qf:Value→Shared→Prop}
    (hc:X.calm = true) (hN:X.N.Nodup) (I:Inv X pins σ H s) (hi:PI X tg iter wi) (ok:BlkOk X.N X.env.scope scope own)
    (hg:∀ (s:Shared) (H:Hp) (C:Addr) (cl:List (Str × Addr)) (fp:List Addr),PG (X.blk s H scope (compEnvC scope cl C X.env) fp) tg g) (ht:∀ (s:Shared) (H:Hp) (C:Addr) (cl:List (Str × Addr)) (fp:List Addr),PTs (X.blk s H scope (compEnvC scope cl C X.env) fp) ifs tt)
    (he:∀ (s:Shared) (H:Hp) (C:Addr) (cl:List (Str × Addr)) (fp:List Addr),PE (X.blk s H scope (compEnvC scope cl C X.env) fp) elt te) (hs:∀ x,foldedSetIterable iter X.env x = pure x)
    (h:tLc wi g tt te (own.map (·.2)) σ H Q)
    (hRR:∀ D C s' m H',Inv X pins σ H' s'→Q (.ref D) H'→s'.heap.Ns C m→FpOk X pins H' C→compPost (model X.prog X.w) X.A X.xe use Qf (.ref D) C (.ok .next) s') :
    wpAny (model X.prog X.w) X.A (comprehension (.ListComp elt [⟨tg,iter,ifs,0⟩] scope pos) scope X.env pos' (newList []) false (eval iter X.env) use) Qf X.xe s:=by
  have hfree:∀ y ∈ scope.names,y.2 = .free→∃ c,X.env.cells.lookup y.1 = some c:=fun y hy e=>by
    rcases ok.free y hy e with k | k
    · exact I.ok.has _ (.inl k)
    · exact I.ok.has _ (.inr k)
  refine wpAny_comprehension_free (use:=use) rfl hs (closure_ok hfree) ok.kind (fun y hy e=>by rw [ok.uniq y hy,e])
    (thn (hi pins s σ H _ I h) fun xv s1 hx=>thn hx fun itv s2 h2=>?_)
  obtain ⟨it,fp,tn,J,H2,e,I2,T,st2,f2,q⟩:=h2
  subst e
  refine wpAny_newObj_type (newEnv_comp ?_) (by show 0 ≤ sizeLine; decide)
  generalize hD:s2.heap.objs.size = D
  have hDn:H2 D = none:=I2.hok.fresh (Nat.le_of_eq hD)
  obtain ⟨W,⟨m0,w0⟩,turn⟩:=q D hDn
  generalize hs3:({ s2 with heap:=s2.heap.push { cls:=.type "list", data:=.seq ([]:List Value).toArray } }:Shared) = s3
  have I3:Inv X pins σ (upd H2 D (.lst [])) s3:=by
    rw [← hs3]
    refine I2.laid (t':=s2.toks) (fun b o e=>Heap.get?_push_of_some _ e) (Nat.le_of_eq hD) ⟨Nat.zero_le _,[],0,.nil,?_⟩
    rw [← hD]
    exact Heap.get?_push_size _ rfl
  have h3:s3.heap = s2.heap.push { cls:=.type "list", data:=.seq ([]:List Value).toArray }:=by rw [← hs3]
  have sz:∀ b ∈ fp,b < s2.heap.objs.size:=fun b hb=>by
    obtain ⟨o,e,_⟩:=T.obj _ _ st2 b hb
    exact Heap.lt_size e
  have f3:∀ b ∈ fp,FpOk X pins (upd H2 D (.lst [])) b∧b < s3.heap.objs.size:=fun b hb=>by
    have hlt:=sz b hb
    refine ⟨⟨?_,(f2 b hb).2⟩,by rw [h3,Heap.size_push]; exact Nat.lt_succ_of_lt hlt⟩
    rw [zV (by rw [← hD]; exact Nat.ne_of_lt hlt)]
    exact (f2 b hb).1
  have st3:tn 0 s3.heap:=T.keep _ _ _ st2 fun b _ o e=>by rw [h3]; exact Heap.get?_push_of_some _ e
  have I4:=block_start I3 ok hN f3
  have pg:=hg s3 (upd H2 D (.lst [])) s3.heap.objs.size (cellsFrom (s3.heap.objs.size + 1) scope.names (jF X.env.cells scope.names [])) fp
  have pt:=ht s3 (upd H2 D (.lst [])) s3.heap.objs.size (cellsFrom (s3.heap.objs.size + 1) scope.names (jF X.env.cells scope.names [])) fp
  have pe:=he s3 (upd H2 D (.lst [])) s3.heap.objs.size (cellsFrom (s3.heap.objs.size + 1) scope.names (jF X.env.cells scope.names [])) fp
  show codeAny _ _ (.compStart (.ListComp elt [⟨tg,iter,ifs,0⟩] scope pos) 0 (.ref it) (.ref D) (compEnvC scope (cellsFrom (s3.heap.objs.size + 1) scope.names (jF X.env.cells scope.names [])) s3.heap.objs.size X.env)) (compPost (model X.prog X.w) X.A X.xe use Qf (.ref D) s3.heap.objs.size) { s3 with heap:=pushCells (s3.heap.push { cls:=.type "dict", data:=.dict #[] }) scope.names }
  have nfp:∀ b ∈ fp,(upd H2 D (.lst [])) b = none:=fun b hb=>(f3 b hb).1.1
  generalize hce:compEnvC scope (cellsFrom (s3.heap.objs.size + 1) scope.names (jF X.env.cells scope.names [])) s3.heap.objs.size X.env = ce at I4 pg pt pe ⊢
  have cL:ce.locals = s3.heap.objs.size:=by subst hce; rfl
  generalize hH3:upd H2 D (.lst []) = H3 at I3 I4 pg pt pe w0 nfp f3
  generalize hs4:({ s3 with heap:=pushCells (s3.heap.push { cls:=.type "dict", data:=.dict #[] }) scope.names }:Shared) = s4 at I4 ⊢
  have st4:tn 0 s4.heap:=T.keep _ _ _ st3 fun b _ o e=>by rw [← hs4]; exact pushCells_keeps _ _ _ _ (Heap.get?_push_of_some _ e)
  have stat:∀ {σ':St} {H':Hp} {s':Shared},Inv (X.blk s3 H3 scope ce fp) [] σ' H' s'→(∀ b ∈ fp,H' b = none)→∀ b ∈ fp,FpOk (X.blk s3 H3 scope ce fp) [] H' b:=fun {σ' H' s'} I' hn b hb =>
    ⟨hn b hb,(I'.ok.exf b hb).1,I'.ok.exfs b hb,.inl hb,fun x c e=>(I'.ok.exf b hb).2 x c e,fun p hp=>absurd (show p ∈ ([]:List (Addr × Obj)) ++ [] from hp) (by simp)⟩
  have loop:codeAny (model X.prog X.w) X.A (.compLoop (.ListComp elt [⟨tg,iter,ifs,0⟩] scope pos) 0 (.ref it) (.ref D) ce) (compPost (model X.prog X.w) X.A X.xe use Qf (.ref D) s3.heap.objs.size) s4:=by
    refine compLoop_any (fun n s'=>∃ i H',Inv (X.blk s3 H3 scope ce fp) [] (zHD σ (own.map (·.2))) H' s'∧tn i s'.heap∧(∀ b ∈ fp,H' b = none)∧W i n H') ?_ m0 ⟨0,H3,I4,st4,nfp,w0⟩
    rintro n s5 ⟨i,H5,I5,st5,n5,w5⟩
    rcases turn i n H5 w5 with ⟨stop,qq⟩ | ⟨go,Nx,hNx,step⟩
    · have td:=T.done (X.blk s3 H3 scope ce fp) rfl rfl rfl hc i [] s5 _ H5 (fun _ _=>False) I5 (stat I5 n5) st5 stop
      refine thnF td fun r s6 ⟨hr,I6⟩=>?_
      subst hr
      have I7:Inv X pins σ H5 s6:=I3.call' (ch:=fp) I6.os I6.base I6.hok I6.bare fun b hb=>⟨(f3 b hb).1.2.2.2.1,(f3 b hb).1.2.1,(f3 b hb).1.2.2.2.2.1,(f3 b hb).1.2.2.2.2.2⟩
      have nC:H5 s3.heap.objs.size = none:=by
        have z:H5 ce.locals = none:=I6.free
        rw [cL] at z
        exact z
      obtain ⟨m,hn,_⟩:=I6.loc
      have hn:s6.heap.Ns ce.locals m:=hn
      rw [cL] at hn
      exact hRR D s3.heap.objs.size s6 m H5 I7 qq hn (I3.fpOk (Nat.le_refl _) nC)
    · have ti:=T.item (X.blk s3 H3 scope ce fp) rfl rfl rfl hc i [] s5 _ H5 (fun _ _=>False) I5 (stat I5 n5) st5 go
      refine thnF ti fun r s6 ⟨u,hr,h6⟩=>?_
      subst hr
      refine thnF h6 fun _ s7 ⟨x,H7,I7,r7,y7,st7,n7⟩=>?_
      have I7':=I7.pinned (stat I7 n7) (T.obj _ _ st7)
      refine thnF (pg _ s7 _ H7 x u _ I7' r7 (step x H7 y7)) fun _ s8 ⟨σ8,H8,I8,hw8,q8⟩=>?_
      refine thnF (pt _ s8 σ8 H8 _ I8 q8) fun b s9 ⟨H9,I9,q9⟩=>?_
      have fin:∀ {s':Shared} {H':Hp},Inv (X.blk s3 H3 scope ce fp) ([] ++ pinsAt fp s7.heap) σ8 H' s'→Nx H'→∃ m,m < n∧∃ i H',Inv (X.blk s3 H3 scope ce fp) [] (zHD σ (own.map (·.2))) H' s'∧tn i s'.heap∧(∀ b ∈ fp,H' b = none)∧W i m H':=fun {s' H'} I' nx=>by
        obtain ⟨m',hm,w'⟩:=hNx H' nx
        have pin':∀ b ∈ fp,∀ o,s7.heap.get? b = some o→s'.heap.get? b = some o∧H' b = none:=fun b hb o e =>
          let z:=I'.pin (b,o) (List.mem_append_right _ (List.mem_append_right _ (zGQ hb e)))
          ⟨z.1,z.2.1⟩
        have hl:(zHD σ (own.map (·.2))).length = σ8.length:=by rw [← hw8,zEM]
        refine ⟨m',hm,i + 1,H',(I'.unpinned (pins:=[])).weak hl (fun j v e=>?_),T.keep _ _ _ st7 fun b hb o e=>(pin' b hb o e).1,fun b hb=>?_,w'⟩
        · rw [← hw8] at e
          exact (zHS e).1
        · obtain ⟨o,e,_⟩:=T.obj _ _ st7 b hb
          exact (pin' b hb o e).2
      cases b with
      | false =>
        simp only [Bool.false_eq_true,if_false] at q9 ⊢
        exact fin I9 q9
      | true =>
        simp only [if_true] at q9 ⊢
        refine thnF (pe _ s9 σ8 H9 _ I9 q9) fun z s10 ⟨yv,H10,I10,r10,acc,hD10,hz10,nx⟩=>?_
        exact app_ok (X:=X.blk s3 H3 scope ce fp) I10 hD10 hz10 r10 fun s11 I11=>fin I11 nx
  exact codeAny_compStart_list loop (T.self X.A 0 _ _ _ st4 loop)
theorem pe_lc {elt tg iter:Expr} {ifs:List Expr} {scope:Scope} {own:List (Str × Nat)} {pos:Pos} {wi:TI} {g:TG} {tt:TT} {te:TE} (hc:X.calm = true) (hN:X.N.Nodup) (hi:PI X tg iter wi) (ok:BlkOk X.N X.env.scope scope own)
    (hg:∀ (s:Shared) (H:Hp) (C:Addr) (cl:List (Str × Addr)) (fp:List Addr),PG (X.blk s H scope (compEnvC scope cl C X.env) fp) tg g) (ht:∀ (s:Shared) (H:Hp) (C:Addr) (cl:List (Str × Addr)) (fp:List Addr),PTs (X.blk s H scope (compEnvC scope cl C X.env) fp) ifs tt)
    (he:∀ (s:Shared) (H:Hp) (C:Addr) (cl:List (Str × Addr)) (fp:List Addr),PE (X.blk s H scope (compEnvC scope cl C X.env) fp) elt te) (hs:∀ x,foldedSetIterable iter X.env x = pure x:=by intro _; rfl) :
    PE X (.ListComp elt [⟨tg,iter,ifs,0⟩] scope pos) (tLc wi g tt te (own.map (·.2))):=by
  intro pins s σ H Q I h
  rw [eval_ListComp]
  refine lc_core hc hN I hi ok hg ht he hs h fun D C s' m H' I' q hn f=>⟨m,hn,fun h'' sb=>?_⟩
  obtain ⟨f0,f1,f2,f3,f4,f5⟩:=f
  exact ⟨.ref D,H',I'.turned (t':=s'.toks) (fun b o hb e=>(sb.2 b hb).trans e) f0 f1 f3 f4 f5,rfl,q⟩
theorem ps_setLc {i:Nat} {y:Str} {py:Pos} {elt tg iter:Expr} {ifs:List Expr} {scope:Scope} {own:List (Str × Nat)} {pos spos:Pos} {wi:TI} {g:TG} {tt:TT} {te:TE} (hc:X.calm = true) (hN:X.N.Nodup) (hy:X.N[i]? = some y) (hyl:X.env.scope.names.lookup y = some .local)
    (hsw:swapsWith (.ListComp elt [⟨tg,iter,ifs,0⟩] scope pos) (some (.Name y py)) spos.line X.env = pure true) (hi:PI X tg iter wi) (ok:BlkOk X.N X.env.scope scope own)
    (hg:∀ (s:Shared) (H:Hp) (C:Addr) (cl:List (Str × Addr)) (fp:List Addr),PG (X.blk s H scope (compEnvC scope cl C X.env) fp) tg g) (ht:∀ (s:Shared) (H:Hp) (C:Addr) (cl:List (Str × Addr)) (fp:List Addr),PTs (X.blk s H scope (compEnvC scope cl C X.env) fp) ifs tt)
    (he:∀ (s:Shared) (H:Hp) (C:Addr) (cl:List (Str × Addr)) (fp:List Addr),PE (X.blk s H scope (compEnvC scope cl C X.env) fp) elt te) (hs:∀ x,foldedSetIterable iter X.env x = pure x:=by intro _; rfl) :
    PS X (.Assign [.Name y py] (.ListComp elt [⟨tg,iter,ifs,0⟩] scope pos) spos) (tAsg (tLc wi g tt te (own.map (·.2))) (zA7 i)):=by
  intro pins s σ H D I h
  rw [exec_Assign_Name_used _ _ _ _ hsw]
  refine wpAny_bind (wpAny_standAt (wpAny_bind ?_))
  show wpAny _ X.A (do let _ ← comprehension (.ListComp elt [⟨tg,iter,ifs,0⟩] scope pos) scope X.env (firstIterPos [⟨tg,iter,ifs,0⟩] pos) (newList []) false (eval iter X.env) (some (assign (.Name y py) X.env))) _ _ s
  have h:tLc wi g tt te (own.map (·.2)) σ H (fun x H1=>zA7 i x σ H1 D.nx):=h
  refine wpAny_bind (thn (lc_core (Qf:=fun _ s'=>SP X pins D .next s') hc hN I hi ok hg ht he hs h fun L C s' m H' I' q hn f=>?_) fun _ s' hq=>wpAny_pure (wpAny_pure hq))
  show wpAny _ _ (assign (.Name y py) X.env (.ref L)) _ _ _
  refine wpAny_assign_Name (store_ok2 (v:=V.ref L) I' hN hy (.inl hyl) rfl (fun s2 I2 ⟨a,sb,ha⟩=>?_) (.inr hyl))
  obtain ⟨f0,f1,f2,f3,f4,f5⟩:=f
  have haC:C ≠ a:=by
    rcases ha with z | z
    · rw [z]; exact f1
    · exact fun e=>f4 y a z e.symm
  refine ⟨m,hn.sameBut sb haC,fun h3 sb3=>?_⟩
  exact ⟨_,H',I2.turned (t':=s2.toks) (fun b o hb e=>(sb3.2 b hb).trans e) f0 f1 f3 f4 f5,q⟩
end
theorem lc_range {lo:Int} {n:Nat} {g:TG} {tt:TT} {te:TE} {vs:List Nat} {σ:St} {H1:Hp} {D:Addr} {Qd:Hp→Prop} (Pv:Nat→Hp→Prop) (h0:Pv 0 (upd H1 D (.lst [])))
    (hs:∀ i H,i < n→Pv i H→g (.int (lo + i)) (zHD σ vs) H fun σ2 H2=>zHD σ2 vs = zHD σ vs∧tt σ2 H2 fun b H3 =>
      if b = true then te σ2 H3 fun y H4=>∃ acc,H4 D = some (.lst acc)∧acc.length < sizeLine∧Pv (i + 1) (upd H4 D (.lst (acc ++ [y]))) else Pv (i + 1) H3) (hd:∀ H,Pv n H→Qd H) :
    ∃ W:Nat→Nat→Hp→Prop,(∃ m,W 0 m (upd H1 D (.lst [])))∧∀ i m H,W i m H →
      ((Itr lo n).stop i H∧Qd H)∨((Itr lo n).go i H∧∃ Nx:Hp→Prop,(∀ H',Nx H'→∃ m',m' < m∧W (i + 1) m' H')∧∀ x H',(Itr lo n).yld i H x H'→g x (zHD σ vs) H' fun σ2 H2=>zHD σ2 vs = zHD σ vs∧tt σ2 H2 fun b H3 =>
        if b = true then te σ2 H3 fun y H4=>∃ acc,H4 D = some (.lst acc)∧acc.length < sizeLine∧Nx (upd H4 D (.lst (acc ++ [y]))) else Nx H3):=by
  refine ⟨fun i m H=>m = n - i∧i ≤ n∧Pv i H,⟨n,by simp,Nat.zero_le _,h0⟩,?_⟩
  rintro i m H ⟨rfl,hi,p⟩
  by_cases hlt:i < n
  · refine .inr ⟨hlt,Pv (i + 1),fun H' p'=>⟨n - (i + 1),by omega,rfl,hlt,p'⟩,fun x H' y=>?_⟩
    obtain ⟨e,y⟩:=y
    subst e y
    exact hs i _ hlt p
  · have e:i = n:=by omega
    subst e
    exact .inl ⟨Nat.le_refl _,hd H p⟩
theorem lc_list {K:PySem.W.Frag} {a:Addr} {xs:List V} {g:TG} {tt:TT} {te:TE} {vs:List Nat} {σ:St} {H1:Hp} {D:Addr} {Qd:Hp→Prop} (Pv:Nat→Hp→Prop) (h0:Pv 0 (upd H1 D (.lst []))) (hl:∀ i H,i ≤ xs.length→Pv i H→SqL K H a xs)
    (hs:∀ i x H,xs[i]? = some x→Pv i H→g x (zHD σ vs) H fun σ2 H2=>zHD σ2 vs = zHD σ vs∧tt σ2 H2 fun b H3 =>
      if b = true then te σ2 H3 fun y H4=>∃ acc,H4 D = some (.lst acc)∧acc.length < sizeLine∧Pv (i + 1) (upd H4 D (.lst (acc ++ [y]))) else Pv (i + 1) H3) (hd:∀ H,Pv xs.length H→Qd H) :
    ∃ W:Nat→Nat→Hp→Prop,(∃ m,W 0 m (upd H1 D (.lst [])))∧∀ i m H,W i m H →
      ((Itl K a).stop i H∧Qd H)∨((Itl K a).go i H∧∃ Nx:Hp→Prop,(∀ H',Nx H'→∃ m',m' < m∧W (i + 1) m' H')∧∀ x H',(Itl K a).yld i H x H'→g x (zHD σ vs) H' fun σ2 H2=>zHD σ2 vs = zHD σ vs∧tt σ2 H2 fun b H3 =>
        if b = true then te σ2 H3 fun y H4=>∃ acc,H4 D = some (.lst acc)∧acc.length < sizeLine∧Nx (upd H4 D (.lst (acc ++ [y]))) else Nx H3):=by
  refine ⟨fun i m H=>m = xs.length - i∧i ≤ xs.length∧Pv i H,⟨xs.length,by simp,Nat.zero_le _,h0⟩,?_⟩
  rintro i m H ⟨rfl,hi,p⟩
  have q:=hl i H hi p
  by_cases hlt:i < xs.length
  · refine .inr ⟨⟨xs,xs[i],q,by simp [hlt]⟩,Pv (i + 1),fun H' p'=>⟨xs.length - (i + 1),by omega,rfl,hlt,p'⟩,fun x H' y=>?_⟩
    obtain ⟨e,y⟩:=y
    subst e
    exact hs i x _ (y xs q) p
  · have e:i = xs.length:=by omega
    subst e
    exact .inl ⟨⟨xs,q,Nat.le_refl _⟩,hd H p⟩
def blkC (N:List Str) (sc scope:Scope) (own:List (Str × Nat)):Bool :=
  (match scope.kind with | .function=>true | _=>false) && (scope.names.all fun y=>decide (scope.names.lookup y.1 = some y.2)) && (own.all fun p=>decide (N[p.2]? = some p.1)) &&
    (scope.names.all fun y=>match y.2 with
      | .free=>(match sc.names.lookup y.1 with | some .cell=>true | some .free=>true | _=>false)
      | .local=>decide (y.1 ∈ own.map (·.1)) || decide (y.1 ∉ N)
      | .cell=>decide (y.1 ∈ own.map (·.1)) || decide (y.1 ∉ N)
      | _=>true)
theorem wW {N:List Str} {sc scope:Scope} {own:List (Str × Nat)} (h:blkC N sc scope own = true):BlkOk N sc scope own:=by
  unfold blkC at h
  simp only [Bool.and_eq_true,List.all_eq_true,decide_eq_true_eq] at h
  obtain ⟨⟨⟨h1,h2⟩,h3⟩,h4⟩:=h
  refine ⟨?_,h2,h3,fun y hy e=>?_,fun y hy e=>?_⟩
  · split at h1
    · assumption
    · cases h1
  · have q:=h4 y hy
    simp only [e] at q
    split at q <;> first | exact .inl (by assumption) | exact .inr (by assumption) | cases q
  · have q:=h4 y hy
    rcases e with e | e <;> (simp only [e,Bool.or_eq_true,decide_eq_true_eq] at q; exact q)
end L2
namespace L2
open PySem PySem.Spec PyProof.Rows
section
variable {prog:Program} {w:World} {A:Around} {R:Result→Shared→Prop} {s:Shared} {elt t0 i0 t1 i1:Expr} {ifs0 ifs1:List Expr} {scope:Scope} {pos:Pos} {it acc:Value} {env:Env}
end
section
variable {X:Cx}
end
end L2
namespace L2
open PySem PySem.Spec PyProof.Rows
section
variable {κ:Type} [DecidableEq κ]
def zEB (kvs:List (κ × V)) (k:κ):Option V:=(kvs.find? fun kv=>decide (kv.1 = k)).map (·.2)
def zC1 (kvs:List (κ × V)) (k:κ) (v:V):List (κ × V) :=
  if (kvs.any fun kv=>decide (kv.1 = k)) = true then kvs.map (fun kv=>if kv.1 = k then (kv.1,v) else kv) else kvs ++ [(k,v)]
theorem wC {p:κ × V} {r:List (κ × V)} {k:κ} (e:p.1 = k):zEB (p :: r) k = some p.2:=by simp [zEB,List.find?_cons,e]
theorem wD {p:κ × V} {r:List (κ × V)} {k:κ} (e:¬ p.1 = k):zEB (p :: r) k = zEB r k:=by simp [zEB,List.find?_cons,e]
theorem zAK (k:κ):∀ kvs:List (κ × V),(kvs.any fun kv=>decide (kv.1 = k)) = (zEB kvs k).isSome
  | []=>rfl
  | p :: r=>by
    rw [List.any_cons]
    by_cases e:p.1 = k
    · simp only [wC e,decide_eq_true e,Bool.true_or,Option.isSome_some]
    · rw [wD e,decide_eq_false e,Bool.false_or]; exact zAK k r
theorem valV_map (k j:κ) (y:V):∀ kvs:List (κ × V),zEB (kvs.map fun kv=>if kv.1 = k then (kv.1,y) else kv) j = (zEB kvs j).map fun x=>if j = k then y else x
  | []=>rfl
  | p :: r=>by
    have ih:=valV_map k j y r
    rw [List.map_cons]
    by_cases h:p.1 = k
    · rw [if_pos h]
      by_cases e:p.1 = j
      · rw [wC (p:=(p.1,y)) e,wC e,Option.map_some,if_pos (e.symm.trans h)]
      · rw [wD (p:=(p.1,y)) e,wD e,ih]
    · rw [if_neg h]
      by_cases e:p.1 = j
      · rw [wC (p:=p) e,wC e,Option.map_some,if_neg (fun z=>h (e.trans z))]
      · rw [wD (p:=p) e,wD e,ih]
theorem valV_snoc (k j:κ) (y:V):∀ kvs:List (κ × V),zEB kvs k = none→zEB (kvs ++ [(k,y)]) j = if j = k then some y else zEB kvs j
  | [],_=>by
    by_cases e:k = j
    · rw [if_pos e.symm]; exact wC (p:=(k,y)) e
    · rw [if_neg (fun z=>e z.symm)]; exact wD (p:=(k,y)) e
  | p :: r,hn=>by
    rw [List.cons_append]
    have hk:¬ p.1 = k:=fun z=>by rw [wC z] at hn; cases hn
    rw [wD hk] at hn
    have ih:=valV_snoc k j y r hn
    by_cases e:p.1 = j
    · rw [wC e,wC e,if_neg (fun z=>hk (e.trans z))]
    · rw [wD e,wD e,ih]
theorem valV_put (kvs:List (κ × V)) (k j:κ) (y:V):zEB (zC1 kvs k y) j = if j = k then some y else zEB kvs j:=by
  unfold zC1
  by_cases a:(kvs.any fun kv=>decide (kv.1 = k)) = true
  · rw [if_pos a,valV_map]
    rw [zAK] at a
    by_cases e:j = k
    · obtain ⟨x,hx⟩:=Option.isSome_iff_exists.mp a
      rw [if_pos e,e,hx,Option.map_some,if_pos rfl]
    · rw [if_neg e]
      cases zEB kvs j with
      | none=>rfl
      | some x=>rw [Option.map_some,if_neg e]
  · rw [if_neg a]
    refine valV_snoc k j y kvs ?_
    rw [zAK] at a
    cases q:zEB kvs k with
    | none=>rfl
    | some x=>rw [q] at a; exact (a rfl).elim
theorem zIS (kvs:List (κ × V)) (k:κ) (v:V):(zC1 kvs k v).length ≤ kvs.length + 1:=by
  unfold zC1
  split
  · rw [List.length_map]; omega
  · rw [List.length_append,List.length_cons,List.length_nil]; omega
theorem putK_new {kvs:List (κ × V)} {k:κ} (v:V) (h:zEB kvs k = none):zC1 kvs k v = kvs ++ [(k,v)]:=by
  unfold zC1
  rw [zAK,h]
  exact if_neg (by decide)
theorem RelO.isSome_eq {o:Option V} {u:Option Value} (r:RelO o u):o.isSome = u.isSome:=by
  cases o with
  | none=>cases u with
    | none=>rfl
    | some _=>exact (show False from r).elim
  | some _=>cases u with
    | none=>exact (show False from r).elim
    | some _=>rfl
theorem RelO.getD {o:Option V} {u:Option Value} {d:V} {d':Value} (r:RelO o u) (rd:qU d d'):qU (o.getD d) (u.getD d'):=by
  cases o with
  | none=>cases u with
    | none=>exact rd
    | some _=>exact (show False from r).elim
  | some _=>cases u with
    | none=>exact (show False from r).elim
    | some _=>exact r
theorem KV.val {kvs:List (κ × V)} {vs:List (κ × Value)} (r:KV kvs vs) (k:κ):RelO (zEB kvs k) (valueAt vs k):=by
  unfold KV at r
  induction r with
  | nil=>exact True.intro
  | @cons p q ps qs h t ih =>
    obtain ⟨h1,h2⟩:=h
    by_cases e:p.1 = k
    · have e':q.1 = k:=h1.symm.trans e
      have b:valueAt (q :: qs) k = some q.2:=by simp [valueAt,List.find?_cons,e']
      rw [wC e,b]; exact h2
    · have e':¬ q.1 = k:=fun z=>e (h1.trans z)
      have b:valueAt (q :: qs) k = valueAt qs k:=by simp [valueAt,List.find?_cons,e']
      rw [wD e,b]; exact ih
theorem KV.any {kvs:List (κ × V)} {vs:List (κ × Value)} (r:KV kvs vs) (k:κ):(kvs.any fun kv=>decide (kv.1 = k)) = vs.any fun kv=>decide (kv.1 = k):=by
  unfold KV at r
  induction r with
  | nil=>rfl
  | cons h t ih=>rw [List.any_cons,List.any_cons,ih,h.1]
theorem KV.repl {kvs:List (κ × V)} {vs:List (κ × Value)} (r:KV kvs vs) (k:κ) {y:V} {u:Value} (ry:qU y u) :
    KV (kvs.map fun kv=>if kv.1 = k then (kv.1,y) else kv) (vs.map fun kv=>if kv.1 = k then (kv.1,u) else kv):=by
  unfold KV at r ⊢
  induction r with
  | nil=>exact .nil
  | @cons p q ps qs h t ih =>
    rw [List.map_cons,List.map_cons]
    refine .cons ?_ ih
    obtain ⟨h1,h2⟩:=h
    by_cases e:p.1 = k
    · rw [if_pos e,if_pos (h1.symm.trans e)]; exact ⟨h1,ry⟩
    · rw [if_neg e,if_neg (fun z=>e (h1.trans z))]; exact ⟨h1,h2⟩
theorem KV.put {kvs:List (κ × V)} {vs:List (κ × Value)} (r:KV kvs vs) (k:κ) {y:V} {u:Value} (ry:qU y u):KV (zC1 kvs k y) (stored vs k u):=by
  unfold zC1 stored
  rw [r.any k]
  by_cases e:(vs.any fun kv=>decide (kv.1 = k)) = true
  · rw [if_pos e,if_pos e]; exact r.repl k ry
  · rw [if_neg e,if_neg e]; exact Paired.snoc r ⟨rfl,ry⟩
theorem KV.length {kvs:List (κ × V)} {vs:List (κ × Value)} (r:KV kvs vs):kvs.length = vs.length:=Paired.length r
end
theorem kV_is {P:Program} {w:World} {k:Key} {u:Value} (r:qU (kV k) u):(qY P w).is k u = true:=by
  cases k with
  | inl i=>obtain ⟨t,e⟩:=(show ∃ t,u = Value.int i t from r); subst e; exact mixKind_int P w i t
  | inr x=>obtain ⟨t,e⟩:=(show ∃ t,u = Value.str x t from r); subst e; exact mixKind_str P w x t
theorem items_are {P:Program} {w:World}:∀ {ks:List Key} {us:List Value},jS (ks.map kV) us→ItemsAre (qY P w) ks us
  | [],_,r=>by rw [List.map_nil] at r; cases r; exact .nil
  | k :: ks,_,r=>by
    rw [List.map_cons] at r
    cases r with
    | cons h t=>exact .cons (kV_is h) (items_are t)
abbrev KT (H:Hp):List (List Key × V)→List (List Key × Addr × Value)→Prop:=Paired fun p q=>p.1 = q.1∧H q.2.1 = some (.tup (p.1.map kV))∧qU p.2 q.2.2
theorem KT.val {H:Hp} {kvs:List (List Key × V)} {xs:List (List Key × Addr × Value)} (r:KT H kvs xs) (k:List Key):RelO (zEB kvs k) ((atKey xs k).map (·.2)):=by
  induction r with
  | nil=>exact True.intro
  | @cons p q ps qs h t ih =>
    obtain ⟨h1,_,h2⟩:=h
    by_cases e:p.1 = k
    · have e':q.1 = k:=h1.symm.trans e
      have b:atKey (q :: qs) k = some q.2:=by simp [atKey,List.find?_cons,e']
      rw [wC e,b]; exact h2
    · have e':¬ q.1 = k:=fun z=>e (h1.trans z)
      have b:atKey (q :: qs) k = atKey qs k:=by simp [atKey,List.find?_cons,e']
      rw [wD e,b]; exact ih
theorem KT.repl {H:Hp} {kvs:List (List Key × V)} {xs:List (List Key × Addr × Value)} (r:KT H kvs xs) (k:List Key) {y:V} {u:Value} (ry:qU y u) :
    KT H (kvs.map fun kv=>if kv.1 = k then (kv.1,y) else kv) (xs.map (putAt k u)):=by
  induction r with
  | nil=>exact .nil
  | @cons p q ps qs h t ih =>
    rw [List.map_cons,List.map_cons]
    refine .cons ?_ ih
    obtain ⟨h1,h2,h3⟩:=h
    unfold putAt
    by_cases e:p.1 = k
    · rw [if_pos e,if_pos (h1.symm.trans e)]; exact ⟨h1,h2,ry⟩
    · rw [if_neg e,if_neg (fun z=>e (h1.trans z))]; exact ⟨h1,h2,h3⟩
theorem KT.put {H:Hp} {kvs:List (List Key × V)} {xs:List (List Key × Addr × Value)} (r:KT H kvs xs) (k:List Key) {b:Addr} {y:V} {u:Value} (hb:H b = some (.tup (k.map kV))) (ry:qU y u) :
    KT H (zC1 kvs k y) (storedH xs k b u):=by
  have e:(kvs.any fun kv=>decide (kv.1 = k)) = (atKey xs k).isSome:=by
    rw [zAK,(r.val k).isSome_eq,Option.isSome_map]
  unfold zC1 storedH
  rw [e]
  by_cases q:(atKey xs k).isSome = true
  · rw [if_pos q,if_pos q]; exact r.repl k ry
  · rw [if_neg q,if_neg q]; exact Paired.snoc r ⟨rfl,hb,ry⟩
theorem KT.keeps {H H':Hp} {kvs:List (List Key × V)} {xs:List (List Key × Addr × Value)} (r:KT H kvs xs) (ht:∀ b ys,H b = some (.tup ys)→H' b = some (.tup ys)):KT H' kvs xs :=
  Paired.mapP r fun _ _ z=>⟨z.1,ht _ _ z.2.1,z.2.2⟩
section
variable {P:Program} {w:World} {H:Hp} {h:Heap} {a:Addr}
theorem rd_of {u:HO} (ok:HOk P w H h) (e:Rd H a u):zAF P w H h a u:=e.ok ok
theorem dk_rd {kvs:List (Key × V)} (ok:HOk P w H h) (e:Rd H a (.dK kvs)):kvs.length ≤ sizeLine∧(a == sysModules) = false∧∃ vs,KV kvs vs∧h.DictOf (qY P w) a vs :=
  show zAF P w H h a (.dK kvs) from rd_of ok e
theorem dk_of {kvs:List (Key × V)} (ok:HOk P w H h) (e:H a = some (.dK kvs)):kvs.length ≤ sizeLine∧(a == sysModules) = false∧∃ vs,KV kvs vs∧h.DictOf (qY P w) a vs:=dk_rd ok (.inl e)
theorem key_of {ks:List Key} (ok:HOk P w H h) (e:H a = some (.tup (ks.map kV))):(tupleKind (qY P w)).is h ks a:=by
  obtain ⟨_,its,r,o,h1,h2,n,h3⟩:=(show zAF P w H h a (.tup (ks.map kV)) from ok a _ e)
  exact ⟨o,its.toArray,n,h1,h2,h3,by simpa using items_are r⟩
theorem dt_rd {kvs:List (List Key × V)} (ok:HOk P w H h) (e:Rd H a (.dT kvs)):kvs.length ≤ sizeLine∧(a == sysModules) = false ∧
    ∃ xs,KT H kvs xs∧h.DictOfH (tupleKind (qY P w)) a xs:=by
  obtain ⟨z,y,xs,r,o,es,ep,h1,h2,h3,h4,h5⟩:=(show zAF P w H h a (.dT kvs) from rd_of ok e)
  refine ⟨z,y,xs,r,o,es,ep,h1,h2,h3,h4,fun x hx=>?_,h5⟩
  have all:∀ {l:List (List Key × V)} {m:List (List Key × Addr × Value)},KT H l m→∀ x ∈ m,(tupleKind (qY P w)).is h x.1 x.2.1:=by
    intro l m q
    induction q with
    | nil=>intro x hx; exact nomatch hx
    | @cons p q ps qs hq t ih =>
      intro x hx
      rcases List.mem_cons.mp hx with e | hx
      · subst e
        exact key_of ok (by rw [← hq.1]; exact hq.2.1)
      · exact ih x hx
  exact all r x hx
theorem dt_of {kvs:List (List Key × V)} (ok:HOk P w H h) (e:H a = some (.dT kvs)):kvs.length ≤ sizeLine∧(a == sysModules) = false ∧
    ∃ xs,KT H kvs xs∧h.DictOfH (tupleKind (qY P w)) a xs:=dt_rd ok (.inl e)
end
def DGet (H:Hp) (a:Addr) (y:V) (r:Option V):Prop :=
  (∃ kvs k,Rd H a (.dK kvs)∧y = kV k∧r = zEB kvs k)∨∃ kvs k b,Rd H a (.dT kvs)∧y = .ref b∧H b = some (.tup (k.map kV))∧r = zEB kvs k
def DPut (H:Hp) (a:Addr) (y v:V) (H':Hp):Prop :=
  (∃ kvs k,H a = some (.dK kvs)∧y = kV k∧kvs.length < sizeLine∧H' = upd H a (.dK (zC1 kvs k v))) ∨
  ∃ kvs k b,H a = some (.dT kvs)∧y = .ref b∧H b = some (.tup (k.map kV))∧kvs.length < sizeLine∧H' = upd H a (.dT (zC1 kvs k v))
theorem DGet.t {H:Hp} {a b:Addr} {kvs:List (List Key × V)} {k:List Key} (e:H a = some (.dT kvs)) (eb:H b = some (.tup (k.map kV))):DGet H a (.ref b) (zEB kvs k):=.inr ⟨kvs,k,b,.inl e,rfl,eb,rfl⟩
theorem DPut.t {H:Hp} {a b:Addr} {kvs:List (List Key × V)} {k:List Key} {v:V} (e:H a = some (.dT kvs)) (eb:H b = some (.tup (k.map kV))) (hl:kvs.length < sizeLine) :
    DPut H a (.ref b) v (upd H a (.dT (zC1 kvs k v))):=.inr ⟨kvs,k,b,e,rfl,eb,hl,rfl⟩
section
variable {X:Cx} {pins:List (Addr × Obj)} {σ:St} {H:Hp} {s:Shared} {a:Addr} {y v:V} {u r:Value} {o:Option V} {A:Around} {E:Value→Shared→Prop}
theorem Inv.big (I:Inv X pins σ H s):sysModules < s.heap.objs.size:=by
  have h:mainGlobals < s.heap.objs.size:=(I.mod.glob.keeps I.bk).lt
  exact Nat.lt_trans (by decide) h
theorem d_write {h':Heap} {t':Nat} {ob:HO} (I:Inv X pins σ H s) (mu:Mut (H a)) (hs:Heap.SameBut a s.heap h') (he:∃ q,h'.get? a = some q) (new:zAF X.prog X.w (upd H a ob) h' a ob) :
    Inv X pins σ (upd H a ob) { s with heap:=h',toks:=t' } :=
  I.write (x:=a) (e:=a) mu (.inl rfl) (fun b q hb z=>(hs.2 b hb).trans z) he new
theorem dk_new {P:Program} {w:World} {H':Hp} {h':Heap} {kvs:List (Key × V)} {vs:List (Key × Value)} (z:kvs.length ≤ sizeLine) (hd:(a == sysModules) = false) (rel:KV kvs vs) (dd:h'.DictOf (qY P w) a vs) :
    zAF P w H' h' a (.dK kvs):=⟨z,hd,vs,rel,dd⟩
theorem d_setItem {H':Hp} {Q:Unit→Shared→Prop} (hu:A.units + 1 < cLine) (I:Inv X pins σ H s) (g:DPut H a y v H') (ry:qU y u) (rv:qU v r) (h:∀ s',Inv X pins σ H' s'→Q () s') :
    wpAny (model X.prog X.w) A (setItem (.ref a) u r) Q E s:=by
  rcases g with ⟨kvs,k,e,ey,l,eH⟩ | ⟨kvs,k,b,e,ey,eb,l,eH⟩
  · subst ey eH
    obtain ⟨z,hd,vs,rel,dd⟩:=dk_of I.hok e
    have hz:vs.length ≤ sizeLine:=by rw [← rel.length]; exact z
    have hl:(zC1 kvs k v).length ≤ sizeLine:=by have:=zIS kvs k v; omega
    refine wpAny_setItem_pairs (hsz:=hz) (kV_is ry) dd fun h' dd' hs=>h _ ?_
    have he:∃ q,h'.get? a = some q:=let ⟨q,_,_,hq,_⟩:=dd'; ⟨q,hq⟩
    exact d_write I (by rw [e]; exact True.intro) hs he (dk_new hl hd (rel.put k rv) dd')
  · subst ey eH
    cases (show u = Value.ref b from ry)
    obtain ⟨z,hd,xs,rel,dd⟩:=dt_of I.hok e
    have hz:xs.length ≤ sizeLine:=by rw [← Paired.length rel]; exact z
    have hl:(zC1 kvs k v).length ≤ sizeLine:=by have:=zIS kvs k v; omega
    refine wpAny_setItem_heap (hsz:=hz) (tupleKind_room_in1 hu) (key_of I.hok eb) dd fun h' dd' hs=>h _ ?_
    obtain ⟨q,es,ep,hq,h2,h3,h4,_,h5⟩:=dd'
    refine d_write I (by rw [e]; exact True.intro) hs ⟨q,hq⟩ ⟨hl,hd,_,(rel.put k eb rv).keeps fun c ys ec=>?_,q,es,ep,hq,h2,h3,h4,h5⟩
    rw [zV (jC ec e (fun z=>nomatch z))]
    exact ec
end
section
variable {X:Cx} {pins:List (Addr × Obj)} {σ:St} {H:Hp} {s:Shared} {a:Addr} {kvs:List (Key × V)} {k:Key} {u:Value} {A:Around} {E:Value→Shared→Prop}
end
def sDPut (td ty tv:TE):TS:=fun D σ H=>tv σ H fun v H1=>td σ H1 fun x H2=>ty σ H2 fun y H3=>∃ a H4,x = .ref a∧DPut H3 a y v H4∧D.nx σ H4
section
variable {X:Cx} {o i e value:Expr} {pos pos' tpos:Pos} {td ty tv:TE}
theorem ps_dput (hu:X.A.units + 1 < cLine) (ho:PE X o td) (hi:PE X i ty) (hv:PE X value tv) (hs:swapsWith value (some (.Subscript o i pos')) pos.line X.env = pure false) :
    PS X (.Assign [.Subscript o i pos'] value pos) (sDPut td ty tv):=by
  intro pins s σ H D I h
  refine wpAny_Assign_Subscript (thn (hv pins s σ H _ I h) fun r s1 ⟨v,H1,I1,rv,q1⟩=>thn (ho pins s1 σ H1 _ I1 q1) fun u s2 ⟨x,H2,I2,rx,q2⟩=>thn (hi pins s2 σ H2 _ I2 q2) fun iv s3 ⟨y,H3,I3,ry,a,H4,ex,g,q3⟩=>?_) hs
  subst ex
  obtain rfl:u = Value.ref a:=rx
  exact d_setItem hu I3 g ry rv fun s4 I4=>⟨σ,H4,I4,q3⟩
end
theorem dt_empty {P:Program} {w:World} {H:Hp} (h:Heap) (hb:sysModules < h.objs.size):zAF P w H (h.push { cls:=.type "dict", data:=.dict #[] }) h.objs.size (.dT []) :=
  ⟨Nat.zero_le _,beq_eq_false_iff_ne.mpr (Ne.symm (Nat.ne_of_lt hb)),[],.nil,_,#[],0,Heap.get?_push_size _ rfl,⟨rfl,rfl,rfl⟩,rfl,rfl,List.nodup_nil⟩
def tDNewT:TE:=fun _ H Q=>∀ p,H p = none→Q (.ref p) (upd H p (.dT []))
section
variable {X:Cx} {pos:Pos}
theorem pe_dnewT:PE X (.Dict [] [] pos) tDNewT:=fun pins s σ H Q I h =>
  wpAny_Dict_empty ⟨.ref s.heap.objs.size,_,I.laid (a:=s.heap.objs.size) (o:=.dT []) (t':=s.toks) (fun _ _ q=>Heap.get?_push_of_some _ q) (Nat.le_refl _) (dt_empty s.heap I.big),rfl,h _ (I.hok.fresh (Nat.le_refl _))⟩
end
structure M2 (X:Cx) (o:Expr) (m:Str) (apos:Pos) (e f:Expr) (cpos:Pos):Prop where
  base:attributeBase o m X.env (eval o X.env) = eval o X.env
  few:((backTo cpos (starEach [e,f] X.env)).all (fun x=>!x.1) && (backToKw cpos (keywordEach [] X.env)).all (fun x=>x.1.isSome)
    && decide (([e,f]:List Expr).length + ([]:List Keyword).length + (if ([]:List Keyword).isEmpty then 0 else 1) < 30)) = true
  line:(apos.endLine == cpos.line) = true
  trees:backTo cpos (starEach [e,f] X.env) = [(false,eval e X.env),(false,eval f X.env)]
def IsD (H:Hp) (a:Addr):Prop:=(∃ kvs,Rd H a (.dK kvs))∨∃ kvs,Rd H a (.dT kvs)
theorem isD_at {X:Cx} {pins:List (Addr × Obj)} {σ:St} {H:Hp} {s:Shared} {a:Addr} (I:Inv X pins σ H s) (d:IsD H a) :
    s.TypeIs (.ref a) "dict" ∧ (∀ b,Value.ref a = .ref b→∃ ob,s.heap.get? b = some ob∧ob.dict = none)∧(a == sysModules) = false:=by
  rcases d with ⟨kvs,e⟩ | ⟨kvs,e⟩
  · obtain ⟨_,hd,vs,_,dd⟩:=dk_rd I.hok e
    refine ⟨dd.typeIs,fun b q=>?_,hd⟩
    cases q
    obtain ⟨ob,_,_,h1,h2,_⟩:=dd
    exact ⟨ob,h1,h2.2.1⟩
  · obtain ⟨_,hd,xs,_,dd⟩:=dt_rd I.hok e
    refine ⟨dd.typeIs,fun b q=>?_,hd⟩
    cases q
    obtain ⟨ob,_,_,h1,h2,_⟩:=dd
    exact ⟨ob,h1,h2.2.1⟩
section
variable {X:Cx} {pins:List (Addr × Obj)} {σ:St} {H:Hp} {s:Shared} {a:Addr} {y d:V} {u r:Value} {o:Option V} {A:Around} {E:Value→Shared→Prop}
theorem d_get2 {Q:Value→Shared→Prop} (hu:A.units + 1 < cLine) (I:Inv X pins σ H s) (g:DGet H a y o) (ry:qU y u) (rd:qU d r) (h:∀ w' s',Inv X pins σ H s'→qU (o.getD d) w'→Q w' s') :
    wpAny (model X.prog X.w) A (call (.builtin "dict.get") [.ref a,u,r]) Q E s:=by
  rcases g with ⟨kvs,k,e,ey,l⟩ | ⟨kvs,k,b,e,ey,eb,l⟩
  · subst ey
    obtain ⟨z,hd,vs,rel,dd⟩:=dk_rd I.hok e
    refine call_meetsIn PySem.F.slot_dict_get dd.typeIs PySem.F.entry_dict_get (PySem.F.args_dict_get_3 _ _ _) (meets_dict_get_default (qY X.prog X.w) a (kV_is ry) hd r) ⟨_,dd.mapOf,h _ _ (I.tok _) ?_⟩
    rw [l]
    exact (rel.val k).getD rd
  · subst ey
    cases (show u = Value.ref b from ry)
    obtain ⟨z,hd,xs,rel,dd⟩:=dt_rd I.hok e
    refine call_meetsIn PySem.F.slot_dict_get dd.typeIs PySem.F.entry_dict_get (PySem.F.args_dict_get_3 _ _ _) (meetsH_dict_get_default (tupleKind (qY X.prog X.w)) a b hd r) ⟨tupleKind_room_in1 hu,k,xs,key_of I.hok eb,dd,h _ _ (I.tok _) ?_⟩
    rw [l]
    exact (rel.val k).getD rd
end
def tDGet2 (td ty tx:TE):TE:=fun σ H Q=>td σ H fun x H1=>∃ a,x = .ref a∧IsD H1 a∧ty σ H1 fun y H2=>tx σ H2 fun z H3=>∃ o,DGet H3 a y o∧Q (o.getD z) H3
section
variable {X:Cx} {o e f:Expr} {apos cpos:Pos} {td ty tx:TE}
theorem pe_dget2 (hu:X.A.units + 1 < cLine) (ho:PE X o td) (he:PE X e ty) (hf:PE X f tx) (m:M2 X o "get" apos e f cpos):PE X (.Call (.Attribute o "get" apos) [e,f] [] cpos) (tDGet2 td ty tx):=by
  intro pins s σ H Q I h
  refine wpAny_Call_method m.base m.few m.line PySem.F.plainAttrs_dict PySem.F.slot_dict_get PySem.F.type_dict_get (thn (ho pins s σ H _ I h) fun u s1 ⟨x,H1,I1,rx,a,ex,d,q1⟩=>?_)
  subst ex
  obtain rfl:u = Value.ref a:=rx
  obtain ⟨t1,t2,_⟩:=isD_at I1 d
  refine ⟨t1,t2,?_⟩
  rw [m.trees]
  refine Calls.callWith_builtin rfl (Calls.evalArgs_plain (Calls.spliced_cons (thn (he pins s1 σ H1 _ I1 q1) fun iv s2 ⟨y,H2,I2,ry,q2⟩ =>
    Calls.spliced_cons (thn (hf pins s2 σ H2 _ I2 q2) fun fv s3 ⟨z,H3,I3,rz,ov,g,q3⟩=>Calls.spliced_nil ?_))))
  exact d_get2 hu I3 g ry rz fun w' s4 I4 rw'=>⟨_,H3,I4,rw',q3⟩
end
section
variable {X:Cx} {pins:List (Addr × Obj)} {σ:St} {H:Hp} {s:Shared} {a:Addr} {kvs:List (Key × V)} {A:Around} {E:Value→Shared→Prop}
end
section
variable {X:Cx} {pins:List (Addr × Obj)} {σ:St} {H:Hp} {s:Shared} {a:Addr} {y:V} {u:Value} {A:Around} {E:Value→Shared→Prop}
end
end L2
namespace L2
open PySem PySem.Spec PyProof.Rows
section
variable {prog:Program} {w:World} {A:Around} {E:Value→Shared→Prop}
end
section
variable {X:Cx}
end
end L2
namespace L2
open PySem PySem.Spec PyProof.Rows
section
variable {X:Cx} {pins:List (Addr × Obj)} {σ:St} {H:Hp} {s:Shared} {h':Heap}
theorem Inv.turnedL {t':Nat} {ch:List Addr} (I:Inv X pins σ H s) (k:∀ b o,b ∉ ch→s.heap.get? b = some o→h'.get? b = some o) (hf:∀ b ∈ ch,FpOk X pins H b):Inv X pins σ H { s with heap:=h',toks:=t' }:=by
  have nit:∀ b u,H b = some u→b ∉ ch:=fun b u e z=>by
    have q:=(hf b z).1
    rw [q] at e; cases e
  refine I.step (g':=s.gens) (d':=s.drawn) (ch:=ch) (fun b hb=>⟨(hf b hb).2.2.2.1,(hf b hb).2.1,(hf b hb).2.2.2.2.1,(hf b hb).2.2.2.2.2⟩) (fun b o _ _ hc e _=>k b o hc e) (fun b o _ _ hc e _=>⟨o.slots,k b o hc e⟩)
    (fun _ _ _ _ n=>n) (fun b o hc e=>⟨o,k b o hc e⟩) (fun _ _ e=>e) (fun _ _ _ e=>e) (fun _ _ e=>e) (fun m hm=>?_) (fun b u e=>?_) I.bare
  · obtain ⟨o,es,ep,ho,r⟩:=hm
    exact ⟨o,es,ep,k _ o (fun z=>(hf _ z).2.1 rfl) ho,r⟩
  · refine (I.hok b u e).stay (fun c v hc q=>k c v ?_ q) (fun _ q=>q) fun _ _ q=>q
    rcases hc with z | z
    · rw [z]; exact nit b u e
    · exact nit c _ z
theorem Inv.turnedNew {t':Nat} {ch:List Addr} {T:Addr} {ob:HO} (I:Inv X pins σ H s) (k:∀ b o,b ∉ ch→s.heap.get? b = some o→h'.get? b = some o) (hf:∀ b ∈ ch,FpOk X pins H b) (hT:s.heap.objs.size ≤ T)
    (new:zAF X.prog X.w (upd H T ob) h' T ob):Inv X pins σ (upd H T ob) { s with heap:=h',toks:=t' }:=by
  have hn:H T = none:=I.hok.fresh hT
  have nit:∀ b u,H b = some u→b ∉ ch:=fun b u e z=>by
    have q:=(hf b z).1
    rw [q] at e; cases e
  refine I.step (g':=s.gens) (d':=s.drawn) (ch:=ch) (fun b hb=>⟨(hf b hb).2.2.2.1,(hf b hb).2.1,(hf b hb).2.2.2.2.1,(hf b hb).2.2.2.2.2⟩) (fun b o _ _ hc e _=>k b o hc e) (fun b o _ _ hc e _=>⟨o.slots,k b o hc e⟩)
    (fun b o _ e n=>?_) (fun b o hc e=>⟨o,k b o hc e⟩) (fun b xs e=>?_) (fun b o u e=>?_) (fun b ps e=>?_) (fun m hm=>?_) (fun b u e=>?_) I.bare
  · rw [zV (Nat.ne_of_lt (Nat.lt_of_lt_of_le (Heap.lt_size e) hT))]; exact n
  · rw [zV (zM e hn)]; exact e
  · rw [zV (zM e hn)]; exact e
  · rw [zV (zM e hn)]; exact e
  · obtain ⟨o,es,ep,ho,r⟩:=hm
    exact ⟨o,es,ep,k _ o (fun z=>(hf _ z).2.1 rfl) ho,r⟩
  · by_cases hb:b = T
    · subst hb
      rw [zF] at e
      cases e
      exact new
    · rw [zV hb] at e
      refine (I.hok b u e).stay (fun c v hc q=>k c v ?_ q) (fun c q=>by rw [zV (zM q hn)]; exact q) fun c xs q=>by rw [zV (zM q hn)]; exact q
      rcases hc with z | z
      · rw [z]; exact nit b u e
      · exact nit c _ z
end
section
variable {X:Cx}
end
section
variable {X:Cx} {tg:Expr}
end
section
variable {X:Cx} {tg:Expr}
end
section
variable {prog:Program} {w:World} {A:Around} {E:Value→Shared→Prop} {s:Shared}
end
section
variable {X:Cx} {pins:List (Addr × Obj)} {σ:St} {H:Hp} {s:Shared} {d:Addr} {o:Obj}
end
section
variable {P:Program} {w:World} {K:PySem.W.Frag} {tg:Expr} {d:Addr} {o:Obj} {es:Array DictEntry} {ep:Nat}
end
section
variable {X:Cx} {tg e:Expr} {td:TE} {apos cpos:Pos}
end
theorem boot_zip5:bootBuiltins "zip" = some (.type "zip"):=by decide +kernel
end L2
section
namespace Bits
open PySem PyProof.Rows
end Bits
end
section
namespace TL
open PySem PySem.Builtin PySem.Builtin.Str PySem.StrLaws
end TL
end
namespace L2
open PySem PySem.Spec PyProof.Rows
section
variable {X:Cx} {pins:List (Addr × Obj)} {σ:St} {H:Hp} {s:Shared} {Q:VK}
end
section
variable {X:Cx}
end
section
variable {X:Cx} {o e:Expr} {to te:TE}
end
end L2
namespace L2
open PySem PySem.Spec PyProof.Rows
section
variable {X:Cx}
end
end L2
namespace Att
open PySem PySem.W PySem.Calls PyProof.Rows
section
variable {prog:Program} {w:World} {A:Around} {E:Value→Shared→Prop} {s:Shared} {K:Frag}
end
end Att
namespace L2
open PySem PySem.Spec PyProof.Rows
end L2
namespace L2
open PySem PySem.Spec PyProof.Rows
def xM (s:Stmt) (j:Nat):Stmt:=match s with
  | .ClassDef _ _ _ body _ _ _ _ _ _ _=>body.getD j (.Pass ⟨0,0,0,0⟩)
  | _=>.Pass ⟨0,0,0,0⟩
def qC (s:Stmt):Arguments:=match s with
  | .FunctionDef _ a _ _ _ _ _ _ _ _=>a
  | _=>{ posonlyargs:=[],args:=[],vararg:=none,kwonlyargs:=[],kw_defaults:=[],kwarg:=none,defaults:=[] }
def jR (s:Stmt):List Stmt:=match s with
  | .FunctionDef _ _ b _ _ _ _ _ _ _=>b
  | _=>[]
def zK (s:Stmt):Scope:=match s with
  | .FunctionDef _ _ _ _ _ _ sc _ _ _=>sc
  | _=>{ kind:=.function,names:=[],isGenerator:=false,isCoroutine:=false }
abbrev CX0:CXT:=fun _ _ _ _ _ _=>False
abbrev E0:XK:=fun _ _ _=>False
theorem yD {X:Cx}:zHB CX0 X E0:=fun _ _ _ _ _ _ _ h=>h.elim
structure Fun (K:PySem.W.Frag) (x qual:Str) (st:Stmt) (f:Addr) (fd:FuncData):Prop where
  ex:∃ (oc:Value) (od:Option Addr) (kV doc pm:Value) (an:Option Addr) (cdv ct:Value) (osl:Array (Option Value)),
    fd = PySem.W.fnOf x qual (qC st) (jR st) (zK st) .none kV doc pm an cdv ct∧K.lookup f = some ⟨oc,od,.func fd,osl⟩∧PySem.W.codeIn K cdv qual = true
  kp:PySem.W.keepIn K (.ref f) = true
section
variable {P:Program} {w:World} {K:PySem.W.Frag} {mg:Str→Option Value} {base:Heap}
theorem Fun.ok {x qual:Str} {st:Stmt} {f:Addr} {fd:FuncData} {N ps:List Str} {k:Nat} {sp:Sp} (F:Fun K x qual st f fd) (S:zS N ps (zK st)) (len:∀ vs H Q E,sp vs H Q E→vs.length = ps.length)
    (hbody:∀ (cdv:Value) (A:Around) (outer:List Env) (s:Shared) (H:Hp) (vs:List V) (Q:VK) (E:XK),zB7 k (A.deeper (envOfC qual (zK st) s.heap.objs.size f cdv))→sp vs H Q E →
      ∃ t,PSs (cxOf CX0 P w K mg base N qual (zK st) f cdv A outer s H E).nox (jR st) t∧t { nx:=fun _ H'=>Q .non H',rt:=Q } (start N vs) H):qL P w K mg base CX0 (k + 1) f fd ps sp:=by
  obtain ⟨oc,od,kV,doc,pm,an,cdv,ct,osl,rfl,lk,hcd⟩:=F.ex
  refine fn_of lk hcd S len fun A outer s H vs Q E hr hsp=>?_
  obtain ⟨t,h,q⟩:=hbody cdv A outer s H vs Q E hr hsp
  exact ⟨t,h.nox,q⟩
theorem Fun.binds {x qual:Str} {st:Stmt} {f:Addr} {fd:FuncData} {ps:List Str} (F:Fun K x qual st f fd)
    (h:∀ (kV doc pm:Value) (an:Option Addr) (cdv ct:Value) (us:List Value),us.length = ps.length→bindArgs (PySem.W.fnOf x qual (qC st) (jR st) (zK st) .none kV doc pm an cdv ct) ⟨us,[]⟩ = pure (ps.zip us)):zGW K fd ps []:=by
  obtain ⟨oc,od,kV,doc,pm,an,cdv,ct,osl,rfl,lk,hcd⟩:=F.ex
  exact .all (h kV doc pm an cdv ct)
theorem zEJ {x qual:Str} {st:Stmt} {f:Addr} {oc:Value} {od an:Option Addr} {osl:Array (Option Value)} {kV doc pm cdv ct:Value} (l:K.lookup f = some ⟨oc,od,.func (PySem.W.fnOf x qual (qC st) (jR st) (zK st) .none kV doc pm an cdv ct),osl⟩)
    (c:PySem.W.codeIn K cdv qual = true) (k:PySem.W.keepIn K (.ref f) = true):Fun K x qual st f (PySem.W.fnOf x qual (qC st) (jR st) (zK st) .none kV doc pm an cdv ct):=⟨⟨oc,od,kV,doc,pm,an,cdv,ct,osl,rfl,l,c⟩,k⟩
end
theorem hu_of {A:Around} {k:Nat} (hr:zB7 k A):A.units + 1 < cLine:=Nat.lt_of_le_of_lt (Nat.add_le_add_left (by decide:1 ≤ 64) _) hr.units
section
variable {X:Cx}
theorem pv (i:Nat) {x:Str} {pos:Pos} (hN:X.N[i]? = some x:=by rfl) (hv:Vis X.env.scope x:=by first | exact Or.inl rfl | exact Or.inr (Or.inl rfl) | exact Or.inr (Or.inr rfl)) (hd:(x == ("__debug__" : Str)) = false:=by decide)
    (hcd:(x == ("__classdict__" : Str)) = false:=by decide):PE X (.Name x pos) (zD4 i):=pe_var hN hv hd hcd
end
theorem iteF {A B:Prop} (h:B):if false = true then A else B:=by
  rw [if_neg Bool.false_ne_true]
  exact h
theorem iteT {A B:Prop} (h:A):if true = true then A else B:=by
  rw [if_pos rfl]
  exact h
theorem ite2 {c A B:Prop} [Decidable c] (h1:c→A) (h2:¬ c→B):if c then A else B:=by
  by_cases h:c
  · rw [if_pos h]
    exact h1 h
  · rw [if_neg h]
    exact h2 h
def zG (H H':Hp):Prop:=∀ b o,H b = some o→H' b = some o
theorem zG.refl (H:Hp):zG H H:=fun _ _ h=>h
theorem zG.trans {H H1 H2:Hp} (a:zG H H1) (b:zG H1 H2):zG H H2:=fun c o h=>b c o (a c o h)
theorem zG.free {H H':Hp} (e:zG H H') {l:Addr} (h:H' l = Option.none):H l = Option.none:=by
  cases q:H l with
  | none=>rfl
  | some o =>
    rw [e l o q] at h
    cases h
theorem zG.seq {K:PySem.W.Frag} {H H':Hp} {a:Addr} {xs:List V} (e:zG H H') (h:SqL K H a xs):SqL K H' a xs:=by
  rcases h with (h | ⟨o,h⟩) | h
  · exact .inl (.inl (e _ _ h))
  · exact .inl (.inr ⟨o,e _ _ h⟩)
  · exact .inr h
section
variable {κ:Type} [DecidableEq κ]
theorem valV_not {kvs:List (κ × V)} {k:κ} (h:zEB kvs k = none):¬ k ∈ kvs.map (·.1):=by
  intro m
  obtain ⟨p,hp,e⟩:=List.mem_map.mp m
  have q:(kvs.any fun kv=>decide (kv.1 = k)) = true:=List.any_eq_true.mpr ⟨p,hp,decide_eq_true e⟩
  rw [zAK,h] at q
  exact absurd q (by simp)
theorem valV_in {kvs:List (κ × V)} {k:κ} {v:V} (h:zEB kvs k = some v):k ∈ kvs.map (·.1):=by
  have q:(kvs.any fun kv=>decide (kv.1 = k)) = true:=by
    rw [zAK,h]
    all_goals rfl
  obtain ⟨p,hp,e⟩:=List.any_eq_true.mp q
  exact List.mem_map.mpr ⟨p,hp,of_decide_eq_true e⟩
theorem nd_snoc:∀ {l:List κ} {k:κ},l.Nodup→¬ k ∈ l→(l ++ [k]).Nodup
  | [],k,_,_=>by simp
  | a :: r,k,h,hk=>by
    obtain ⟨h1,h2⟩:=List.nodup_cons.mp h
    show (a :: (r ++ [k])).Nodup
    refine List.nodup_cons.mpr ⟨fun m=>?_,nd_snoc h2 fun m=>hk (List.mem_cons.mpr (Or.inr m))⟩
    rcases List.mem_append.mp m with q | q
    · exact h1 q
    · exact hk (List.mem_cons.mpr (Or.inl (List.mem_singleton.mp q).symm))
theorem nd_putK {kvs:List (κ × V)} {k:κ} (v:V) (hn:(kvs.map (·.1)).Nodup) (h:zEB kvs k = none):((zC1 kvs k v).map (·.1)).Nodup:=by
  rw [putK_new v h,List.map_append]
  exact nd_snoc hn (valV_not h)
end
theorem at_of {xs:List V} {z:Int} {j:Nat} {v:V} (e:z = (j:Int)) (h:xs[j]? = some v):atI xs z = some v:=by
  rw [e]
  exact atI_nat h
end L2
section
set_option maxHeartbeats 2000000
namespace L2
open PySem PySem.Spec PyProof.Rows
open PySem.W (WData Codec OpenSpec Well WellAll ReadsW ReadsAllW)
mutual
inductive Dw (K:PySem.W.Frag) (H:Hp):V→WData→Prop
  | non:Dw K H .non .none
  | bl (b:Bool):Dw K H (.bl b) (.bool b)
  | int (i:Int):Dw K H (.int i) (.int i)
  | str (x:Str):Dw K H (.str x) (.str x)
  | byt (b:Array UInt8):Dw K H (.byt b) (.bytes b.toList)
  | lst {a:Addr} {xs:List V} {ds:List WData}:SqL K H a xs→zC3 K H xs ds→Dw K H (.ref a) (.list ds)
  | tup {a:Addr} {xs:List V} {ds:List WData}:SqT K H a xs→zC3 K H xs ds→Dw K H (.ref a) (.tuple ds)
inductive zC3 (K:PySem.W.Frag) (H:Hp):List V→List WData→Prop
  | nil:zC3 K H [] []
  | cons {v:V} {vs:List V} {d:WData} {ds:List WData}:Dw K H v d→zC3 K H vs ds→zC3 K H (v :: vs) (d :: ds)
end
theorem dw_ints {K:PySem.W.Frag} {H:Hp}:∀ ns:List Int,zC3 K H (ns.map V.int) (ns.map WData.int)
  | []=>.nil
  | n :: r=>.cons (.int n) (dw_ints r)
theorem ints_dw {K:PySem.W.Frag} {H:Hp}:∀ (ns:List Int) (xs:List V),zC3 K H xs (ns.map WData.int)→xs = ns.map V.int
  | [],xs,h=>by
    cases h
    rfl
  | n :: r,xs,h=>by
    cases h with
    | cons h1 h2 =>
      cases h1
      rw [ints_dw r _ h2] <;> rfl
section
variable {P:Program} {w:World} {K:PySem.W.Frag} {H:Hp} {h:Heap} {R:PySem.W.WRecords} {cl:Str→Option Addr}
theorem sqL_at {a:Addr} {xs:List V} (hok:HOk P w H h) (KX:K.In h) (q:SqL K H a xs):∃ (its:List Value) (o:Obj) (n:Nat),jS xs its∧h.get? a = some o∧o.cls = .type "list" ∧ o.data = .seq its.toArray n:=by
  rcases q with q | ⟨o,its,n,e,hc,_,hd,_,hv⟩
  · obtain ⟨_,its,n,hv,e⟩:=(show zAF P w H h a (.lst xs) from q.ok hok)
    exact ⟨its,_,n,hv,e,rfl,rfl⟩
  · exact ⟨its.toList,o,n,hv,KX _ _ e,hc,by simp [hd]⟩
theorem sqT_at {a:Addr} {xs:List V} (hok:HOk P w H h) (KX:K.In h) (q:SqT K H a xs):∃ (its:List Value) (o:Obj) (n:Nat),jS xs its∧h.get? a = some o∧o.cls = .type "tuple" ∧ o.data = .seq its.toArray n:=by
  rcases q with q | ⟨o,its,n,e,hc,hd,_,hv⟩
  · obtain ⟨_,its,hv,o,e,hc,n,hd⟩:=(show zAF P w H h a (.tup xs) from q.ok hok)
    exact ⟨its,o,n,hv,e,hc,hd⟩
  · exact ⟨its.toList,o,n,hv,KX _ _ e,hc,by simp [hd]⟩
mutual
theorem Dw.reads (hok:HOk P w H h) (KX:K.In h):∀ (d:WData) (v:V) (u:Value),Dw K H v d→qU v u→∃ as,ReadsW R cl h u d as
  | .none,_,_,x,r=>by
    cases x
    cases r
    exact ⟨_,ReadsW.none⟩
  | .bool b,_,_,x,r=>by
    cases x
    cases r
    exact ⟨_,ReadsW.bool b⟩
  | .int i,_,_,x,r=>by
    cases x
    obtain ⟨t,rfl⟩:=r
    exact ⟨_,ReadsW.int i t⟩
  | .str s,_,_,x,r=>by
    cases x
    obtain ⟨t,rfl⟩:=r
    exact ⟨_,ReadsW.str s t⟩
  | .bytes b,_,_,x,r=>by
    cases x
    obtain ⟨t,rfl⟩:=r
    exact ⟨_,ReadsW.bytes _ t⟩
  | .list ds,_,_,x,r=>by
    cases x with
    | lst hs ha =>
      cases r
      obtain ⟨its,o,n,rv,ho,hc,hd⟩:=sqL_at hok KX hs
      obtain ⟨as,hr⟩:=Dw.readsAll hok KX ds _ its ha rv
      exact ⟨_,ReadsW.list ho hc hd hr⟩
  | .tuple ds,_,_,x,r=>by
    cases x with
    | tup hs ha =>
      cases r
      obtain ⟨its,o,n,rv,ho,hc,hd⟩:=sqT_at hok KX hs
      obtain ⟨as,hr⟩:=Dw.readsAll hok KX ds _ its ha rv
      exact ⟨_,ReadsW.tuple ho hc hd hr⟩
  | .float _,_,_,x,_=>by cases x
  | .dict _,_,_,x,_=>by cases x
  | .bytearray _,_,_,x,_=>by cases x
  | .set _,_,_,x,_=>by cases x
  | .frozenset _,_,_,x,_=>by cases x
  | .obj _ _,_,_,x,_=>by cases x
theorem Dw.readsAll (hok:HOk P w H h) (KX:K.In h):∀ (ds:List WData) (vs:List V) (us:List Value),zC3 K H vs ds→jS vs us→∃ as,ReadsAllW R cl h us ds as
  | [],_,_,x,r=>by
    cases x
    cases r
    exact ⟨_,ReadsAllW.nil⟩
  | d :: ds,_,_,x,r=>by
    cases x with
    | cons h1 h2 =>
      cases r with
      | cons r1 r2 =>
        obtain ⟨as,q1⟩:=Dw.reads hok KX d _ _ h1 r1
        obtain ⟨bs,q2⟩:=Dw.readsAll hok KX ds _ _ h2 r2
        exact ⟨_,ReadsAllW.cons q1 q2⟩
end
end
mutual
def plW:WData→Bool
  | .none=>true
  | .bool _=>true
  | .int _=>true
  | .str _=>true
  | .bytes _=>true
  | .list xs=>plWs xs
  | .tuple xs=>plWs xs
  | _=>false
def plWs:List WData→Bool
  | []=>true
  | x :: r=>plW x && plWs r
end
theorem plWs_map {α:Type} {f:α→WData} (h:∀ a,plW (f a) = true):∀ l:List α,plWs (l.map f) = true
  | []=>rfl
  | x :: r=>by
    show (plW (f x) && plWs (r.map f)) = true
    rw [h x,plWs_map h r] <;> rfl
theorem zG3:∀ (c:Codec) (a:c.denote),plW (c.enc a) = true
  | .unit,_=>rfl
  | .bool,_=>rfl
  | .int _ _,_=>rfl
  | .nat _ _,_=>rfl
  | .u8,_=>rfl
  | .bytes _ _,_=>rfl
  | .text _ _ _ _,_=>rfl
  | .list _ _ c,a=>plWs_map (fun x=>zG3 c x) a
  | .pair c d,a=>by
    show (plW (c.enc a.1) && (plW (d.enc a.2) && true)) = true
    rw [zG3 c a.1,zG3 d a.2] <;> rfl
  | .triple c d e,a=>by
    show (plW (c.enc a.1) && (plW (d.enc a.2.1) && (plW (e.enc a.2.2) && true))) = true
    rw [zG3 c a.1,zG3 d a.2.1,zG3 e a.2.2] <;> rfl
  | .option c,none=>rfl
  | .option c,some x=>zG3 c x
theorem pl_encAll:∀ (cs:List Codec) (a:Codec.denoteAll cs),plWs (Codec.encAll cs a) = true
  | [],_=>rfl
  | c :: cs,a=>by
    show (plW (c.enc a.1) && plWs (Codec.encAll cs a.2)) = true
    rw [zG3 c a.1,pl_encAll cs a.2] <;> rfl
theorem zF2:∀ {xs:List WData} {d:WData},d ∈ xs→d.weight ≤ WData.weightAll xs
  | [],d,h=>absurd h (by simp)
  | x :: r,d,h=>by
    show d.weight ≤ x.weight + 1 + WData.weightAll r
    rcases List.mem_cons.mp h with e | m
    · rw [e]
      omega
    · have z:=zF2 m
      omega
def toV:Value→V
  | .none=>.non
  | .bool b=>.bl b
  | .int i _=>.int i
  | .str x _=>.str x
  | .bytes b _=>.byt b
  | .ref a=>.ref a
  | _=>.non
def OkU (A:List Addr):Value→Prop
  | .none=>True
  | .bool _=>True
  | .int _ _=>True
  | .str _ _=>True
  | .bytes _ _=>True
  | .ref a=>a ∈ A
  | _=>False
theorem OkU.mono {A B:List Addr} (h:∀ a ∈ A,a ∈ B):∀ {u:Value},OkU A u→OkU B u:=fun {u} x=>by
  cases u with
  | ref a=>exact h a x
  | none=>trivial
  | bool b=>trivial
  | int i t=>trivial
  | str s t=>trivial
  | bytes b t=>trivial
  | _=>exact False.elim x
theorem relV_toV {A:List Addr} {u:Value} (x:OkU A u):qU (toV u) u:=by
  cases u with
  | ref a=>rfl
  | none=>rfl
  | bool b=>rfl
  | int i t=>exact ⟨t,rfl⟩
  | str s t=>exact ⟨t,rfl⟩
  | bytes b t=>exact ⟨t,rfl⟩
  | _=>exact False.elim x
theorem zDW {A:List Addr}:∀ {vs:List Value},(∀ u ∈ vs,OkU A u)→jS (vs.map toV) vs
  | [],_=>.nil
  | u :: r,h=>.cons (relV_toV (h u (List.mem_cons_self ..))) (zDW fun x hx=>h x (List.mem_cons_of_mem _ hx))
def zHK (h:Heap) (A:List Addr) (a:Addr):Prop:=∃ vs:List Value,vs.length ≤ sizeLine∧(∀ u ∈ vs,OkU A u) ∧
  (h.get? a = some { cls:=.type "list", data:=.seq vs.toArray }∨h.get? a = some { cls:=.type "tuple", data:=.seq vs.toArray })
theorem zHK.mono {h:Heap} {A B:List Addr} {a:Addr} (k:∀ a ∈ A,a ∈ B) (x:zHK h A a):zHK h B a:=by
  obtain ⟨vs,h1,h2,h3⟩:=x
  exact ⟨vs,h1,fun u hu=>(h2 u hu).mono k,h3⟩
theorem zB8 {P:Params} {h:Heap}:∀ {vs:List Value} {ds:List WData},WellAll P h vs ds→vs.length = ds.length
  | _,_,.nil=>rfl
  | _,_,.cons _ b=>by
    show _ + 1 = _ + 1
    rw [zB8 b]
theorem well_list {P:Params} {h:Heap} {v:Value} {ds:List WData} (x:Well P h v (.list ds)):∃ (a:Addr) (vs:List Value),v = .ref a∧h.get? a = some { cls:=.type "list", data:=.seq vs.toArray }∧WellAll P h vs ds:=by
  cases x with
  | list ho hall=>exact ⟨_,_,rfl,ho,hall⟩
theorem well_tuple {P:Params} {h:Heap} {v:Value} {ds:List WData} (x:Well P h v (.tuple ds)):∃ (a:Addr) (vs:List Value),v = .ref a∧h.get? a = some { cls:=.type "tuple", data:=.seq vs.toArray }∧WellAll P h vs ds:=by
  cases x with
  | tuple ho hall=>exact ⟨_,_,rfl,ho,hall⟩
theorem well_cons {P:Params} {h:Heap} {us:List Value} {d:WData} {ds:List WData} (x:WellAll P h us (d :: ds)):∃ (v:Value) (vs:List Value),us = v :: vs∧Well P h v d∧WellAll P h vs ds:=by
  cases x with
  | cons a b=>exact ⟨_,_,rfl,a,b⟩
theorem line_of {n:Nat} (h:n ≤ 1048576):n ≤ sizeLine:=Nat.le_trans h (by decide)
section
variable {P:Params} {h:Heap}
mutual
theorem area_one:∀ (d:WData) (v:Value),Well P h v d→plW d = true→d.weight ≤ 1048576→∃ A:List Addr,OkU A v∧∀ a ∈ A,zHK h A a
  | .none,_,x,_,_=>by
    cases x
    exact ⟨[],trivial,fun a m=>absurd m (by simp)⟩
  | .bool b,_,x,_,_=>by
    cases x
    exact ⟨[],trivial,fun a m=>absurd m (by simp)⟩
  | .int i,_,x,_,_=>by
    cases x
    exact ⟨[],trivial,fun a m=>absurd m (by simp)⟩
  | .str s,_,x,_,_=>by
    cases x
    exact ⟨[],trivial,fun a m=>absurd m (by simp)⟩
  | .bytes b,_,x,_,_=>by
    cases x
    exact ⟨[],trivial,fun a m=>absurd m (by simp)⟩
  | .list ds,_,x,p,z=>by
    obtain ⟨a,vs,rfl,ho,hall⟩:=well_list x
    have z2:WData.weightAll ds ≤ 1048576:=z
    obtain ⟨A,h1,h2⟩:=zHQ ds _ hall p fun d hd=>Nat.le_trans (zF2 hd) z2
    have k:∀ b ∈ A,b ∈ a :: A:=fun b hb=>List.mem_cons_of_mem _ hb
    refine ⟨a :: A,List.mem_cons_self ..,fun b hb=>?_⟩
    rcases List.mem_cons.mp hb with e | m
    · rw [e]
      exact ⟨vs,line_of (by rw [zB8 hall]; exact Nat.le_trans (PySem.W.length_le_weightAllW ds) z2),fun u hu=>(h1 u hu).mono k,.inl ho⟩
    · exact (h2 b m).mono k
  | .tuple ds,_,x,p,z=>by
    obtain ⟨a,vs,rfl,ho,hall⟩:=well_tuple x
    have z2:WData.weightAll ds ≤ 1048576:=z
    obtain ⟨A,h1,h2⟩:=zHQ ds _ hall p fun d hd=>Nat.le_trans (zF2 hd) z2
    have k:∀ b ∈ A,b ∈ a :: A:=fun b hb=>List.mem_cons_of_mem _ hb
    refine ⟨a :: A,List.mem_cons_self ..,fun b hb=>?_⟩
    rcases List.mem_cons.mp hb with e | m
    · rw [e]
      exact ⟨vs,line_of (by rw [zB8 hall]; exact Nat.le_trans (PySem.W.length_le_weightAllW ds) z2),fun u hu=>(h1 u hu).mono k,.inr ho⟩
    · exact (h2 b m).mono k
  | .float _,_,_,p,_=>Bool.noConfusion (show false = true from p)
  | .dict _,_,_,p,_=>Bool.noConfusion (show false = true from p)
  | .bytearray _,_,_,p,_=>Bool.noConfusion (show false = true from p)
  | .set _,_,_,p,_=>Bool.noConfusion (show false = true from p)
  | .frozenset _,_,_,p,_=>Bool.noConfusion (show false = true from p)
  | .obj _ _,_,_,p,_=>Bool.noConfusion (show false = true from p)
theorem zHQ:∀ (ds:List WData) (vs:List Value),WellAll P h vs ds→plWs ds = true→(∀ d ∈ ds,d.weight ≤ 1048576)→∃ A:List Addr,(∀ u ∈ vs,OkU A u)∧∀ a ∈ A,zHK h A a
  | [],_,x,_,_=>by
    cases x
    exact ⟨[],fun u m=>absurd m (by simp),fun a m=>absurd m (by simp)⟩
  | d :: ds,_,x,p,z=>by
    obtain ⟨v,vs,rfl,x1,x2⟩:=well_cons x
    have q:plW d = true∧plWs ds = true:=Bool.and_eq_true_iff.mp p
    obtain ⟨A,a1,a2⟩:=area_one d v x1 q.1 (z d (List.mem_cons_self ..))
    obtain ⟨B,b1,b2⟩:=zHQ ds vs x2 q.2 fun e he=>z e (List.mem_cons_of_mem _ he)
    have kA:∀ b ∈ A,b ∈ A ++ B:=fun b hb=>List.mem_append.mpr (.inl hb)
    have kB:∀ b ∈ B,b ∈ A ++ B:=fun b hb=>List.mem_append.mpr (.inr hb)
    refine ⟨A ++ B,fun u hu=>?_,fun b hb=>?_⟩
    · rcases List.mem_cons.mp hu with e | m
      · rw [e]
        exact a1.mono kA
      · exact (b1 u m).mono kB
    · rcases List.mem_append.mp hb with m | m
      · exact (a2 b m).mono kA
      · exact (b2 b m).mono kB
end
end
def hoOf (o:Obj):Option HO:=match o.data with
  | .seq vs _=>if (o.cls == Value.type "list") = true then some (.frz o (.lst (vs.toList.map toV))) else some (.frz o (.tup (vs.toList.map toV)))
  | _=>none
def argH (K:PySem.W.Frag) (h:Heap) (A:List Addr):Hp:=fun b=>if b ∈ A then (if (K.lookup b).isNone = true then (h.get? b).bind hoOf else none) else none
def OnlyF (H:Hp):Prop:=∀ b,H b = none∨∃ o u,H b = some (.frz o u)
theorem hoOf_lst (vs:List Value):hoOf { cls:=.type "list", data:=.seq vs.toArray } = some (.frz { cls:=.type "list", data:=.seq vs.toArray } (.lst (vs.map toV))):=by
  show (if (Value.type "list" == Value.type "list") = true then some (HO.frz { cls:=.type "list", data:=.seq vs.toArray } (.lst (vs.toArray.toList.map toV))) else some (HO.frz { cls:=.type "list", data:=.seq vs.toArray } (.tup (vs.toArray.toList.map toV)))) = _
  rw [if_pos (beq_self_eq_true _)]
theorem hoOf_tup (vs:List Value):hoOf { cls:=.type "tuple", data:=.seq vs.toArray } = some (.frz { cls:=.type "tuple", data:=.seq vs.toArray } (.tup (vs.map toV))):=by
  show (if (Value.type "tuple" == Value.type "list") = true then some (HO.frz { cls:=.type "tuple", data:=.seq vs.toArray } (.lst (vs.toArray.toList.map toV))) else some (HO.frz { cls:=.type "tuple", data:=.seq vs.toArray } (.tup (vs.toArray.toList.map toV)))) = _
  rw [if_neg (by decide)]
section
variable {P:Program} {w:World} {K:PySem.W.Frag} {h:Heap} {A:List Addr}
theorem argH_at {b:Addr} {o:Obj} (hb:b ∈ A) (hk:K.lookup b = none) (e:h.get? b = some o):argH K h A b = hoOf o:=by
  unfold argH
  rw [if_pos hb,hk,if_pos (show (none:Option Obj).isNone = true from rfl),e] <;> rfl
theorem of_argH {b:Addr} {u:HO} (q:argH K h A b = some u):b ∈ A∧K.lookup b = none:=by
  unfold argH at q
  by_cases hb:b ∈ A
  · rw [if_pos hb] at q
    cases hk:K.lookup b with
    | none=>exact ⟨hb,rfl⟩
    | some o =>
      rw [hk,if_neg (by simp)] at q
      cases q
  · rw [if_neg hb] at q
    cases q
theorem argH_is (ar:∀ a ∈ A,zHK h A a) {b:Addr} {u:HO} (q:argH K h A b = some u):K.lookup b = none∧∃ vs:List Value,vs.length ≤ sizeLine∧(∀ u ∈ vs,OkU A u) ∧
    ((h.get? b = some { cls:=.type "list", data:=.seq vs.toArray }∧u = .frz { cls:=.type "list", data:=.seq vs.toArray } (.lst (vs.map toV))) ∨
     (h.get? b = some { cls:=.type "tuple", data:=.seq vs.toArray }∧u = .frz { cls:=.type "tuple", data:=.seq vs.toArray } (.tup (vs.map toV)))):=by
  obtain ⟨hb,hk⟩:=of_argH q
  obtain ⟨vs,h1,h2,h3⟩:=ar b hb
  refine ⟨hk,vs,h1,h2,?_⟩
  rcases h3 with e | e
  · rw [argH_at hb hk e,hoOf_lst] at q
    exact .inl ⟨e,(Option.some.inj q).symm⟩
  · rw [argH_at hb hk e,hoOf_tup] at q
    exact .inr ⟨e,(Option.some.inj q).symm⟩
theorem argH_only (ar:∀ a ∈ A,zHK h A a):OnlyF (argH K h A):=fun b=>by
  cases q:argH K h A b with
  | none=>exact .inl rfl
  | some u =>
    obtain ⟨_,vs,_,_,⟨_,e⟩ | ⟨_,e⟩⟩:=argH_is ar q
    · exact .inr ⟨_,_,by rw [e]⟩
    · exact .inr ⟨_,_,by rw [e]⟩
theorem argH_ok (ar:∀ a ∈ A,zHK h A a):HOk P w (argH K h A) h:=fun b u q=>by
  obtain ⟨_,vs,h1,h2,⟨e,rfl⟩ | ⟨e,rfl⟩⟩:=argH_is ar q
  · exact ⟨e,by rw [List.length_map]; exact h1,vs,_,zDW h2,e⟩
  · exact ⟨e,by rw [List.length_map]; exact h1,vs,zDW h2,_,e,rfl,_,rfl⟩
theorem seq_inj {c c':Value} {vs us:List Value} (e:(some { cls:=c,data:=.seq vs.toArray }:Option Obj) = some { cls:=c',data:=.seq us.toArray }):c = c'∧vs = us:=by
  have e1:=Option.some.inj e
  have e2:c = c':=congrArg Obj.cls e1
  have e3:Data.seq vs.toArray = Data.seq us.toArray:=congrArg Obj.data e1
  injection e3 with e4
  refine ⟨e2,?_⟩
  have e5:=congrArg Array.toList e4
  simpa using e5
theorem argL (KX:K.In h) (ar:∀ a ∈ A,zHK h A a) {a:Addr} {vs:List Value} (ha:a ∈ A) (e:h.get? a = some { cls:=.type "list", data:=.seq vs.toArray }):(∀ u ∈ vs,OkU A u)∧SqL K (argH K h A) a (vs.map toV):=by
  obtain ⟨us,h1,h2,h3⟩:=ar a ha
  have hu:us = vs:=by
    rcases h3 with q | q
    · rw [e] at q
      exact (seq_inj q).2.symm
    · rw [e] at q
      exact absurd (Value.type.inj (seq_inj q).1) (by decide)
  subst hu
  refine ⟨h2,?_⟩
  cases hk:K.lookup a with
  | none=>exact .inl (.inr ⟨_,by rw [argH_at ha hk e,hoOf_lst]⟩)
  | some o =>
    have e2:=KX a o hk
    rw [e] at e2
    obtain rfl:=Option.some.inj e2
    exact .inr ⟨_,us.toArray,_,hk,rfl,rfl,rfl,by rw [List.size_toArray]; exact h1,by simpa using zDW h2⟩
theorem argT (KX:K.In h) (ar:∀ a ∈ A,zHK h A a) {a:Addr} {vs:List Value} (ha:a ∈ A) (e:h.get? a = some { cls:=.type "tuple", data:=.seq vs.toArray }):(∀ u ∈ vs,OkU A u)∧SqT K (argH K h A) a (vs.map toV):=by
  obtain ⟨us,h1,h2,h3⟩:=ar a ha
  have hu:us = vs:=by
    rcases h3 with q | q
    · rw [e] at q
      exact absurd (Value.type.inj (seq_inj q).1) (by decide)
    · rw [e] at q
      exact (seq_inj q).2.symm
  subst hu
  refine ⟨h2,?_⟩
  cases hk:K.lookup a with
  | none=>exact .inl (.inr ⟨_,by rw [argH_at ha hk e,hoOf_tup]⟩)
  | some o =>
    have e2:=KX a o hk
    rw [e] at e2
    obtain rfl:=Option.some.inj e2
    exact .inr ⟨_,us.toArray,_,hk,rfl,rfl,by rw [List.size_toArray]; exact h1,by simpa using zDW h2⟩
mutual
theorem dw_one {Pm:Params} (KX:K.In h) (ar:∀ a ∈ A,zHK h A a):∀ (d:WData) (v:Value),Well Pm h v d→plW d = true→OkU A v→Dw K (argH K h A) (toV v) d
  | .none,_,x,_,_=>by
    cases x
    exact .non
  | .bool b,_,x,_,_=>by
    cases x
    exact .bl b
  | .int i,_,x,_,_=>by
    cases x
    exact .int i
  | .str s,_,x,_,_=>by
    cases x
    exact .str s
  | .bytes b,_,x,_,_=>by
    cases x
    have z:=Dw.byt (K:=K) (H:=argH K h A) b.toArray
    exact z
  | .list ds,_,x,p,hu=>by
    obtain ⟨a,vs,rfl,ho,hall⟩:=well_list x
    obtain ⟨h2,hs⟩:=argL KX ar hu ho
    exact .lst hs (dw_all KX ar ds _ hall p h2)
  | .tuple ds,_,x,p,hu=>by
    obtain ⟨a,vs,rfl,ho,hall⟩:=well_tuple x
    obtain ⟨h2,hs⟩:=argT KX ar hu ho
    exact .tup hs (dw_all KX ar ds _ hall p h2)
  | .float _,_,_,p,_=>Bool.noConfusion (show false = true from p)
  | .dict _,_,_,p,_=>Bool.noConfusion (show false = true from p)
  | .bytearray _,_,_,p,_=>Bool.noConfusion (show false = true from p)
  | .set _,_,_,p,_=>Bool.noConfusion (show false = true from p)
  | .frozenset _,_,_,p,_=>Bool.noConfusion (show false = true from p)
  | .obj _ _,_,_,p,_=>Bool.noConfusion (show false = true from p)
theorem dw_all {Pm:Params} (KX:K.In h) (ar:∀ a ∈ A,zHK h A a):∀ (ds:List WData) (vs:List Value),WellAll Pm h vs ds→plWs ds = true→(∀ u ∈ vs,OkU A u)→zC3 K (argH K h A) (vs.map toV) ds
  | [],_,x,_,_=>by
    cases x
    exact .nil
  | d :: ds,_,x,p,hu=>by
    obtain ⟨v,vs,rfl,x1,x2⟩:=well_cons x
    have q:plW d = true∧plWs ds = true:=Bool.and_eq_true_iff.mp p
    exact .cons (dw_one KX ar d v x1 q.1 (hu _ (List.mem_cons_self ..))) (dw_all KX ar ds vs x2 q.2 fun u m=>hu u (List.mem_cons_of_mem _ m))
end
end
mutual
theorem Dw.same {K:PySem.W.Frag} {H H2:Hp} (e:zG H H2):∀ {v:V} {d:WData},Dw K H v d→Dw K H2 v d
  | _,_,.non=>.non
  | _,_,.bl b=>.bl b
  | _,_,.int i=>.int i
  | _,_,.str x=>.str x
  | _,_,.byt b=>.byt b
  | _,_,.lst h q=>.lst (e.seq h) (zC3.same e q)
  | _,_,.tup h q=>.tup (by
      rcases h with (h | ⟨o,h⟩) | h
      · exact .inl (.inl (e _ _ h))
      · exact .inl (.inr ⟨o,e _ _ h⟩)
      · exact .inr h) (zC3.same e q)
theorem zC3.same {K:PySem.W.Frag} {H H2:Hp} (e:zG H H2):∀ {vs:List V} {ds:List WData},zC3 K H vs ds→zC3 K H2 vs ds
  | _,_,.nil=>.nil
  | _,_,.cons h q=>.cons (Dw.same e h) (zC3.same e q)
end
theorem tabAt_inj {K:PySem.W.Frag} {mg:Str→Option Value} {T T2:Addr} (a:tabAt K mg T) (b:tabAt K mg T2):T = T2:=by
  obtain ⟨f,c,o,oc,fd,vs,a1,a2,a3,a4,a5,a6,a7⟩:=a
  obtain ⟨f',c',o',oc',fd',vs',b1,b2,b3,b4,b5,b6,b7⟩:=b
  rw [a1] at b1; cases b1
  rw [a2] at b2; cases b2
  rw [a3] at b3; cases b3
  rw [a4] at b4; cases b4
  rw [a5] at b5; cases b5
  rw [a6] at b6; cases b6
  rw [a7] at b7; cases b7
  rfl
theorem spec_call {P:Program} {w:World} {K:PySem.W.Frag} {mg mb:Str→Option Value} {CX:CXT} {k:Nat} {fa:Addr} {fd:FuncData} {ps:List Str} {sp:Sp} {s₁:Shared} {vals:List Value} {ds:List WData} {R:PySem.W.WRecords} {cl:Str→Option Addr} {d0:WData}
    (KX:K.In s₁.heap) (hns:s₁.heap.Ns mainGlobals mg) (hb:s₁.heap.Ns builtinsNs mb) (hbb:∀ x:Str,x ≠ "__name__" → mb x = bootBuiltins x) (hlim:s₁.heap.NoLimit) (hg:s₁.gens = #[])
    (hbm:∃ bm ob,mg "__builtins__" = some (.ref bm)∧bm ≠ builtinsNs∧s₁.heap.get? bm = some ob∧ob.cls = .type "module" ∧ ob.dict = some builtinsNs∧ob.data = .plain)
    (htb:∃ a o fd c T,mg "towards_nearest" = some (.ref a)∧s₁.heap.get? a = some o∧o.data = .func fd∧fd.code = .ref c∧s₁.heap.IsCode c T #[]∧s₁.heap.TableAt c T #[]) (hkt:∃ T,tabAt K mg T∧K.lookup T = none)
    (hwl:WellAll w.params s₁.heap vals ds) (hpl:plWs ds = true) (hwt:∀ d ∈ ds,d.weight ≤ 1048576) (hr:zB7 k callerA)
    (F:∀ base:Heap,K.In base→base.Ns mainGlobals mg→qL P w K mg base CX k fa fd ps sp) (hbind:∀ (s:Shared) (us:List Value),us.length = ps.length→BindsTo s fd ⟨us,[]⟩ (ps.zip us)) (hlen:ds.length = ps.length)
    (hsp:∀ (H:Hp) (xs:List V),zC3 K H xs ds→sp xs H (fun v H'=>Dw K H' v d0) fun _ _ _=>False)
    (hCX:∀ H e s',CX [] H s₁ (fun _ _ _=>False) e s'→False) :
    codeAny (model P w) callerA (.call (.ref fa) ⟨vals,[]⟩) (fun r s'=>∃ u as,r = .ok (.ret u)∧ReadsW R cl s'.heap u d0 as∧OldK s₁.heap s'.heap∧s'.os = s₁.os∧AllBare s'.gens) s₁:=by
  obtain ⟨A,ho,ar⟩:=zHQ ds vals hwl hpl hwt
  have hO:OnlyF (argH K s₁.heap A):=argH_only ar
  have hok0:HOk P w (argH K s₁.heap A) s₁.heap:=argH_ok ar
  have hS0:=dw_all KX ar ds vals hwl hpl ho
  have hV:=zDW ho
  have hK:∀ b u,argH K s₁.heap A b = some u→K.lookup b = none:=fun b u q=>(argH_is ar q).1
  have noS:∀ {b:Addr} {o:Obj},s₁.heap.get? b = some o→(∀ xs n,o.data ≠ .seq xs n)→argH K s₁.heap A b = none:=fun {b o} e d=>by
    cases q:argH K s₁.heap A b with
    | none=>rfl
    | some u =>
      obtain ⟨_,vs,_,_,⟨e2,_⟩ | ⟨e2,_⟩⟩:=argH_is ar q
      · rw [e2] at e
        cases e
        exact absurd rfl (d _ _)
      · rw [e2] at e
        cases e
        exact absurd rfl (d _ _)
  obtain ⟨T,hkt,hKT⟩:=hkt
  obtain ⟨cT,hTab⟩:∃ c,s₁.heap.TableAt c T #[]:=by
    obtain ⟨f,c,o,oc,fd,vs,a1,a2,a3,a4,a5,a6,a7⟩:=hkt
    obtain ⟨f',o',fd',c',T',b1,b2,b3,b4,b5,b6⟩:=htb
    rw [a1] at b1; cases b1
    rw [KX _ _ a2] at b2; cases b2
    rw [a3] at b3; cases b3
    rw [a4] at b4; cases b4
    obtain ⟨⟨o2,vs2,z1,z2,z3,z4⟩,z5⟩:=id b6
    rw [KX _ _ a5] at z1; cases z1
    rw [a6] at z3; cases z3
    rw [a7] at z4; cases z4
    exact ⟨c,b6⟩
  have hTo:s₁.heap.get? T = some { cls:=.none,data:=.fields #[] }:=hTab.2
  generalize argH K s₁.heap A = G at hO hok0 hS0 hK noS
  have hGT:G T = none:=noS hTo fun xs n z=>by cases z
  have same:zG G (upd G T (.tbl zHW)):=fun b o e=>by
    rw [zV (zM e hGT)]
    exact e
  have hok:HOk P w (upd G T (.tbl zHW)) s₁.heap:=fun b u e=>by
    by_cases z:b = T
    · subst z
      rw [zF] at e
      cases e
      exact ⟨#[],hTo,trivial,fun pos cv h=>by cases h⟩
    · rw [zV z] at e
      exact (hok0 b u e).stay (fun _ _ _ q=>q) (fun c q=>by rw [zV (zM q hGT)]; exact q) fun c xs q=>by rw [zV (zM q hGT)]; exact q
  have hS:=zC3.same same hS0
  have noH:∀ {b:Addr} {o:Obj},s₁.heap.get? b = some o→(∀ xs n,o.data ≠ .seq xs n)→(∀ vs,o.data ≠ .fields vs)→upd G T (.tbl zHW) b = none:=fun {b o} e d d2=>by
    have ne:b ≠ T:=fun z=>by
      rw [z,hTo] at e
      cases e
      exact d2 _ rfl
    rw [zV ne]
    exact noS e d
  have hOld:∀ b,b ≠ T→upd G T (.tbl zHW) b = none∨∃ o u,upd G T (.tbl zHW) b = some (.frz o u):=fun b n=>by
    rw [zV n]
    exact hO b
  have nK:∀ b o,K.lookup b = some o→upd G T (.tbl zHW) b = none:=fun b o e=>by
    have ne:b ≠ T:=fun z=>by
      rw [z,hKT] at e
      cases e
    rw [zV ne]
    cases q:G b with
    | none=>rfl
    | some u =>
      rw [hK b u q] at e
      cases e
  have hHT:upd G T (.tbl zHW) T = some (.tbl zHW):=zF
  generalize upd G T (.tbl zHW) = H at hok hS noH hOld nK hHT
  have base_of:∀ {b:Addr} {o:Obj},s₁.heap.get? b = some o→H b = none→(hidT s₁.heap H).get? b = some o:=fun e n=>hidT_get e n
  have nsK:∀ {b:Addr} {m:Str→Option Value},s₁.heap.Ns b m→(hidT s₁.heap H).Ns b m:=fun {b m} ⟨o,es,ep,e,d,r⟩=>⟨o,es,ep,base_of e (noH e (fun _ _ z=>by rw [d] at z; cases z) fun _ z=>by rw [d] at z; cases z),d,r⟩
  have hKb:K.In (hidT s₁.heap H):=fun b o e=>base_of (KX b o e) (nK b o e)
  have hM:Mod K mg (hidT s₁.heap H):=⟨hKb,nsK hns,⟨mb,nsK hb,hbb⟩,let ⟨mc,h1,h2⟩:=hlim; ⟨mc,nsK h1,h2⟩,let ⟨bm,ob,b1,b2,b3,b4,b5,b6⟩:=hbm; ⟨bm,ob,b1,b2,base_of b3 (noH b3 (fun _ _ z=>by rw [b6] at z; cases z) fun _ z=>by rw [b6] at z; cases z),b4,b5,b6⟩⟩
  have e0:zHR P w K mg (hidT s₁.heap H) callerA [] s₁ H:=⟨rfl,hM,fun b o e=>of_hidT e,Nat.le_of_eq (hidT_size _ _),trivial,fun b hb=>absurd (show b ∈ ([]:List Addr) from hb) (by simp),hok,.of_eq hg,fun T2 h2=>by rw [tabAt_inj h2 hkt]; exact hHT⟩
  have hl:vals.length = ps.length:=by rw [zB8 hwl]; exact hlen
  refine codeAny_mono ((F _ hKb (nsK hns)).run callerA [] s₁ H ⟨vals,[]⟩ vals (vals.map toV) _ _ hr e0 (hbind s₁ vals hl) hV (hsp H _ hS)) fun r s' x=>?_
  cases r with
  | error e=>exact (hCX H e s' x).elim
  | ok fl =>
    cases fl with
    | next=>exact False.elim x
    | brk=>exact False.elim x
    | cont=>exact False.elim x
    | ret u =>
      obtain ⟨v,H',os,bare,un,hok',r',q⟩:=x
      have kept:∀ b o,b ≠ T→s₁.heap.get? b = some o→s'.heap.get? b = some o:=fun b o ne e=>by
        cases q2:H b with
        | none=>exact un.keep b o e q2 (by intro z; exact absurd (show b ∈ ([]:List Addr) from z) (by simp)) (by simp)
        | some u2 =>
          rcases hOld b ne with z | ⟨ob,u3,z⟩
          · rw [q2] at z
            cases z
          · have z2:=un.frzs b ob _ z
            obtain ⟨e1,_⟩:=hok b _ z
            obtain ⟨e2,_⟩:=hok' b _ z2
            rw [e] at e1
            cases e1
            exact e2
      have KX':K.In s'.heap:=fun b o e=>kept b o (fun z=>by rw [z,hKT] at e; cases e) (KX b o e)
      obtain ⟨qs,hqs,_⟩:=hok' T _ (un.tbls T _ hHT)
      have hOK:OldK s₁.heap s'.heap:=by
        refine ⟨fun b o e=>?_,fun b o e=>?_⟩
        · by_cases z:b = T
          · subst z
            rw [hTo] at e
            cases e
            exact .inr (.inl ⟨hTab.isCodeTable,rfl,#[],qs,rfl,by rw [Array.empty_append]; exact hqs⟩)
          · exact .inl (kept b o z e)
        · by_cases z:b = T
          · subst z
            exact ⟨_,hqs⟩
          · exact ⟨o,kept b o z e⟩
      obtain ⟨as,hrd⟩:=Dw.reads (R:=R) (cl:=cl) hok' KX' d0 v u q r'
      exact ⟨u,as,rfl,hrd,hOK,os,bare⟩
theorem layable_weight {ds:List WData} (h:WData.layableAll ds = true):∀ d ∈ ds,d.weight ≤ 1048576:=fun d hd =>
  (PySem.W.layableW_iff.mp (List.all_eq_true.mp h d hd)).2.2
theorem encAll_len:∀ (cs:List Codec) (a:Codec.denoteAll cs),(Codec.encAll cs a).length = cs.length
  | [],_=>rfl
  | c :: cs,a=>by
    show (Codec.encAll cs a.2).length + 1 = cs.length + 1
    rw [encAll_len cs a.2]
end L2
end
namespace LX
open PySem PySem.Spec PyProof.Rows L2
section
variable {X:Cx}
theorem yB {x:Str} {i:Int} {pos:Pos} (hg:Gl X x) (h:∃ k,X.mg x = some (.int i k)) (hd:(x == ("__debug__" : Str)) = false:=by decide):PE X (.Name x pos) (tC (.int i)):=by
  obtain ⟨k,e⟩:=h
  exact pe_glob hg e ⟨k,rfl⟩ hd
def pairV (p:Int × Int):List V:=[.int p.1,.int p.2]
def xK (K:PySem.W.Frag) (H:Hp) (a:Addr) (p:Int × Int):Prop:=SqT K H a (pairV p)
def pd (p:Int × Int):PyData:=.tuple [.int p.1,.int p.2]
theorem pairDp {K:PySem.W.Frag} {H:Hp} {a:Addr} {p:Int × Int} (h:xK K H a p):Dp K H (.ref a) (pd p):=.tup h (.cons (.int _) (.cons (.int _) .nil))
theorem pd_eqv (p q:Int × Int):PyData.eqv (pd p) (pd q) = decide (p = q):=by
  obtain ⟨a,b⟩:=p
  obtain ⟨c,d⟩:=q
  simp [pd,PyData.eqv,PyData.eqvAll,Bool.and_assoc,Bool.beq_eq_decide_eq]
theorem zFM (p:Int × Int):SeqAt.shaped (pd p) = true:=by
  obtain ⟨a,b⟩:=p
  rfl
theorem pd_can (p:Int × Int):(pd p).canLay0 = true:=SeqAt.canLay_of_shaped (zFM p)
def rNeP (K:PySem.W.Frag):R2:=fun x y H Q=>∃ a b p q,x = .ref a∧y = .ref b∧xK K H a p∧xK K H b q∧Q (.bl (!decide (p = q))) H
theorem op_neP (hu:X.A.units + 64 < cLine):OpR X (compareOp .NotEq) (rNeP X.K):=by
  rintro pins s σ H x y v u Q I rx ry ⟨a,b,p,q,rfl,rfl,ha,hb,h⟩
  refine op_neD hu pins s σ H _ _ v u Q I rx ry ⟨pd p,pd q,pairDp ha,pairDp hb,zFM p,zFM q,?_⟩
  rw [pd_eqv]
  exact h
def zI4 (K:PySem.W.Frag) (H:Hp) (ts:List Addr) (ps:List (Int × Int)):Prop:=Paired (fun t p=>xK K H t p) ts ps
noncomputable def eqP (K:PySem.W.Frag) (H:Hp) (p:Int × Int) (u:Value):Bool:=match u with
  | .ref a=>@decide (xK K H a p) (Classical.propDecidable _)
  | _=>false
theorem xK.inj {pins:List (Addr × Obj)} {σ:L2.St} {H:Hp} {s:Shared} {a:Addr} {p q:Int × Int} (I:Inv X pins σ H s) (h:xK X.K H a p) (h':xK X.K H a q):p = q:=by
  have e:=I.tuple_inj h h'
  obtain ⟨a,b⟩:=p
  obtain ⟨c,d⟩:=q
  simp [pairV] at e
  rw [e.1,e.2]
theorem eqP_of {pins:List (Addr × Obj)} {σ:L2.St} {H:Hp} {s:Shared} {a:Addr} {p q:Int × Int} (I:Inv X pins σ H s) (h:xK X.K H a q):eqP X.K H p (.ref a) = decide (q = p):=by
  show @decide (xK X.K H a p) (Classical.propDecidable _) = decide (q = p)
  by_cases e:q = p
  · subst e
    rw [@decide_eq_true _ (Classical.propDecidable _) h,decide_eq_true rfl]
  · rw [decide_eq_false e,@decide_eq_false _ (Classical.propDecidable _) fun z=>e (h.inj I z)]
theorem pair_eqAt {pins:List (Addr × Obj)} {σ:L2.St} {H:Hp} {s:Shared} {A:Around} {a b:Addr} {p q:Int × Int} (I:Inv X pins σ H s) (h:xK X.K H a q) (h':xK X.K H b p) (hu:A.units + 64 < cLine):SeqAt.EqAt A s (.ref a) (.ref b) (decide (q = p)):=by
  obtain ⟨as,r1⟩:=Dp.reads I (pd q) _ (.ref a) (pairDp h) rfl
  obtain ⟨bs,r2⟩:=Dp.reads I (pd p) _ (.ref b) (pairDp h') rfl
  rw [← pd_eqv]
  exact SeqAt.eqAt_reads (pd q) (pd p) A s _ _ as bs r1 r2 (pd_can q) (pd_can p) (SeqAt.room_of_shaped (zFM q) hu)
theorem zGK {K:PySem.W.Frag} {H:Hp}:∀ {ts:List Addr} {us:List Value},jS (ts.map V.ref) us→us = ts.map Value.ref
  | [],us,h=>by
    rw [List.map_nil] at h
    cases h
    rfl
  | t :: ts,us,h=>by
    rw [List.map_cons] at h
    cases h with
    | cons r q =>
      cases r
      rw [zGK (K:=K) (H:=H) q,List.map_cons]
theorem any_eqP {pins:List (Addr × Obj)} {σ:L2.St} {H:Hp} {s:Shared} {p:Int × Int} (I:Inv X pins σ H s):∀ {ts:List Addr} {ps:List (Int × Int)},zI4 X.K H ts ps→(ts.map Value.ref).any (eqP X.K H p) = ps.contains p
  | _,_,.nil=>rfl
  | t :: ts,q :: ps,.cons r z=>by
    rw [List.map_cons,List.any_cons,eqP_of I r,any_eqP I z,List.contains_cons]
    congr 1
    rw [Bool.beq_comm,Bool.beq_eq_decide_eq]
theorem mem_eqP {pins:List (Addr × Obj)} {σ:L2.St} {H:Hp} {s:Shared} {A:Around} {b:Addr} {p:Int × Int} (I:Inv X pins σ H s) (h':xK X.K H b p) (hu:A.units + 64 < cLine) :
    ∀ {ts:List Addr} {ps:List (Int × Int)},zI4 X.K H ts ps→∀ u ∈ ts.map Value.ref,SeqAt.EqAt A s u (.ref b) (eqP X.K H p u)
  | _,_,.nil=>fun u hu=>by cases hu
  | t :: ts,q :: ps,.cons r z=>fun u hm=>by
    rw [List.map_cons] at hm
    rcases List.mem_cons.mp hm with rfl | hm
    · rw [eqP_of I r]
      exact pair_eqAt I r h' hu
    · exact mem_eqP I h' hu z u hm
def rInP (K:PySem.W.Frag) (neg:Bool):R2:=fun x y H Q=>∃ a l p ts ps,x = .ref a∧y = .ref l∧xK K H a p∧SqL K H l (ts.map V.ref)∧zI4 K H ts ps∧Q (.bl (if neg then !ps.contains p else ps.contains p)) H
theorem in1_units {A:Around} (hu:A.units + 65 < cLine):A.in1.units + 64 < cLine:=by
  show A.units + 1 + 64 < cLine
  omega
theorem zFN (hu:X.A.units + 65 < cLine):OpR X (compareOp .In) (rInP X.K false):=by
  rintro pins s σ H x y v u Q I rx ry ⟨a,l,p,ts,ps,rfl,rfl,ha,hl,hp,q⟩
  cases rx
  cases ry
  obtain ⟨its,r,pl,hz⟩:=I.list hl
  have e:=zGK (K:=X.K) (H:=H) r
  subst e
  refine SeqAt.in_listAt (eqP X.K H p) pl.isList (fun w hw=>mem_eqP I ha (in1_units hu) hp w (by simpa using hw)) ⟨.bl _,H,I,rfl,?_⟩
  rw [show (ts.map Value.ref).toArray.any (eqP X.K H p) = (ts.map Value.ref).any (eqP X.K H p) by simp,any_eqP I hp]
  exact q
theorem op_notInP (hu:X.A.units + 65 < cLine):OpR X (compareOp .NotIn) (rInP X.K true):=by
  rintro pins s σ H x y v u Q I rx ry ⟨a,l,p,ts,ps,rfl,rfl,ha,hl,hp,q⟩
  cases rx
  cases ry
  obtain ⟨its,r,pl,hz⟩:=I.list hl
  have e:=zGK (K:=X.K) (H:=H) r
  subst e
  refine SeqAt.notIn_listAt (eqP X.K H p) pl.isList (fun w hw=>mem_eqP I ha (in1_units hu) hp w (by simpa using hw)) ⟨.bl _,H,I,rfl,?_⟩
  rw [show (ts.map Value.ref).toArray.any (eqP X.K H p) = (ts.map Value.ref).any (eqP X.K H p) by simp,any_eqP I hp]
  exact q
theorem pe_fldK {K:PySem.W.Frag} {e:Expr} {f:Str} {pos:Pos} {ta:TE} (hK:X.K = K) (he:PE X e ta) (hb:attributeBase e f X.env (eval e X.env) = eval e X.env):PE X (.Attribute e f pos) (tFld K ta f):=by
  subst hK
  exact zJ he hb
theorem ix_tupK {K:PySem.W.Frag} (hK:X.K = K):IxR X (rIxT K):=by
  subst hK
  exact zG8
theorem op_nePK {K:PySem.W.Frag} (hK:X.K = K) (hu:X.A.units + 64 < cLine):OpR X (compareOp .NotEq) (rNeP K):=by
  subst hK
  exact op_neP hu
theorem op_inPK {K:PySem.W.Frag} (hK:X.K = K) (hu:X.A.units + 65 < cLine):OpR X (compareOp .In) (rInP K false):=by
  subst hK
  exact zFN hu
open PySem.AutoSeq1 in
theorem ext_tup (l:Addr) (items:Array Value) (n:Nat) (b:Addr) (items2:Array Value) (n2:Nat) (dd:Option Addr) (sl:Array (Option Value)) (hs0:¬(!items.isEmpty && Builtin.List.listTooLong (items.size + items2.size)) = true) (hs1:items.size ≤ sizeLine) (hs2:items.size + items2.size ≤ sizeLine + 1) :
    Meets (Builtin.«list.extend» ⟨[.ref l,.ref b],[]⟩) (fun _ R s=>s.heap.get? l = some { cls:=.type "list", dict:=none,data:=.seq items n,slots:=#[] }∧s.heap.get? b = some { cls:=.type "tuple", dict:=dd,data:=.seq items2 n2,slots:=sl }∧R (.ok (.ret Value.none)) { s with heap:=s.heap.update l (Obj.mapSeq fun x=>x ++ items2),toks:=s.toks }) :=
  .of_wp fun prog w A R s h=>by
    obtain ⟨hp,g,d,tk,os⟩:=s; obtain ⟨hl,hb,h⟩:=h; have f1:=PySem.AutoSeq1.idx_int; have f2:=PySem.AutoSeq1.sub_tuple_tuple; have f3:=PySem.AutoSeq1.sub_list_list; have f4:=PySem.AutoSeq1.sub_tuple_list; have f5:=PySem.AutoSeq1.sub_list_tuple
    have hz':(items ++ items2).size ≤ sizeLine + 1:=by (rw [Array.size_append]; exact hs2)
    wp_walk using (wpAny_updateSeq hl rfl (hz:=hs1) (_hz':=hz')),PySem.AutoSeq1.wpAny_loadPart' hl,PySem.AutoSeq1.wpAny_loadPart' hb
    exact ⟨_,rfl,h⟩
def rExtendT (K:PySem.W.Frag):V→List V→Hp→VK→Prop:=fun x vs H Q=>∃ l b xs zs,x = .ref l∧vs = [.ref b]∧H l = some (.lst xs)∧SqT K H b zs∧xs.length + zs.length ≤ sizeLine∧Q .non (upd H l (.lst (xs ++ zs)))
theorem mt_extendP:MtM X "list.extend" (rExtendT X.K):=by
  intro pins s σ H x vs v us Q I rx rv h
  obtain ⟨l,b,xs,zs,rfl,rfl,hH,hB,hz,q⟩:=h
  cases rx
  obtain ⟨u,rfl,ru⟩:=rv.one
  cases ru
  obtain ⟨z,its,n,r,hl,e⟩:=I.lstM hH
  obtain ⟨its2,r2,⟨⟨cls2,dd2,data2,sl2⟩,e2,hc2,n2,hd2⟩,z2⟩:=I.tuple hB
  simp only at hc2 hd2
  subst hc2 hd2
  have l2:=r2.length
  have hsz:its.toArray.size + its2.toArray.size ≤ sizeLine:=by rw [List.size_toArray,List.size_toArray]; omega
  have hlong:¬ (!its.toArray.isEmpty && Builtin.List.listTooLong (its.toArray.size + its2.toArray.size)) = true:=by rw [notLongL hsz,Bool.and_false]; exact Bool.false_ne_true
  refine call_meets F.slot_list_extend ⟨_,e,rfl⟩ F.entry_list_extend (F.args_list_extend_2 _ _) (ext_tup l its.toArray n b its2.toArray n2 _ _ hlong (by rw [List.size_toArray]; omega) (by omega)) ⟨e,e2,?_⟩
  refine ⟨.non,_,I.lset (its':=its ++ its2) hH e (by simp) (r.append r2) (by rw [List.length_append]; omega),rfl,q⟩
end
end LX
namespace LX
open PySem PySem.Spec PyProof.Rows L2
section
variable {prog:Program} {w:World} {A:Around} {E:Value→Shared→Prop}
theorem maxD_loop {R:Result→Shared→Prop} {l I S:Addr} {us:List Value} {ns:List Int} {d:Value} (hh:A.handled = none) (hlI:l ≠ I) (hSI:S ≠ I) (hSl:S ≠ l) (hi:IntsAre us ns) :
    ∀ (r j:Nat) (s:Shared) (M:Int) (tm:Tok) (c:Nat),us.length - j = r→j ≤ us.length→s.heap.IsListIter I l j→s.heap.IsList l us.toArray →
      s.heap.get? S = some { cls:=.type "list", dict:=none,data:=.seq #[.int M tm,.int M tm] c,slots:=#[] }→M ∈ ns→(∀ y ∈ ns.take j,y ≤ M) →
      (∀ (h':Heap) (tk:Nat) (M':Int) (t':Tok),M' ∈ ns→(∀ y ∈ ns,y ≤ M')→(∀ b o,b ≠ I→b ≠ S→s.heap.get? b = some o→h'.get? b = some o)→R (.ok (.ret (.int M' t'))) { s with heap:=h',toks:=tk }) →
      codeAny (model prog w) A (.builtin "max.loop" ⟨[.ref I,.none,.ref S],[("default", d)]⟩) R s:=by
  have nm:(toString "max" ++ toString ".loop" : String) = "max.loop" := by decide
  have W:=Walks.list (prog:=prog) (w:=w) (A:=A.in1) hh I l hlI us.toArray
  have hlen:=hi.length
  intro r
  induction r with
  | zero =>
    intro j s M tm c hr hj hit hl hS hM hbest hR
    have e0:j = us.length:=by omega
    refine codeAny_builtin PySem.F.entry_max_loop ?_; rw [Around.under_plainId PySem.F.plain_max_loop _]; show wpAny _ A.in1 (seqItems? (.ref S) >>= _) _ _ _
    refine wpAny_bind (wpAny_seqItems hS rfl ?_); show wpAny _ A.in1 (tryCatch (pyNext (.ref I)) _ >>= _) _ _ _
    refine wpAny_bind (wpAny_tryCatch (W.done s _ _ ⟨by rw [List.size_toArray,← e0]; exact hit,hl⟩ fun h1 t1 k1=>?_))
    have hS1:=k1 S _ (by simpa using hSI) hS
    show wpAny _ A.in1 (updateSeq S (fun _=>#[]) >>= _) _ _ _; refine wpAny_bind ?_
    refine wpAny_updateSeq hS1 rfl (wpAny_bind (wpAny_letGo (wpAny_pure ?_)))
    refine hR _ _ M tm hM (fun y hy=>hbest y (by rw [e0,hlen,List.take_length]; exact hy)) fun b o hI hb e=>?_
    exact (Heap.get?_update_other _ _ (Ne.symm hb)).trans (k1 b o (by simpa using hI) e)
  | succ r ih =>
    intro j s M tm c hr hj hit hl hS hM hbest hR
    have hlt:j < us.length:=by omega
    obtain ⟨n,hn⟩:∃ n,ns[j]? = some n:=⟨_,List.getElem?_eq_getElem (by omega)⟩
    obtain ⟨tn,hu⟩:=hi.get j n hn
    refine codeAny_builtin PySem.F.entry_max_loop ?_; rw [Around.under_plainId PySem.F.plain_max_loop _]; show wpAny _ A.in1 (seqItems? (.ref S) >>= _) _ _ _
    refine wpAny_bind (wpAny_seqItems hS rfl ?_); show wpAny _ A.in1 (tryCatch (pyNext (.ref I)) _ >>= _) _ _ _
    refine wpAny_bind (wpAny_tryCatch (W.item j s _ _ (by rw [List.size_toArray]; exact hlt) ⟨hit,hl⟩ fun v h1 t1 hv st1 k1=>?_))
    have ev:v = .int n tn:=by
      have z:us[j]? = some v:=by simpa using hv
      rw [hu] at z
      exact (Option.some.inj z).symm
    subst ev
    have hS1:=k1 S _ (by simpa using hSI) hS
    have hmem:n ∈ ns:=List.mem_of_getElem? hn
    have tk1:ns.take (j + 1) = ns.take j ++ [n]:=by
      rw [List.take_add_one,hn]
      rfl
    show wpAny _ A.in1 (tryCatch (holding [.int n tn,.int n tn] (richCompare .Gt (.int n tn) (.int M tm) >>= _)) _ >>= _) _ _ _
    refine wpAny_bind (wpAny_tryCatch (wpAny_holding (wpAny_bind (CmpOf.ints_gt (prog:=prog) (w:=w) (A:=A.in1) (P:=fun (i:Nat) v=>∃ t,v = .int (if i = 0 then n else M) t) (fun i=>if i = 0 then n else M) (fun i v h=>h) 0 1 _ _ _ _ _ ⟨tn,rfl⟩ ⟨tm,rfl⟩ ?_))))
    refine wpAny_bind (wpAny_holding (wpAny_truthy_bool ?_)); refine wpAny_bind (wpAny_letGo (wpAny_pure ?_))
    by_cases hb:n > M
    · show wpAny _ A.in1 (if decide (n > M) = true then _ else _) _ _ _; rw [decide_eq_true hb]
      simp only [if_true]
      refine wpAny_bind ?_
      refine wpAny_updateSeq hS1 rfl (wpAny_bind (wpAny_letGo ?_)); rw [nm]
      refine wpAny_pure ⟨plainId_quiet PySem.F.plain_max_loop _,ih (j + 1) _ n tn _ (by omega) (by omega) (st1.1.at fun o e=>(Heap.get?_update_other _ _ hSI).trans e) (st1.2.at fun o e=>(Heap.get?_update_other _ _ hSl).trans e) (Heap.get?_update_self _ hS1 rfl) hmem (fun y hy=>?_) fun h' tk M' t' a1 a2 a3=>hR h' tk M' t' a1 a2 fun b o hI hbS e=>a3 b o hI hbS ?_⟩
      · rw [tk1] at hy
        rcases List.mem_append.mp hy with q | q
        · have:=hbest y q
          omega
        · rw [List.mem_singleton.mp q]
          omega
      · exact (Heap.get?_update_other _ _ (Ne.symm hbS)).trans (k1 b o (by simpa using hI) e)
    · show wpAny _ A.in1 (if decide (n > M) = true then _ else _) _ _ _; rw [decide_eq_false hb]
      simp only [Bool.false_eq_true,if_false]
      refine wpAny_bind (wpAny_letGo ?_); rw [nm]
      refine wpAny_pure ⟨plainId_quiet PySem.F.plain_max_loop _,ih (j + 1) _ M tm c (by omega) (by omega) st1.1 st1.2 hS1 hM (fun y hy=>?_) fun h' tk M' t' a1 a2 a3=>hR h' tk M' t' a1 a2 fun b o hI hbS e=>a3 b o hI hbS (k1 b o (by simpa using hI) e)⟩
      rw [tk1] at hy
      rcases List.mem_append.mp hy with q | q
      · exact hbest y q
      · rw [List.mem_singleton.mp q]
        omega
theorem maxD_args (a v:Value):argsOk "max" ⟨[a],[(Str.ofString "default", v)]⟩:=by unfold argsOk; kernel_rfl
def maxOf (ns:List Int) (d m:Int):Prop:=(ns = []∧m = d)∨(m ∈ ns∧∀ y ∈ ns,y ≤ m)
theorem maxD_call {s:Shared} {l:Addr} {us:List Value} {ns:List Int} {d:Int} {td:Tok} {Q:Value→Shared→Prop} (hh:A.handled = none) (hl:s.heap.IsList l us.toArray) (hi:IntsAre us ns)
    (h:∀ (h':Heap) (tk:Nat) (M:Int) (t':Tok),maxOf ns d M→(∀ b o,s.heap.get? b = some o→h'.get? b = some o)→Q (.int M t') { s with heap:=h',toks:=tk }) :
    wpAny (model prog w) A (call (.builtin "max") [.ref l] [(Str.ofString "default", .int d td)]) Q E s:=by
  have nm:(toString "max" ++ toString ".loop" : String) = "max.loop" := by decide
  have hlen:=hi.length
  obtain ⟨ol,hol,_⟩:=id hl
  have hll:l < s.heap.objs.size:=Heap.lt_size hol
  refine PyProof.Rows.kmk_tree PySem.F.kind_max PySem.F.plain_max PySem.F.entry_max (maxD_args _ _) ?_
  show wpAny _ A.in1 (Builtin.Builtins.bindParams "max" ["key", "default"] 0 ⟨[],[(Str.ofString "default", .int d td)]⟩ >>= _) _ _ s
  refine wpAny_bind (wpAny_of_eq (show Builtin.Builtins.bindParams "max" ["key", "default"] 0 ⟨[],[(Str.ofString "default", .int d td)]⟩ = pure [none,some (.int d td)] from rfl) ?_)
  refine wpAny_bind (wpAny_pure ?_); refine wpAny_bind (wpAny_pyIter_list hl ?_); refine wpAny_bind (wpAny_newList ?_ (Nat.zero_le _)); rw [nm]
  refine wpAny_pure ⟨plainId_quiet PySem.F.plain_max_loop _,?_⟩
  generalize eI:s.heap.objs.size = I
  have hlI:l ≠ I:=by rw [← eI]; exact Nat.ne_of_lt hll
  have hS:(s.heap.push { cls:=.type "list_iterator", data:=.fields #[.ref l,.int 0 0] }).objs.size = I + 1:=by rw [← eI]; exact size_push' ..
  rw [hS]
  have hSI:I + 1 ≠ I:=Nat.succ_ne_self _
  have hSl:I + 1 ≠ l:=Nat.ne_of_gt (Nat.lt_succ_of_lt (by rw [← eI]; exact hll))
  have oldI:∀ {b:Addr} {o:Obj},s.heap.get? b = some o→b ≠ I∧b ≠ I + 1:=fun e=>by
    have:=Heap.lt_size e
    rw [eI] at this
    exact ⟨Nat.ne_of_lt this,Nat.ne_of_lt (Nat.lt_succ_of_lt this)⟩
  have gI:((s.heap.push { cls:=.type "list_iterator", data:=.fields #[.ref l,.int 0 0] }).push { cls:=.type "list", data:=.seq ([]:List Value).toArray }).get? I = some { cls:=.type "list_iterator", data:=.fields #[.ref l,.int 0 0] }:=by
    rw [← eI]; exact Heap.get?_push_of_some _ (Heap.get?_push_size _ rfl)
  have gS:((s.heap.push { cls:=.type "list_iterator", data:=.fields #[.ref l,.int 0 0] }).push { cls:=.type "list", data:=.seq ([]:List Value).toArray }).get? (I + 1) = some { cls:=.type "list", data:=.seq ([]:List Value).toArray }:=by
    rw [← hS]; exact Heap.get?_push_size _ rfl
  have old:∀ b o,s.heap.get? b = some o→((s.heap.push { cls:=.type "list_iterator", data:=.fields #[.ref l,.int 0 0] }).push { cls:=.type "list", data:=.seq ([]:List Value).toArray }).get? b = some o:=fun b o e=>Heap.get?_push_of_some _ (Heap.get?_push_of_some _ e)
  generalize ((s.heap.push { cls:=.type "list_iterator", data:=.fields #[.ref l,.int 0 0] }).push { cls:=.type "list", data:=.seq ([]:List Value).toArray }) = h0 at gI gS old ⊢
  have hit:h0.IsListIter I l 0:=⟨_,gI,rfl,rfl⟩
  have hl0:h0.IsList l us.toArray:=hl.at fun o e=>old l o e
  have W:=Walks.list (prog:=prog) (w:=w) (A:=A.in1) hh I l hlI us.toArray
  refine codeAny_builtin PySem.F.entry_max_loop ?_; rw [Around.under_plainId PySem.F.plain_max_loop _]; show wpAny _ A.in1 (seqItems? (.ref (I + 1)) >>= _) _ _ _
  refine wpAny_bind (wpAny_seqItems gS rfl ?_); show wpAny _ A.in1 (tryCatch (pyNext (.ref I)) _ >>= _) _ _ _
  cases hi with
  | nil =>
    refine wpAny_bind (wpAny_tryCatch (W.done _ _ _ ⟨hit,hl0⟩ fun h1 t1 k1=>?_))
    refine wpAny_bind (wpAny_rule (wpAny_pure ?_))
    exact h _ _ d td (.inl ⟨rfl,rfl⟩) fun b o e=>k1 b o (by simpa using (oldI e).1) (old b o e)
  | @cons n tn us ns hi' =>
    refine wpAny_bind (wpAny_tryCatch (W.item 0 _ _ _ (by simp) ⟨hit,hl0⟩ fun v h1 t1 hv st1 k1=>?_))
    have ev:v = .int n tn:=by
      have z:some (Value.int n tn) = some v:=by simpa using hv
      exact (Option.some.inj z).symm
    subst ev
    have hS1:=k1 (I + 1) _ (by simpa using hSI) gS
    show wpAny _ A.in1 (updateSeq (I + 1) (fun _=>#[.int n tn,.int n tn]) >>= _) _ _ _; refine wpAny_bind ?_
    refine wpAny_updateSeq hS1 rfl ?_; rw [nm]
    refine wpAny_pure ⟨plainId_quiet PySem.F.plain_max_loop _,maxD_loop (us:=.int n tn :: us) (ns:=n :: ns) hh hlI hSI hSl (.cons n tn hi') _ 1 _ n tn _ rfl (by simp) (st1.1.at fun o e=>(Heap.get?_update_other _ _ hSI).trans e) (st1.2.at fun o e=>(Heap.get?_update_other _ _ hSl).trans e) (Heap.get?_update_self _ hS1 rfl) (by simp) (fun y hy=>?_) fun h' tk M' t' a1 a2 a3=>h h' tk M' t' (.inr ⟨a1,a2⟩) fun b o e=>a3 b o (oldI e).1 (oldI e).2 ?_⟩
    · simp at hy
      omega
    · exact (Heap.get?_update_other _ _ (Ne.symm (oldI e).2)).trans (k1 b o (by simpa using (oldI e).1) (old b o e))
end
section
variable {X:Cx}
def tmaxD (K:PySem.W.Frag) (t tk:TA):TE:=fun σ H Q=>t σ H fun vs H1=>tk σ H1 fun zs H2=>∃ (a:Addr) (ns:List Int) (d:Int),vs = [V.ref a]∧zs = [V.int d]∧SqL K H2 a (ns.map V.int)∧∀ m,maxOf ns d m→Q (.int m) H2
theorem pe_maxD {p pos kpos:Pos} {e dx:Expr} {t tk:TA} (hc:X.calm = true) (hg:Gl X "max") (hm:X.mg "max" = none) (ha:PA X [e] t) (hk:PK X [⟨some "default", dx,kpos⟩] tk)
    (he:backTo pos (starEach [e] X.env) = (false,eval e X.env) :: backTo pos (starEach [] X.env):=by rfl) (hpl:(backTo pos (starEach [e] X.env)).any (·.1) = false:=by rfl) :
    PE X (.Call (.Name "max" p) [e] [⟨some "default", dx,kpos⟩] pos) (tmaxD X.K t tk):=by
  intro pins s σ H Q I h
  refine wpAny_Call_Name_kw (zIU I hg hm PyProof.Rows.boot_max ?_ (by decide) (by decide))
  refine callWith_kw (thn (ha pos pins s σ H _ I h) fun us s1 ⟨vs,H1,I1,r1,q1⟩=>?_) he hpl
  refine thn (hk pos pins s1 σ H1 _ I1 q1) fun ws s2 ⟨zs,H2,I2,r2,a,ns,d,ea,ed,hs,q⟩=>?_
  subst ea ed
  obtain ⟨its,rv,hl,_⟩:=I2.list hs
  rw [jS.ref1 r1]
  cases r2 with
  | cons r rr =>
    cases rr
    obtain ⟨td,rfl⟩:=r
    exact maxD_call (I.ok.hd hc) hl.isList rv.ints fun h' tk M t' hM hk=>⟨.int M,H2,I2.kept hk,⟨_,rfl⟩,q M hM⟩
end
section
variable {prog:Program} {w:World} {A:Around} {E:Value→Shared→Prop}
theorem minD_loop {R:Result→Shared→Prop} {l I S:Addr} {us:List Value} {ns:List Int} {d:Value} (hh:A.handled = none) (hlI:l ≠ I) (hSI:S ≠ I) (hSl:S ≠ l) (hi:IntsAre us ns) :
    ∀ (r j:Nat) (s:Shared) (M:Int) (tm:Tok) (c:Nat),us.length - j = r→j ≤ us.length→s.heap.IsListIter I l j→s.heap.IsList l us.toArray →
      s.heap.get? S = some { cls:=.type "list", dict:=none,data:=.seq #[.int M tm,.int M tm] c,slots:=#[] }→M ∈ ns→(∀ y ∈ ns.take j,M ≤ y) →
      (∀ (h':Heap) (tk:Nat) (M':Int) (t':Tok),M' ∈ ns→(∀ y ∈ ns,M' ≤ y)→(∀ b o,b ≠ I→b ≠ S→s.heap.get? b = some o→h'.get? b = some o)→R (.ok (.ret (.int M' t'))) { s with heap:=h',toks:=tk }) →
      codeAny (model prog w) A (.builtin "min.loop" ⟨[.ref I,.none,.ref S],[("default", d)]⟩) R s:=by
  have nm:(toString "min" ++ toString ".loop" : String) = "min.loop" := by decide
  have W:=Walks.list (prog:=prog) (w:=w) (A:=A.in1) hh I l hlI us.toArray
  have hlen:=hi.length
  intro r
  induction r with
  | zero =>
    intro j s M tm c hr hj hit hl hS hM hbest hR
    have e0:j = us.length:=by omega
    refine codeAny_builtin PySem.F.entry_min_loop ?_; rw [Around.under_plainId PySem.F.plain_min_loop _]; show wpAny _ A.in1 (seqItems? (.ref S) >>= _) _ _ _
    refine wpAny_bind (wpAny_seqItems hS rfl ?_); show wpAny _ A.in1 (tryCatch (pyNext (.ref I)) _ >>= _) _ _ _
    refine wpAny_bind (wpAny_tryCatch (W.done s _ _ ⟨by rw [List.size_toArray,← e0]; exact hit,hl⟩ fun h1 t1 k1=>?_))
    have hS1:=k1 S _ (by simpa using hSI) hS
    show wpAny _ A.in1 (updateSeq S (fun _=>#[]) >>= _) _ _ _; refine wpAny_bind ?_
    refine wpAny_updateSeq hS1 rfl (wpAny_bind (wpAny_letGo (wpAny_pure ?_)))
    refine hR _ _ M tm hM (fun y hy=>hbest y (by rw [e0,hlen,List.take_length]; exact hy)) fun b o hI hb e=>?_
    exact (Heap.get?_update_other _ _ (Ne.symm hb)).trans (k1 b o (by simpa using hI) e)
  | succ r ih =>
    intro j s M tm c hr hj hit hl hS hM hbest hR
    have hlt:j < us.length:=by omega
    obtain ⟨n,hn⟩:∃ n,ns[j]? = some n:=⟨_,List.getElem?_eq_getElem (by omega)⟩
    obtain ⟨tn,hu⟩:=hi.get j n hn
    refine codeAny_builtin PySem.F.entry_min_loop ?_; rw [Around.under_plainId PySem.F.plain_min_loop _]; show wpAny _ A.in1 (seqItems? (.ref S) >>= _) _ _ _
    refine wpAny_bind (wpAny_seqItems hS rfl ?_); show wpAny _ A.in1 (tryCatch (pyNext (.ref I)) _ >>= _) _ _ _
    refine wpAny_bind (wpAny_tryCatch (W.item j s _ _ (by rw [List.size_toArray]; exact hlt) ⟨hit,hl⟩ fun v h1 t1 hv st1 k1=>?_))
    have ev:v = .int n tn:=by
      have z:us[j]? = some v:=by simpa using hv
      rw [hu] at z
      exact (Option.some.inj z).symm
    subst ev
    have hS1:=k1 S _ (by simpa using hSI) hS
    have hmem:n ∈ ns:=List.mem_of_getElem? hn
    have tk1:ns.take (j + 1) = ns.take j ++ [n]:=by
      rw [List.take_add_one,hn]
      rfl
    show wpAny _ A.in1 (tryCatch (holding [.int n tn,.int n tn] (richCompare .Lt (.int n tn) (.int M tm) >>= _)) _ >>= _) _ _ _
    refine wpAny_bind (wpAny_tryCatch (wpAny_holding (wpAny_bind (CmpOf.ints_lt (prog:=prog) (w:=w) (A:=A.in1) (P:=fun (i:Nat) v=>∃ t,v = .int (if i = 0 then n else M) t) (fun i=>if i = 0 then n else M) (fun i v h=>h) 0 1 _ _ _ _ _ ⟨tn,rfl⟩ ⟨tm,rfl⟩ ?_))))
    refine wpAny_bind (wpAny_holding (wpAny_truthy_bool ?_)); refine wpAny_bind (wpAny_letGo (wpAny_pure ?_))
    by_cases hb:n < M
    · show wpAny _ A.in1 (if decide (n < M) = true then _ else _) _ _ _; rw [decide_eq_true hb]
      simp only [if_true]
      refine wpAny_bind ?_
      refine wpAny_updateSeq hS1 rfl (wpAny_bind (wpAny_letGo ?_)); rw [nm]
      refine wpAny_pure ⟨plainId_quiet PySem.F.plain_min_loop _,ih (j + 1) _ n tn _ (by omega) (by omega) (st1.1.at fun o e=>(Heap.get?_update_other _ _ hSI).trans e) (st1.2.at fun o e=>(Heap.get?_update_other _ _ hSl).trans e) (Heap.get?_update_self _ hS1 rfl) hmem (fun y hy=>?_) fun h' tk M' t' a1 a2 a3=>hR h' tk M' t' a1 a2 fun b o hI hbS e=>a3 b o hI hbS ?_⟩
      · rw [tk1] at hy
        rcases List.mem_append.mp hy with q | q
        · have:=hbest y q
          omega
        · rw [List.mem_singleton.mp q]
          omega
      · exact (Heap.get?_update_other _ _ (Ne.symm hbS)).trans (k1 b o (by simpa using hI) e)
    · show wpAny _ A.in1 (if decide (n < M) = true then _ else _) _ _ _; rw [decide_eq_false hb]
      simp only [Bool.false_eq_true,if_false]
      refine wpAny_bind (wpAny_letGo ?_); rw [nm]
      refine wpAny_pure ⟨plainId_quiet PySem.F.plain_min_loop _,ih (j + 1) _ M tm c (by omega) (by omega) st1.1 st1.2 hS1 hM (fun y hy=>?_) fun h' tk M' t' a1 a2 a3=>hR h' tk M' t' a1 a2 fun b o hI hbS e=>a3 b o hI hbS (k1 b o (by simpa using hI) e)⟩
      rw [tk1] at hy
      rcases List.mem_append.mp hy with q | q
      · exact hbest y q
      · rw [List.mem_singleton.mp q]
        omega
theorem minD_args (a v:Value):argsOk "min" ⟨[a],[(Str.ofString "default", v)]⟩:=by unfold argsOk; kernel_rfl
def minOf (ns:List Int) (d m:Int):Prop:=(ns = []∧m = d)∨(m ∈ ns∧∀ y ∈ ns,m ≤ y)
theorem minD_call {s:Shared} {l:Addr} {us:List Value} {ns:List Int} {d:Int} {td:Tok} {Q:Value→Shared→Prop} (hh:A.handled = none) (hl:s.heap.IsList l us.toArray) (hi:IntsAre us ns)
    (h:∀ (h':Heap) (tk:Nat) (M:Int) (t':Tok),minOf ns d M→(∀ b o,s.heap.get? b = some o→h'.get? b = some o)→Q (.int M t') { s with heap:=h',toks:=tk }) :
    wpAny (model prog w) A (call (.builtin "min") [.ref l] [(Str.ofString "default", .int d td)]) Q E s:=by
  have nm:(toString "min" ++ toString ".loop" : String) = "min.loop" := by decide
  have hlen:=hi.length
  obtain ⟨ol,hol,_⟩:=id hl
  have hll:l < s.heap.objs.size:=Heap.lt_size hol
  refine PyProof.Rows.kmk_tree PySem.F.kind_min PySem.F.plain_min PySem.F.entry_min (minD_args _ _) ?_
  show wpAny _ A.in1 (Builtin.Builtins.bindParams "min" ["key", "default"] 0 ⟨[],[(Str.ofString "default", .int d td)]⟩ >>= _) _ _ s
  refine wpAny_bind (wpAny_of_eq (show Builtin.Builtins.bindParams "min" ["key", "default"] 0 ⟨[],[(Str.ofString "default", .int d td)]⟩ = pure [none,some (.int d td)] from rfl) ?_)
  refine wpAny_bind (wpAny_pure ?_); refine wpAny_bind (wpAny_pyIter_list hl ?_); refine wpAny_bind (wpAny_newList ?_ (Nat.zero_le _)); rw [nm]
  refine wpAny_pure ⟨plainId_quiet PySem.F.plain_min_loop _,?_⟩
  generalize eI:s.heap.objs.size = I
  have hlI:l ≠ I:=by rw [← eI]; exact Nat.ne_of_lt hll
  have hS:(s.heap.push { cls:=.type "list_iterator", data:=.fields #[.ref l,.int 0 0] }).objs.size = I + 1:=by rw [← eI]; exact size_push' ..
  rw [hS]
  have hSI:I + 1 ≠ I:=Nat.succ_ne_self _
  have hSl:I + 1 ≠ l:=Nat.ne_of_gt (Nat.lt_succ_of_lt (by rw [← eI]; exact hll))
  have oldI:∀ {b:Addr} {o:Obj},s.heap.get? b = some o→b ≠ I∧b ≠ I + 1:=fun e=>by
    have:=Heap.lt_size e
    rw [eI] at this
    exact ⟨Nat.ne_of_lt this,Nat.ne_of_lt (Nat.lt_succ_of_lt this)⟩
  have gI:((s.heap.push { cls:=.type "list_iterator", data:=.fields #[.ref l,.int 0 0] }).push { cls:=.type "list", data:=.seq ([]:List Value).toArray }).get? I = some { cls:=.type "list_iterator", data:=.fields #[.ref l,.int 0 0] }:=by
    rw [← eI]; exact Heap.get?_push_of_some _ (Heap.get?_push_size _ rfl)
  have gS:((s.heap.push { cls:=.type "list_iterator", data:=.fields #[.ref l,.int 0 0] }).push { cls:=.type "list", data:=.seq ([]:List Value).toArray }).get? (I + 1) = some { cls:=.type "list", data:=.seq ([]:List Value).toArray }:=by
    rw [← hS]; exact Heap.get?_push_size _ rfl
  have old:∀ b o,s.heap.get? b = some o→((s.heap.push { cls:=.type "list_iterator", data:=.fields #[.ref l,.int 0 0] }).push { cls:=.type "list", data:=.seq ([]:List Value).toArray }).get? b = some o:=fun b o e=>Heap.get?_push_of_some _ (Heap.get?_push_of_some _ e)
  generalize ((s.heap.push { cls:=.type "list_iterator", data:=.fields #[.ref l,.int 0 0] }).push { cls:=.type "list", data:=.seq ([]:List Value).toArray }) = h0 at gI gS old ⊢
  have hit:h0.IsListIter I l 0:=⟨_,gI,rfl,rfl⟩
  have hl0:h0.IsList l us.toArray:=hl.at fun o e=>old l o e
  have W:=Walks.list (prog:=prog) (w:=w) (A:=A.in1) hh I l hlI us.toArray
  refine codeAny_builtin PySem.F.entry_min_loop ?_; rw [Around.under_plainId PySem.F.plain_min_loop _]; show wpAny _ A.in1 (seqItems? (.ref (I + 1)) >>= _) _ _ _
  refine wpAny_bind (wpAny_seqItems gS rfl ?_); show wpAny _ A.in1 (tryCatch (pyNext (.ref I)) _ >>= _) _ _ _
  cases hi with
  | nil =>
    refine wpAny_bind (wpAny_tryCatch (W.done _ _ _ ⟨hit,hl0⟩ fun h1 t1 k1=>?_))
    refine wpAny_bind (wpAny_rule (wpAny_pure ?_))
    exact h _ _ d td (.inl ⟨rfl,rfl⟩) fun b o e=>k1 b o (by simpa using (oldI e).1) (old b o e)
  | @cons n tn us ns hi' =>
    refine wpAny_bind (wpAny_tryCatch (W.item 0 _ _ _ (by simp) ⟨hit,hl0⟩ fun v h1 t1 hv st1 k1=>?_))
    have ev:v = .int n tn:=by
      have z:some (Value.int n tn) = some v:=by simpa using hv
      exact (Option.some.inj z).symm
    subst ev
    have hS1:=k1 (I + 1) _ (by simpa using hSI) gS
    show wpAny _ A.in1 (updateSeq (I + 1) (fun _=>#[.int n tn,.int n tn]) >>= _) _ _ _; refine wpAny_bind ?_
    refine wpAny_updateSeq hS1 rfl ?_; rw [nm]
    refine wpAny_pure ⟨plainId_quiet PySem.F.plain_min_loop _,minD_loop (us:=.int n tn :: us) (ns:=n :: ns) hh hlI hSI hSl (.cons n tn hi') _ 1 _ n tn _ rfl (by simp) (st1.1.at fun o e=>(Heap.get?_update_other _ _ hSI).trans e) (st1.2.at fun o e=>(Heap.get?_update_other _ _ hSl).trans e) (Heap.get?_update_self _ hS1 rfl) (by simp) (fun y hy=>?_) fun h' tk M' t' a1 a2 a3=>h h' tk M' t' (.inr ⟨a1,a2⟩) fun b o e=>a3 b o (oldI e).1 (oldI e).2 ?_⟩
    · simp at hy
      omega
    · exact (Heap.get?_update_other _ _ (Ne.symm (oldI e).2)).trans (k1 b o (by simpa using (oldI e).1) (old b o e))
end
section
variable {X:Cx}
def tminD (K:PySem.W.Frag) (t tk:TA):TE:=fun σ H Q=>t σ H fun vs H1=>tk σ H1 fun zs H2=>∃ (a:Addr) (ns:List Int) (d:Int),vs = [V.ref a]∧zs = [V.int d]∧SqL K H2 a (ns.map V.int)∧∀ m,minOf ns d m→Q (.int m) H2
theorem pe_minD {p pos kpos:Pos} {e dx:Expr} {t tk:TA} (hc:X.calm = true) (hg:Gl X "min") (hm:X.mg "min" = none) (ha:PA X [e] t) (hk:PK X [⟨some "default", dx,kpos⟩] tk)
    (he:backTo pos (starEach [e] X.env) = (false,eval e X.env) :: backTo pos (starEach [] X.env):=by rfl) (hpl:(backTo pos (starEach [e] X.env)).any (·.1) = false:=by rfl) :
    PE X (.Call (.Name "min" p) [e] [⟨some "default", dx,kpos⟩] pos) (tminD X.K t tk):=by
  intro pins s σ H Q I h
  refine wpAny_Call_Name_kw (zIU I hg hm PyProof.Rows.boot_min ?_ (by decide) (by decide))
  refine callWith_kw (thn (ha pos pins s σ H _ I h) fun us s1 ⟨vs,H1,I1,r1,q1⟩=>?_) he hpl
  refine thn (hk pos pins s1 σ H1 _ I1 q1) fun ws s2 ⟨zs,H2,I2,r2,a,ns,d,ea,ed,hs,q⟩=>?_
  subst ea ed
  obtain ⟨its,rv,hl,_⟩:=I2.list hs
  rw [jS.ref1 r1]
  cases r2 with
  | cons r rr =>
    cases rr
    obtain ⟨td,rfl⟩:=r
    exact minD_call (I.ok.hd hc) hl.isList rv.ints fun h' tk M t' hM hk=>⟨.int M,H2,I2.kept hk,⟨_,rfl⟩,q M hM⟩
end
end LX
namespace LX
open PySem PySem.Spec PyProof.Rows L2
section
variable {prog:Program} {w:World} {A:Around} {E:Value→Shared→Prop} {s:Shared}
theorem nextOf_tup {it t:Addr} {i:Nat} {items:Array Value} {x:Value} {Q:Value→Shared→Prop} (hit:s.heap.IsTupleIter it t i) (ht:s.heap.IsTuple t items) (hx:items[i]? = some x)
    (hQ:∀ h',h'.IsTupleIter it t (i + 1)→Heap.SameBut it s.heap h'→Q x { s with heap:=h' }):wpAny (model prog w) A (Builtin.SmallTypes.nextOf (.ref it)) Q E s:=by
  obtain ⟨o,ho,hc,hd⟩:=id hit; obtain ⟨ol,hol,_,nl,hdl⟩:=ht; unfold Builtin.SmallTypes.nextOf
  refine wpAny_bind (wpAny_callSpecial?_slot (name:=Str.ofString "__next__") hit.typeIs PySem.F.slot_tuple_iterator_next (wpAny_call_entry PySem.F.slot_tuple_iterator_next hit.typeIs PySem.F.entry_tuple_iterator_next ?_ (PySem.F.args_tuple_iterator_next_1 _)))
  show wpAny _ _ (field (.ref it) 0 >>= _) _ _ s; refine wpAny_bind (wpAny_field ho hd (x:=.ref t) rfl ?_); show wpAny _ _ (if (Value.ref t == Value.none) = true then _ else _) _ _ s; rw [if_neg (show ¬ ((Value.ref t == Value.none) = true) from Bool.false_ne_true)]
  show wpAny _ _ (field (.ref it) 1 >>= _) _ _ s; refine wpAny_bind (wpAny_field ho hd (x:=.int i 0) rfl ?_); show wpAny _ _ (seqItems? (.ref t) >>= _) _ _ s; refine wpAny_bind (wpAny_seqItems hol hdl ?_); simp only [Int.toNat_natCast,hx]
  refine wpAny_bind (wpAny_setField ho hd (by simp) (wpAny_pure ⟨x,rfl,wpAny_pure (hQ _ ⟨_,Heap.get?_update_self _ ho (Obj.isFreed_of_fields (Obj.data_mapFields hd _)),(Obj.cls_mapFields ..).trans hc,by (rw [Obj.data_mapFields hd]; simp [rawInt])⟩ (Heap.SameBut.update ..))⟩))
theorem zipT_item {z TI TO i1 i2 l1 l2:Addr} {k1 k2:Nat} {xs ys:Array Value} {x y a b:Value} {Q:Value→Shared→Prop} (D:ZipApart z TI TO i1 i2 l1 l2)
    (hz:IsZip s.heap z TI TO .none) (hTI:IsPair s.heap TI (.ref i1) (.ref i2)) (hTO:IsPair s.heap TO a b) (h1:s.heap.IsListIter i1 l1 k1) (h2:s.heap.IsTupleIter i2 l2 k2) (hl1:s.heap.IsList l1 xs) (hl2:s.heap.IsTuple l2 ys) (hx:xs[k1]? = some x) (hy:ys[k2]? = some y)
    (hQ:∀ h',IsZip h' z TI TO (rawInt s.heap.objs.size)→IsPair h' TO x y→h'.IsListIter i1 l1 (k1 + 1)→h'.IsTupleIter i2 l2 (k2 + 1)→IsPair h' s.heap.objs.size x y →
      (∀ c o,c ≠ z→c ≠ TO→c ≠ i1→c ≠ i2→s.heap.get? c = some o→h'.get? c = some o)→Q (.ref s.heap.objs.size) { s with heap:=h' }) :
    wpAny (model prog w) A (Builtin.«zip.__next__» ⟨[.ref z],[]⟩) (fun fin s'=>∃ v,fin = .done (.ret v)∧Q v s') E s:=by
  show wpAny _ _ (field (.ref z) 2 >>= _) _ _ _; refine wpAny_bind (wpAny_field hz rfl (x:=.bool false) rfl ?_); show wpAny _ _ (field (.ref z) 3 >>= _) _ _ _; refine wpAny_bind (wpAny_field hz rfl (x:=.ref TI) rfl ?_); refine wpAny_bind (wpAny_seqItems hTI rfl ?_)
  show wpAny _ _ (Builtin.SmallTypes.ownedTupleIsFree (.ref z) >>= _) _ _ _; refine wpAny_bind ?_; unfold Builtin.SmallTypes.ownedTupleIsFree; refine wpAny_bind (wpAny_field hz rfl (x:=.none) rfl (wpAny_pure ?_)); simp only [if_true]
  refine wpAny_bind (wpAny_rule ?_); refine wpAny_bind (wpAny_field hz rfl (x:=.ref TO) rfl ?_); refine wpAny_bind (wpAny_setField_rec hz (by simp) fun g1 z1 b1=>?_); replace z1:IsZip g1 z TI TO .ellipsis:=z1
  refine wpAny_bind ?_; simp only [List.zipIdx_cons,List.zipIdx_nil,List.forIn_cons,List.forIn_nil]
  refine wpAny_bind (wpAny_bind (wpAny_onRaise ?_)); show wpAny _ _ (Builtin.SmallTypes.nextOf (.ref i1) >>= _) _ _ _
  refine wpAny_bind (wpAny_nextOf_list_item (h1.extBut b1.extBut D.i1z) (hl1.extBut b1.extBut D.l1z) hx fun g2 q2 b2=>wpAny_pure ?_)
  have p2:IsPair g2 TO a b:=b2.extBut _ _ D.TOi1 (b1.extBut _ _ D.TOz hTO)
  refine wpAny_bind (wpAny_seqItems p2 rfl ?_); refine wpAny_bind (wpAny_updateSeq_pair p2 fun g3 p3 b3=>?_); replace p3:IsPair g3 TO x b:=p3; refine wpAny_bind (wpAny_letGo (wpAny_pure ?_))
  refine wpAny_bind (wpAny_bind (wpAny_onRaise ?_)); show wpAny _ _ (Builtin.SmallTypes.nextOf (.ref i2) >>= _) _ _ _
  refine wpAny_bind (nextOf_tup (((h2.extBut b1.extBut D.i2z).extBut b2.extBut D.i12.symm).extBut b3.extBut D.TOi2.symm) (((hl2.extBut b1.extBut D.l2z).extBut b2.extBut D.l2i1).extBut b3.extBut D.l2TO) hy fun g4 q4 b4=>wpAny_pure ?_)
  have p4:IsPair g4 TO x b:=b4.extBut _ _ D.TOi2 p3
  refine wpAny_bind (wpAny_seqItems p4 rfl ?_); refine wpAny_bind (wpAny_updateSeq_pair p4 fun g5 p5 b5=>?_); replace p5:IsPair g5 TO x y:=p5; refine wpAny_bind (wpAny_letGo (wpAny_pure (wpAny_pure ?_)))
  refine wpAny_bind (wpAny_seqItems p5 rfl ?_); refine wpAny_bind (wpAny_newTuple ?_)
  have gs:g5.objs.size = s.heap.objs.size:=by rw [b5.1,b4.1,b3.1,b2.1,b1.1]
  have z5:IsZip g5 z TI TO .ellipsis:=b5.extBut _ _ D.TOz.symm (b4.extBut _ _ D.i2z.symm (b3.extBut _ _ D.TOz.symm (b2.extBut _ _ D.i1z.symm z1)))
  have k5:∀ c o,c ≠ z→c ≠ TO→c ≠ i1→c ≠ i2→s.heap.get? c = some o→g5.get? c = some o:=fun c o c1 c2 c3 c4 e=>b5.extBut _ _ c2 (b4.extBut _ _ c4 (b3.extBut _ _ c2 (b2.extBut _ _ c3 (b1.extBut _ _ c1 e))))
  have q15:g5.IsListIter i1 l1 (k1 + 1):=((q2.extBut b3.extBut D.TOi1.symm).extBut b4.extBut D.i12).extBut b5.extBut D.TOi1.symm
  have q25:g5.IsTupleIter i2 l2 (k2 + 1):=q4.extBut b5.extBut D.TOi2.symm
  have zl:z < g5.objs.size:=Heap.lt_size z5
  show wpAny _ _ (Builtin.SmallTypes.ownedTupleHandOut (.ref z) (.ref g5.objs.size) >>= _) _ _ _; refine wpAny_bind ?_; unfold Builtin.SmallTypes.ownedTupleHandOut
  have z6:IsZip (g5.push { cls:=.type "tuple", data:=.seq #[x,y] }) z TI TO .ellipsis:=Heap.get?_push_of_some _ z5
  refine wpAny_bind (wpAny_setField_rec z6 (by simp) fun g7 z7 b7=>?_); replace z7:IsZip g7 z TI TO (rawInt g5.objs.size):=z7
  refine wpAny_setField_rec z7 (by simp) fun g8 z8 b8=>?_; replace z8:IsZip g8 z TI TO (rawInt g5.objs.size):=z8
  have up:∀ c o,c ≠ z→g5.get? c = some o→g8.get? c = some o:=fun c o c1 e=>b8.extBut _ _ c1 (b7.extBut _ _ c1 (Heap.get?_push_of_some _ e))
  have t8:IsPair g8 g5.objs.size x y:=b8.extBut _ _ (Nat.ne_of_gt zl) (b7.extBut _ _ (Nat.ne_of_gt zl) (Heap.get?_push_size _ rfl))
  rw [gs] at z8 t8
  refine wpAny_pure ⟨_,rfl,?_⟩; show Q (.ref g5.objs.size) _; rw [gs]
  exact hQ g8 z8 (up _ _ D.TOz p5) (q15.at fun o e=>up _ o D.i1z e) (q25.at fun o e=>up _ o D.i2z e) t8 fun c o c1 c2 c3 c4 e=>up c o c1 (k5 c o c1 c2 c3 c4 e)
theorem zipT_end {z TI TO i1 i2 l1 l2:Addr} {k1:Nat} {xs:Array Value} {a b:Value} {Q:Fin→Shared→Prop} (hh:A.handled = none) (D:ZipApart z TI TO i1 i2 l1 l2)
    (hz:IsZip s.heap z TI TO .none) (hTI:IsPair s.heap TI (.ref i1) (.ref i2)) (hTO:IsPair s.heap TO a b) (h1:s.heap.IsListIter i1 l1 k1) (hl1:s.heap.IsList l1 xs) (hx:xs[k1]? = none)
    (hE:∀ h' e,(∀ c o,c ≠ z→c ≠ i1→s.heap.get? c = some o→h'.get? c = some o)→(∃ o,h'.get? e = some o∧o.cls = .type "StopIteration")→E (.ref e) { s with heap:=h' }) :
    wpAny (model prog w) A (Builtin.«zip.__next__» ⟨[.ref z],[]⟩) Q E s:=by
  show wpAny _ _ (field (.ref z) 2 >>= _) _ _ _; refine wpAny_bind (wpAny_field hz rfl (x:=.bool false) rfl ?_); show wpAny _ _ (field (.ref z) 3 >>= _) _ _ _; refine wpAny_bind (wpAny_field hz rfl (x:=.ref TI) rfl ?_); refine wpAny_bind (wpAny_seqItems hTI rfl ?_)
  show wpAny _ _ (Builtin.SmallTypes.ownedTupleIsFree (.ref z) >>= _) _ _ _; refine wpAny_bind ?_; unfold Builtin.SmallTypes.ownedTupleIsFree; refine wpAny_bind (wpAny_field hz rfl (x:=.none) rfl (wpAny_pure ?_)); simp only [if_true]
  refine wpAny_bind (wpAny_rule ?_); refine wpAny_bind (wpAny_field hz rfl (x:=.ref TO) rfl ?_); refine wpAny_bind (wpAny_setField_rec hz (by simp) fun g1 z1 b1=>?_); replace z1:IsZip g1 z TI TO .ellipsis:=z1
  refine wpAny_bind ?_; simp only [List.zipIdx_cons,List.zipIdx_nil,List.forIn_cons,List.forIn_nil]
  refine wpAny_bind (wpAny_bind (wpAny_onRaise ?_)); show wpAny _ _ (Builtin.SmallTypes.nextOf (.ref i1) >>= _) _ _ _
  refine wpAny_bind (wpAny_nextOf_list_end hh (h1.extBut b1.extBut D.i1z) (hl1.extBut b1.extBut D.l1z) hx fun g2 e b2 he=>?_)
  obtain ⟨oe,hoe,hce⟩:=he
  have z2:IsZip g2 z TI TO .ellipsis:=b2 _ _ D.i1z.symm z1
  have ez:e ≠ z:=fun x=>by (subst x; rw [z2] at hoe; cases hoe; simp at hce)
  exact wpAny_setField_rec z2 (by simp) fun g3 _ b3=>hE g3 e (fun c o c1 c3 x=>b3.extBut _ _ c1 (b2 _ _ c3 (b1.extBut _ _ c1 x))) ⟨oe,b3.extBut _ _ ez hoe,hce⟩
theorem next_zipT_item {z TI TO i1 i2 l1 l2:Addr} {k1 k2:Nat} {xs ys:Array Value} {x y a b:Value} {Q:Option Value→Shared→Prop} (D:ZipApart z TI TO i1 i2 l1 l2)
    (hz:IsZip s.heap z TI TO .none) (hTI:IsPair s.heap TI (.ref i1) (.ref i2)) (hTO:IsPair s.heap TO a b) (h1:s.heap.IsListIter i1 l1 k1) (h2:s.heap.IsTupleIter i2 l2 k2) (hl1:s.heap.IsList l1 xs) (hl2:s.heap.IsTuple l2 ys) (hx:xs[k1]? = some x) (hy:ys[k2]? = some y)
    (hQ:∀ h',IsZip h' z TI TO (rawInt s.heap.objs.size)→IsPair h' TO x y→h'.IsListIter i1 l1 (k1 + 1)→h'.IsTupleIter i2 l2 (k2 + 1)→IsPair h' s.heap.objs.size x y →
      (∀ c o,c ≠ z→c ≠ TO→c ≠ i1→c ≠ i2→s.heap.get? c = some o→h'.get? c = some o)→Q (some (.ref s.heap.objs.size)) { s with heap:=h' }):wpAny (model prog w) A (pyNext (.ref z)) Q E s:=by
  have hT:s.TypeIs (.ref z) "zip" := ⟨_,hz,rfl⟩; unfold pyNext
  exact wpAny_bind (wpAny_attempt (wpAny_callSpecial?_slot (name:=Str.ofString "__next__") hT PySem.F.slot_zip_next (wpAny_call_entry PySem.F.slot_zip_next hT PySem.F.entry_zip_next (zipT_item D hz hTI hTO h1 h2 hl1 hl2 hx hy fun h' a1 a2 a3 a4 a5 a7=>wpAny_pure (hQ h' a1 a2 a3 a4 a5 a7)) (PySem.F.args_zip_next_1 _))))
theorem next_zipT_end {z TI TO i1 i2 l1 l2:Addr} {k1:Nat} {xs:Array Value} {a b:Value} {Q:Option Value→Shared→Prop} (hh:A.handled = none) (D:ZipApart z TI TO i1 i2 l1 l2)
    (hz:IsZip s.heap z TI TO .none) (hTI:IsPair s.heap TI (.ref i1) (.ref i2)) (hTO:IsPair s.heap TO a b) (h1:s.heap.IsListIter i1 l1 k1) (hl1:s.heap.IsList l1 xs) (hx:xs[k1]? = none)
    (hQ:∀ h',(∀ c o,c ≠ z→c ≠ i1→s.heap.get? c = some o→h'.get? c = some o)→Q none { s with heap:=h' }):wpAny (model prog w) A (pyNext (.ref z)) Q E s:=by
  have hT:s.TypeIs (.ref z) "zip" := ⟨_,hz,rfl⟩; unfold pyNext
  refine wpAny_bind (wpAny_attempt (wpAny_callSpecial?_slot (name:=Str.ofString "__next__") hT PySem.F.slot_zip_next (wpAny_call_entry PySem.F.slot_zip_next hT PySem.F.entry_zip_next (zipT_end hh D hz hTI hTO h1 hl1 hx fun h' e hk he=>?_) (PySem.F.args_zip_next_1 _))))
  obtain ⟨o,ho,hc⟩:=he; exact wpAny_bind (wpAny_isInstance (T := "StopIteration") (b:=true) ⟨o,ho,hc⟩ isSubtype_stop (wpAny_pure (hQ _ hk)))
abbrev zt1 (h:Heap) (l1:Addr):Heap:=h.push { cls:=.type "list_iterator", data:=.fields #[.ref l1,.int 0 0] }
abbrev zt2 (h:Heap) (l1 l2:Addr):Heap:=(zt1 h l1).push { cls:=.type "tuple_iterator", data:=.fields #[.ref l2,.int 0 0] }
abbrev zt3 (h:Heap) (l1 l2:Addr):Heap:=(zt2 h l1 l2).push { cls:=.type "tuple", data:=.seq #[.ref h.objs.size,.ref (zt1 h l1).objs.size] }
abbrev zt4 (h:Heap) (l1 l2:Addr):Heap:=(zt3 h l1 l2).push { cls:=.type "tuple", data:=.seq #[.none,.none] }
abbrev zt5 (h:Heap) (l1 l2:Addr):Heap:=(zt4 h l1 l2).push { cls:=.type "zip", data:=.fields #[.none,.bool false,.bool false,.ref (zt2 h l1 l2).objs.size,.ref (zt3 h l1 l2).objs.size] }
theorem zipT_new (l1 l2:Addr) (xs ys:Array Value) :
    Meets (Builtin.«zip.__new__» ⟨[.type "zip", .ref l1,.ref l2],[]⟩) (fun _ R s=>s.heap.IsList l1 xs∧s.heap.IsTuple l2 ys∧R (.ok (.ret (.ref (zt4 s.heap l1 l2).objs.size))) { s with heap:=zt5 s.heap l1 l2 }) :=
  .of_wp fun prog w A R s h=>by
    obtain ⟨hp,g,d,tk,os⟩:=s; obtain ⟨hl1,hl2,h⟩:=h; have hsub:=sub_zip
    have hL1:Heap.IsList (Shared.heap ⟨hp,g,d,tk,os⟩) l1 xs:=hl1
    have hL2:Heap.IsTuple (Shared.heap ⟨hp.push { cls:=.type "list_iterator", data:=.fields #[.ref l1,.int 0 0] },g,d,tk,os⟩) l2 ys:=Heap.IsTuple.push hl2 _
    wp_walk using wpAny_pyIter_list hL1,wpAny_pyIter_tuple hL2
    exact ⟨_,rfl,h⟩
theorem call_zipT {l1 l2:Addr} {xs ys:Array Value} {Q:Value→Shared→Prop} (hl1:s.heap.IsList l1 xs) (hl2:s.heap.IsTuple l2 ys)
    (h:∀ h',IsZip h' (s.heap.objs.size + 4) (s.heap.objs.size + 2) (s.heap.objs.size + 3) .none→IsPair h' (s.heap.objs.size + 2) (.ref s.heap.objs.size) (.ref (s.heap.objs.size + 1)) →
      IsPair h' (s.heap.objs.size + 3) .none .none→h'.IsListIter s.heap.objs.size l1 0→h'.IsTupleIter (s.heap.objs.size + 1) l2 0→(∀ c o,s.heap.get? c = some o→h'.get? c = some o)→Q (.ref (s.heap.objs.size + 4)) { s with heap:=h' }) :
    wpAny (model prog w) A (call (.type "zip") [.ref l1,.ref l2]) Q E s:=by
  refine callType_new PySem.F.called_zip (by decide) (PySem.F.typeCall_zip_2 _ _) (PySem.F.newCall_zip_2 _ _) (fun obj=>PySem.F.args_object_init_3 obj _ _) PySem.F.entry_zip_new (zipT_new l1 l2 xs ys) ⟨hl1,hl2,?_⟩
  have y1:(zt1 s.heap l1).objs.size = s.heap.objs.size + 1:=Heap.size_push ..
  have y2:(zt2 s.heap l1 l2).objs.size = s.heap.objs.size + 2:=by rw [Heap.size_push,y1]
  have y3:(zt3 s.heap l1 l2).objs.size = s.heap.objs.size + 3:=by rw [Heap.size_push,y2]
  have y4:(zt4 s.heap l1 l2).objs.size = s.heap.objs.size + 4:=by rw [Heap.size_push,y3]
  have e5:(zt5 s.heap l1 l2).get? (zt4 s.heap l1 l2).objs.size = some _:=Heap.get?_push_size _ rfl
  have e4:(zt5 s.heap l1 l2).get? (zt3 s.heap l1 l2).objs.size = some _:=Heap.get?_push_of_some _ (Heap.get?_push_size _ rfl)
  have e3:(zt5 s.heap l1 l2).get? (zt2 s.heap l1 l2).objs.size = some _:=Heap.get?_push_of_some _ (Heap.get?_push_of_some _ (Heap.get?_push_size _ rfl))
  have e2:(zt5 s.heap l1 l2).get? (zt1 s.heap l1).objs.size = some _:=Heap.get?_push_of_some _ (Heap.get?_push_of_some _ (Heap.get?_push_of_some _ (Heap.get?_push_size _ rfl)))
  have e1:(zt5 s.heap l1 l2).get? s.heap.objs.size = some _:=Heap.get?_push_of_some _ (Heap.get?_push_of_some _ (Heap.get?_push_of_some _ (Heap.get?_push_of_some _ (Heap.get?_push_size _ rfl))))
  show _∧_; rw [y2,y3,y4] at e5; rw [y1,y2] at e3; rw [y3] at e4; rw [y1] at e2; rw [y4]
  exact ⟨⟨_,e5,rfl⟩,h _ e5 e3 e4 ⟨_,e1,rfl,rfl⟩ ⟨_,e2,rfl,rfl⟩ fun c o x=>Heap.get?_push_of_some _ (Heap.get?_push_of_some _ (Heap.get?_push_of_some _ (Heap.get?_push_of_some _ (Heap.get?_push_of_some _ x))))⟩
end
def ItzT (K:PySem.W.Frag) (a b:Addr):It :=
  ⟨fun i H=>∃ (xs ys:List V) (x y:V),SqL K H a xs∧SqT K H b ys∧xs[i]? = some x∧ys[i]? = some y,
    fun i H v H'=>∃ T x y,v = .ref T∧H T = none∧H' = upd H T (.tup [x,y])∧(∀ xs,SqL K H a xs→xs[i]? = some x)∧∀ ys,SqT K H b ys→ys[i]? = some y,
    fun i H=>∃ xs:List V,SqL K H a xs∧xs.length ≤ i⟩
theorem turn_zipT {P:Program} {w:World} {K:PySem.W.Frag} {elts:List Expr} {kk:Nat} {tpos:Pos} {a b z TI TO i1 i2:Addr} (D:ZipApart z TI TO i1 i2 a b) :
    Turn P w K (.Tuple elts kk tpos) (ItzT K a b) [z,TI,TO,i1,i2] z (fun i h=>IsZip h z TI TO .none∧IsPair h TI (.ref i1) (.ref i2)∧(∃ x y,IsPair h TO x y)∧h.IsListIter i1 a i∧h.IsTupleIter i2 b i) where
  mem:=by simp
  obj:=fun i h st c hc=>by
    obtain ⟨hz,hTI,⟨x,y,hTO⟩,⟨o1,e1,_,d1⟩,⟨o2,e2,_,d2⟩⟩:=st
    have e':c = z∨c = TI∨c = TO∨c = i1∨c = i2:=by simpa using hc
    rcases e' with q | q | q | q | q
    · rw [q]; exact ⟨_,hz,fun v q=>nomatch q⟩
    · rw [q]; exact ⟨_,hTI,fun v q=>nomatch q⟩
    · rw [q]; exact ⟨_,hTO,fun v q=>nomatch q⟩
    · rw [q]; exact ⟨o1,e1,fun v q=>by rw [d1] at q; cases q⟩
    · rw [q]; exact ⟨o2,e2,fun v q=>by rw [d2] at q; cases q⟩
  keep:=fun i h h' st k=>by
    obtain ⟨hz,hTI,⟨x,y,hTO⟩,h1,h2⟩:=st
    exact ⟨k z (by simp) _ hz,k TI (by simp) _ hTI,⟨x,y,k TO (by simp) _ hTO⟩,h1.at fun o q=>k i1 (by simp) o q,h2.at fun o q=>k i2 (by simp) o q⟩
  item:=by
    intro X hP hw hK hc i pins s σ H E I hf st hg
    subst hP hw hK
    obtain ⟨hz,hTI,⟨x0,y0,hTO⟩,h1,h2⟩:=st
    obtain ⟨xs,ys,x,y,hqx,hqy,hx,hy⟩:=hg
    obtain ⟨its,rv,p,_⟩:=I.list hqx
    obtain ⟨its2,rv2,p2,_⟩:=I.tuple hqy
    obtain ⟨u,hu,ru⟩:=rv.get hx
    obtain ⟨u2,hu2,ru2⟩:=rv2.get hy
    have hzl:z < s.heap.objs.size:=Heap.lt_size hz
    refine next_zipT_item D hz hTI hTO h1 h2 p.isList p2 (x:=u) (y:=u2) (by simpa using hu) (by simpa using hu2) fun h' z' TO' h1' h2' hT hk=>?_
    refine ⟨_,rfl,wpAny_letOwnedTupleGo_zip (s:={ s with heap:=h' }) z' fun h'' z'' sb=>?_⟩
    have hT2:h''.get? s.heap.objs.size = some { cls:=.type "tuple", data:=.seq #[u,u2] }:=(sb.2 _ (Nat.ne_of_gt hzl)).trans hT
    have new:zAF X.prog X.w (upd H s.heap.objs.size (.tup [x,y])) h'' s.heap.objs.size (.tup [x,y]) :=
      ⟨by show 2 ≤ sizeLine; decide,[u,u2],.cons ru (.cons ru2 .nil),⟨_,hT2,rfl,_,rfl⟩⟩
    have I1:Inv X pins σ (upd H s.heap.objs.size (.tup [x,y])) { s with heap:=h'' } :=
      I.turnedNew (t':=s.toks) (ch:=[z,TI,TO,i1,i2]) (fun c o hb q=>(sb.2 c (fun q'=>hb (by simp [q']))).trans (hk c o (fun q'=>hb (by simp [q'])) (fun q'=>hb (by simp [q'])) (fun q'=>hb (by simp [q'])) (fun q'=>hb (by simp [q'])) q)) hf (Nat.le_refl _) new
    refine ⟨.ref s.heap.objs.size,_,I1,rfl,⟨_,x,y,rfl,I.hok.fresh (Nat.le_refl _),rfl,fun l hl=>by rw [I.list_inj hl hqx]; exact hx,fun l hl=>by rw [I.tuple_inj hl hqy]; exact hy⟩,⟨z'',?_,⟨u,u2,?_⟩,?_,?_⟩,fun c hcm=>?_⟩
    · exact (sb.2 _ D.TIz).trans (hk _ _ D.TIz D.TITO D.TIi1 D.TIi2 hTI)
    · exact (sb.2 _ D.TOz).trans TO'
    · exact h1'.at fun o q=>(sb.2 _ D.i1z).trans q
    · exact h2'.at fun o q=>(sb.2 _ D.i2z).trans q
    · have hlt:c < s.heap.objs.size:=by
        have e':c = z∨c = TI∨c = TO∨c = i1∨c = i2:=by simpa using hcm
        rcases e' with q | q | q | q | q
        · rw [q]; exact hzl
        · rw [q]; exact Heap.lt_size hTI
        · rw [q]; exact Heap.lt_size hTO
        · rw [q]; obtain ⟨_,e1,_⟩:=h1; exact Heap.lt_size e1
        · rw [q]; obtain ⟨_,e2,_⟩:=h2; exact Heap.lt_size e2
      rw [zV (Nat.ne_of_lt hlt)]
      exact (hf c hcm).1
  done:=by
    intro X hP hw hK hc i pins s σ H E I hf st hg
    subst hP hw hK
    obtain ⟨hz,hTI,⟨x0,y0,hTO⟩,h1,h2⟩:=st
    obtain ⟨xs,hqx,hend⟩:=hg
    obtain ⟨its,rv,p,_⟩:=I.list hqx
    have l1:=rv.length
    exact next_zipT_end (I.ok.hd hc) D hz hTI hTO h1 p.isList (by simp; omega) fun h' hk=>⟨rfl,I.turnedL (t':=s.toks) (ch:=[z,TI,TO,i1,i2]) (fun c o hb q=>hk c o (fun q'=>hb (by simp [q'])) (fun q'=>hb (by simp [q'])) q) hf⟩
  self:=fun A i s Q E st h=>wpAny_pyIter_zip st.1 h
def iZipT (K:PySem.W.Frag) (ta:TA):TI:=fun σ H R=>ta σ H fun vs H1=>∃ a b xs ys,vs = [.ref a,.ref b]∧SqL K H1 a xs∧SqT K H1 b ys∧R (ItzT K a b) H1
theorem pi_zipLT {X:Cx} {e e2:Expr} {ta:TA} {p pos tpos:Pos} {elts:List Expr} {kk:Nat} (hg:Gl X "zip") (hm:X.mg "zip" = none) (ha:PA X [e,e2] ta)
    (hs:starEach [e,e2] X.env = (false,eval e X.env) :: starEach [e2] X.env:=by rfl) (hpl:(backTo pos (starEach [e2] X.env)).any (·.1) = false:=by rfl) :
    PI X (.Tuple elts kk tpos) (.Call (.Name "zip" p) [e,e2] [] pos) (iZipT X.K ta):=by
  intro pins s σ H R I h
  refine Call_ (zIU I hg hm boot_zip5 (PyProof.Rows.callWith_type1 (thn (ha pos pins s σ H _ I h) fun us s1 ⟨vs,H1,I1,r1,q1⟩=>?_) hs hpl))
  obtain ⟨a,b,xs,ys,ex,hqx,hqy,q⟩:=q1
  subst ex
  cases r1 with
  | cons r rr =>
    cases rr with
    | cons r' rr =>
      cases rr
      cases r
      cases r'
      obtain ⟨its,rv,p1,_⟩:=I1.list hqx
      obtain ⟨its2,rv2,p2,_⟩:=I1.tuple hqy
      have la:a < s1.heap.objs.size:=p1.lt
      have lb:b < s1.heap.objs.size:=p2.lt
      refine call_zipT p1.isList p2 fun h' hz hTI hTO h1 h2 hk=>wpAny_pyIter_zip hz ?_
      have I2:Inv X pins σ H1 { s1 with heap:=h' }:=I1.kept (t':=s1.toks) hk
      refine ⟨s1.heap.objs.size + 4,[s1.heap.objs.size + 4,s1.heap.objs.size + 2,s1.heap.objs.size + 3,s1.heap.objs.size,s1.heap.objs.size + 1],_,_,H1,rfl,I2,turn_zipT (PySem.W.ktu_apart s1.heap.objs.size a b la lb),⟨hz,hTI,⟨_,_,hTO⟩,h1,h2⟩,fun c hcm=>?_,q⟩
      have e':c = s1.heap.objs.size + 4∨c = s1.heap.objs.size + 2∨c = s1.heap.objs.size + 3∨c = s1.heap.objs.size∨c = s1.heap.objs.size + 1:=by simpa using hcm
      have hle:s1.heap.objs.size ≤ c:=by
        rcases e' with z | z | z | z | z
        · rw [z]; exact Nat.le_add_right _ _
        · rw [z]; exact Nat.le_add_right _ _
        · rw [z]; exact Nat.le_add_right _ _
        · rw [z]; exact Nat.le_refl _
        · rw [z]; exact Nat.le_add_right _ _
      exact I1.fpOk hle (I1.hok.fresh hle)
end LX
namespace LL
open PySem PySem.Spec PyProof.Rows L2 LX
def top (i:Nat):Stmt:=PySem.Challenge.pw_lifthouse_s01_answers.main.body.getD i (.Pass ⟨0,0,0,0⟩)
abbrev zH7:Stmt:=top 16
abbrev zGG:Stmt:=top 17
abbrev zH9:Stmt:=top 18
abbrev zES:Stmt:=top 19
abbrev zDY:Stmt:=top 20
abbrev wN:Stmt:=top 21
abbrev zGH:Stmt:=top 22
abbrev qV:Stmt:=top 23
abbrev wZ:Stmt:=top 24
abbrev jY:Stmt:=top 25
abbrev yQ:Stmt:=top 26
abbrev s_way_on:Stmt:=top 27
abbrev s_go_on:Stmt:=top 28
abbrev zCD:Stmt:=top 29
abbrev zDC:Stmt:=top 30
abbrev zGD:Stmt:=top 31
abbrev zCE:Stmt:=top 32
abbrev zBP:Stmt:=top 33
abbrev zA0:Stmt:=top 40
abbrev zBQ:Stmt:=top 41
abbrev zGE:Stmt:=top 42
abbrev zBN:Stmt:=top 43
abbrev zBO:Stmt:=top 44
abbrev zAA:Stmt:=top 47
abbrev qI:Stmt:=top 48
abbrev zGI:Stmt:=top 49
abbrev zGF:Stmt:=top 75
abbrev zH8:Stmt:=top 76
abbrev zIA:Stmt:=top 77
abbrev zET:Stmt:=xM (top 14) 0
abbrev zGJ:Stmt:=xM (top 15) 0
abbrev zCF:Stmt:=xM (top 39) 0
abbrev zBC:Stmt:=xM (top 62) 0
abbrev zDF:Stmt:=xM (top 62) 1
abbrev zEU:Stmt:=xM (top 62) 2
abbrev zAC:Stmt:=xM (top 62) 3
abbrev qO:Stmt:=xM (top 62) 4
abbrev qW:Stmt:=xM (top 62) 5
abbrev zCH:Stmt:=xM (top 62) 6
abbrev xR:Stmt:=xM (top 62) 7
abbrev zA1:Stmt:=xM (top 62) 8
abbrev wO:Stmt:=xM (top 62) 9
abbrev wU:Stmt:=xM (top 62) 10
abbrev zCG:Stmt:=xM (top 62) 11
abbrev xD:Stmt:=xM (top 62) 12
abbrev jJ:Stmt:=xM (top 62) 13
abbrev zDD:Stmt:=xM (top 62) 14
abbrev zAB:Stmt:=xM (top 62) 15
abbrev wP:Stmt:=xM (top 62) 16
abbrev wQ:Stmt:=xM (top 62) 17
abbrev zDE:Stmt:=xM (top 62) 18
abbrev zEV:Stmt:=xM (top 74) 0
abbrev zDH:Stmt:=xM (top 74) 1
abbrev zDG:Stmt:=xM (top 74) 2
theorem sc_twin_of:zS ["car", "twin"] ["car"] (zK zH7):=⟨rfl,rfl,rfl,by decide +kernel,rfl,by decide +kernel,by decide +kernel⟩
theorem sc_opposite:zS ["direction"] ["direction"] (zK zGG):=⟨rfl,rfl,rfl,by decide +kernel,rfl,by decide +kernel,by decide +kernel⟩
theorem sc_is_full:zS ["car", "plan"] ["car", "plan"] (zK zH9):=⟨rfl,rfl,rfl,by decide +kernel,rfl,by decide +kernel,by decide +kernel⟩
theorem sc_has_stops:zS ["car"] ["car"] (zK zES):=⟨rfl,rfl,rfl,by decide +kernel,rfl,by decide +kernel,by decide +kernel⟩
theorem zER:zS ["car", "call"] ["car"] (zK zDY):=⟨rfl,rfl,rfl,by decide +kernel,rfl,by decide +kernel,by decide +kernel⟩
theorem zFJ:zS ["car", "floor", "direction"] ["car", "floor", "direction"] (zK wN):=⟨rfl,rfl,rfl,by decide +kernel,rfl,by decide +kernel,by decide +kernel⟩
theorem sc_opens_at:zS ["car", "plan", "floor"] ["car", "plan", "floor"] (zK zGH):=⟨rfl,rfl,rfl,by decide +kernel,rfl,by decide +kernel,by decide +kernel⟩
theorem qN:zS ["car", "floor", "ahead", "back"] ["car", "floor"] (zK qV):=⟨rfl,rfl,rfl,by decide +kernel,rfl,by decide +kernel,by decide +kernel⟩
theorem zGC:zS ["car", "floor"] ["car", "floor"] (zK wZ):=⟨rfl,rfl,rfl,by decide +kernel,rfl,by decide +kernel,by decide +kernel⟩
theorem xX:zS ["car", "plan", "floor", "taken", "other", "call"] ["car", "plan", "floor"] (zK jY):=⟨rfl,rfl,rfl,by decide +kernel,rfl,by decide +kernel,by decide +kernel⟩
theorem zBA:zS ["car", "floor", "nearest"] ["car", "floor"] (zK yQ):=⟨rfl,rfl,rfl,by decide +kernel,rfl,by decide +kernel,by decide +kernel⟩
theorem sc_way_on:zS ["car", "floor"] ["car", "floor"] (zK s_way_on):=⟨rfl,rfl,rfl,by decide +kernel,rfl,by decide +kernel,by decide +kernel⟩
theorem sc_go_on:zS ["car", "ticks"] ["car", "ticks"] (zK s_go_on):=⟨rfl,rfl,rfl,by decide +kernel,rfl,by decide +kernel,by decide +kernel⟩
theorem zED:zS ["car", "plan", "floor"] ["car", "plan"] (zK zCD):=⟨rfl,rfl,rfl,by decide +kernel,rfl,by decide +kernel,by decide +kernel⟩
theorem sc_tick_doors:zS ["car", "plan"] ["car", "plan"] (zK zDC):=⟨rfl,rfl,rfl,by decide +kernel,rfl,by decide +kernel,by decide +kernel⟩
theorem sc_tick_car:zS ["car", "plan"] ["car", "plan"] (zK zGD):=⟨rfl,rfl,rfl,by decide +kernel,rfl,by decide +kernel,by decide +kernel⟩
theorem zEE:zS ["car", "plan", "beyond"] ["car", "plan"] (zK zCE):=⟨rfl,rfl,rfl,by decide +kernel,rfl,by decide +kernel,by decide +kernel⟩
theorem zH5:zS ["car", "plan", "ticks"] ["car", "plan", "ticks"] (zK zBP):=⟨rfl,rfl,rfl,by decide +kernel,rfl,by decide +kernel,by decide +kernel⟩
theorem zHG:zS ["person", "now"] ["person", "now"] (zK zA0):=⟨rfl,rfl,rfl,by decide +kernel,rfl,by decide +kernel,by decide +kernel⟩
theorem zH6:zS ["person", "now"] ["person", "now"] (zK zBQ):=⟨rfl,rfl,rfl,by decide +kernel,rfl,by decide +kernel,by decide +kernel⟩
theorem sc_state_of:zS ["person"] ["person"] (zK zGE):=⟨rfl,rfl,rfl,by decide +kernel,rfl,by decide +kernel,by decide +kernel⟩
theorem zDA:zS ["person", "now", "end"] ["person", "now"] (zK zBN):=⟨rfl,rfl,rfl,by decide +kernel,rfl,by decide +kernel,by decide +kernel⟩
theorem zDB:zS ["person", "now", "end"] ["person", "now"] (zK zBO):=⟨rfl,rfl,rfl,by decide +kernel,rfl,by decide +kernel,by decide +kernel⟩
theorem jI:zS ["car", "plan", "call", "twin", "ticks", "quiet"] ["car", "plan", "call"] (zK zAA):=⟨rfl,rfl,rfl,by decide +kernel,rfl,by decide +kernel,by decide +kernel⟩
theorem wH:zS ["cars", "plan", "call", "car"] ["cars", "plan", "call"] (zK qI):=⟨rfl,rfl,rfl,by decide +kernel,rfl,by decide +kernel,by decide +kernel⟩
theorem sc_first_of:zS ["reckoned"] ["reckoned"] (zK zGI):=⟨rfl,rfl,rfl,by decide +kernel,rfl,by decide +kernel,by decide +kernel⟩
theorem sc_reply_of:zS ["house", "call", "numbers"] ["house", "call", "numbers"] (zK zGF):=⟨rfl,rfl,rfl,by decide +kernel,rfl,by decide +kernel,by decide +kernel⟩
theorem zGB:zS ["reply", "number", "listed"] ["reply"] (zK zH8):=⟨rfl,rfl,rfl,by decide +kernel,rfl,by decide +kernel,by decide +kernel⟩
theorem wM:zS ["calls", "desk", "told", "at", "call", "behind"] ["calls"] (zK zIA):=⟨rfl,rfl,rfl,by decide +kernel,rfl,by decide +kernel,by decide +kernel⟩
theorem sc_Plan_init:zS ["self", "numbers"] ["self", "numbers"] (zK zET):=⟨rfl,rfl,rfl,by decide +kernel,rfl,by decide +kernel,by decide +kernel⟩
theorem sc_Car_init:zS ["self"] ["self"] (zK zGJ):=⟨rfl,rfl,rfl,by decide +kernel,rfl,by decide +kernel,by decide +kernel⟩
theorem sc_Person_init:zS ["self", "origin", "goal", "now"] ["self", "origin", "goal", "now"] (zK zCF):=⟨rfl,rfl,rfl,by decide +kernel,rfl,by decide +kernel,by decide +kernel⟩
theorem zCB:zS ["self", "plan", "number"] ["self", "plan"] (zK zBC):=⟨rfl,rfl,rfl,by decide +kernel,rfl,by decide +kernel,by decide +kernel⟩
theorem zAO:zS ["self", "floor", "goal", "floors", "who", "call"] ["self", "floor", "goal"] (zK zDF):=⟨rfl,rfl,rfl,by decide +kernel,rfl,by decide +kernel,by decide +kernel⟩
theorem zBB:zS ["self", "ticks", "end", "events", "quiet"] ["self", "ticks"] (zK zEU):=⟨rfl,rfl,rfl,by decide +kernel,rfl,by decide +kernel,by decide +kernel⟩
theorem qH:zS ["self", "number", "car", "told", "call"] ["self", "number"] (zK zAC):=⟨rfl,rfl,rfl,by decide +kernel,rfl,by decide +kernel,by decide +kernel⟩
theorem wX:zS ["self", "floor", "direction", "queue"] ["self", "floor", "direction"] (zK qO):=⟨rfl,rfl,rfl,by decide +kernel,rfl,by decide +kernel,by decide +kernel⟩
theorem zAI:zS ["self", "who", "person"] ["self", "who"] (zK qW):=⟨rfl,rfl,rfl,by decide +kernel,rfl,by decide +kernel,by decide +kernel⟩
theorem zBM:zS ["self", "floor", "direction", "call", "reckoned"] ["self", "floor", "direction"] (zK zCH):=⟨rfl,rfl,rfl,by decide +kernel,rfl,by decide +kernel,by decide +kernel⟩
theorem yM:zS ["self", "left", "person", "waited", "inside"] ["self"] (zK xR):=⟨rfl,rfl,rfl,by decide +kernel,rfl,by decide +kernel,by decide +kernel⟩
theorem zCS:zS ["self", "floor", "direction", "highest"] ["self", "floor", "direction"] (zK zA1):=⟨rfl,rfl,rfl,by decide +kernel,rfl,by decide +kernel,by decide +kernel⟩
theorem zFK:zS ["self", "call"] ["self", "call"] (zK wO):=⟨rfl,rfl,rfl,by decide +kernel,rfl,by decide +kernel,by decide +kernel⟩
theorem zAZ:zS ["self", "call", "car"] ["self", "call"] (zK wU):=⟨rfl,rfl,rfl,by decide +kernel,rfl,by decide +kernel,by decide +kernel⟩
theorem zEF:zS ["self", "call", "number"] ["self", "call"] (zK zCG):=⟨rfl,rfl,rfl,by decide +kernel,rfl,by decide +kernel,by decide +kernel⟩
theorem xS:zS ["self", "car"] ["self"] (zK xD):=⟨rfl,rfl,rfl,by decide +kernel,rfl,by decide +kernel,by decide +kernel⟩
theorem qR:zS ["self", "ticks", "car"] ["self", "ticks"] (zK jJ):=⟨rfl,rfl,rfl,by decide +kernel,rfl,by decide +kernel,by decide +kernel⟩
theorem zCA:zS ["self", "events", "number"] ["self"] (zK zDD):=⟨rfl,rfl,rfl,by decide +kernel,rfl,by decide +kernel,by decide +kernel⟩
theorem qG:zS ["self", "number", "car", "brought", "floor"] ["self", "number"] (zK zAB):=⟨rfl,rfl,rfl,by decide +kernel,rfl,by decide +kernel,by decide +kernel⟩
theorem xZ:zS ["self", "number", "floor", "car", "events", "staying", "who"] ["self", "number", "floor"] (zK wP):=⟨rfl,rfl,rfl,by decide +kernel,rfl,by decide +kernel,by decide +kernel⟩
theorem yS:zS ["self", "number", "floor", "car", "call", "queue", "places", "events", "who", "person"] ["self", "number", "floor"] (zK wQ):=⟨rfl,rfl,rfl,by decide +kernel,rfl,by decide +kernel,by decide +kernel⟩
theorem zAN:zS ["self", "number", "floor", "car", "events", "call"] ["self", "number", "floor"] (zK zDE):=⟨rfl,rfl,rfl,by decide +kernel,rfl,by decide +kernel,by decide +kernel⟩
theorem sc_Desk_init:zS ["self"] ["self"] (zK zEV):=⟨rfl,rfl,rfl,by decide +kernel,rfl,by decide +kernel,by decide +kernel⟩
theorem zCC:zS ["self", "numbers", "number", "edges"] ["self", "numbers"] (zK zDH):=⟨rfl,rfl,rfl,by decide +kernel,rfl,by decide +kernel,by decide +kernel⟩
theorem sc_Desk_reply:zS ["self", "call", "numbers"] ["self", "call", "numbers"] (zK zDG):=⟨rfl,rfl,rfl,by decide +kernel,rfl,by decide +kernel,by decide +kernel⟩
def zDL (a0 a1 a2 a3 a4 a5 a6:V):List (Str × V):=[("floors", a0),("car_count", a1),("speed", a2),("opening", a3),("standing", a4),("closing", a5),("room", a6)]
theorem zG2 (a0 a1 a2 a3 a4 a5 a6:V):(zDL a0 a1 a2 a3 a4 a5 a6).lookup ("floors" : Str) = some a0:=by first | rfl | decide +kernel
theorem zIF (a0 a1 a2 a3 a4 a5 a6:V):(zDL a0 a1 a2 a3 a4 a5 a6).lookup ("car_count" : Str) = some a1:=by first | rfl | decide +kernel
theorem wS (a0 a1 a2 a3 a4 a5 a6:V):(zDL a0 a1 a2 a3 a4 a5 a6).lookup ("speed" : Str) = some a2:=by first | rfl | decide +kernel
theorem planF_opening (a0 a1 a2 a3 a4 a5 a6:V):(zDL a0 a1 a2 a3 a4 a5 a6).lookup ("opening" : Str) = some a3:=by first | rfl | decide +kernel
theorem planF_standing (a0 a1 a2 a3 a4 a5 a6:V):(zDL a0 a1 a2 a3 a4 a5 a6).lookup ("standing" : Str) = some a4:=by first | rfl | decide +kernel
theorem planF_closing (a0 a1 a2 a3 a4 a5 a6:V):(zDL a0 a1 a2 a3 a4 a5 a6).lookup ("closing" : Str) = some a5:=by first | rfl | decide +kernel
theorem planF_room (a0 a1 a2 a3 a4 a5 a6:V):(zDL a0 a1 a2 a3 a4 a5 a6).lookup ("room" : Str) = some a6:=by first | rfl | decide +kernel
def zBV (a0 a1 a2 a3 a4 a5 a6:V):List (Str × V):=[("place", a0),("direction", a1),("doing", a2),("yet", a3),("inside", a4),("pressed", a5),("calls", a6)]
theorem qK (a0 a1 a2 a3 a4 a5 a6:V):(zBV a0 a1 a2 a3 a4 a5 a6).lookup ("place" : Str) = some a0:=by first | rfl | decide +kernel
theorem zBU (a0 a1 a2 a3 a4 a5 a6 b:V):wV "place" b (zBV a0 a1 a2 a3 a4 a5 a6) = zBV b a1 a2 a3 a4 a5 a6:=by rfl
theorem zT (a0 a1 a2 a3 a4 a5 a6:V):(zBV a0 a1 a2 a3 a4 a5 a6).lookup ("direction" : Str) = some a1:=by first | rfl | decide +kernel
theorem jE (a0 a1 a2 a3 a4 a5 a6 b:V):wV "direction" b (zBV a0 a1 a2 a3 a4 a5 a6) = zBV a0 b a2 a3 a4 a5 a6:=by rfl
theorem jM (a0 a1 a2 a3 a4 a5 a6:V):(zBV a0 a1 a2 a3 a4 a5 a6).lookup ("doing" : Str) = some a2:=by first | rfl | decide +kernel
theorem jG (a0 a1 a2 a3 a4 a5 a6 b:V):wV "doing" b (zBV a0 a1 a2 a3 a4 a5 a6) = zBV a0 a1 b a3 a4 a5 a6:=by rfl
theorem zD2 (a0 a1 a2 a3 a4 a5 a6:V):(zBV a0 a1 a2 a3 a4 a5 a6).lookup ("yet" : Str) = some a3:=by first | rfl | decide +kernel
theorem wA (a0 a1 a2 a3 a4 a5 a6 b:V):wV "yet" b (zBV a0 a1 a2 a3 a4 a5 a6) = zBV a0 a1 a2 b a4 a5 a6:=by rfl
theorem qD (a0 a1 a2 a3 a4 a5 a6:V):(zBV a0 a1 a2 a3 a4 a5 a6).lookup ("inside" : Str) = some a4:=by first | rfl | decide +kernel
theorem zDT (a0 a1 a2 a3 a4 a5 a6 b:V):wV "inside" b (zBV a0 a1 a2 a3 a4 a5 a6) = zBV a0 a1 a2 a3 b a5 a6:=by rfl
theorem xQ (a0 a1 a2 a3 a4 a5 a6:V):(zBV a0 a1 a2 a3 a4 a5 a6).lookup ("pressed" : Str) = some a5:=by first | rfl | decide +kernel
theorem zCY (a0 a1 a2 a3 a4 a5 a6 b:V):wV "pressed" b (zBV a0 a1 a2 a3 a4 a5 a6) = zBV a0 a1 a2 a3 a4 b a6:=by rfl
theorem yT (a0 a1 a2 a3 a4 a5 a6:V):(zBV a0 a1 a2 a3 a4 a5 a6).lookup ("calls" : Str) = some a6:=by first | rfl | decide +kernel
theorem zEL (a0 a1 a2 a3 a4 a5 a6 b:V):wV "calls" b (zBV a0 a1 a2 a3 a4 a5 a6) = zBV a0 a1 a2 a3 a4 a5 b:=by rfl
def zAD (a0 a1 a2 a3 a4:V):List (Str × V):=[("origin", a0),("goal", a1),("came", a2),("entered", a3),("left", a4)]
theorem personF_origin (a0 a1 a2 a3 a4:V):(zAD a0 a1 a2 a3 a4).lookup ("origin" : Str) = some a0:=by first | rfl | decide +kernel
theorem zBE (a0 a1 a2 a3 a4:V):(zAD a0 a1 a2 a3 a4).lookup ("goal" : Str) = some a1:=by first | rfl | decide +kernel
theorem zG4 (a0 a1 a2 a3 a4:V):(zAD a0 a1 a2 a3 a4).lookup ("came" : Str) = some a2:=by first | rfl | decide +kernel
theorem jK (a0 a1 a2 a3 a4:V):(zAD a0 a1 a2 a3 a4).lookup ("entered" : Str) = some a3:=by first | rfl | decide +kernel
theorem zEY (a0 a1 a2 a3 a4 b:V):wV "entered" b (zAD a0 a1 a2 a3 a4) = zAD a0 a1 a2 b a4:=by rfl
theorem zBD (a0 a1 a2 a3 a4:V):(zAD a0 a1 a2 a3 a4).lookup ("left" : Str) = some a4:=by first | rfl | decide +kernel
theorem zHH (a0 a1 a2 a3 a4 b:V):wV "left" b (zAD a0 a1 a2 a3 a4) = zAD a0 a1 a2 a3 b:=by rfl
def jO (a0 a1 a2 a3 a4:V):List (Str × V):=[("plan", a0),("now", a1),("cars", a2),("persons", a3),("waiting", a4)]
theorem jQ (a0 a1 a2 a3 a4:V):(jO a0 a1 a2 a3 a4).lookup ("plan" : Str) = some a0:=by first | rfl | decide +kernel
theorem xB (a0 a1 a2 a3 a4:V):(jO a0 a1 a2 a3 a4).lookup ("now" : Str) = some a1:=by first | rfl | decide +kernel
theorem zEI (a0 a1 a2 a3 a4 b:V):wV "now" b (jO a0 a1 a2 a3 a4) = jO a0 b a2 a3 a4:=by rfl
theorem xG (a0 a1 a2 a3 a4:V):(jO a0 a1 a2 a3 a4).lookup ("cars" : Str) = some a2:=by first | rfl | decide +kernel
theorem yU (a0 a1 a2 a3 a4:V):(jO a0 a1 a2 a3 a4).lookup ("persons" : Str) = some a3:=by first | rfl | decide +kernel
theorem zBS (a0 a1 a2 a3 a4:V):(jO a0 a1 a2 a3 a4).lookup ("waiting" : Str) = some a4:=by first | rfl | decide +kernel
def zE4 (a0:V):List (Str × V):=[("house", a0)]
theorem zE3 (a0:V):(zE4 a0).lookup ("house" : Str) = some a0:=by first | rfl | decide +kernel
structure qF (K:PySem.W.Frag) (mg:Str→Option Value) (x:Str) (st:Stmt) (ps:List Str) (f:Addr) (fd:FuncData):Prop where
  F:Fun K x x st f fd
  m:mg x = some (.ref f)
  b:zGW K fd ps []
structure qM (K:PySem.W.Frag) (C:Addr) (x qual:Str) (st:Stmt) (ps:List Str) (f:Addr) (fd:FuncData):Prop where
  F:Fun K x qual st f fd
  m:Meth K C x f
  b:zGW K fd ps []
structure KlsAt (K:PySem.W.Frag) (mg:Str→Option Value) (x:Str) (C f:Addr) (st:Stmt) (ps:List Str) (fd:FuncData) (qual:Str):Prop where
  c:Cls K C
  g:mg x = some (.ref C)
  mm:Mk K C f
  F:Fun K "__init__" qual st f fd
  b:zGW K fd ps []
def TupK (K:PySem.W.Frag) (a:Addr) (xs:List V):Prop:=∃ (o:Obj) (its:Array Value) (n:Nat),K.lookup a = some o∧o.cls = .type "tuple" ∧ o.data = .seq its n∧its.size ≤ sizeLine∧jS xs its.toList
structure Adr where
  Plan:Addr
  Car:Addr
  Person:Addr
  House:Addr
  Desk:Addr
  t_ARGUMENT_COUNTS:Addr
  t_PLAN_EDGES:Addr
  t_PLAN_EDGES_0:Addr
  t_PLAN_EDGES_1:Addr
  t_PLAN_EDGES_2:Addr
  t_PLAN_EDGES_3:Addr
  t_PLAN_EDGES_4:Addr
  t_PLAN_EDGES_5:Addr
  t_PLAN_EDGES_6:Addr
  f_twin_of:Addr
  d_twin_of:FuncData
  f_opposite:Addr
  d_opposite:FuncData
  f_is_full:Addr
  d_is_full:FuncData
  f_has_stops:Addr
  d_has_stops:FuncData
  f_stops_of:Addr
  d_stops_of:FuncData
  f_has_stop_beyond:Addr
  d_has_stop_beyond:FuncData
  f_opens_at:Addr
  d_opens_at:FuncData
  f_served_on_its_way:Addr
  d_served_on_its_way:FuncData
  f_served_at_rest:Addr
  d_served_at_rest:FuncData
  f_begin_opening:Addr
  d_begin_opening:FuncData
  f_towards_nearest:Addr
  d_towards_nearest:FuncData
  f_way_on:Addr
  d_way_on:FuncData
  f_go_on:Addr
  d_go_on:FuncData
  f_tick_closed:Addr
  d_tick_closed:FuncData
  f_tick_doors:Addr
  d_tick_doors:FuncData
  f_tick_car:Addr
  d_tick_car:FuncData
  f_quiet_ticks:Addr
  d_quiet_ticks:FuncData
  f_pass_quietly:Addr
  d_pass_quietly:FuncData
  f_note_entering:Addr
  d_note_entering:FuncData
  f_note_leaving:Addr
  d_note_leaving:FuncData
  f_state_of:Addr
  d_state_of:FuncData
  f_ticks_waited:Addr
  d_ticks_waited:FuncData
  f_ticks_inside:Addr
  d_ticks_inside:FuncData
  f_reckoned_ticks:Addr
  d_reckoned_ticks:FuncData
  f_reckoned_of_all:Addr
  d_reckoned_of_all:FuncData
  f_first_of:Addr
  d_first_of:FuncData
  f_reply_of:Addr
  d_reply_of:FuncData
  f_told_of:Addr
  d_told_of:FuncData
  f_answers:Addr
  d_answers:FuncData
  f_Plan_init:Addr
  d_Plan_init:FuncData
  f_Car_init:Addr
  d_Car_init:FuncData
  f_Person_init:Addr
  d_Person_init:FuncData
  f_House_init:Addr
  d_House_init:FuncData
  f_House_come:Addr
  d_House_come:FuncData
  f_House_run:Addr
  d_House_run:FuncData
  f_House_tell_car:Addr
  d_House_tell_car:FuncData
  f_House_tell_waiting:Addr
  d_House_tell_waiting:FuncData
  f_House_tell_person:Addr
  d_House_tell_person:FuncData
  f_House_guess:Addr
  d_House_guess:FuncData
  f_House_tell_sums:Addr
  d_House_tell_sums:FuncData
  f_House_is_call:Addr
  d_House_is_call:FuncData
  f_House_who_waits:Addr
  d_House_who_waits:FuncData
  f_House_is_had:Addr
  d_House_is_had:FuncData
  f_House_press:Addr
  d_House_press:FuncData
  f_House_quiet_ticks_of_all:Addr
  d_House_quiet_ticks_of_all:FuncData
  f_House_pass_quietly_all:Addr
  d_House_pass_quietly_all:FuncData
  f_House_tick:Addr
  d_House_tick:FuncData
  f_House_tick_one:Addr
  d_House_tick_one:FuncData
  f_House_let_leave:Addr
  d_House_let_leave:FuncData
  f_House_let_enter:Addr
  d_House_let_enter:FuncData
  f_House_shut:Addr
  d_House_shut:FuncData
  f_Desk_init:Addr
  d_Desk_init:FuncData
  f_Desk_build:Addr
  d_Desk_build:FuncData
  f_Desk_reply:Addr
  d_Desk_reply:FuncData
  cb:Addr
  tb:Addr
structure TxtC (K:PySem.W.Frag) (mg:Str→Option Value) (t:Adr):Prop where
  k_Plan:KlsAt K mg "Plan" t.Plan t.f_Plan_init zET ["self", "numbers"] t.d_Plan_init "Plan.__init__"
  n_Plan_floors:yP K t.Plan "floors"
  n_Plan_car_count:yP K t.Plan "car_count"
  n_Plan_speed:yP K t.Plan "speed"
  n_Plan_opening:yP K t.Plan "opening"
  n_Plan_standing:yP K t.Plan "standing"
  n_Plan_closing:yP K t.Plan "closing"
  n_Plan_room:yP K t.Plan "room"
  k_Car:KlsAt K mg "Car" t.Car t.f_Car_init zGJ ["self"] t.d_Car_init "Car.__init__"
  n_Car_place:yP K t.Car "place"
  n_Car_direction:yP K t.Car "direction"
  n_Car_doing:yP K t.Car "doing"
  n_Car_yet:yP K t.Car "yet"
  n_Car_inside:yP K t.Car "inside"
  n_Car_pressed:yP K t.Car "pressed"
  n_Car_calls:yP K t.Car "calls"
  k_Person:KlsAt K mg "Person" t.Person t.f_Person_init zCF ["self", "origin", "goal", "now"] t.d_Person_init "Person.__init__"
  n_Person_origin:yP K t.Person "origin"
  n_Person_goal:yP K t.Person "goal"
  n_Person_came:yP K t.Person "came"
  n_Person_entered:yP K t.Person "entered"
  n_Person_left:yP K t.Person "left"
  k_House:KlsAt K mg "House" t.House t.f_House_init zBC ["self", "plan"] t.d_House_init "House.__init__"
  n_House_plan:yP K t.House "plan"
  n_House_now:yP K t.House "now"
  n_House_cars:yP K t.House "cars"
  n_House_persons:yP K t.House "persons"
  n_House_waiting:yP K t.House "waiting"
  k_Desk:KlsAt K mg "Desk" t.Desk t.f_Desk_init zEV ["self"] t.d_Desk_init "Desk.__init__"
  n_Desk_house:yP K t.Desk "house"
structure TxtG (K:PySem.W.Frag) (mg:Str→Option Value) (t:Adr):Prop where
  i_NONE:∃ k,mg "NONE" = some (.int (0) k)
  i_UP:∃ k,mg "UP" = some (.int (1) k)
  i_DOWN:∃ k,mg "DOWN" = some (.int (2) k)
  i_CLOSED:∃ k,mg "CLOSED" = some (.int (0) k)
  i_MOVING:∃ k,mg "MOVING" = some (.int (1) k)
  i_OPENING:∃ k,mg "OPENING" = some (.int (2) k)
  i_OPENED:∃ k,mg "OPENED" = some (.int (3) k)
  i_CLOSING:∃ k,mg "CLOSING" = some (.int (4) k)
  i_NOTHING:∃ k,mg "NOTHING" = some (.int (0) k)
  i_DOORS_BEGIN:∃ k,mg "DOORS_BEGIN" = some (.int (1) k)
  i_DOORS_STAND:∃ k,mg "DOORS_STAND" = some (.int (2) k)
  i_DOORS_SHUT:∃ k,mg "DOORS_SHUT" = some (.int (3) k)
  i_FOREVER:∃ k,mg "FOREVER" = some (.int (1000000) k)
  i_WAITING:∃ k,mg "WAITING" = some (.int (0) k)
  i_INSIDE:∃ k,mg "INSIDE" = some (.int (1) k)
  i_LEFT:∃ k,mg "LEFT" = some (.int (2) k)
  i_NOT_YET:∃ k,mg "NOT_YET" = some (.int (0) k)
  i_LONGEST:∃ k,mg "LONGEST" = some (.int (20000) k)
  i_WRONG_NUMBER:∃ k,mg "WRONG_NUMBER" = some (.int (-1) k)
  i_TOO_MANY_PERSONS:∃ k,mg "TOO_MANY_PERSONS" = some (.int (-2) k)
  i_CALL_IS_HAD:∃ k,mg "CALL_IS_HAD" = some (.int (-3) k)
  i_MOST_PERSONS:∃ k,mg "MOST_PERSONS" = some (.int (200) k)
  i_MOST_TICKS:∃ k,mg "MOST_TICKS" = some (.int (2000) k)
  i_CALL_GIVEN:∃ k,mg "CALL_GIVEN" = some (.int (1) k)
  i_DOORS_BEGAN:∃ k,mg "DOORS_BEGAN" = some (.int (2) k)
  i_SOMEBODY_LEFT:∃ k,mg "SOMEBODY_LEFT" = some (.int (3) k)
  i_SOMEBODY_ENTERED:∃ k,mg "SOMEBODY_ENTERED" = some (.int (4) k)
  i_DOORS_CLOSED:∃ k,mg "DOORS_CLOSED" = some (.int (5) k)
  i_EVENT_SIZE:∃ k,mg "EVENT_SIZE" = some (.int (5) k)
  i_NO_HOUSE:∃ k,mg "NO_HOUSE" = some (.int (-8) k)
  i_BUILD:∃ k,mg "BUILD" = some (.int (1) k)
  i_COME:∃ k,mg "COME" = some (.int (2) k)
  i_RUN:∃ k,mg "RUN" = some (.int (3) k)
  i_CAR:∃ k,mg "CAR" = some (.int (4) k)
  i_WAIT:∃ k,mg "WAIT" = some (.int (5) k)
  i_PERSON:∃ k,mg "PERSON" = some (.int (6) k)
  i_GUESS:∃ k,mg "GUESS" = some (.int (7) k)
  t_ARGUMENT_COUNTS:mg "ARGUMENT_COUNTS" = some (.ref t.t_ARGUMENT_COUNTS)
  q_ARGUMENT_COUNTS:TupK K t.t_ARGUMENT_COUNTS [.int 0,.int 7,.int 2,.int 1,.int 1,.int 2,.int 1,.int 2,.int 0]
  t_PLAN_EDGES:mg "PLAN_EDGES" = some (.ref t.t_PLAN_EDGES)
  q_PLAN_EDGES:TupK K t.t_PLAN_EDGES [.ref t.t_PLAN_EDGES_0,.ref t.t_PLAN_EDGES_1,.ref t.t_PLAN_EDGES_2,.ref t.t_PLAN_EDGES_3,.ref t.t_PLAN_EDGES_4,.ref t.t_PLAN_EDGES_5,.ref t.t_PLAN_EDGES_6]
  q_PLAN_EDGES_0:TupK K t.t_PLAN_EDGES_0 [.int 2,.int 32]
  q_PLAN_EDGES_1:TupK K t.t_PLAN_EDGES_1 [.int 1,.int 6]
  q_PLAN_EDGES_2:TupK K t.t_PLAN_EDGES_2 [.int 1,.int 60]
  q_PLAN_EDGES_3:TupK K t.t_PLAN_EDGES_3 [.int 1,.int 60]
  q_PLAN_EDGES_4:TupK K t.t_PLAN_EDGES_4 [.int 1,.int 60]
  q_PLAN_EDGES_5:TupK K t.t_PLAN_EDGES_5 [.int 1,.int 60]
  q_PLAN_EDGES_6:TupK K t.t_PLAN_EDGES_6 [.int 1,.int 40]
  z_len:mg "len" = none
  z_list:mg "list" = none
  z_max:mg "max" = none
  z_min:mg "min" = none
  z_abs:mg "abs" = none
  z_range:mg "range" = none
  z_zip:mg "zip" = none
  z_any:mg "any" = none
  z_sum:mg "sum" = none
structure TxtD (K:PySem.W.Frag) (mg:Str→Option Value) (t:Adr):Prop where
  twin_of:qF K mg "twin_of" zH7 ["car"] t.f_twin_of t.d_twin_of
  opposite:qF K mg "opposite" zGG ["direction"] t.f_opposite t.d_opposite
  is_full:qF K mg "is_full" zH9 ["car", "plan"] t.f_is_full t.d_is_full
  has_stops:qF K mg "has_stops" zES ["car"] t.f_has_stops t.d_has_stops
  stops_of:qF K mg "stops_of" zDY ["car"] t.f_stops_of t.d_stops_of
  has_stop_beyond:qF K mg "has_stop_beyond" wN ["car", "floor", "direction"] t.f_has_stop_beyond t.d_has_stop_beyond
  opens_at:qF K mg "opens_at" zGH ["car", "plan", "floor"] t.f_opens_at t.d_opens_at
  served_on_its_way:qF K mg "served_on_its_way" qV ["car", "floor"] t.f_served_on_its_way t.d_served_on_its_way
  served_at_rest:qF K mg "served_at_rest" wZ ["car", "floor"] t.f_served_at_rest t.d_served_at_rest
  begin_opening:qF K mg "begin_opening" jY ["car", "plan", "floor"] t.f_begin_opening t.d_begin_opening
  towards_nearest:qF K mg "towards_nearest" yQ ["car", "floor"] t.f_towards_nearest t.d_towards_nearest
  way_on:qF K mg "way_on" s_way_on ["car", "floor"] t.f_way_on t.d_way_on
  go_on:qF K mg "go_on" s_go_on ["car", "ticks"] t.f_go_on t.d_go_on
  tick_closed:qF K mg "tick_closed" zCD ["car", "plan"] t.f_tick_closed t.d_tick_closed
  tick_doors:qF K mg "tick_doors" zDC ["car", "plan"] t.f_tick_doors t.d_tick_doors
  tick_car:qF K mg "tick_car" zGD ["car", "plan"] t.f_tick_car t.d_tick_car
  quiet_ticks:qF K mg "quiet_ticks" zCE ["car", "plan"] t.f_quiet_ticks t.d_quiet_ticks
  pass_quietly:qF K mg "pass_quietly" zBP ["car", "plan", "ticks"] t.f_pass_quietly t.d_pass_quietly
  note_entering:qF K mg "note_entering" zA0 ["person", "now"] t.f_note_entering t.d_note_entering
  note_leaving:qF K mg "note_leaving" zBQ ["person", "now"] t.f_note_leaving t.d_note_leaving
  state_of:qF K mg "state_of" zGE ["person"] t.f_state_of t.d_state_of
  ticks_waited:qF K mg "ticks_waited" zBN ["person", "now"] t.f_ticks_waited t.d_ticks_waited
  ticks_inside:qF K mg "ticks_inside" zBO ["person", "now"] t.f_ticks_inside t.d_ticks_inside
  reckoned_ticks:qF K mg "reckoned_ticks" zAA ["car", "plan", "call"] t.f_reckoned_ticks t.d_reckoned_ticks
  reckoned_of_all:qF K mg "reckoned_of_all" qI ["cars", "plan", "call"] t.f_reckoned_of_all t.d_reckoned_of_all
  first_of:qF K mg "first_of" zGI ["reckoned"] t.f_first_of t.d_first_of
  reply_of:qF K mg "reply_of" zGF ["house", "call", "numbers"] t.f_reply_of t.d_reply_of
  told_of:qF K mg "told_of" zH8 ["reply"] t.f_told_of t.d_told_of
  answers:qF K mg "answers" zIA ["calls"] t.f_answers t.d_answers
structure TxtM (K:PySem.W.Frag) (t:Adr):Prop where
  House_come:qM K t.House "come" "House.come" zDF ["self", "floor", "goal"] t.f_House_come t.d_House_come
  House_run:qM K t.House "run" "House.run" zEU ["self", "ticks"] t.f_House_run t.d_House_run
  House_tell_car:qM K t.House "tell_car" "House.tell_car" zAC ["self", "number"] t.f_House_tell_car t.d_House_tell_car
  House_tell_waiting:qM K t.House "tell_waiting" "House.tell_waiting" qO ["self", "floor", "direction"] t.f_House_tell_waiting t.d_House_tell_waiting
  House_tell_person:qM K t.House "tell_person" "House.tell_person" qW ["self", "who"] t.f_House_tell_person t.d_House_tell_person
  House_guess:qM K t.House "guess" "House.guess" zCH ["self", "floor", "direction"] t.f_House_guess t.d_House_guess
  House_tell_sums:qM K t.House "tell_sums" "House.tell_sums" xR ["self"] t.f_House_tell_sums t.d_House_tell_sums
  House_is_call:qM K t.House "is_call" "House.is_call" zA1 ["self", "floor", "direction"] t.f_House_is_call t.d_House_is_call
  House_who_waits:qM K t.House "who_waits" "House.who_waits" wO ["self", "call"] t.f_House_who_waits t.d_House_who_waits
  House_is_had:qM K t.House "is_had" "House.is_had" wU ["self", "call"] t.f_House_is_had t.d_House_is_had
  House_press:qM K t.House "press" "House.press" zCG ["self", "call"] t.f_House_press t.d_House_press
  House_quiet_ticks_of_all:qM K t.House "quiet_ticks_of_all" "House.quiet_ticks_of_all" xD ["self"] t.f_House_quiet_ticks_of_all t.d_House_quiet_ticks_of_all
  House_pass_quietly_all:qM K t.House "pass_quietly_all" "House.pass_quietly_all" jJ ["self", "ticks"] t.f_House_pass_quietly_all t.d_House_pass_quietly_all
  House_tick:qM K t.House "tick" "House.tick" zDD ["self"] t.f_House_tick t.d_House_tick
  House_tick_one:qM K t.House "tick_one" "House.tick_one" zAB ["self", "number"] t.f_House_tick_one t.d_House_tick_one
  House_let_leave:qM K t.House "let_leave" "House.let_leave" wP ["self", "number", "floor"] t.f_House_let_leave t.d_House_let_leave
  House_let_enter:qM K t.House "let_enter" "House.let_enter" wQ ["self", "number", "floor"] t.f_House_let_enter t.d_House_let_enter
  House_shut:qM K t.House "shut" "House.shut" zDE ["self", "number", "floor"] t.f_House_shut t.d_House_shut
  Desk_build:qM K t.Desk "build" "Desk.build" zDH ["self", "numbers"] t.f_Desk_build t.d_Desk_build
  Desk_reply:qM K t.Desk "reply" "Desk.reply" zDG ["self", "call", "numbers"] t.f_Desk_reply t.d_Desk_reply
structure TxtL (K:PySem.W.Frag) (t:Adr):Prop where
  code:t.d_towards_nearest.code = .ref t.cb
  hd:PySem.W.codeHdIn K t.cb t.tb = true
structure Txt (K:PySem.W.Frag) (mg:Str→Option Value) (t:Adr):Prop where
  C:TxtC K mg t
  G:TxtG K mg t
  D:TxtD K mg t
  M:TxtM K t
  L:TxtL K t
def nI (l:List Nat):List V:=l.map fun (n:Nat)=>V.int (n:Int)
def cP (x:Nat × Nat):Int × Int:=((x.1:Int),(x.2:Int))
theorem zR (l:List Nat):(nI l).length = l.length:=List.length_map ..
def xO (t:Adr) (H:Hp) (a:Addr) (h:Lf.House):Prop :=
  ∃ dx,H a = some (.ins t.Plan dx (zDL (.int h.floors) (.int h.cars) (.int h.speed) (.int h.open_) (.int h.stand) (.int h.close) (.int h.room)))
theorem zG.tup {K:PySem.W.Frag} {H H':Hp} {a:Addr} {xs:List V} (e:zG H H') (h:SqT K H a xs):SqT K H' a xs:=by
  rcases h with (h | ⟨o,h⟩) | h
  · exact .inl (.inl (e _ _ h))
  · exact .inl (.inr ⟨o,e _ _ h⟩)
  · exact .inr h
def qQ (K:PySem.W.Frag) (H:Hp) (l:Addr) (cs:List (Nat × Nat)):Prop :=
  ∃ zs:List (Addr × Nat × Nat),zs.map (·.2) = cs∧H l = some (.lst (zs.map fun z=>V.ref z.1))∧∀ z ∈ zs,xK K H z.1 (cP z.2)
theorem qQ.same {K:PySem.W.Frag} {H H':Hp} {l:Addr} {cs:List (Nat × Nat)} (h:qQ K H l cs) (e:zG H H'):qQ K H' l cs:=let ⟨zs,a,b,d⟩:=h; ⟨zs,a,e _ _ b,fun z hz=>zG.tup e (d z hz)⟩
theorem zIH {K:PySem.W.Frag} {H:Hp}:∀ {zs:List (Addr × Nat × Nat)},(∀ z ∈ zs,xK K H z.1 (cP z.2))→zI4 K H (zs.map (·.1)) ((zs.map (·.2)).map cP)
  | [],_=>.nil
  | z :: zs,h=>.cons (h z (by simp)) (zIH fun y hy=>h y (by simp [hy]))
theorem qQ.pairs {K:PySem.W.Frag} {H:Hp} {l:Addr} {cs:List (Nat × Nat)} (h:qQ K H l cs):∃ ts,H l = some (.lst (ts.map V.ref))∧zI4 K H ts (cs.map cP):=by
  obtain ⟨zs,rfl,b,d⟩:=h
  exact ⟨zs.map (·.1),by rw [b,List.map_map]; rfl,zIH d⟩
theorem qQ.len {K:PySem.W.Frag} {H:Hp} {l:Addr} {cs:List (Nat × Nat)} (h:qQ K H l cs):∃ ys:List V,H l = some (.lst ys)∧ys.length = cs.length:=by
  obtain ⟨zs,rfl,b,d⟩:=h
  exact ⟨_,b,by simp⟩
structure CL where
  li:Addr
  lp:Addr
  lc:Addr
abbrev qP (L:CL) (c:Lf.Car):List (Str × V):=zBV (.int c.pos) (.int c.dir) (.int c.does_) (.int c.left) (.ref L.li) (.ref L.lp) (.ref L.lc)
structure zX (K:PySem.W.Frag) (t:Adr) (H:Hp) (a:Addr) (L:CL) (c:Lf.Car):Prop where
  obj:∃ dx,H a = some (.ins t.Car dx (qP L c))
  ins:H L.li = some (.lst (nI c.inside))
  prs:H L.lp = some (.lst (nI c.pressed))
  cls:qQ K H L.lc c.calls
  sz:c.inside.length + c.pressed.length + c.calls.length ≤ 1000
theorem xO.same {t:Adr} {H H':Hp} {a:Addr} {h:Lf.House} (p:xO t H a h) (e:zG H H'):xO t H' a h:=let ⟨dx,q⟩:=p; ⟨dx,e _ _ q⟩
theorem zX.same {K:PySem.W.Frag} {t:Adr} {H H':Hp} {a:Addr} {L:CL} {c:Lf.Car} (p:zX K t H a L c) (e:zG H H'):zX K t H' a L c :=
  ⟨let ⟨dx,q⟩:=p.obj; ⟨dx,e _ _ q⟩,e _ _ p.ins,e _ _ p.prs,p.cls.same e,p.sz⟩
theorem zG.new {H:Hp} {p:Addr} {o:HO} (h:H p = none):zG H (upd H p o):=fun b u e=>by
  rw [zV (zM e h)]
  exact e
theorem qv {Q:VK} {v v':V} {H:Hp} (h:Q v H) (e:v = v'):Q v' H:=e ▸ h
theorem u65 {k:Nat} {A:Around} (r:zB7 k A):A.units + 65 < cLine:=by
  have:=r.un
  omega
theorem u64 {k:Nat} {A:Around} (r:zB7 k A):A.units + 64 < cLine:=r.units
def PuE (te:TE) (σ:L2.St) (H0:Hp) (v:V):Prop:=∀ (H:Hp) (Q:VK),zG H0 H→(∀ H',zG H H'→Q v H')→te σ H Q
def PuT (tt:TT) (σ:L2.St) (H0:Hp) (b:Bool):Prop:=∀ (H:Hp) (Q:Bool→Hp→Prop),zG H0 H→(∀ H',zG H H'→Q b H')→tt σ H Q
def PuA (ta:TA) (σ:L2.St) (H0:Hp) (vs:List V):Prop:=∀ (H:Hp) (Q:List V→Hp→Prop),zG H0 H→(∀ H',zG H H'→Q vs H')→ta σ H Q
section
variable {K:PySem.W.Frag} {σ:L2.St} {H0 H:Hp} {ta tb:TE} {tt tu:TT} {v x y:V} {i j:Int} {b c:Bool}
theorem zA {n:Nat} (h:σ[n]? = some (some v)):PuE (zD4 n) σ H0 v:=fun H Q s q=>⟨v,h,q H (zG.refl H)⟩
theorem yH:PuE (tC v) σ H0 v:=fun H Q s q=>q H (zG.refl H)
theorem jN {g:Int→Int→V} (ha:PuE ta σ H0 (.int i)) (hb:PuE tb σ H0 (.int j)):PuE (tOp (rI0 g) ta tb) σ H0 (g i j):=fun H Q s q =>
  ha H _ s fun H1 s1=>hb H1 _ (s.trans s1) fun H2 s2=>⟨i,j,rfl,rfl,q H2 (s1.trans s2)⟩
theorem pu_iC {C:Int→Int→Prop} {g:Int→Int→V} (ha:PuE ta σ H0 (.int i)) (hb:PuE tb σ H0 (.int j)) (hc:C i j):PuE (tOp (rI C g) ta tb) σ H0 (g i j):=fun H Q s q =>
  ha H _ s fun H1 s1=>hb H1 _ (s.trans s1) fun H2 s2=>⟨i,j,rfl,rfl,hc,q H2 (s1.trans s2)⟩
theorem zA2 (ha:PuE ta σ H0 (.int i)) (hb:PuE tb σ H0 (.int j)):PuE (tOp rEq ta tb) σ H0 (.bl (decide (i = j))):=fun H Q s q =>
  ha H _ s fun H1 s1=>hb H1 _ (s.trans s1) fun H2 s2=>⟨rfl,by
    have e:decide (V.int i = V.int j) = decide (i = j):=by simp
    rw [e]
    exact q H2 (s1.trans s2)⟩
theorem pu_ne (ha:PuE ta σ H0 (.int i)) (hb:PuE tb σ H0 (.int j)):PuE (tOp rNe ta tb) σ H0 (.bl (!decide (i = j))):=fun H Q s q =>
  ha H _ s fun H1 s1=>hb H1 _ (s.trans s1) fun H2 s2=>⟨rfl,by
    have e:decide (V.int i = V.int j) = decide (i = j):=by simp
    rw [e]
    exact q H2 (s1.trans s2)⟩
theorem pu_isN {r:R2} (hr:∀ x y H Q,(y = V.non∧Q (.bl (decide (x = .non))) H)→r x y H Q) (ha:PuE ta σ H0 x) (hb:PuE tb σ H0 .non):PuE (tOp r ta tb) σ H0 (.bl (decide (x = .non))):=fun H Q s q =>
  ha H _ s fun H1 s1=>hb H1 _ (s.trans s1) fun H2 s2=>hr _ _ _ _ ⟨rfl,q H2 (s1.trans s2)⟩
theorem zI {f:Str} {a C dx:Addr} {fs:List (Str × V)} (ha:PuE ta σ H0 (.ref a)) (h:H0 a = some (.ins C dx fs)) (hc:Cls K C) (hn:yP K C f) (hl:fs.lookup f = some v):PuE (tFld K ta f) σ H0 v:=fun H Q s q =>
  ha H _ s fun H1 s1=>⟨a,C,dx,fs,v,rfl,s _ _ h |> s1 _ _,hc,hn,hl,q H1 s1⟩
theorem zP (h:PuE ta σ H0 (.bl b)):PuT (tTest ta) σ H0 b:=fun H Q s q=>h H _ s fun H1 s1=>⟨b,rfl,q H1 s1⟩
theorem jH (h:PuE ta σ H0 (.bl b)):PuT (tB ta) σ H0 b:=fun H Q s q=>h H _ s fun H1 s1=>⟨b,rfl,q H1 s1⟩
theorem pu_not (h:PuT tt σ H0 b):PuT (tNot tt) σ H0 (!b):=fun H Q s q=>h H _ s fun H1 s1=>q H1 s1
theorem pu_and (h:PuT tt σ H0 b) (h':b = true→PuT tu σ H0 c):PuT (tAnd tt tu) σ H0 (b && c):=fun H Q s q=>h H _ s fun H1 s1=>by
  cases b with
  | true =>
    rw [if_pos rfl]
    exact h' rfl H1 _ (s.trans s1) fun H2 s2=>q H2 (s1.trans s2)
  | false=>exact iteF (q H1 s1)
theorem pu_or (h:PuT tt σ H0 b) (h':b = false→PuT tu σ H0 c):PuT (tOr tt tu) σ H0 (b || c):=fun H Q s q=>h H _ s fun H1 s1=>by
  cases b with
  | true=>exact iteT (q H1 s1)
  | false=>exact iteF (h' rfl H1 _ (s.trans s1) fun H2 s2=>q H2 (s1.trans s2))
theorem pu_andV (h:PuE ta σ H0 (.bl b)) (h':b = true→PuE tb σ H0 (.bl c)):PuE (tAndV ta tb) σ H0 (.bl (b && c)):=fun H Q s q=>h H _ s fun H1 s1=>by
  cases b with
  | true=>exact ⟨true,rfl,iteT (h' rfl H1 _ (s.trans s1) fun H2 s2=>q H2 (s1.trans s2))⟩
  | false=>exact ⟨false,rfl,iteF (q H1 s1)⟩
theorem pu_orV (h:PuE ta σ H0 (.bl b)) (h':b = false→PuE tb σ H0 (.bl c)):PuE (tOrV ta tb) σ H0 (.bl (b || c)):=fun H Q s q=>h H _ s fun H1 s1=>by
  cases b with
  | true=>exact ⟨true,rfl,iteT (q H1 s1)⟩
  | false=>exact ⟨false,rfl,iteF (h' rfl H1 _ (s.trans s1) fun H2 s2=>q H2 (s1.trans s2))⟩
theorem pu_if (h:PuT tt σ H0 b) (h1:PuE ta σ H0 x) (h2:PuE tb σ H0 y):PuE (tIf tt ta tb) σ H0 (if b = true then x else y):=fun H Q s q=>h H _ s fun H1 s1=>by
  cases b with
  | true=>exact iteT (h1 H1 _ (s.trans s1) fun H2 s2=>q H2 (s1.trans s2))
  | false=>exact iteF (h2 H1 _ (s.trans s1) fun H2 s2=>q H2 (s1.trans s2))
theorem zN:PuA zAG σ H0 []:=fun H Q s q=>q H (zG.refl H)
theorem zD {t:TA} {vs:List V} (h:PuE ta σ H0 v) (h':PuA t σ H0 vs):PuA (yW ta t) σ H0 (v :: vs):=fun H Q s q=>h H _ s fun H1 s1=>h' H1 _ (s.trans s1) fun H2 s2=>q H2 (s1.trans s2)
theorem xE {sp:Sp} {t:TA} {vs:List V} {E:XK} (ha:PuA t σ H0 vs) (h:∀ H Q,zG H0 H→(∀ H',zG H H'→Q v H')→sp (vs ++ []) H Q E):PuE (zC6 sp [] E t) σ H0 v:=fun H Q s q =>
  ha H _ s fun H1 s1=>h H1 Q (s.trans s1) fun H2 s2=>q H2 (s1.trans s2)
theorem pu_meth {C:Addr} {m:Str} {sp:Sp} {t:TA} {vs:List V} {E:XK} {a dx:Addr} {fs:List (Str × V)} (ho:PuE ta σ H0 (.ref a)) (hi:H0 a = some (.ins C dx fs)) (hm:fs.lookup m = none) (ha:PuA t σ H0 vs)
    (h:∀ H Q,zG H0 H→(∀ H',zG H H'→Q v H')→sp (.ref a :: (vs ++ [])) H Q E):PuE (zEN C m sp [] E ta t) σ H0 v:=fun H Q s q =>
  ho H _ s fun H1 s1=>⟨a,dx,fs,rfl,s1 _ _ (s _ _ hi),hm,ha H1 _ (s.trans s1) fun H2 s2=>h H2 Q ((s.trans s1).trans s2) fun H3 s3=>q H3 ((s1.trans s2).trans s3)⟩
theorem zGZ {r:List V→Hp→VK→Prop} {t:TA} {p:Addr} {ys:List V} (hr:∀ xs H Q,(∃ p ys,xs = [V.ref p]∧(SqL K H p ys∨SqT K H p ys)∧Q (.int ys.length) H)→r xs H Q) (ha:PuA t σ H0 [.ref p]) (h:H0 p = some (.lst ys)):PuE (tCB r t) σ H0 (.int ys.length):=fun H Q s q =>
  ha H _ s fun H1 s1=>hr _ _ _ ⟨p,ys,rfl,.inl (SqL.of (s1 _ _ (s _ _ h))),q H1 s1⟩
theorem zC2 {p:Addr} {xs:List V} {n:Nat} (ha:PuE ta σ H0 (.ref p)) (hb:PuE tb σ H0 (.int i)) (h:H0 p = some (.lst xs)) (hi:i = (n:Int)) (hx:xs[n]? = some v):PuE (tOp (rIxL K) ta tb) σ H0 v:=fun H Q s q =>
  ha H _ s fun H1 s1=>hb H1 _ (s.trans s1) fun H2 s2=>⟨p,xs,i,v,rfl,rfl,SqL.of (s2 _ _ (s1 _ _ (s _ _ h))),at_of hi hx,q H2 (s1.trans s2)⟩
theorem zG0 {p:Addr} {xs:List V} {n:Nat} (ha:PuE ta σ H0 (.ref p)) (hb:PuE tb σ H0 (.int i)) (h:SqT K H0 p xs) (hi:i = (n:Int)) (hx:xs[n]? = some v):PuE (tOp (rIxT K) ta tb) σ H0 v:=fun H Q s q =>
  ha H _ s fun H1 s1=>hb H1 _ (s.trans s1) fun H2 s2=>⟨p,xs,i,v,rfl,rfl,zG.tup ((s.trans s1).trans s2) h,at_of hi hx,q H2 (s1.trans s2)⟩
theorem nI_flat:∀ l:List Nat,(nI l).all zE2 = true
  | []=>rfl
  | n :: l=>by
    show (zE2 (V.int n) && (nI l).all zE2) = true
    rw [nI_flat l]
    rfl
theorem nI_in (n:Nat):∀ l:List Nat,inV (.int (n:Int)) (nI l) = l.contains n
  | []=>rfl
  | m :: l=>by
    show (((m:Int) == (n:Int)) || inV (.int (n:Int)) (nI l)) = (m :: l).contains n
    rw [nI_in n l,List.contains_cons]
    congr 1
    rw [Bool.beq_eq_decide_eq,Bool.beq_eq_decide_eq]
    simp [eq_comm,Int.ofNat_inj]
theorem pu_in {p:Addr} {l:List Nat} {n:Nat} (ha:PuE ta σ H0 (.int (n:Int))) (hb:PuE tb σ H0 (.ref p)) (h:H0 p = some (.lst (nI l))):PuE (tOp (rIn K false) ta tb) σ H0 (.bl (l.contains n)):=fun H Q s q =>
  ha H _ s fun H1 s1=>hb H1 _ (s.trans s1) fun H2 s2=>⟨p,nI l,rfl,.inl (SqL.of (s2 _ _ (s1 _ _ (s _ _ h)))),rfl,nI_flat l,by
    rw [if_neg Bool.false_ne_true,nI_in]
    exact q H2 (s1.trans s2)⟩
theorem pu_notin {p:Addr} {l:List Nat} {n:Nat} (ha:PuE ta σ H0 (.int (n:Int))) (hb:PuE tb σ H0 (.ref p)) (h:H0 p = some (.lst (nI l))):PuE (tOp (rIn K true) ta tb) σ H0 (.bl (!l.contains n)):=fun H Q s q =>
  ha H _ s fun H1 s1=>hb H1 _ (s.trans s1) fun H2 s2=>⟨p,nI l,rfl,.inl (SqL.of (s2 _ _ (s1 _ _ (s _ _ h)))),rfl,nI_flat l,by
    rw [if_pos rfl,nI_in]
    exact q H2 (s1.trans s2)⟩
theorem cP_inj {p q:Nat × Nat} (h:cP p = cP q):p = q:=by
  obtain ⟨a,b⟩:=p
  obtain ⟨c,d⟩:=q
  have h1:(a:Int) = c:=congrArg Prod.fst h
  have h2:(b:Int) = d:=congrArg Prod.snd h
  rw [Int.ofNat_inj.mp h1,Int.ofNat_inj.mp h2]
theorem cP_in (x:Nat × Nat):∀ cs:List (Nat × Nat),(cs.map cP).contains (cP x) = cs.contains x
  | []=>rfl
  | y :: cs=>by
    rw [List.map_cons,List.contains_cons,List.contains_cons,cP_in x cs]
    congr 1
    rw [Bool.beq_eq_decide_eq,Bool.beq_eq_decide_eq]
    by_cases e:x = y
    · subst e
      simp
    · rw [decide_eq_false e,decide_eq_false fun z=>e (cP_inj z)]
theorem zG1 {tl:TE} {f d:Nat} {l:Addr} {cs:List (Nat × Nat)} (ha:PuE ta σ H0 (.int (f:Int))) (hb:PuE tb σ H0 (.int (d:Int))) (hl:PuE tl σ H0 (.ref l)) (h:qQ K H0 l cs) :
    PuE (tOp (rInP K false) (tTup (yW ta (yW tb zAG))) tl) σ H0 (.bl (cs.contains (f,d))):=fun H Q s q =>
  ha H _ s fun H1 s1=>hb H1 _ (s.trans s1) fun H2 s2=>⟨by show 2 ≤ sizeLine; decide,fun p hp=>by
    have s3:zG H2 (upd H2 p (.tup [.int (f:Int),.int (d:Int)])):=zG.new hp
    have s13:=(s1.trans s2).trans s3
    refine hl _ _ (s.trans s13) fun H4 s4=>?_
    obtain ⟨ts,e1,e2⟩:=(h.same ((s.trans s13).trans s4)).pairs
    refine ⟨p,l,cP (f,d),ts,_,rfl,rfl,SqT.of (s4 _ _ zF),SqL.of e1,e2,?_⟩
    rw [if_neg Bool.false_ne_true,cP_in]
    exact q H4 (s13.trans s4)⟩
theorem pu_inA {ta tl:TE} {x:Nat × Nat} {p l:Addr} {cs:List (Nat × Nat)} (ha:PuE ta σ H0 (.ref p)) (hp:xK K H0 p (cP x)) (hl:PuE tl σ H0 (.ref l)) (h:qQ K H0 l cs) :
    PuE (tOp (rInP K false) ta tl) σ H0 (.bl (cs.contains x)):=fun H Q s q =>
  ha H _ s fun H1 s1=>hl H1 _ (s.trans s1) fun H2 s2=>by
    obtain ⟨ts,e1,e2⟩:=(h.same ((s.trans s1).trans s2)).pairs
    refine ⟨p,l,cP x,ts,_,rfl,rfl,zG.tup ((s.trans s1).trans s2) hp,SqL.of e1,e2,?_⟩
    rw [if_neg Bool.false_ne_true,cP_in]
    exact q H2 (s1.trans s2)
theorem pu_notinA {ta tl:TE} {x:Nat × Nat} {p l:Addr} {cs:List (Nat × Nat)} (ha:PuE ta σ H0 (.ref p)) (hp:xK K H0 p (cP x)) (hl:PuE tl σ H0 (.ref l)) (h:qQ K H0 l cs) :
    PuE (tOp (rInP K true) ta tl) σ H0 (.bl (!cs.contains x)):=fun H Q s q =>
  ha H _ s fun H1 s1=>hl H1 _ (s.trans s1) fun H2 s2=>by
    obtain ⟨ts,e1,e2⟩:=(h.same ((s.trans s1).trans s2)).pairs
    refine ⟨p,l,cP x,ts,_,rfl,rfl,zG.tup ((s.trans s1).trans s2) hp,SqL.of e1,e2,?_⟩
    rw [if_pos rfl,cP_in]
    exact q H2 (s1.trans s2)
end
section
variable {K:PySem.W.Frag} {σ:L2.St} {H0 H:Hp} {ta tb:TE} {tt:TT} {t u r:TS} {v x y:V} {b:Bool} {D:zC4}
theorem st_seq (h:t { D with nx:=u D } σ H):zBW t u D σ H:=h
theorem st_if (h:PuT tt σ H0 b) (s:zG H0 H) (h1:∀ H',zG H0 H'→b = true→t D σ H') (h2:∀ H',zG H0 H'→b = false→u D σ H'):tIfS tt t u D σ H:=h H _ s fun H1 s1=>by
  cases b with
  | true=>exact iteT (h1 H1 (s.trans s1) rfl)
  | false=>exact iteF (h2 H1 (s.trans s1) rfl)
theorem yK (h:PuT tt σ H0 b) (s:zG H0 H) (h1:∀ H',zG H0 H'→b = true→t { D with nx:=r D } σ H') (h2:∀ H',zG H0 H'→b = false→r D σ H'):zBW (tIfS tt t tNext) r D σ H:=st_if (u:=tNext) (D:={ D with nx:=r D }) h s h1 h2
theorem xY {i:Nat} (h:PuE ta σ H0 v) (s:zG H0 H) (q:∀ H',zG H0 H'→r D (σ.set i (some v)) H'):zBW (tAsg ta (zA7 i)) r D σ H:=h H _ s fun H1 s1=>q H1 (s.trans s1)
theorem yF (h:PuE ta σ H0 v) (s:zG H0 H) (q:∀ H',zG H0 H'→D.rt v H'):tRet ta D σ H:=h H _ s fun H1 s1=>q H1 (s.trans s1)
theorem st_ret_op {r:R2} (h:PuE ta σ H0 x) (s:zG H0 H) (q:∀ H',zG H0 H'→tb σ H' fun y H2=>r x y H2 D.rt):tRet (tOp r ta tb) D σ H:=h H _ s fun H1 s1=>q H1 (s.trans s1)
theorem zEC {f:Str} {a C dx:Addr} {fs:List (Str × V)} (hv:PuE tb σ H0 y) (ha:PuE ta σ H0 (.ref a)) (s:zG H0 H) (h:H0 a = some (.ins C dx fs)) (hc:Cls K C) (hn:yP K C f) (hl:fs.length < 1000)
    (q:∀ H',zG H0 H'→D.nx σ (upd H' a (.ins C dx (wV f y fs)))):sFld K ta tb f D σ H :=
  hv H _ s fun H1 s1=>ha H1 _ (s.trans s1) fun H2 s2=>⟨a,C,dx,fs,rfl,(((s.trans s1).trans s2) _ _ h),hc,hn,hl,q H2 ((s.trans s1).trans s2)⟩
theorem st_fadd {f:Str} {a C dx:Addr} {fs:List (Str × V)} {i j:Int} (hv:PuE tb σ H0 (.int j)) (ha:PuE ta σ H0 (.ref a)) (s:zG H0 H) (h:H0 a = some (.ins C dx fs)) (hc:Cls K C) (hn:yP K C f) (hl:fs.length < 1000) (hf:fs.lookup f = some (.int i))
    (q:∀ H',zG H0 H'→D.nx σ (upd H' a (.ins C dx (wV f (.int (i + j)) fs)))):zEW K ta tb rAdd f D σ H :=
  ha H _ s fun H1 s1=>⟨a,C,dx,fs,.int i,rfl,(s.trans s1) _ _ h,hc,hn,hf,hv H1 _ (s.trans s1) fun H2 s2=>⟨i,j,rfl,rfl,dx,fs,((s.trans s1).trans s2) _ _ h,hl,q H2 ((s.trans s1).trans s2)⟩⟩
theorem st_fsub {f:Str} {a C dx:Addr} {fs:List (Str × V)} {i j:Int} (hv:PuE tb σ H0 (.int j)) (ha:PuE ta σ H0 (.ref a)) (s:zG H0 H) (h:H0 a = some (.ins C dx fs)) (hc:Cls K C) (hn:yP K C f) (hl:fs.length < 1000) (hf:fs.lookup f = some (.int i))
    (q:∀ H',zG H0 H'→D.nx σ (upd H' a (.ins C dx (wV f (.int (i - j)) fs)))):zEW K ta tb rSub f D σ H :=
  ha H _ s fun H1 s1=>⟨a,C,dx,fs,.int i,rfl,(s.trans s1) _ _ h,hc,hn,hf,hv H1 _ (s.trans s1) fun H2 s2=>⟨i,j,rfl,rfl,dx,fs,((s.trans s1).trans s2) _ _ h,hl,q H2 ((s.trans s1).trans s2)⟩⟩
end
def FrE (te:TE) (σ:L2.St) (H0:Hp) (l:List Nat):Prop:=∀ (H:Hp) (Q:VK),zG H0 H→(∀ H' p,zG H H'→H p = none→H' p = some (.lst (nI l))→Q (.ref p) H')→te σ H Q
section
variable {K:PySem.W.Frag} {σ:L2.St} {H0 H:Hp} {te td tb:TE}
theorem zE0 (l:List Nat):nI l = (l.map fun (n:Nat)=>(n:Int)).map V.int:=by
  unfold nI
  rw [List.map_map]
  rfl
theorem pu_maxD {l:List Nat} {f:Nat} (h:FrE te σ H0 l) (hd:PuE td σ H0 (.int (f:Int))) (hb:PuE tb σ H0 (.int (f:Int))) :
    PuE (tOp (rI0 fun i j=>.bl (decide (j < i))) (tmaxD K (yW te zAG) (yW td zAG)) tb) σ H0 (.bl (l.any fun x=>decide (f < x))):=fun H Q s q =>
  h H _ s fun H1 p s1 _ hp=>hd H1 _ (s.trans s1) fun H2 s2=>⟨p,l.map fun (n:Nat)=>(n:Int),(f:Int),rfl,rfl,SqL.of (by rw [s2 _ _ hp,zE0]),fun m hm =>
    hb H2 _ ((s.trans s1).trans s2) fun H3 s3=>⟨m,f,rfl,rfl,qv (q H3 ((s1.trans s2).trans s3)) (by
      congr 1
      rw [Bool.eq_iff_iff,decide_eq_true_eq,List.any_eq_true]
      rcases hm with ⟨e,rfl⟩ | ⟨hm,hg⟩
      · have e':l = []:=List.map_eq_nil_iff.mp e
        subst e'
        simp
      · obtain ⟨x,hx,rfl⟩:=List.mem_map.mp hm
        constructor
        · rintro ⟨y,hy,e⟩
          have e1:=of_decide_eq_true e
          have:=hg (y:Int) (List.mem_map.mpr ⟨y,hy,rfl⟩)
          omega
        · intro e
          exact ⟨x,hx,decide_eq_true (by omega)⟩)⟩⟩
theorem pu_minD {l:List Nat} {f:Nat} (h:FrE te σ H0 l) (hd:PuE td σ H0 (.int (f:Int))) (hb:PuE tb σ H0 (.int (f:Int))) :
    PuE (tOp (rI0 fun i j=>.bl (decide (i < j))) (tminD K (yW te zAG) (yW td zAG)) tb) σ H0 (.bl (l.any fun x=>decide (x < f))):=fun H Q s q =>
  h H _ s fun H1 p s1 _ hp=>hd H1 _ (s.trans s1) fun H2 s2=>⟨p,l.map fun (n:Nat)=>(n:Int),(f:Int),rfl,rfl,SqL.of (by rw [s2 _ _ hp,zE0]),fun m hm =>
    hb H2 _ ((s.trans s1).trans s2) fun H3 s3=>⟨m,f,rfl,rfl,qv (q H3 ((s1.trans s2).trans s3)) (by
      congr 1
      rw [Bool.eq_iff_iff,decide_eq_true_eq,List.any_eq_true]
      rcases hm with ⟨e,rfl⟩ | ⟨hm,hg⟩
      · have e':l = []:=List.map_eq_nil_iff.mp e
        subst e'
        simp
      · obtain ⟨x,hx,rfl⟩:=List.mem_map.mp hm
        constructor
        · rintro ⟨y,hy,e⟩
          have e1:=of_decide_eq_true e
          have:=hg (y:Int) (List.mem_map.mpr ⟨y,hy,rfl⟩)
          omega
        · intro e
          exact ⟨x,hx,decide_eq_true (by omega)⟩)⟩⟩
end
section
variable {K:PySem.W.Frag} {σ:L2.St} {H0 H:Hp} {tl te:TE} {tt:TT} {α:Type}
theorem pu_yes:PuT tYes σ H0 true:=fun H Q s q=>q H (zG.refl H)
theorem pu_lc {j:Nat} {a:Addr} {as:List α} {xv g:α→V} {p:α→Bool} (hl:PuE tl σ H0 (.ref a)) (h:H0 a = some (.lst (as.map xv))) (hz:as.length ≤ sizeLine)
    (ht:∀ z ∈ as,PuT tt ((σ.set j none).set j (some (xv z))) H0 (p z)) (he:∀ z ∈ as,p z = true→PuE te ((σ.set j none).set j (some (xv z))) H0 (g z)) (H:Hp) (Q:VK) (s:zG H0 H)
    (q:∀ (H':Hp) (D:Addr),zG H H'→H D = none→H' D = some (.lst ((as.filter p).map g))→Q (.ref D) H'):tLc (iList K tl) (zA7 j) tt te [j] σ H Q:=by
  refine hl H _ s fun H1 s1=>⟨a,rfl,⟨_,SqL.of (s1 _ _ (s _ _ h))⟩,fun D hD=>?_⟩
  have keep:∀ {H':Hp},(∀ b o,b ≠ D→(upd H1 D (.lst [])) b = some o→H' b = some o)→zG H1 H':=fun {H'} k b o e=>k b o (zM e hD) (by rw [zV (zM e hD)]; exact e)
  refine lc_list (K:=K) (a:=a) (xs:=as.map xv) (fun i H'=>zG H1 H'∧H' D = some (.lst (((as.take i).filter p).map g))) ⟨zG.new hD,zF⟩ (fun i H' _ hP=>SqL.of (hP.1 _ _ (s1 _ _ (s _ _ h)))) ?_ ?_
  · rintro i x H' hx ⟨s2,hd⟩
    obtain ⟨z,hzi,rfl⟩:∃ z,as[i]? = some z∧xv z = x:=by
      rw [List.getElem?_map] at hx
      cases e:as[i]? with
      | none =>
        rw [e] at hx
        cases hx
      | some z =>
        rw [e] at hx
        exact ⟨z,rfl,Option.some.inj hx⟩
    have hm:z ∈ as:=List.mem_of_getElem? hzi
    have tk:as.take (i + 1) = as.take i ++ [z]:=by
      rw [List.take_add_one,hzi]
      rfl
    have hi:i < as.length:=(List.getElem?_eq_some_iff.mp hzi).1
    refine ⟨?_,ht z hm H' _ ((s.trans s1).trans s2) fun H3 s3=>?_⟩
    · show (((σ.set j none).set j (some (xv z))).set j none) = σ.set j none
      rw [List.set_set,List.set_set]
    · cases hp:p z with
      | false =>
        refine iteF ⟨s2.trans s3,?_⟩
        rw [tk,List.filter_append,List.filter_cons,hp,if_neg Bool.false_ne_true,List.filter_nil,List.append_nil]
        exact s3 _ _ hd
      | true =>
        refine iteT (he z hm hp H3 _ (((s.trans s1).trans s2).trans s3) fun H4 s4=>?_)
        refine ⟨_,s4 _ _ (s3 _ _ hd),?_,?_,?_⟩
        · rw [List.length_map]
          have:=List.length_filter_le p (as.take i)
          rw [List.length_take] at this
          omega
        · exact fun b o e=>by
            rw [zV (zM e hD)]
            exact s4 _ _ (s3 _ _ (s2 _ _ e))
        · rw [zF,tk,List.filter_append,List.map_append,List.filter_cons,hp,if_pos rfl]
          rfl
  · rintro H' ⟨s2,hd⟩
    rw [List.length_map,List.take_length] at hd
    refine q H' D (s1.trans s2) ?_ hd
    cases e:H D with
    | none=>rfl
    | some o =>
      rw [s1 _ _ e] at hD
      cases hD
end
variable {P:Program} {w:World} {K:PySem.W.Frag} {mg:Str→Option Value} {base:Heap} {t:Adr} {H0:Hp}
def oppo (d:Nat):Nat:=if d = 1 then 2 else 1
def zH1 (K:PySem.W.Frag) (t:Adr):Sp:=fun vs H Q _=>∃ d:Nat,vs = [.int d]∧∀ H',zG H H'→Q (.int (oppo d)) H'
theorem zCK (T:Txt K mg t):qL P w K mg base CX0 1 t.f_opposite t.d_opposite ["direction"] (zH1 K t):=by
  refine T.D.opposite.F.ok sc_opposite (fun vs H Q E h=>by obtain ⟨_,rfl,_⟩:=h; rfl) (fun cdv A outer s H vs Q E hr h=>?_)
  obtain ⟨d,rfl,q⟩:=h
  refine ⟨_,zH (zO (zCJ (zQ qJ (pv 0) (yB rfl T.G.i_UP) (zY _)) (yB rfl T.G.i_DOWN) (yB rfl T.G.i_UP))),?_⟩
  refine yF (pu_if (zP (zA2 (zA rfl) yH)) yH yH) (zG.refl _) fun H' s'=>qv (q H' s') ?_
  unfold oppo
  by_cases e:d = 1
  · subst e
    rfl
  · rw [if_neg e,if_neg (by simp; omega)]
    rfl
theorem zCO {d:Nat}:∀ (H:Hp) (Q:VK),zG H0 H→(∀ H',zG H H'→Q (.int (oppo d)) H')→zH1 K t ([.int d] ++ []) H Q E0:=fun H Q s q=>⟨d,rfl,q⟩
def sp_is_full (K:PySem.W.Frag) (t:Adr):Sp:=fun vs H Q _=>∃ (a p:Addr) (L:CL) (c:Lf.Car) (h:Lf.House),vs = [.ref a,.ref p]∧zX K t H a L c∧xO t H p h∧∀ H',zG H H'→Q (.bl (decide (h.room ≤ c.inside.length))) H'
theorem ok_is_full (T:Txt K mg t):qL P w K mg base CX0 1 t.f_is_full t.d_is_full ["car", "plan"] (sp_is_full K t):=by
  refine T.D.is_full.F.ok sc_is_full (fun vs H Q E h=>by obtain ⟨_,_,_,_,_,rfl,_⟩:=h; rfl) (fun cdv A outer s H vs Q E hr h=>?_)
  obtain ⟨a,p,L,c,h,rfl,C,⟨dp,hp⟩,q⟩:=h
  obtain ⟨⟨dx,hc⟩,h1,h2,h3,h4⟩:=id C
  refine ⟨_,zH (zO (zAE op_ge (yJ zZ rfl T.G.z_len PySem.boot_len (zB (zJ (pv 0) rfl) zE)) (zJ (pv 1) rfl) (zY _))),?_⟩
  refine yF (jN (zGZ (fun _ _ _ h=>h) (zD (zI (zA rfl) (by assumption) T.C.k_Car.c T.C.n_Car_inside (qD _ _ _ _ _ _ _)) zN) (by assumption)) (zI (zA rfl) (by assumption) T.C.k_Plan.c T.C.n_Plan_room (planF_room _ _ _ _ _ _ _))) (zG.refl _) fun H' s'=>qv (q H' s') ?_
  rw [zR]
  simp
theorem cl_is_full {a p:Addr} {L:CL} {c:Lf.Car} {h:Lf.House} (C:zX K t H0 a L c) (Pn:xO t H0 p h):∀ (H:Hp) (Q:VK),zG H0 H→(∀ H',zG H H'→Q (.bl (decide (h.room ≤ c.inside.length))) H')→sp_is_full K t ([.ref a,.ref p] ++ []) H Q E0:=fun H Q s q=>⟨a,p,L,c,h,rfl,C.same s,Pn.same s,q⟩
def zGY (K:PySem.W.Frag) (t:Adr):Sp:=fun vs H Q _=>∃ (a:Addr) (L:CL) (c:Lf.Car),vs = [.ref a]∧zX K t H a L c∧∀ H',zG H H'→Q (.bl (!c.stops.isEmpty)) H'
theorem zG7 (T:Txt K mg t):qL P w K mg base CX0 1 t.f_has_stops t.d_has_stops ["car"] (zGY K t):=by
  refine T.D.has_stops.F.ok sc_has_stops (fun vs H Q E h=>by obtain ⟨_,_,_,rfl,_⟩:=h; rfl) (fun cdv A outer s H vs Q E hr h=>?_)
  obtain ⟨a,L,c,rfl,C,q⟩:=h
  obtain ⟨⟨dx,hc⟩,h1,h2,h3,h4⟩:=id C
  obtain ⟨ys,h5,e1⟩:=h3.len
  refine ⟨_,zH (zO (zAE op_gt (qX zCV (yJ zZ rfl T.G.z_len PySem.boot_len (zB (zJ (pv 0) rfl) zE)) (yJ zZ rfl T.G.z_len PySem.boot_len (zB (zJ (pv 0) rfl) zE))) yC (zY _))),?_⟩
  refine yF (jN (jN (zGZ (fun _ _ _ h=>h) (zD (zI (zA rfl) (by assumption) T.C.k_Car.c T.C.n_Car_pressed (xQ _ _ _ _ _ _ _)) zN) (by assumption)) (zGZ (fun _ _ _ h=>h) (zD (zI (zA rfl) (by assumption) T.C.k_Car.c T.C.n_Car_calls (yT _ _ _ _ _ _ _)) zN) (by assumption))) yH) (zG.refl _) fun H' s'=>qv (q H' s') ?_
  rw [zR,e1]
  unfold Lf.Car.stops
  congr 1
  cases c.pressed <;> cases c.calls <;> simp <;> omega
theorem zHA {a:Addr} {L:CL} {c:Lf.Car} (C:zX K t H0 a L c):∀ (H:Hp) (Q:VK),zG H0 H→(∀ H',zG H H'→Q (.bl (!c.stops.isEmpty)) H')→zGY K t ([.ref a] ++ []) H Q E0:=fun H Q s q=>⟨a,L,c,rfl,C.same s,q⟩
def zHZ (K:PySem.W.Frag) (t:Adr):Sp:=fun vs H Q _=>∃ (a:Addr) (L:CL) (c:Lf.Car),vs = [.ref a]∧zX K t H a L c∧∀ H' p,zG H H'→H p = none→H' p = some (.lst (nI c.stops))→Q (.ref p) H'
theorem zs_fst {K:PySem.W.Frag} {H:Hp} {zs:List (Addr × Nat × Nat)}:(zs.map fun z=>V.int (z.2.1:Int)) = nI ((zs.map (·.2)).map (·.1)):=by
  unfold nI
  rw [List.map_map,List.map_map]
  rfl
theorem zEZ (T:Txt K mg t):qL P w K mg base CX0 1 t.f_stops_of t.d_stops_of ["car"] (zHZ K t):=by
  refine T.D.stops_of.F.ok zER (fun vs H Q E h=>by obtain ⟨_,_,_,rfl,_⟩:=h; rfl) (fun cdv A outer s H vs Q E hr h=>?_)
  obtain ⟨a,L,c,rfl,C,q⟩:=h
  obtain ⟨⟨dx,hc⟩,h1,h2,⟨zs,e1,h3,h3'⟩,h4⟩:=id C
  have l1:zs.length = c.calls.length:=by rw [← e1,List.length_map]
  refine ⟨_,zH (zO (qX op_cat (zJ (pv 0) rfl) (pe_lc rfl zER.nd (wT (zJ (pv 0) rfl)) (own:=[("call", 1)]) (wW (N:=["car", "call"]) (sc:=zK zDY) (by decide +kernel)) (fun _ _ _ _ _=>jZ (i:=1) zER.nd rfl (Or.inl rfl)) (fun _ _ _ _ _=>zEX) (fun _ _ _ _ _=>(qA (ix_tupK (K:=K) rfl) (pv 1) yC (fun _ _=>rfl)))))),?_⟩
  refine st_ret_op (zI (zA rfl) (by assumption) T.C.k_Car.c T.C.n_Car_pressed (xQ _ _ _ _ _ _ _)) (zG.refl _) fun H1 s1=>?_
  refine pu_lc (p:=fun _=>true) (xv:=fun z=>V.ref z.1) (g:=fun z=>V.int (z.2.1:Int)) (zI (zA rfl) (by assumption) T.C.k_Car.c T.C.n_Car_calls (yT _ _ _ _ _ _ _)) h3 (by rw [sizeLine_eq]; omega) (fun z hz=>pu_yes) (fun z hz _=>zG0 (n:=0) (zA rfl) yH (h3' z hz) rfl rfl) H1 _ s1 fun H2 D s2 hn hD=>?_
  rw [List.filter_eq_self.mpr (fun _ _=>rfl),zs_fst (K:=K) (H:=H),e1] at hD
  refine ⟨_,_,_,_,rfl,rfl,(s1.trans s2) _ _ h2,hD,by rw [zR,zR,List.length_map,sizeLine_eq]; omega,fun p hp=>?_⟩
  refine q _ p ((s1.trans s2).trans (zG.new hp)) ((s1.trans s2).free hp) ?_
  rw [zF]
  unfold nI Lf.Car.stops
  rw [List.map_append]
theorem zE7 {σ:L2.St} {ta:TE} {a:Addr} {L:CL} {c:Lf.Car} (C:zX K t H0 a L c) (ha:PuE ta σ H0 (.ref a)):FrE (zC6 (zHZ K t) [] E0 (yW ta zAG)) σ H0 c.stops:=fun H Q s q =>
  ha H _ s fun H1 s1=>⟨a,L,c,rfl,C.same (s.trans s1),fun H2 p s2 hn hp=>q H2 p (s1.trans s2) (s1.free hn) hp⟩
def zA9 (K:PySem.W.Frag) (t:Adr):Sp:=fun vs H Q _=>∃ (a:Addr) (L:CL) (c:Lf.Car) (h:Lf.House) (d:Nat),vs = [.ref a,.int (c.floor h:Nat),.int d]∧zX K t H a L c∧(d = 1∨d = 2)∧∀ H',zG H H'→Q (.bl (c.ahead h d)) H'
theorem yY (T:Txt K mg t):qL P w K mg base CX0 2 t.f_has_stop_beyond t.d_has_stop_beyond ["car", "floor", "direction"] (zA9 K t):=by
  refine T.D.has_stop_beyond.F.ok zFJ (fun vs H Q E h=>by obtain ⟨_,_,_,_,_,rfl,_⟩:=h; rfl) (fun cdv A outer s H vs Q E hr h=>?_)
  obtain ⟨a,L,c,h,d,rfl,C,hd,q⟩:=h
  refine ⟨_,zC (yX (zQ qJ (pv 2) (yB rfl T.G.i_UP) (zY _)) (zH (zO (zAE op_gt (pe_maxD rfl rfl T.G.z_max (zB (yA (zEZ T) (hr.mono (by decide)) rfl T.D.stops_of.m T.D.stops_of.F.kp T.D.stops_of.b .nil yD (zB (pv 0) zE)) zE) (pk_cons (pv 1) pk_nil)) (pv 1) (zY _)))) (zU)) (zH (zO (zAE op_lt (pe_minD rfl rfl T.G.z_min (zB (yA (zEZ T) (hr.mono (by decide)) rfl T.D.stops_of.m T.D.stops_of.F.kp T.D.stops_of.b .nil yD (zB (pv 0) zE)) zE) (pk_cons (pv 1) pk_nil)) (pv 1) (zY _)))),?_⟩
  refine yK (zP (zA2 (zA rfl) yH)) (zG.refl _) (fun H1 s1 e=>?_) (fun H1 s1 e=>?_)
  · have e1:d = 1:=by have:=of_decide_eq_true e; omega
    subst e1
    refine yF (pu_maxD (zE7 C (zA rfl)) (zA rfl) (zA rfl)) s1 fun H2 s2=>qv (q H2 s2) ?_
    unfold Lf.Car.ahead
    simp
  · have e1:d = 2:=by have:=of_decide_eq_false e; omega
    subst e1
    refine yF (pu_minD (zE7 C (zA rfl)) (zA rfl) (zA rfl)) s1 fun H2 s2=>qv (q H2 s2) ?_
    unfold Lf.Car.ahead
    simp
theorem yZ {a:Addr} {L:CL} {c:Lf.Car} {h:Lf.House} {d:Nat} (C:zX K t H0 a L c) (hd:d = 1∨d = 2):∀ (H:Hp) (Q:VK),zG H0 H→(∀ H',zG H H'→Q (.bl (c.ahead h d)) H')→zA9 K t ([.ref a,.int (c.floor h:Nat),.int d] ++ []) H Q E0:=fun H Q s q=>⟨a,L,c,h,d,rfl,C.same s,hd,q⟩
theorem zAU {d:Nat} (h:d = 1∨d = 2):oppo d = Lf.other d:=by
  rcases h with rfl | rfl <;> rfl
theorem oppo_12 {d:Nat}:oppo d = 1∨oppo d = 2:=by
  unfold oppo
  split
  · exact .inr rfl
  · exact .inl rfl
theorem calls_any {c:Lf.Car} (ok:LM.xJ c) (f:Nat):(c.calls.any fun (x:Nat × Nat)=>x.1 == f) = (c.calls.contains (f,1) || c.calls.contains (f,2)):=by
  rw [Bool.eq_iff_iff,Bool.or_eq_true,List.any_eq_true,List.contains_iff_mem,List.contains_iff_mem]
  constructor
  · rintro ⟨⟨x,y⟩,hx,e⟩
    have e1:x = f:=by simpa using e
    subst e1
    rcases ok.cd _ hx with e2 | e2
    · have e2:y = 1:=e2
      subst e2
      exact .inl hx
    · have e2:y = 2:=e2
      subst e2
      exact .inr hx
  · rintro (hx | hx)
    · exact ⟨_,hx,by simp⟩
    · exact ⟨_,hx,by simp⟩
def zH2 (K:PySem.W.Frag) (t:Adr):Sp:=fun vs H Q _=>∃ (a p:Addr) (L:CL) (c:Lf.Car) (h:Lf.House),vs = [.ref a,.ref p,.int (c.floor h:Nat)]∧zX K t H a L c∧xO t H p h∧LM.xJ c∧∀ H',zG H H'→Q (.bl (c.opens h)) H'
theorem ok_opens_at (T:Txt K mg t):qL P w K mg base CX0 3 t.f_opens_at t.d_opens_at ["car", "plan", "floor"] (zH2 K t):=by
  refine T.D.opens_at.F.ok sc_opens_at (fun vs H Q E h=>by obtain ⟨_,_,_,_,_,rfl,_⟩:=h; rfl) (fun cdv A outer s H vs Q E hr h=>?_)
  obtain ⟨a,p,L,c,h,rfl,C,Pn,ok,q⟩:=h
  obtain ⟨⟨dx,hc⟩,h1,h2,h3,h4⟩:=id C
  have hd:=ok.dir
  refine ⟨_,zC (yX (zQ op_in_seq (pv 2) (zJ (pv 0) rfl) rfl) (zH (zO pe_bl)) (zU)) (zC (yX (zAJ (yA (ok_is_full T) (hr.mono (by decide)) rfl T.D.is_full.m T.D.is_full.F.kp T.D.is_full.b .nil yD (zB (pv 0) (zB (pv 1) zE)))) (zH (zO pe_bl)) (zU)) (zC (yX (zQ qJ (zJ (pv 0) rfl) (yB rfl T.G.i_NONE) (zY _)) (zH (zO (pe_or (zAE (zFN (u65 hr)) (xN (zB (pv 2) (zB (yB rfl T.G.i_UP) zE))) (zJ (pv 0) rfl) rfl) (pe_one (zAE (zFN (u65 hr)) (xN (zB (pv 2) (zB (yB rfl T.G.i_DOWN) zE))) (zJ (pv 0) rfl) rfl))))) (zU)) (zC (yX (zQ (zFN (u65 hr)) (xN (zB (pv 2) (zB (zJ (pv 0) rfl) zE))) (zJ (pv 0) rfl) rfl) (zH (zO pe_bl)) (zU)) (zC (yX (zAJ (yA (yY T) (hr.mono (by decide)) rfl T.D.has_stop_beyond.m T.D.has_stop_beyond.F.kp T.D.has_stop_beyond.b .nil yD (zB (pv 0) (zB (pv 2) (zB (zJ (pv 0) rfl) zE))))) (zH (zO pe_bl)) (zU)) (zH (zO (zAE (zFN (u65 hr)) (xN (zB (pv 2) (zB (yA (zCK T) (hr.mono (by decide)) rfl T.D.opposite.m T.D.opposite.F.kp T.D.opposite.b .nil yD (zB (zJ (pv 0) rfl) zE)) zE))) (zJ (pv 0) rfl) rfl))))))),?_⟩
  refine yK (zP (pu_in (zA rfl) (zI (zA rfl) (by assumption) T.C.k_Car.c T.C.n_Car_pressed (xQ _ _ _ _ _ _ _)) (by assumption))) (zG.refl _) (fun H1 s1 e0=>?_) (fun H1 s1 e0=>?_)
  · refine yF yH s1 fun H2 s2=>qv (q H2 s2) ?_
    unfold Lf.Car.opens
    simp only [e0,Bool.true_or]
  refine yK (jH (xE (zD (zA rfl) (zD (zA rfl) zN)) (cl_is_full (by assumption) (by assumption)))) s1 (fun H1 s1 e1=>?_) (fun H1 s1 e1=>?_)
  · refine yF yH s1 fun H2 s2=>qv (q H2 s2) ?_
    have e2:decide (c.inside.length < h.room) = false:=decide_eq_false (by have:=of_decide_eq_true e1; omega)
    unfold Lf.Car.opens
    simp only [e0,e2,Bool.false_or,Bool.false_and]
  have e2:decide (c.inside.length < h.room) = true:=decide_eq_true (by have:=of_decide_eq_false e1; omega)
  refine yK (zP (zA2 (zI (zA rfl) (by assumption) T.C.k_Car.c T.C.n_Car_direction (zT _ _ _ _ _ _ _)) yH)) s1 (fun H1 s1 e3=>?_) (fun H1 s1 e3=>?_)
  · have e4:c.dir = 0:=by have:=of_decide_eq_true e3; omega
    refine yF (pu_orV (zG1 (f:=c.floor h) (d:=1) (zA rfl) yH (zI (zA rfl) (by assumption) T.C.k_Car.c T.C.n_Car_calls (yT _ _ _ _ _ _ _)) h3) fun _=>zG1 (f:=c.floor h) (d:=2) (zA rfl) yH (zI (zA rfl) (by assumption) T.C.k_Car.c T.C.n_Car_calls (yT _ _ _ _ _ _ _)) h3) s1 fun H2 s2=>qv (q H2 s2) ?_
    have e5:c.calls.contains (c.floor h,c.dir) = false:=by
      rw [e4]
      cases z:c.calls.contains (c.floor h,0) with
      | false=>rfl
      | true =>
        have:=ok.cd _ (List.contains_iff_mem.mp z)
        simp at this
    rw [e4] at e5
    unfold Lf.Car.opens
    simp only [e0,e2,e4,e5,calls_any ok,Bool.false_or,Bool.true_and]
    simp
  have e4:c.dir = 1∨c.dir = 2:=by have:=of_decide_eq_false e3; omega
  have e5:c.dir ≠ 0:=by omega
  have z0:(c.dir == 0) = false:=beq_eq_false_iff_ne.mpr e5
  have z1:(c.dir != 0) = true:=bne_iff_ne.mpr e5
  refine yK (zP (zG1 (zA rfl) (zI (zA rfl) (by assumption) T.C.k_Car.c T.C.n_Car_direction (zT _ _ _ _ _ _ _)) (zI (zA rfl) (by assumption) T.C.k_Car.c T.C.n_Car_calls (yT _ _ _ _ _ _ _)) (by assumption))) s1 (fun H1 s1 e6=>?_) (fun H1 s1 e6=>?_)
  · refine yF yH s1 fun H2 s2=>qv (q H2 s2) ?_
    unfold Lf.Car.opens
    simp only [e0,e2,e6,Bool.false_or,Bool.true_and,Bool.true_or]
  refine yK (jH (xE (zD (zA rfl) (zD (zA rfl) (zD (zI (zA rfl) (by assumption) T.C.k_Car.c T.C.n_Car_direction (zT _ _ _ _ _ _ _)) zN))) (yZ C e4))) s1 (fun H1 s1 e7=>?_) (fun H1 s1 e7=>?_)
  · refine yF yH s1 fun H2 s2=>qv (q H2 s2) ?_
    unfold Lf.Car.opens
    simp only [e0,e2,e6,e7,z0,z1,Bool.false_or,Bool.true_and,Bool.not_true,Bool.false_and,Bool.and_false,Bool.or_false]
  refine yF (zG1 (zA rfl) (xE (zD (zI (zA rfl) (by assumption) T.C.k_Car.c T.C.n_Car_direction (zT _ _ _ _ _ _ _)) zN) (zCO)) (zI (zA rfl) (by assumption) T.C.k_Car.c T.C.n_Car_calls (yT _ _ _ _ _ _ _)) (by assumption)) s1 fun H2 s2=>qv (q H2 s2) ?_
  unfold Lf.Car.opens
  simp only [e0,e2,e6,e7,z0,z1,zAU e4,Bool.false_or,Bool.true_and,Bool.not_false,Bool.false_and]
theorem cl_opens_at {a p:Addr} {L:CL} {c:Lf.Car} {h:Lf.House} (C:zX K t H0 a L c) (Pn:xO t H0 p h) (ok:LM.xJ c):∀ (H:Hp) (Q:VK),zG H0 H→(∀ H',zG H H'→Q (.bl (c.opens h)) H')→zH2 K t ([.ref a,.ref p,.int (c.floor h:Nat)] ++ []) H Q E0:=fun H Q s q=>⟨a,p,L,c,h,rfl,C.same s,Pn.same s,ok,q⟩
def But (a:Addr) (H H':Hp):Prop:=∀ b o,b ≠ a→H b = some o→H' b = some o
section
variable {K:PySem.W.Frag} {t:Adr} {H H1 H2:Hp} {a b C dx:Addr} {fs:List (Str × V)} {o:HO}
theorem But.trans (x:But a H H1) (y:But a H1 H2):But a H H2:=fun b o n e=>y b o n (x b o n e)
theorem But.of (s:zG H H1):But a H H1:=fun b o _ e=>s b o e
theorem But.up (s:zG H H1):But a H (upd H1 a o):=fun b u n e=>by
  rw [zV n]
  exact s b u e
theorem But.free (x:But a H H1) (ha:H1 a = some o) {l:Addr} (h:H1 l = none):H l = none:=by
  cases e:H l with
  | none=>rfl
  | some u =>
    by_cases q:l = a
    · subst q
      rw [ha] at h
      cases h
    · rw [x l u q e] at h
      cases h
theorem But.tup (x:But a H H1) (ha:H a = some (.ins C dx fs)) {xs:List V} (h:SqT K H b xs):SqT K H1 b xs:=by
  rcases h with (h | ⟨ob,h⟩) | h
  · exact .inl (.inl (x _ _ (jC h ha (by intro z; cases z)) h))
  · exact .inl (.inr ⟨ob,x _ _ (jC h ha (by intro z; cases z)) h⟩)
  · exact .inr h
theorem But.lst (x:But a H H1) (ha:H a = some (.ins C dx fs)) {xs:List V} (h:H b = some (.lst xs)):H1 b = some (.lst xs):=x _ _ (jC h ha (by intro z; cases z)) h
theorem But.calls (x:But a H H1) (ha:H a = some (.ins C dx fs)) {cs:List (Nat × Nat)} (h:qQ K H b cs):qQ K H1 b cs:=let ⟨zs,e,l,p⟩:=h; ⟨zs,e,x.lst ha l,fun z hz=>x.tup ha (p z hz)⟩
theorem plan_car {x0 x1 x2 x3 x4 x5 x6 y0 y1 y2 y3 y4 y5 y6:V}:zDL x0 x1 x2 x3 x4 x5 x6 ≠ zBV y0 y1 y2 y3 y4 y5 y6:=by
  intro e
  unfold zDL zBV at e
  injection e with e1 e2
  injection e1 with e3 e4
  exact absurd e3 (by decide +kernel)
theorem xO.but {p:Addr} {h:Lf.House} (x:But a H H1) {y0 y1 y2 y3 y4 y5 y6:V} (ha:H a = some (.ins C dx (zBV y0 y1 y2 y3 y4 y5 y6))) (q:xO t H p h):xO t H1 p h:=by
  obtain ⟨dp,hp⟩:=q
  exact ⟨dp,x _ _ (jC hp ha (by intro z; injection z with z1 z2 z3; exact plan_car z3)) hp⟩
theorem zX.put {L:CL} {c:Lf.Car} (hi:H1 L.li = some (.lst (nI c.inside))) (hp:H1 L.lp = some (.lst (nI c.pressed))) (hl:qQ K H1 L.lc c.calls) (sz:c.inside.length + c.pressed.length + c.calls.length ≤ 1000)
    {fs':List (Str × V)} (hc:H1 a = some (.ins C dx fs)) (e:fs' = qP L c):zX K t (upd H1 a (.ins t.Car dx fs')) a L c:=by
  have x:But a H1 (upd H1 a (.ins t.Car dx fs')):=But.up (zG.refl _)
  refine ⟨⟨dx,?_⟩,x.lst hc hi,x.lst hc hp,x.calls hc hl,sz⟩
  rw [zF,e]
end
section
variable {K:PySem.W.Frag} {σ:L2.St} {H0 H:Hp} {ta tb:TE} {r:TS} {y:V} {D:zC4}
theorem jV {f:Str} {a C dx:Addr} {fs:List (Str × V)} (hv:PuE tb σ H0 y) (ha:PuE ta σ H0 (.ref a)) (s:zG H0 H) (h:H0 a = some (.ins C dx fs)) (hc:Cls K C) (hn:yP K C f) (hl:fs.length < 1000)
    (q:∀ H',zG H0 H'→r D σ (upd H' a (.ins C dx (wV f y fs)))):zBW (sFld K ta tb f) r D σ H:=zEC (D:={ D with nx:=r D }) hv ha s h hc hn hl q
end
section
variable {K:PySem.W.Frag} {σ:L2.St} {H0 H:Hp} {ta tb:TE} {tt:TT} {t u r:TS} {x y:V} {D:zC4} {b:Bool}
theorem st_if2 (G:Hp→Prop) (h:PuT tt σ H0 b) (s:zG H0 H) (h1:∀ (H':Hp) (D:zC4),zG H0 H'→b = true→(∀ H'',G H''→D.nx σ H'')→t D σ H') (h2:∀ (H':Hp) (D:zC4),zG H0 H'→b = false→(∀ H'',G H''→D.nx σ H'')→u D σ H')
    (q:∀ H'',G H''→r D σ H''):zBW (tIfS tt t u) r D σ H:=st_seq (st_if h s (fun H' s' e=>h1 H' _ s' e q) fun H' s' e=>h2 H' _ s' e q)
theorem zHX {i:Nat} (ha:PuE ta σ H0 x) (hb:PuE tb σ H0 y) (s:zG H0 H) (q:∀ H' p,zG H0 H'→H0 p = none→H' p = some (.tup [x,y])→r D (σ.set i (some (.ref p))) H'):zBW (tAsg (tTup (yW ta (yW tb zAG))) (zA7 i)) r D σ H :=
  ha H _ s fun H1 s1=>hb H1 _ (s.trans s1) fun H2 s2=>⟨by show 2 ≤ sizeLine; decide,fun p hp=>q _ p (((s.trans s1).trans s2).trans (zG.new hp)) (((s.trans s1).trans s2).free hp) zF⟩
def NwE (te:TE) (σ:L2.St) (H0:Hp) (ys:List V):Prop:=∀ (H:Hp) (Q:VK),zG H0 H→(∀ (H':Hp) (p:Addr),zG H H'→H p = none→H' p = some (.lst ys)→Q (.ref p) H')→te σ H Q
theorem zC7 {f:Str} {a C dx:Addr} {fs:List (Str × V)} {ys:List V} (hv:NwE tb σ H0 ys) (ha:PuE ta σ H0 (.ref a)) (s:zG H0 H) (h:H0 a = some (.ins C dx fs)) (hc:Cls K C) (hn:yP K C f) (hl:fs.length < 1000)
    (q:∀ H' p,zG H0 H'→H0 p = none→H' p = some (.lst ys)→r D σ (upd H' a (.ins C dx (wV f (.ref p) fs)))):zBW (sFld K ta tb f) r D σ H :=
  hv H _ s fun H1 p s1 hn1 hp=>ha H1 _ (s.trans s1) fun H2 s2=>⟨a,C,dx,fs,rfl,(((s.trans s1).trans s2) _ _ h),hc,hn,hl,q H2 p ((s.trans s1).trans s2) (s.free hn1) (s2 _ _ hp)⟩
theorem pu_neP {a b:Addr} {p q:Int × Int} (ha:PuE ta σ H0 (.ref a)) (hb:PuE tb σ H0 (.ref b)) (h1:xK K H0 a p) (h2:xK K H0 b q):PuE (tOp (rNeP K) ta tb) σ H0 (.bl (!decide (p = q))):=fun H Q s k =>
  ha H _ s fun H1 s1=>hb H1 _ (s.trans s1) fun H2 s2=>⟨a,b,p,q,rfl,rfl,zG.tup ((s.trans s1).trans s2) h1,zG.tup ((s.trans s1).trans s2) h2,k H2 (s1.trans s2)⟩
end
section
variable {K:PySem.W.Frag} {t:Adr} {σ:L2.St} {H0 H:Hp} {ta tb:TE} {r:TS} {y:V} {D:zC4} {a dx:Addr} {L:CL} {c c':Lf.Car} {f:Str}
theorem nn7 {a b c d e f g:V}:(zBV a b c d e f g).length < 1000:=by show 7 < 1000; decide
theorem zX.fld (C:zX K t H0 a L c) (hc:H0 a = some (.ins t.Car dx (qP L c))) {H1:Hp} (s:zG H0 H1) {fs:List (Str × V)} (e:fs = qP L c') (e1:c'.inside = c.inside) (e2:c'.pressed = c.pressed) (e3:c'.calls = c.calls) :
    zX K t (upd H1 a (.ins t.Car dx fs)) a L c'∧(upd H1 a (.ins t.Car dx fs)) a = some (.ins t.Car dx (qP L c'))∧But a H0 (upd H1 a (.ins t.Car dx fs)):=by
  obtain ⟨_,k1,k2,k3,k4⟩:=C
  refine ⟨zX.put (c:=c') (by rw [e1]; exact s _ _ k1) (by rw [e2]; exact s _ _ k2) (by rw [e3]; exact k3.same s) (by rw [e1,e2,e3]; exact k4) (s _ _ hc) e,?_,But.up s⟩
  rw [zF,e]
theorem st_car (C:zX K t H0 a L c) (hc:H0 a = some (.ins t.Car dx (qP L c))) (hv:PuE tb σ H0 y) (ha:PuE ta σ H0 (.ref a)) (s:zG H0 H) (hk:Cls K t.Car) (hn:yP K t.Car f) (e:wV f y (qP L c) = qP L c')
    (e1:c'.inside = c.inside) (e2:c'.pressed = c.pressed) (e3:c'.calls = c.calls) (q:∀ H',zX K t H' a L c'→H' a = some (.ins t.Car dx (qP L c'))→But a H0 H'→D.nx σ H'):sFld K ta tb f D σ H :=
  zEC hv ha s hc hk hn nn7 fun H1 s1=>let ⟨x,y,z⟩:=C.fld hc s1 e e1 e2 e3; q _ x y z
theorem wL (C:zX K t H0 a L c) (hc:H0 a = some (.ins t.Car dx (qP L c))) (hv:PuE tb σ H0 y) (ha:PuE ta σ H0 (.ref a)) (s:zG H0 H) (hk:Cls K t.Car) (hn:yP K t.Car f) (e:wV f y (qP L c) = qP L c')
    (e1:c'.inside = c.inside) (e2:c'.pressed = c.pressed) (e3:c'.calls = c.calls) (q:∀ H',zX K t H' a L c'→H' a = some (.ins t.Car dx (qP L c'))→But a H0 H'→r D σ H'):zBW (sFld K ta tb f) r D σ H :=
  st_car (D:={ D with nx:=r D }) C hc hv ha s hk hn e e1 e2 e3 q
theorem st_cadd {i j:Int} (C:zX K t H0 a L c) (hc:H0 a = some (.ins t.Car dx (qP L c))) (hv:PuE tb σ H0 (.int j)) (ha:PuE ta σ H0 (.ref a)) (s:zG H0 H) (hk:Cls K t.Car) (hn:yP K t.Car f) (hf:(qP L c).lookup f = some (.int i)) (e:wV f (.int (i + j)) (qP L c) = qP L c')
    (e1:c'.inside = c.inside) (e2:c'.pressed = c.pressed) (e3:c'.calls = c.calls) (q:∀ H',zX K t H' a L c'→H' a = some (.ins t.Car dx (qP L c'))→But a H0 H'→D.nx σ H'):zEW K ta tb rAdd f D σ H :=
  st_fadd hv ha s hc hk hn nn7 hf fun H1 s1=>let ⟨x,y,z⟩:=C.fld hc s1 e e1 e2 e3; q _ x y z
theorem st_csub {i j:Int} (C:zX K t H0 a L c) (hc:H0 a = some (.ins t.Car dx (qP L c))) (hv:PuE tb σ H0 (.int j)) (ha:PuE ta σ H0 (.ref a)) (s:zG H0 H) (hk:Cls K t.Car) (hn:yP K t.Car f) (hf:(qP L c).lookup f = some (.int i)) (e:wV f (.int (i - j)) (qP L c) = qP L c')
    (e1:c'.inside = c.inside) (e2:c'.pressed = c.pressed) (e3:c'.calls = c.calls) (q:∀ H',zX K t H' a L c'→H' a = some (.ins t.Car dx (qP L c'))→But a H0 H'→D.nx σ H'):zEW K ta tb rSub f D σ H :=
  st_fsub hv ha s hc hk hn nn7 hf fun H1 s1=>let ⟨x,y,z⟩:=C.fld hc s1 e e1 e2 e3; q _ x y z
theorem st_csubS {i j:Int} (C:zX K t H0 a L c) (hc:H0 a = some (.ins t.Car dx (qP L c))) (hv:PuE tb σ H0 (.int j)) (ha:PuE ta σ H0 (.ref a)) (s:zG H0 H) (hk:Cls K t.Car) (hn:yP K t.Car f) (hf:(qP L c).lookup f = some (.int i)) (e:wV f (.int (i - j)) (qP L c) = qP L c')
    (e1:c'.inside = c.inside) (e2:c'.pressed = c.pressed) (e3:c'.calls = c.calls) (q:∀ H',zX K t H' a L c'→H' a = some (.ins t.Car dx (qP L c'))→But a H0 H'→r D σ H'):zBW (zEW K ta tb rSub f) r D σ H :=
  st_csub (D:={ D with nx:=r D }) C hc hv ha s hk hn hf e e1 e2 e3 q
def LRel (H:Hp) (L L':CL):Prop:=L'.li = L.li∧((L'.lp = L.lp∧L'.lc = L.lc)∨(H L'.lp = none∧H L'.lc = none∧L'.lp ≠ L'.lc))
theorem LRel.refl (H:Hp) (L:CL):LRel H L L:=⟨rfl,.inl ⟨rfl,rfl⟩⟩
end
section
variable {σ:L2.St} {H0 H:Hp} {r:TS} {D:zC4} {sp:Sp} {ts:TA} {vs:List V} {ta:TE}
theorem zFF (ha:PuA ts σ H0 vs) (s:zG H0 H) (h:∀ H',zG H0 H'→sp (vs ++ []) H' (fun _ H''=>r D σ H'') E0):zBW (zC0 (zC6 sp [] E0 ts)) r D σ H:=ha H _ s fun H1 s1=>h H1 (s.trans s1)
theorem st_callL (ha:PuA ts σ H0 vs) (s:zG H0 H) (h:∀ H',zG H0 H'→sp (vs ++ []) H' (fun _ H''=>D.nx σ H'') E0):zC0 (zC6 sp [] E0 ts) D σ H:=ha H _ s fun H1 s1=>h H1 (s.trans s1)
theorem st_callV {i:Nat} (ha:PuA ts σ H0 vs) (s:zG H0 H) (h:∀ H',zG H0 H'→sp (vs ++ []) H' (fun v H''=>r D (σ.set i (some v)) H'') E0):zBW (tAsg (zC6 sp [] E0 ts) (zA7 i)) r D σ H:=ha H _ s fun H1 s1=>h H1 (s.trans s1)
theorem st_callR (ha:PuA ts σ H0 vs) (s:zG H0 H) (h:∀ H',zG H0 H'→sp (vs ++ []) H' D.rt E0):tRet (zC6 sp [] E0 ts) D σ H:=ha H _ s fun H1 s1=>h H1 (s.trans s1)
end
section
variable {K:PySem.W.Frag} {t:Adr} {σ:L2.St} {H0 H:Hp} {ta tb:TE} {D:zC4}
theorem qB:NwE (tLst zAG) σ H0 []:=fun H Q s q=>⟨Nat.zero_le _,fun p hp=>q _ p (zG.new hp) hp zF⟩
theorem nw_list {r:List V→Hp→VK→Prop} {ts:TA} {p:Addr} {ys:List V} (hr:∀ xs H Q,(∃ p ys,xs = [V.ref p]∧(SqL K H p ys∨SqT K H p ys)∧∀ l,H l = none→Q (.ref l) (upd H l (.lst ys)))→r xs H Q) (ha:PuA ts σ H0 [.ref p]) (h:H0 p = some (.lst ys)):NwE (tCB r ts) σ H0 ys:=fun H Q s q =>
  ha H _ s fun H1 s1=>hr _ _ _ ⟨p,ys,rfl,.inl (SqL.of (s1 _ _ (s _ _ h))),fun l hl=>q _ l (s1.trans (zG.new hl)) (s1.free hl) zF⟩
theorem st_fldNL {f:Str} {a C dx:Addr} {fs:List (Str × V)} {ys:List V} (hv:NwE tb σ H0 ys) (ha:PuE ta σ H0 (.ref a)) (s:zG H0 H) (h:H0 a = some (.ins C dx fs)) (hc:Cls K C) (hn:yP K C f) (hl:fs.length < 1000)
    (q:∀ H' p,zG H0 H'→H0 p = none→H' p = some (.lst ys)→D.nx σ (upd H' a (.ins C dx (wV f (.ref p) fs)))):sFld K ta tb f D σ H :=
  hv H _ s fun H1 p s1 hn1 hp=>ha H1 _ (s.trans s1) fun H2 s2=>⟨a,C,dx,fs,rfl,(((s.trans s1).trans s2) _ _ h),hc,hn,hl,q H2 p ((s.trans s1).trans s2) (s.free hn1) (s2 _ _ hp)⟩
theorem zX.but {H1:Hp} {a b C dx:Addr} {fs:List (Str × V)} {L:CL} {c:Lf.Car} (C0:zX K t H a L c) (x:But b H H1) (hb:H b = some (.ins C dx fs)) (ne:a ≠ b):zX K t H1 a L c :=
  ⟨let ⟨d,e⟩:=C0.obj; ⟨d,x _ _ ne e⟩,x.lst hb C0.ins,x.lst hb C0.prs,x.calls hb C0.cls,C0.sz⟩
end
section
variable {σ:L2.St} {H0 H:Hp} {r:TS} {D:zC4} {sp:Sp} {ts:TA} {vs:List V} {C:Addr}
theorem st_makeV {i:Nat} (ha:PuA ts σ H0 vs) (s:zG H0 H) (h:∀ H' x dx,zG H0 H'→H' x = none→H' dx = none→dx ≠ x→sp (.ref x :: (vs ++ [])) (upd (upd H' dx (.own x)) x (.ins C dx [])) (fun v H2=>v = .non∧r D (σ.set i (some (.ref x))) H2) E0) :
    zBW (tAsg (tMake C sp [] E0 ts) (zA7 i)) r D σ H:=ha H _ s fun H1 s1 x dx nx nd ne=>h H1 x dx (s.trans s1) nx nd ne
theorem zG.two {x dx:Addr} {o u:HO} (n:H x = none) (m:H dx = none):zG H (upd (upd H dx u) x o):=fun b v e=>by
  rw [zV (zM e n),zV (zM e m)]
  exact e
end
section
variable {K:PySem.W.Frag} {σ:L2.St} {H0 H:Hp} {r:TS} {D:zC4} {ta tb tv:TE}
theorem zF8 {l:Addr} {xs:List V} {y:V} (ho:PuE ta σ H0 (.ref l)) (hv:PuE tv σ H0 y) (s:zG H0 H) (h:H0 l = some (.lst xs)) (hz:xs.length < sizeLine) (q:∀ H',zG H0 H'→r D σ (upd H' l (.lst (xs ++ [y])))) :
    zBW (zC0 (tBM K "list" zIC ta (yW tv zAG))) r D σ H :=
  ho H _ s fun H1 s1=>⟨.inl ⟨rfl,_,SqL.of (s1 _ _ (s _ _ h))⟩,hv H1 _ (s.trans s1) fun H2 s2=>⟨l,xs,y,rfl,rfl,s2 _ _ (s1 _ _ (s _ _ h)),hz,q H2 ((s.trans s1).trans s2)⟩⟩
theorem st_appendL {l:Addr} {xs:List V} {y:V} (ho:PuE ta σ H0 (.ref l)) (hv:PuE tv σ H0 y) (s:zG H0 H) (h:H0 l = some (.lst xs)) (hz:xs.length < sizeLine) (q:∀ H',zG H0 H'→D.nx σ (upd H' l (.lst (xs ++ [y])))) :
    zC0 (tBM K "list" zIC ta (yW tv zAG)) D σ H :=
  ho H _ s fun H1 s1=>⟨.inl ⟨rfl,_,SqL.of (s1 _ _ (s _ _ h))⟩,hv H1 _ (s.trans s1) fun H2 s2=>⟨l,xs,y,rfl,rfl,s2 _ _ (s1 _ _ (s _ _ h)),hz,q H2 ((s.trans s1).trans s2)⟩⟩
theorem st_augS {n:Nat} {i j:Int} {g:Int→Int→Int} (h:σ[n]? = some (some (.int i))) (hv:PuE tv σ H0 (.int j)) (s:zG H0 H) (q:∀ H',zG H0 H'→r D (σ.set n (some (.int (g i j)))) H'):zBW (tAug n tv (ipI g)) r D σ H :=
  ⟨.int i,h,hv H _ s fun H1 s1=>⟨i,j,rfl,rfl,q H1 (s.trans s1)⟩⟩
theorem pu_min2 {r:List V→Hp→VK→Prop} {ts:TA} {i j:Int} (hr:∀ xs H Q,(∃ i j,xs = [V.int i,V.int j]∧Q (.int (if j < i then j else i)) H)→r xs H Q) (ha:PuA ts σ H0 [.int i,.int j]):PuE (tCB r ts) σ H0 (.int (if j < i then j else i)):=fun H Q s q =>
  ha H _ s fun H1 s1=>hr _ _ _ ⟨i,j,rfl,q H1 s1⟩
theorem _root_.L2.zG.up {H1:Hp} {l:Addr} {o:HO} (s:zG H H1) (n:H l = none):zG H (upd H1 l o):=fun b u e=>by
  rw [zV (zM e n)]
  exact s b u e
end
def zAH (K:PySem.W.Frag) (t:Adr):Sp:=fun vs H Q _=>∃ (a:Addr) (L:CL) (c:Lf.Car) (h:Lf.House),vs = [.ref a,.int (c.floor h:Nat)]∧zX K t H a L c∧(c.dir = 1∨c.dir = 2)∧∀ H',zG H H'→Q (.int (c.serves h:Nat)) H'
theorem zD7 (T:Txt K mg t):qL P w K mg base CX0 3 t.f_served_on_its_way t.d_served_on_its_way ["car", "floor"] (zAH K t):=by
  refine T.D.served_on_its_way.F.ok qN (fun vs H Q E h=>by obtain ⟨_,_,_,_,rfl,_⟩:=h; rfl) (fun cdv A outer s H vs Q E hr h=>?_)
  obtain ⟨a,L,c,h,rfl,C,hd,q⟩:=h
  obtain ⟨⟨dx,hc⟩,h1,h2,h3,h4⟩:=id C
  have d0:c.dir ≠ 0:=by omega
  have hb:oppo c.dir = 1∨oppo c.dir = 2:=oppo_12
  refine ⟨_,zC (yG (i:=2) qN.nd rfl (by first | exact Or.inl rfl | exact Or.inr rfl) (zJ (pv 0) rfl)) (zC (yG (i:=3) qN.nd rfl (by first | exact Or.inl rfl | exact Or.inr rfl) (yA (zCK T) (hr.mono (by decide)) rfl T.D.opposite.m T.D.opposite.F.kp T.D.opposite.b .nil yD (zB (pv 2) zE))) (zC (yX (PW.pt (pw_or (zQ (zFN (u65 hr)) (xN (zB (pv 1) (zB (pv 2) zE))) (zJ (pv 0) rfl) rfl) (pw_or1 (zAJ (yA (yY T) (hr.mono (by decide)) rfl T.D.has_stop_beyond.m T.D.has_stop_beyond.F.kp T.D.has_stop_beyond.b .nil yD (zB (pv 0) (zB (pv 1) (zB (pv 2) zE)))))))) (zH (zO (pv 2))) (zU)) (zC (yX (PW.pt (pw_or (zQ (zFN (u65 hr)) (xN (zB (pv 1) (zB (pv 3) zE))) (zJ (pv 0) rfl) rfl) (pw_or1 (zAJ (yA (yY T) (hr.mono (by decide)) rfl T.D.has_stop_beyond.m T.D.has_stop_beyond.F.kp T.D.has_stop_beyond.b .nil yD (zB (pv 0) (zB (pv 1) (zB (pv 3) zE)))))))) (zH (zO (pv 3))) (zU)) (zH (zO (yB rfl T.G.i_NONE)))))),?_⟩
  refine xY (zI (zA rfl) (by assumption) T.C.k_Car.c T.C.n_Car_direction (zT _ _ _ _ _ _ _)) (zG.refl _) fun H1 s1=>?_
  refine xY (xE (zD (zA rfl) zN) (zCO)) s1 fun H1 s1=>?_
  refine yK (pu_or (zP (zG1 (f:=c.floor h) (d:=c.dir) (zA rfl) (zA rfl) (zI (zA rfl) (by assumption) T.C.k_Car.c T.C.n_Car_calls (yT _ _ _ _ _ _ _)) h3)) fun _=>jH (xE (zD (zA rfl) (zD (zA rfl) (zD (zA rfl) zN))) (yZ C hd))) s1 (fun H1 s1 e=>?_) (fun H1 s1 e=>?_)
  · refine yF (zA rfl) s1 fun H2 s2=>qv (q H2 s2) ?_
    rw [Bool.or_eq_true] at e
    unfold Lf.Car.serves
    simp only [if_pos d0,if_pos e]
  have e1:¬ (c.calls.contains (c.floor h,c.dir) = true∨c.ahead h c.dir = true):=by
    rw [← Bool.or_eq_true,e]
    exact Bool.false_ne_true
  refine yK (pu_or (zP (zG1 (f:=c.floor h) (d:=oppo c.dir) (zA rfl) (zA rfl) (zI (zA rfl) (by assumption) T.C.k_Car.c T.C.n_Car_calls (yT _ _ _ _ _ _ _)) h3)) fun _=>jH (xE (zD (zA rfl) (zD (zA rfl) (zD (zA rfl) zN))) (yZ C hb))) s1 (fun H1 s1 e=>?_) (fun H1 s1 e=>?_)
  · refine yF (zA rfl) s1 fun H2 s2=>qv (q H2 s2) ?_
    rw [Bool.or_eq_true,zAU hd] at e
    unfold Lf.Car.serves
    simp only [if_pos d0,if_neg e1,zAU hd]
    rcases e with e | e
    · rw [if_pos e]
    · rw [if_pos e]
      simp
  · refine yF yH s1 fun H2 s2=>qv (q H2 s2) ?_
    rw [Bool.or_eq_false_iff,zAU hd] at e
    unfold Lf.Car.serves
    simp only [if_pos d0,if_neg e1]
    rw [if_neg (by rw [e.1]; exact Bool.false_ne_true),if_neg (by rw [e.2]; exact Bool.false_ne_true)]
    rfl
theorem zEA {a:Addr} {L:CL} {c:Lf.Car} {h:Lf.House} (C:zX K t H0 a L c) (hd:c.dir = 1∨c.dir = 2):∀ (H:Hp) (Q:VK),zG H0 H→(∀ H',zG H H'→Q (.int (c.serves h:Nat)) H')→zAH K t ([.ref a,.int (c.floor h:Nat)] ++ []) H Q E0:=fun H Q s q=>⟨a,L,c,h,rfl,C.same s,hd,q⟩
def zBZ (K:PySem.W.Frag) (t:Adr):Sp:=fun vs H Q _=>∃ (a:Addr) (L:CL) (c:Lf.Car) (h:Lf.House),vs = [.ref a,.int (c.floor h:Nat)]∧zX K t H a L c∧c.dir = 0∧∀ H',zG H H'→Q (.int (c.serves h:Nat)) H'
theorem zGM (T:Txt K mg t):qL P w K mg base CX0 3 t.f_served_at_rest t.d_served_at_rest ["car", "floor"] (zBZ K t):=by
  refine T.D.served_at_rest.F.ok zGC (fun vs H Q E h=>by obtain ⟨_,_,_,_,rfl,_⟩:=h; rfl) (fun cdv A outer s H vs Q E hr h=>?_)
  obtain ⟨a,L,c,h,rfl,C,hd,q⟩:=h
  obtain ⟨⟨dx,hc⟩,h1,h2,h3,h4⟩:=id C
  have d0:¬ c.dir ≠ 0:=by omega
  refine ⟨_,zC (yX (zQ (zFN (u65 hr)) (xN (zB (pv 1) (zB (yB rfl T.G.i_UP) zE))) (zJ (pv 0) rfl) rfl) (zH (zO (yB rfl T.G.i_UP))) (zU)) (zC (yX (zQ (zFN (u65 hr)) (xN (zB (pv 1) (zB (yB rfl T.G.i_DOWN) zE))) (zJ (pv 0) rfl) rfl) (zH (zO (yB rfl T.G.i_DOWN))) (zU)) (zC (yX (zAJ (yA (yY T) (hr.mono (by decide)) rfl T.D.has_stop_beyond.m T.D.has_stop_beyond.F.kp T.D.has_stop_beyond.b .nil yD (zB (pv 0) (zB (pv 1) (zB (yB rfl T.G.i_UP) zE))))) (zH (zO (yB rfl T.G.i_UP))) (zU)) (zC (yX (zAJ (yA (yY T) (hr.mono (by decide)) rfl T.D.has_stop_beyond.m T.D.has_stop_beyond.F.kp T.D.has_stop_beyond.b .nil yD (zB (pv 0) (zB (pv 1) (zB (yB rfl T.G.i_DOWN) zE))))) (zH (zO (yB rfl T.G.i_DOWN))) (zU)) (zH (zO (yB rfl T.G.i_NONE)))))),?_⟩
  refine yK (zP (zG1 (f:=c.floor h) (d:=1) (zA rfl) yH (zI (zA rfl) (by assumption) T.C.k_Car.c T.C.n_Car_calls (yT _ _ _ _ _ _ _)) h3)) (zG.refl _) (fun H1 s1 e1=>?_) (fun H1 s1 e1=>?_)
  · refine yF yH s1 fun H2 s2=>qv (q H2 s2) ?_
    unfold Lf.Car.serves
    simp only [if_neg d0,if_pos e1]
    rfl
  have f1:¬ c.calls.contains (c.floor h,1) = true:=by rw [e1]; exact Bool.false_ne_true
  refine yK (zP (zG1 (f:=c.floor h) (d:=2) (zA rfl) yH (zI (zA rfl) (by assumption) T.C.k_Car.c T.C.n_Car_calls (yT _ _ _ _ _ _ _)) h3)) s1 (fun H1 s1 e2=>?_) (fun H1 s1 e2=>?_)
  · refine yF yH s1 fun H2 s2=>qv (q H2 s2) ?_
    unfold Lf.Car.serves
    simp only [if_neg d0,if_neg f1,if_pos e2]
    rfl
  have f2:¬ c.calls.contains (c.floor h,2) = true:=by rw [e2]; exact Bool.false_ne_true
  refine yK (jH (xE (zD (zA rfl) (zD (zA rfl) (zD yH zN))) (yZ (d:=1) C (.inl rfl)))) s1 (fun H1 s1 e3=>?_) (fun H1 s1 e3=>?_)
  · refine yF yH s1 fun H2 s2=>qv (q H2 s2) ?_
    unfold Lf.Car.serves
    simp only [if_neg d0,if_neg f1,if_neg f2,if_pos e3]
    rfl
  have f3:¬ c.ahead h 1 = true:=by rw [e3]; exact Bool.false_ne_true
  refine yK (jH (xE (zD (zA rfl) (zD (zA rfl) (zD yH zN))) (yZ (d:=2) C (.inr rfl)))) s1 (fun H1 s1 e4=>?_) (fun H1 s1 e4=>?_)
  · refine yF yH s1 fun H2 s2=>qv (q H2 s2) ?_
    unfold Lf.Car.serves
    simp only [if_neg d0,if_neg f1,if_neg f2,if_neg f3,if_pos e4]
    rfl
  have f4:¬ c.ahead h 2 = true:=by rw [e4]; exact Bool.false_ne_true
  refine yF yH s1 fun H2 s2=>qv (q H2 s2) ?_
  unfold Lf.Car.serves
  simp only [if_neg d0,if_neg f1,if_neg f2,if_neg f3,if_neg f4]
  rfl
theorem zGT {a:Addr} {L:CL} {c:Lf.Car} {h:Lf.House} (C:zX K t H0 a L c) (hd:c.dir = 0):∀ (H:Hp) (Q:VK),zG H0 H→(∀ H',zG H H'→Q (.int (c.serves h:Nat)) H')→zBZ K t ([.ref a,.int (c.floor h:Nat)] ++ []) H Q E0:=fun H Q s q=>⟨a,L,c,h,rfl,C.same s,hd,q⟩
theorem n7 {a b c d e f g:V}:(zBV a b c d e f g).length < 1000:=by show 7 < 1000; decide
def zHF (K:PySem.W.Frag) (t:Adr):Sp:=fun vs H Q _=>∃ (a p:Addr) (L:CL) (c:Lf.Car) (h:Lf.House),vs = [.ref a,.ref p,.int (c.floor h:Nat)]∧zX K t H a L c∧xO t H p h∧LM.xJ c ∧
  ∀ H' (L':CL),zX K t H' a L' (c.opened h)→L'.li = L.li→H L'.lp = none→H L'.lc = none→L'.lp ≠ L'.lc→But a H H'→Q .non H'
theorem calls_filter {zs:List (Addr × Nat × Nat)} {cs:List (Nat × Nat)} (e:zs.map (·.2) = cs) (x:Nat × Nat):(zs.filter fun z=>!decide (cP z.2 = cP x)).map (·.2) = cs.filter fun (y:Nat × Nat)=>y != x:=by
  subst e
  induction zs with
  | nil=>rfl
  | cons z zs ih =>
    rw [List.map_cons,List.filter_cons,List.filter_cons]
    by_cases q:z.2 = x
    · rw [if_neg (by simp [q]),if_neg (by simp [q]),ih]
    · have q2:¬ cP z.2 = cP x:=fun w=>q (cP_inj w)
      rw [if_pos (by simp [q2]),if_pos (by simp [q]),List.map_cons,ih]
theorem zHJ (T:Txt K mg t):qL P w K mg base CX0 4 t.f_begin_opening t.d_begin_opening ["car", "plan", "floor"] (zHF K t):=by
  refine T.D.begin_opening.F.ok xX (fun vs H Q E h=>by obtain ⟨_,_,_,_,_,rfl,_⟩:=h; rfl) (fun cdv A outer s H vs Q E hr h=>?_)
  obtain ⟨a,p,L,c,h,rfl,C,Pn,ok,q⟩:=h
  obtain ⟨⟨dx,hc⟩,h1,h2,h3,h4⟩:=id C
  have hd:=ok.dir
  refine ⟨_,zC (yX (zQ qJ (zJ (pv 0) rfl) (yB rfl T.G.i_NONE) (zY _)) (zH (yI (pv 0) (yA (zGM T) (hr.mono (by decide)) rfl T.D.served_at_rest.m T.D.served_at_rest.F.kp T.D.served_at_rest.b .nil yD (zB (pv 0) (zB (pv 2) zE))) rfl)) (zH (yI (pv 0) (yA (zD7 T) (hr.mono (by decide)) rfl T.D.served_on_its_way.m T.D.served_on_its_way.F.kp T.D.served_on_its_way.b .nil yD (zB (pv 0) (zB (pv 2) zE))) rfl))) (zC (yG (i:=3) xX.nd rfl (by first | exact Or.inl rfl | exact Or.inr rfl) (xN (zB (pv 2) (zB (zJ (pv 0) rfl) zE)))) (zC (yI (pv 0) (pe_lc rfl xX.nd (wT (zJ (pv 0) rfl)) (own:=[("other", 4)]) (wW (N:=["car", "plan", "floor", "taken", "other", "call"]) (sc:=zK jY) (by decide +kernel)) (fun _ _ _ _ _=>jZ (i:=4) xX.nd rfl (Or.inl rfl)) (fun _ _ _ _ _=>(pts_one (zQ op_ne (pv 4) (pv 2) (zY _)))) (fun _ _ _ _ _=>(pv 4))) rfl) (zC (yI (pv 0) (pe_lc rfl xX.nd (wT (zJ (pv 0) rfl)) (own:=[("call", 5)]) (wW (N:=["car", "plan", "floor", "taken", "other", "call"]) (sc:=zK jY) (by decide +kernel)) (fun _ _ _ _ _=>jZ (i:=5) xX.nd rfl (Or.inl rfl)) (fun _ _ _ _ _=>(pts_one (zQ (op_nePK (K:=K) rfl (u64 hr)) (pv 5) (pv 3) (zY _)))) (fun _ _ _ _ _=>(pv 5))) rfl) (zC (yI (pv 0) (yB rfl T.G.i_OPENING) rfl) (zH (yI (pv 0) (zJ (pv 1) rfl) rfl)))))),?_⟩
  refine st_if2 (fun H''=>∃ H',zG H H'∧H'' = upd H' a (.ins t.Car dx (qP L { c with dir:=c.serves h }))) (zP (zA2 (zI (zA rfl) (by assumption) T.C.k_Car.c T.C.n_Car_direction (zT _ _ _ _ _ _ _)) yH)) (zG.refl _) (fun H' D s' e k=>?_) (fun H' D s' e k=>?_) ?_
  · have e0:c.dir = 0:=by have:=of_decide_eq_true e; omega
    exact zEC (xE (zD (zA rfl) (zD (zA rfl) zN)) (zGT C e0)) (zA rfl) s' hc T.C.k_Car.c T.C.n_Car_direction n7 fun H2 s2=>k _ ⟨H2,s2,by rw [jE]⟩
  · have e0:c.dir = 1∨c.dir = 2:=by have:=of_decide_eq_false e; omega
    exact zEC (xE (zD (zA rfl) (zD (zA rfl) zN)) (zEA C e0)) (zA rfl) s' hc T.C.k_Car.c T.C.n_Car_direction n7 fun H2 s2=>k _ ⟨H2,s2,by rw [jE]⟩
  rintro _ ⟨H1,s1,rfl⟩
  generalize hd1:c.serves h = d1
  have b1:But a H (upd H1 a (.ins t.Car dx (qP L { c with dir:=d1 }))):=But.up s1
  have C1:zX K t (upd H1 a (.ins t.Car dx (qP L { c with dir:=d1 }))) a L { c with dir:=d1 }:=zX.put (c:={ c with dir:=d1 }) (s1 _ _ h1) (s1 _ _ h2) (h3.same s1) h4 (s1 _ _ hc) rfl
  have P1:=xO.but b1 hc Pn
  have g1:(upd H1 a (.ins t.Car dx (qP L { c with dir:=d1 }))) a = some (.ins t.Car dx (qP L { c with dir:=d1 })):=zF
  generalize (upd H1 a (.ins t.Car dx (qP L { c with dir:=d1 }))) = B1 at b1 C1 P1 g1 ⊢
  obtain ⟨_,k1,k2,k3,k4⟩:=id C1
  refine zHX (zA rfl) (zI (zA rfl) (by assumption) T.C.k_Car.c T.C.n_Car_direction (zT _ _ _ _ _ _ _)) (zG.refl _) fun B2 tk s2 nt ht=>?_
  have C2:=C1.same s2
  have g2:=s2 _ _ g1
  have P2:=P1.same s2
  have b2:But a H B2:=b1.trans (But.of s2)
  have nt2:H tk = none:=b1.free g1 nt
  obtain ⟨_,k1,k2,⟨zs,ez,k3,k3'⟩,k4⟩:=id C2
  refine zC7 (ys:=nI (c.pressed.filter fun (x:Nat)=>x != c.floor h)) (fun H3 Q3 s3 q3=>?_) (zA rfl) (zG.refl _) g2 T.C.k_Car.c T.C.n_Car_pressed n7 fun B3 lp s3 n3 hp3=>?_
  · refine pu_lc (p:=fun (n:Nat)=>!decide ((n:Int) = (c.floor h:Nat))) (xv:=fun (n:Nat)=>V.int (n:Int)) (g:=fun (n:Nat)=>V.int (n:Int)) (as:=c.pressed) (zI (zA rfl) (by assumption) T.C.k_Car.c T.C.n_Car_pressed (xQ _ _ _ _ _ _ _)) k2 (by rw [sizeLine_eq]; omega) (fun z hz=>zP (pu_ne (zA rfl) (zA rfl))) (fun z hz _=>zA rfl) H3 _ s3 fun H4 D4 s4 n4 h4=>q3 H4 D4 s4 n4 ?_
    rw [h4]
    unfold nI
    congr 3
    refine List.filter_congr fun x _=>?_
    rw [Bool.eq_iff_iff]
    simp [Int.ofNat_inj]
  rw [zCY]
  have nl3:H lp = none:=b2.free g2 n3
  have b3:But a H (upd B3 a (.ins t.Car dx (qP { L with lp:=lp } { c with dir:=d1,pressed:=c.pressed.filter fun (x:Nat)=>x != c.floor h }))):=b2.trans (But.up s3)
  have le1:(c.pressed.filter fun (x:Nat)=>x != c.floor h).length ≤ c.pressed.length:=List.length_filter_le ..
  have C3:zX K t (upd B3 a (.ins t.Car dx (qP { L with lp:=lp } { c with dir:=d1,pressed:=c.pressed.filter fun (x:Nat)=>x != c.floor h }))) a { L with lp:=lp } { c with dir:=d1,pressed:=c.pressed.filter fun (x:Nat)=>x != c.floor h } :=
    zX.put (L:={ L with lp:=lp }) (c:={ c with dir:=d1,pressed:=c.pressed.filter fun (x:Nat)=>x != c.floor h }) (s3 _ _ k1) hp3 (qQ.same ⟨zs,ez,k3,k3'⟩ s3) (by show c.inside.length + (c.pressed.filter fun (x:Nat)=>x != c.floor h).length + c.calls.length ≤ 1000; omega) (s3 _ _ g2) rfl
  have P3:xO t (upd B3 a (.ins t.Car dx (qP { L with lp:=lp } { c with dir:=d1,pressed:=c.pressed.filter fun (x:Nat)=>x != c.floor h }))) p h:=xO.but (But.up s3) g2 P2
  have t3:(upd B3 a (.ins t.Car dx (qP { L with lp:=lp } { c with dir:=d1,pressed:=c.pressed.filter fun (x:Nat)=>x != c.floor h }))) tk = some (.tup [.int (c.floor h:Nat),.int (d1:Nat)]):=(But.up (a:=a) s3) _ _ (jC ht g2 (by intro z; cases z)) ht
  have z3:(upd B3 a (.ins t.Car dx (qP { L with lp:=lp } { c with dir:=d1,pressed:=c.pressed.filter fun (x:Nat)=>x != c.floor h }))) lp ≠ none:=by
    intro e
    rw [C3.prs] at e
    cases e
  have g3:(upd B3 a (.ins t.Car dx (qP { L with lp:=lp } { c with dir:=d1,pressed:=c.pressed.filter fun (x:Nat)=>x != c.floor h }))) a = some (.ins t.Car dx (qP { L with lp:=lp } { c with dir:=d1,pressed:=c.pressed.filter fun (x:Nat)=>x != c.floor h })):=zF
  show (zBW _ _ _ _ (upd B3 a (.ins t.Car dx (qP { L with lp:=lp } { c with dir:=d1,pressed:=c.pressed.filter fun (x:Nat)=>x != c.floor h }))))
  generalize (upd B3 a (.ins t.Car dx (qP { L with lp:=lp } { c with dir:=d1,pressed:=c.pressed.filter fun (x:Nat)=>x != c.floor h }))) = B4 at b3 C3 P3 t3 z3 g3 ⊢
  obtain ⟨_,k1,k2,⟨zs,ez,k3,k3'⟩,k4⟩:=id C3
  have pt3:xK K B4 tk (cP (c.floor h,d1)):=SqT.of t3
  have lz:zs.length = c.calls.length:=by rw [← List.length_map (f:=(·.2)),ez]
  refine zC7 (ys:=(zs.filter fun z=>!decide (cP z.2 = cP (c.floor h,d1))).map fun z=>V.ref z.1) (fun H5 Q5 s5 q5=>?_) (zA rfl) (zG.refl _) g3 T.C.k_Car.c T.C.n_Car_calls n7 fun B5 lc s5 n5 hp5=>?_
  · exact pu_lc (p:=fun (z:Addr × Nat × Nat)=>!decide (cP z.2 = cP (c.floor h,d1))) (xv:=fun z=>V.ref z.1) (g:=fun z=>V.ref z.1) (as:=zs) (zI (zA rfl) (by assumption) T.C.k_Car.c T.C.n_Car_calls (yT _ _ _ _ _ _ _)) k3 (by rw [sizeLine_eq,lz]; omega) (fun z hz=>zP (pu_neP (zA rfl) (zA rfl) (k3' z hz) pt3)) (fun z hz _=>zA rfl) H5 _ s5 q5
  rw [zEL]
  have le2:(c.calls.filter fun (y:Nat × Nat)=>y != (c.floor h,d1)).length ≤ c.calls.length:=List.length_filter_le ..
  have K5:qQ K B5 lc (c.calls.filter fun (y:Nat × Nat)=>y != (c.floor h,d1)):=⟨_,calls_filter ez (c.floor h,d1),hp5,fun z hz=>zG.tup s5 (k3' z (List.mem_filter.mp hz).1)⟩
  have C5:zX K t (upd B5 a (.ins t.Car dx (qP { L with lp:=lp,lc:=lc } { c with dir:=d1,pressed:=c.pressed.filter fun (x:Nat)=>x != c.floor h,calls:=c.calls.filter fun (y:Nat × Nat)=>y != (c.floor h,d1) }))) a { L with lp:=lp,lc:=lc } { c with dir:=d1,pressed:=c.pressed.filter fun (x:Nat)=>x != c.floor h,calls:=c.calls.filter fun (y:Nat × Nat)=>y != (c.floor h,d1) } :=
    zX.put (L:={ L with lp:=lp,lc:=lc }) (c:={ c with dir:=d1,pressed:=c.pressed.filter fun (x:Nat)=>x != c.floor h,calls:=c.calls.filter fun (y:Nat × Nat)=>y != (c.floor h,d1) }) (s5 _ _ k1) (s5 _ _ k2) K5 (by show c.inside.length + (c.pressed.filter fun (x:Nat)=>x != c.floor h).length + (c.calls.filter fun (y:Nat × Nat)=>y != (c.floor h,d1)).length ≤ 1000; omega) (s5 _ _ g3) rfl
  have b5:=b3.trans (But.up (a:=a) (o:=(.ins t.Car dx (qP { L with lp:=lp,lc:=lc } { c with dir:=d1,pressed:=c.pressed.filter fun (x:Nat)=>x != c.floor h,calls:=c.calls.filter fun (y:Nat × Nat)=>y != (c.floor h,d1) }))) s5)
  have P5:=xO.but (But.up (a:=a) (o:=(.ins t.Car dx (qP { L with lp:=lp,lc:=lc } { c with dir:=d1,pressed:=c.pressed.filter fun (x:Nat)=>x != c.floor h,calls:=c.calls.filter fun (y:Nat × Nat)=>y != (c.floor h,d1) }))) s5) g3 P3
  have nc5:H lc = none:=b3.free g3 n5
  have ne5:lp ≠ lc:=fun e=>z3 (by rw [e]; exact n5)
  generalize hc':({ c with dir:=d1,pressed:=c.pressed.filter fun (x:Nat)=>x != c.floor h,calls:=c.calls.filter fun (y:Nat × Nat)=>y != (c.floor h,d1) }:Lf.Car) = c' at b5 C5 P5
  have g5:(upd B5 a (.ins t.Car dx (qP { L with lp:=lp,lc:=lc } c'))) a = some (.ins t.Car dx (qP { L with lp:=lp,lc:=lc } c')):=zF
  have ee:(upd B5 a (.ins t.Car dx (zBV (.int (c.pos:Int)) (.int (d1:Int)) (.int (c.does_:Int)) (.int (c.left:Int)) (.ref L.li) (.ref lp) (.ref lc)))) = upd B5 a (.ins t.Car dx (qP { L with lp:=lp,lc:=lc } c')):=by rw [← hc']
  show (zBW _ _ _ _ (upd B5 a (.ins t.Car dx (zBV (.int (c.pos:Int)) (.int (d1:Int)) (.int (c.does_:Int)) (.int (c.left:Int)) (.ref L.li) (.ref lp) (.ref lc)))))
  rw [ee]
  generalize (upd B5 a (.ins t.Car dx (qP { L with lp:=lp,lc:=lc } c'))) = B6 at b5 C5 P5 g5 ⊢
  obtain ⟨_,k1,k2,k3,k4⟩:=id C5
  obtain ⟨dp,hp⟩:=id P5
  refine jV yH (zA rfl) (zG.refl _) g5 T.C.k_Car.c T.C.n_Car_doing n7 fun B7 s7=>?_
  rw [jG]
  have C7:zX K t (upd B7 a (.ins t.Car dx (qP { L with lp:=lp,lc:=lc } { c' with does_:=2 }))) a { L with lp:=lp,lc:=lc } { c' with does_:=2 }:=zX.put (c:={ c' with does_:=2 }) (s7 _ _ k1) (s7 _ _ k2) (k3.same s7) k4 (s7 _ _ g5) rfl
  have b7:=b5.trans (But.up (a:=a) (o:=(.ins t.Car dx (qP { L with lp:=lp,lc:=lc } { c' with does_:=2 }))) s7)
  have P7:=xO.but (But.up (a:=a) (o:=(.ins t.Car dx (qP { L with lp:=lp,lc:=lc } { c' with does_:=2 }))) s7) g5 P5
  have g7:(upd B7 a (.ins t.Car dx (qP { L with lp:=lp,lc:=lc } { c' with does_:=2 }))) a = some (.ins t.Car dx (qP { L with lp:=lp,lc:=lc } { c' with does_:=2 })):=zF
  show (sFld _ _ _ _ _ _ (upd B7 a (.ins t.Car dx (qP { L with lp:=lp,lc:=lc } { c' with does_:=2 }))))
  generalize (upd B7 a (.ins t.Car dx (qP { L with lp:=lp,lc:=lc } { c' with does_:=2 }))) = B8 at b7 C7 P7 g7 ⊢
  obtain ⟨_,k1,k2,k3,k4⟩:=id C7
  obtain ⟨dp,hp⟩:=id P7
  refine zEC (zI (zA rfl) (by assumption) T.C.k_Plan.c T.C.n_Plan_opening (planF_opening _ _ _ _ _ _ _)) (zA rfl) (zG.refl _) g7 T.C.k_Car.c T.C.n_Car_yet n7 fun B9 s9=>?_
  rw [wA]
  have C9:zX K t (upd B9 a (.ins t.Car dx (qP { L with lp:=lp,lc:=lc } { c' with does_:=2,left:=h.open_ }))) a { L with lp:=lp,lc:=lc } { c' with does_:=2,left:=h.open_ }:=zX.put (c:={ c' with does_:=2,left:=h.open_ }) (s9 _ _ k1) (s9 _ _ k2) (k3.same s9) k4 (s9 _ _ g7) rfl
  refine q _ { L with lp:=lp,lc:=lc } ?_ rfl nl3 nc5 ne5 (b7.trans (But.up s9))
  have e9:({ c' with does_:=2,left:=h.open_ }:Lf.Car) = c.opened h:=by
    rw [← hc',← hd1]
    rfl
  rw [← e9]
  exact C9
def lamE (s:Stmt):Expr:=match jR s with
  | .Assign _ (.Call _ _ [⟨_,e,_⟩] _) _ :: _=>e
  | _=>.Name "" ⟨0,0,0,0⟩
def lamA:Arguments:=match lamE yQ with
  | .Lambda a _ _ _=>a
  | _=>qC yQ
def lamB:Expr:=match lamE yQ with
  | .Lambda _ b _ _=>b
  | e=>e
def lamS:Scope:=match lamE yQ with
  | .Lambda _ _ c _=>c
  | _=>zK yQ
def lamP:Pos:=match lamE yQ with
  | .Lambda _ _ _ p=>p
  | _=>⟨0,0,0,0⟩
def kk (f v:Int):List Int:=[if v - f < 0 then -(v - f) else v - f,-v]
theorem call_absR {X:Cx}:CallR X (.builtin "abs") (fun xs H Q=>∃ i,xs = [.int i]∧Q (.int (if i < 0 then -i else i)) H):=by
  intro pins s σ H xs us Q I r h
  obtain ⟨i,rfl,q⟩:=h
  cases r with
  | cons r1 rr =>
    cases rr
    obtain ⟨t,rfl⟩:=r1
    exact call_abs_int fun u tk=>⟨.int (if i < 0 then -i else i),H,I.tok tk,⟨u,rfl⟩,q⟩
abbrev envL (L cl F:Addr) (cd:Value):Env:=newEnv lamS L mainGlobals [("floor", cl)] (zHW ++ ".<locals>.") (some F) cd none builtinsNs
def cxL (P:Program) (w:World) (mg:Str→Option Value) (base:Heap) (A:Around) (outer:List Env) (s:Shared) (cl F:Addr) (cd:Value):Cx where
  prog:=P
  w:=w
  K:=[]
  mg:=mg
  base:=base
  A:=A.deeper (envL s.heap.objs.size cl F cd)
  N:=["stop", "floor"]
  s_0:=s
  H_0:=fun _=>none
  env:=envL s.heap.objs.size cl F cd
  outer:=outer
  stack:=envL s.heap.objs.size cl F cd :: outer
  ex:=[]
  calm:=true
  fn:=fun _=>false
  pn:=[]
  xe:=fun e s'=>wpAny (model P w) (A.deeper (envL s.heap.objs.size cl F cd)) (leaving (envL s.heap.objs.size cl F cd) e) (fun _ _=>False) (fun _ _=>False) s'
structure KeptF (fs:List Addr) (h h':Heap):Prop where
  keep:∀ b o,h.get? b = some o→b ∉ fs→h'.get? b = some o
  slot:∀ b o,h.get? b = some o→b ∈ fs→∃ sl,h'.get? b = some { o with slots:=sl }
section
variable {P:Program} {w:World} {mg:Str→Option Value} {base:Heap} {A:Around} {outer:List Env} {s:Shared}
theorem tb_nil {H:Hp}:Tb [] mg H:=fun T ⟨f,c,o,oc,fd,vs,_,h,_⟩=>by cases h
theorem lam_inv {cl F:Addr} {cd:Value} {h':Heap} {tk:Nat} {v f:Int} {tv tf:Tok} (e0:zHR P w [] mg base A outer s (fun _=>none)) (hd:A.handled = none) (hc:s.heap.IsCell cl (some (.int f tf)))
    (hn:h'.Ns s.heap.objs.size (fun x=>([("stop", Value.int v tv)]:List (Str × Value)).reverse.lookup x)) (hs:Heap.SameBut s.heap.objs.size (s.heap.push { cls:=.type "frame", data:=.dict #[] }) h') :
    Inv (cxL P w mg base A outer s cl F cd) [] [some (.int v),some (.int f)] (fun _=>none) { s with heap:=h',toks:=tk }:=by
  have keep:∀ b u,s.heap.get? b = some u→h'.get? b = some u:=fun b u e=>(hs.2 b (Nat.ne_of_lt (Heap.lt_size e))).trans (Heap.get?_push_of_some _ e)
  have hc':h'.IsCell cl (some (.int f tf)):=let ⟨o,ho,hd⟩:=hc; ⟨o,keep _ _ ho,hd⟩
  have cell1:∀ (x:Str) (c:Addr),(cxL P w mg base A outer s cl F cd).env.cells.lookup x = some c→x = "floor" ∧ c = cl:=fun x c e=>by
    have e':([(("floor" : Str),cl)]:List (Str × Addr)).lookup x = some c:=e
    rw [List.lookup_cons] at e'
    split at e'
    · rename_i hx
      exact ⟨beq_iff_eq.mp hx,(Option.some.inj e').symm⟩
    · cases e'
  refine ⟨⟨e0.mod,rfl,rfl,rfl,Nat.le_refl _,fun y z c h1 h2=>?_,fun y hy=>?_,fun y c z h=>Bool.noConfusion (show false = true from z),fun _=>hd,Around.frames_deeper e0.frames,.inr ⟨rfl,rfl⟩,fun b z=>absurd z (by show b ∉ ([]:List Addr); simp),e0.bs,e0.bsz,fun b _ _=>(by show b ∉ ([]:List Addr); simp),fun b z=>absurd z (by show b ∉ ([]:List Addr); simp),e0.funs,fun _ _=>rfl,tb_nil⟩,
    rfl,e0.bare,Un.kept keep,⟨_,hn,fun i x u h1 h2 h3=>?_⟩,fun x c h=>?_,rfl,fun _ _ _=>rfl,fun p hp=>absurd (show p ∈ ([]:List (Addr × Obj)) from hp) (by simp),fun a o e=>(by cases e),rfl⟩
  · rw [(cell1 y c h1).1,(cell1 z c h2).1]
  · have hy':lamS.names.lookup y = some .cell∨lamS.names.lookup y = some .free:=hy
    refine ⟨cl,?_⟩
    have e:y = "floor" := by
      have en:lamS.names = ([(("stop" : Str),NameKind.local),(("floor" : Str),NameKind.free),(("abs" : Str),NameKind.globalImplicit)]:List (Str × NameKind)):=rfl
      rw [en] at hy'
      rw [List.lookup_cons,List.lookup_cons,List.lookup_cons] at hy'
      by_cases z1:(y == ("stop" : Str)) = true
      · rw [z1] at hy'; rcases hy' with z | z <;> cases z
      · by_cases z2:(y == ("floor" : Str)) = true
        · exact beq_iff_eq.mp z2
        · by_cases z3:(y == ("abs" : Str)) = true
          · simp only [Bool.not_eq_true] at z1 z2
            rw [z1,z2,z3] at hy'; rcases hy' with z | z <;> cases z
          · simp only [Bool.not_eq_true] at z1 z2 z3
            rw [z1,z2,z3] at hy'; rcases hy' with z | z <;> cases z
    rw [e]
    rfl
  · match i,h1,h2 with
    | 0,h1,h2 =>
      have e1:("stop" : Str) = x:=Option.some.inj h1
      have e2:V.int v = u:=Option.some.inj (Option.some.inj h2)
      subst e1 e2
      exact ⟨.int v tv,⟨tv,rfl⟩,.inl ⟨rfl,rfl⟩⟩
    | 1,h1,h2 =>
      have e1:("floor" : Str) = x:=Option.some.inj h1
      have e2:V.int f = u:=Option.some.inj (Option.some.inj h2)
      subst e1 e2
      exact ⟨.int f tf,⟨tf,rfl⟩,.inr ⟨.inr rfl,cl,rfl,hc'⟩⟩
    | n + 2,h1,h2 =>
      have h2':([some (V.int v),some (.int f)]:List (Option V))[n + 2]? = some (some u):=h2
      simp at h2'
  · obtain ⟨rfl,rfl⟩:=cell1 x c h
    exact ⟨_,hc'⟩
theorem lam_call {cl F c':Addr} {pm ctv:Value} {v f:Int} {tv tf:Tok} (e0:zHR P w [] mg base A outer s (fun _=>none)) (hr:zB7 0 A) (hz:mg "abs" = none) {oF:Obj} (hF:s.heap.get? F = some oF) (hD:oF.data = .func (PySem.W.kla_fn "<lambda>" zHW lamA lamB lamS [("floor", cl)] pm (.ref c') ctv))
    (hcd:s.heap.CodeRec (.ref c') zHW) (hc:s.heap.IsCell cl (some (.int f tf))) :
    codeAny (model P w) A (.call (.ref F) ⟨[.int v tv],[]⟩) (fun r s'=>∃ T items,r = .ok (.ret (.ref T))∧s'.os = s.os∧AllBare s'.gens∧KeptF (frs outer) s.heap s'.heap∧IsTup s'.heap T items∧IntsAre items.toList (kk f v)) s:=by
  have lim:s.heap.NoLimit:=e0.mod.nolimit.keeps fun b o e=>(e0.bs b o e).1
  refine PySem.W.kla_callFunE hr.depth hF hD rfl rfl rfl hcd ?_
  have hb:bindArgs (PySem.W.kla_fn "<lambda>" zHW lamA lamB lamS [("floor", cl)] pm (.ref c') ctv) ⟨[.int v tv],[]⟩ = (pure [(("stop" : Str),Value.int v tv)]:Sem (List (Str × Value))):=rfl
  refine wpAny_of_eq hb ?_
  have hl1:lamS.names.lookup ("stop" : Str) = some .local:=by decide +kernel
  refine wpAny_newFunctionEnv (show ∀ x ∈ lamS.names,x.2 ≠ .cell by decide +kernel) (fun x hx=>by rw [List.mem_singleton.mp hx]; exact hl1) fun h' hn hs=>?_
  have keep:∀ b u,s.heap.get? b = some u→h'.get? b = some u:=fun b u e=>(hs.2 b (Nat.ne_of_lt (Heap.lt_size e))).trans (Heap.get?_push_of_some _ e)
  refine ⟨lim.keeps keep,PySem.W.kla_codeExpr ?_⟩
  have I:=lam_inv (F:=F) (cd:=.ref c') (tk:=s.toks + ([("stop", Value.int v tv)]:List (Str × Value)).length) e0 hr.hd hc hn hs
  have PB:PE (cxL P w mg base A outer s cl F (.ref c')) lamB (tTup (yW (tCB (fun xs H Q=>∃ i,xs = [.int i]∧Q (.int (if i < 0 then -i else i)) H) (yW (tOp (rI0 fun i j=>.int (i - j)) (zD4 0) (zD4 1)) zAG)) (yW (tUn (rU fun i=>.int (-i)) (zD4 0)) zAG))) :=
    xN (zB (yJ call_absR rfl hz boot_abs (zB (qX zG6 (pv 0) (pv 1)) zE)) (zB (pe_un un_neg (pv 0)) zE))
  refine wpAny_mono (PB [] _ _ _ (fun x H'=>∃ T,x = .ref T∧H' T = some (.tup ((kk f v).map V.int))) I ?_) (fun u s' z=>?_) (fun e s' z=>?_)
  · refine ⟨_,rfl,_,rfl,v,f,rfl,rfl,v - f,rfl,_,rfl,v,rfl,?_⟩
    exact ⟨by show 2 ≤ sizeLine; decide,fun p hp=>⟨p,rfl,zF⟩⟩
  · obtain ⟨x,H',J,rx,T,rfl,hT⟩:=z
    cases rx
    obtain ⟨_,its,rv,ht⟩:=J.hok T _ hT
    refine ⟨T,its.toArray,rfl,J.os,J.bare,⟨fun b o e nb=>?_,fun b o e hb=>?_⟩,ht,rv.ints⟩
    · exact J.base.keep b o e rfl nb (by show b ∉ ([]:List Addr); simp)
    · exact J.base.slot b o e rfl hb (by show b ∉ ([]:List Addr); simp)
  · refine wpAny_mono z (fun _ _ h=>h.elim) fun _ _ h=>h.elim
end
theorem lex2 (a b c d:Int):HT.zAP [a,b] [c,d] = true↔a < c∨(a = c∧b < d):=by
  rw [HT.zGS,HT.zGS,HT.zFU]
  by_cases h:a = c
  · rw [if_pos h]
    by_cases h2:b = d
    · rw [if_pos h2]
      constructor
      · intro z; cases z
      · intro z; omega
    · rw [if_neg h2,decide_eq_true_eq]
      constructor
      · intro z; exact .inr ⟨h,z⟩
      · intro z; omega
  · rw [if_neg h,decide_eq_true_eq]
    constructor
    · intro z; exact .inl z
    · intro z; omega
theorem lex2f (a b c d:Int):HT.zAP [a,b] [c,d] = false↔¬ (a < c∨(a = c∧b < d)):=by
  rw [← lex2,Bool.not_eq_true]
theorem kk_trans {f y M v:Int} (h1:HT.zAP (kk f y) (kk f M) = false) (h2:HT.zAP (kk f v) (kk f M) = true):HT.zAP (kk f y) (kk f v) = false:=by
  unfold kk at *
  rw [lex2f] at h1 ⊢
  rw [lex2] at h2
  omega
theorem kk_refl (f v:Int):HT.zAP (kk f v) (kk f v) = false:=by
  unfold kk
  rw [lex2f]
  omega
structure KX (fs ch:List Addr) (h h':Heap):Prop where
  keep:∀ b o,h.get? b = some o→b ∉ fs→b ∉ ch→h'.get? b = some o
  slot:∀ b o,h.get? b = some o→b ∉ ch→∃ sl,h'.get? b = some { o with slots:=sl }
section
variable {fs ch:List Addr} {h h1 h2:Heap}
theorem KX.of (k:∀ b o,b ∉ ch→h.get? b = some o→h1.get? b = some o):KX fs ch h h1:=⟨fun b o e _ n=>k b o n e,fun b o e n=>⟨o.slots,k b o n e⟩⟩
theorem KX.ofF (k:KeptF fs h h1):KX fs ch h h1:=⟨fun b o e n _=>k.keep b o e n,fun b o e _=>by
  by_cases hb:b ∈ fs
  · exact k.slot b o e hb
  · exact ⟨o.slots,k.keep b o e hb⟩⟩
theorem KX.trans (a:KX fs ch h h1) (b:KX fs ch h1 h2):KX fs ch h h2:=⟨fun c o e n m=>b.keep c o (a.keep c o e n m) n m,fun c o e n=>by
  obtain ⟨sl,e1⟩:=a.slot c o e n
  obtain ⟨sl',e2⟩:=b.slot c _ e1 n
  exact ⟨sl',e2⟩⟩
theorem KX.list (k:KX fs ch h h1) {l:Addr} {xs:Array Value} (x:h.IsList l xs) (n:l ∉ ch):h1.IsList l xs:=by
  obtain ⟨o,ho,hr⟩:=x
  obtain ⟨sl,e⟩:=k.slot l o ho n
  exact ⟨_,e,hr⟩
theorem KX.iter (k:KX fs ch h h1) {i l:Addr} {n:Nat} (x:h.IsListIter i l n) (m:i ∉ ch):h1.IsListIter i l n:=by
  obtain ⟨o,ho,hr⟩:=x
  obtain ⟨sl,e⟩:=k.slot i o ho m
  exact ⟨_,e,hr⟩
theorem KX.tup (k:KX fs ch h h1) {l:Addr} {xs:Array Value} (x:IsTup h l xs) (n:l ∉ ch):IsTup h1 l xs:=by
  obtain ⟨o,ho,hr⟩:=x
  obtain ⟨sl,e⟩:=k.slot l o ho n
  exact ⟨_,e,hr⟩
theorem KX.cell (k:KX fs ch h h1) {c:Addr} {v:Option Value} (x:h.IsCell c v) (n:c ∉ ch):h1.IsCell c v:=by
  obtain ⟨o,ho,hr⟩:=x
  obtain ⟨sl,e⟩:=k.slot c o ho n
  exact ⟨_,e,hr⟩
theorem KX.code (k:KX fs ch h h1) {c:Addr} {q:Str} (x:h.CodeRec (.ref c) q) (n:c ∉ ch):h1.CodeRec (.ref c) q:=by
  obtain ⟨c2,o,vs,t,e0,ho,hr⟩:=x
  cases e0
  obtain ⟨sl,e⟩:=k.slot c o ho n
  exact ⟨c,_,vs,t,rfl,e,hr⟩
end
section
variable {P:Program} {w:World} {mg:Str→Option Value} {base:Heap} {A:Around} {outer:List Env} {s s':Shared}
theorem zB4 {ch:List Addr} {b0:Addr} (e:zHR P w [] mg base A outer s (fun _=>none)) (k:KX (frs outer) ch s.heap s'.heap) (hch:∀ b ∈ ch,base.get? b = none∧b ∉ frs outer) (bare:AllBare s'.gens) (hb0:base.objs.size ≤ b0) (hx:∃ o,s'.heap.get? b0 = some o):zHR P w [] mg base A outer s' (fun _=>none):=by
  have nfr:∀ b o,base.get? b = some o→b ∉ frs outer:=fun b o q hb=>by
    have:=(e.funs.mem hb).1
    rw [q] at this
    cases this
  refine ⟨e.frames,e.mod,fun b o q=>⟨k.keep b o (e.bs b o q).1 (nfr b o q) fun z=>?_,rfl⟩,?_,?_,fun _ _=>rfl,fun a o z=>(by cases z),bare,tb_nil⟩
  · rw [(hch b z).1] at q
    cases q
  · obtain ⟨o,ho⟩:=hx
    exact Nat.le_trans hb0 (Nat.le_of_lt (Heap.lt_size ho))
  · have all:∀ (l:List Env),(∀ b ∈ frs l,b ∈ frs outer)→s.heap.FunFrames base l→s'.heap.FunFrames base l:=by
      intro l
      induction l with
      | nil=>intro _ _; trivial
      | cons env r ih =>
        intro hs hl
        obtain ⟨hk,⟨L,o,hf,hn,ho,hd⟩,hr⟩:=hl
        have hL:L ∈ frs outer:=hs L (by unfold frs; rw [List.filterMap_cons,hf]; exact List.mem_cons_self)
        obtain ⟨sl,e1⟩:=k.slot L o ho fun z=>(hch L z).2 hL
        exact ⟨hk,⟨L,_,hf,hn,e1,hd⟩,ih (fun b hb=>hs b (by unfold frs; rw [List.filterMap_cons,hf]; exact List.mem_cons_of_mem _ hb)) hr⟩
    exact all outer (fun _ hb=>hb) e.funs
def LamAt (h:Heap) (F cl c':Addr) (f:Int):Prop:=∃ (o:Obj) (pm ctv:Value) (tf:Tok),h.get? F = some o∧o.data = .func (PySem.W.kla_fn "<lambda>" zHW lamA lamB lamS [("floor", cl)] pm (.ref c') ctv)∧h.CodeRec (.ref c') zHW∧h.IsCell cl (some (.int f tf))
theorem LamAt.kx {fs ch:List Addr} {h h1:Heap} {F cl c':Addr} {f:Int} (x:LamAt h F cl c' f) (k:KX fs ch h h1) (n1:F ∉ ch) (n2:cl ∉ ch) (n3:c' ∉ ch):LamAt h1 F cl c' f:=by
  obtain ⟨o,pm,ctv,tf,ho,hd,hc,hl⟩:=x
  obtain ⟨sl,e⟩:=k.slot F o ho n1
  exact ⟨_,pm,ctv,tf,e,hd,k.code hc n3,k.cell hl n2⟩
theorem lam_at {cl F c':Addr} {v f:Int} {tv:Tok} (e0:zHR P w [] mg base A outer s (fun _=>none)) (hr:zB7 0 A) (hz:mg "abs" = none) (hF:LamAt s.heap F cl c' f) :
    wpAny (model P w) A (call (.ref F) [.int v tv]) (fun u s'=>∃ T items,u = .ref T∧s'.os = s.os∧AllBare s'.gens∧KeptF (frs outer) s.heap s'.heap∧IsTup s'.heap T items∧IntsAre items.toList (kk f v)) (fun _ _=>False) s:=by
  obtain ⟨o,pm,ctv,tf,ho,hd,hc,hl⟩:=hF
  refine wpAny_call (codeAny_mono (lam_call e0 hr hz ho hd hc hl) fun r s' ⟨T,items,e,h⟩=>?_)
  subst e
  exact ⟨T,items,rfl,h⟩
end
section
variable {P:Program} {w:World} {mg:Str→Option Value} {base:Heap} {A:Around} {outer:List Env}
def BestAt (h:Heap) (S:Addr) (f M:Int):Prop:=∃ (o:Obj) (tm:Tok) (T:Addr) (items:Array Value) (n:Nat),h.get? S = some o∧o.cls = .type "list" ∧ o.data = .seq #[.int M tm,.ref T] n∧IsTup h T items∧IntsAre items.toList (kk f M)
theorem minK_loop {R:Result→Shared→Prop} {l I S F cl c':Addr} {us:List Value} {ns:List Int} {f:Int} (hr:zB7 1 A) (hz:mg "abs" = none) (hi:IntsAre us ns) (hlI:l ≠ I) (hSI:S ≠ I) (hSl:S ≠ l) (nF:F ≠ I∧F ≠ S) (nl:cl ≠ I∧cl ≠ S) (nc:c' ≠ I∧c' ≠ S)
    (hch:∀ b ∈ [I,S],base.get? b = none∧b ∉ frs outer) (hb0:base.objs.size ≤ S) :
    ∀ (r j:Nat) (s:Shared) (M:Int),us.length - j = r→j ≤ us.length→s.heap.IsListIter I l j→s.heap.IsList l us.toArray→BestAt s.heap S f M→M ∈ ns→(∀ y ∈ ns.take j,HT.zAP (kk f y) (kk f M) = false) →
      zHR P w [] mg base A.in1 outer s (fun _=>none)→LamAt s.heap F cl c' f →
      (∀ (s':Shared) (M':Int) (t':Tok),M' ∈ ns→(∀ y ∈ ns,HT.zAP (kk f y) (kk f M') = false)→s'.os = s.os→AllBare s'.gens→KX (frs outer) [I,S] s.heap s'.heap→R (.ok (.ret (.int M' t'))) s') →
      codeAny (model P w) A (.builtin "min.loop" ⟨[.ref I,.ref F,.ref S],[]⟩) R s:=by
  have nm:(toString "min" ++ toString ".loop" : String) = "min.loop" := by decide
  have W:=Walks.list (prog:=P) (w:=w) (A:=A.in1) hr.hd I l hlI us.toArray
  have hlen:=hi.length
  have hr1:zB7 0 A.in1:=hr.in1
  have mI:∀ b,b ∉ [I,S]→b ∉ [I]:=fun b h z=>h (by rw [List.mem_singleton.mp z]; exact List.mem_cons_self)
  have two:∀ b,b ≠ I→b ≠ S→b ∉ [I,S]:=fun b h1 h2 z=>by
    rcases List.mem_cons.mp z with z | z
    · exact h1 z
    · exact h2 (List.mem_singleton.mp z)
  intro r
  induction r with
  | zero =>
    intro j s M h0 hj hit hl hB hM hbest e0 hF hR
    have ej:j = us.length:=by omega
    obtain ⟨o,tm,T,items,n,hS,hSc,hSd,hT,hk⟩:=hB
    refine codeAny_builtin PySem.F.entry_min_loop ?_; rw [Around.under_plainId PySem.F.plain_min_loop _]; show wpAny _ A.in1 (seqItems? (.ref S) >>= _) _ _ _
    refine wpAny_bind (wpAny_seqItems hS hSd ?_); show wpAny _ A.in1 (tryCatch (pyNext (.ref I)) _ >>= _) _ _ _
    refine wpAny_bind (wpAny_tryCatch (W.done s _ _ ⟨by rw [List.size_toArray,← ej]; exact hit,hl⟩ fun h1 t1 k1=>?_))
    have hS1:=k1 S _ (by simpa using hSI) hS
    show wpAny _ A.in1 (updateSeq S (fun _=>#[]) >>= _) _ _ _; refine wpAny_bind ?_
    refine wpAny_updateSeq hS1 hSd (wpAny_bind (wpAny_letGo (wpAny_pure ?_)))
    refine hR _ M tm hM (fun y hy=>hbest y (by rw [ej,hlen,List.take_length]; exact hy)) rfl e0.bare (.of fun b ob nb e=>?_)
    have nbS:b ≠ S:=fun z=>nb (by rw [z]; exact List.mem_cons_of_mem _ List.mem_cons_self)
    exact (Heap.get?_update_other _ _ (Ne.symm nbS)).trans (k1 b ob (mI b nb) e)
  | succ r ih =>
    intro j s M h0 hj hit hl hB hM hbest e0 hF hR
    have hlt:j < us.length:=by omega
    obtain ⟨v,hn⟩:∃ v,ns[j]? = some v:=⟨_,List.getElem?_eq_getElem (by omega)⟩
    obtain ⟨tv,hu⟩:=hi.get j v hn
    obtain ⟨⟨ocl,odc,oda,osl⟩,tm,T,items,n,hS,hSc,hSd,hT,hk⟩:=hB
    have hSc':ocl = .type "list" := hSc
    have hSd':oda = .seq #[.int M tm,.ref T] n:=hSd
    subst hSc' hSd'
    refine codeAny_builtin PySem.F.entry_min_loop ?_; rw [Around.under_plainId PySem.F.plain_min_loop _]; show wpAny _ A.in1 (seqItems? (.ref S) >>= _) _ _ _
    refine wpAny_bind (wpAny_seqItems hS hSd ?_); show wpAny _ A.in1 (tryCatch (pyNext (.ref I)) _ >>= _) _ _ _
    refine wpAny_bind (wpAny_tryCatch (W.item j s _ _ (by rw [List.size_toArray]; exact hlt) ⟨hit,hl⟩ fun u h1 t1 hv st1 k1=>?_))
    have ev:u = .int v tv:=by
      have z:us[j]? = some u:=by simpa using hv
      rw [hu] at z
      exact (Option.some.inj z).symm
    subst ev
    have kx1:KX (frs outer) [I] s.heap h1:=.of fun b ob nb e=>k1 b ob nb e
    have kx1':KX (frs outer) [I,S] s.heap h1:=.of fun b ob nb e=>k1 b ob (mI b nb) e
    have TI:T ≠ I:=by
      rintro rfl
      obtain ⟨o1,q1,q2,_⟩:=hT
      obtain ⟨o2,q3,q4,_⟩:=hit
      rw [q1] at q3
      cases q3
      rw [q2] at q4
      exact absurd q4 (by decide)
    have notI:∀ b,b ≠ I→b ∉ [I]:=fun b h z=>h (List.mem_singleton.mp z)
    have hS1:=k1 S _ (notI S hSI) hS
    have hT1:=kx1.tup hT (notI T TI)
    have hF1:=hF.kx kx1 (notI F nF.1) (notI cl nl.1) (notI c' nc.1)
    have e1:zHR P w [] mg base A.in1 outer { s with heap:=h1,toks:=t1 } (fun _=>none):=zB4 e0 kx1' hch e0.bare hb0 ⟨_,hS1⟩
    show wpAny _ A.in1 (tryCatch (holding [.int v tv] (call (.ref F) [.int v tv])) _ >>= _) _ _ _
    refine wpAny_bind (wpAny_tryCatch (wpAny_holding (wpAny_mono (lam_at e1 hr1 hz hF1) (fun x s2 he=>?_) fun _ _ z=>z.elim)))
    obtain ⟨T2,items2,rfl,os2,bare2,kf2,hT2,hk2⟩:=he
    have kx2:KX (frs outer) [] h1 s2.heap:=.ofF kf2
    have kx2':KX (frs outer) [I,S] h1 s2.heap:=.ofF kf2
    have nil:∀ b:Addr,b ∉ ([]:List Addr):=fun b z=>by cases z
    obtain ⟨sl2,hS2⟩:=kx2.slot S _ hS1 (nil _)
    have hT12:=kx2.tup hT1 (nil _)
    have hF2:=hF1.kx kx2 (nil _) (nil _) (nil _)
    have hit2:=kx2.iter st1.1 (nil _)
    have hl2:=kx2.list st1.2 (nil _)
    have e2:zHR P w [] mg base A.in1 outer s2 (fun _=>none):=zB4 e1 kx2' hch bare2 hb0 ⟨_,hS2⟩
    have kx12:KX (frs outer) [I,S] s.heap s2.heap:=kx1'.trans kx2'
    have hmem:v ∈ ns:=List.mem_of_getElem? hn
    have tk1:ns.take (j + 1) = ns.take j ++ [v]:=by
      rw [List.take_add_one,hn]
      rfl
    show wpAny _ A.in1 (tryCatch (holding [.int v tv,.ref T2] (richCompare .Lt (.ref T2) (.ref T) >>= _)) _ >>= _) _ _ _
    refine wpAny_bind (wpAny_tryCatch (wpAny_holding (wpAny_bind (HT.lt_tupInts hT2 hT12 hk2 hk hr1.units0 ?_))))
    refine wpAny_bind (wpAny_holding (wpAny_truthy_bool ?_)); refine wpAny_bind (wpAny_letGo (wpAny_pure ?_))
    by_cases hb:HT.zAP (kk f v) (kk f M) = true
    · rw [hb]
      simp only [if_true]
      refine wpAny_bind ?_
      refine wpAny_updateSeq hS2 hSd (wpAny_bind (wpAny_letGo ?_)); rw [nm]
      have T2S:T2 ≠ S:=by
        rintro rfl
        obtain ⟨o1,q1,q2,_⟩:=hT2
        rw [hS2] at q1
        cases q1
        have q3:Value.type "list" = .type "tuple" := q2
        exact absurd q3 (by decide)
      have ku:KX (frs outer) [I,S] s2.heap (s2.heap.update S (Obj.mapSeq fun _=>#[.int v tv,.ref T2])):=.of fun b ob nb e=>by
        have nbS:b ≠ S:=fun z=>nb (by rw [z]; exact List.mem_cons_of_mem _ List.mem_cons_self)
        exact (Heap.get?_update_other _ _ (Ne.symm nbS)).trans e
      have kuS:KX (frs outer) [S] s2.heap (s2.heap.update S (Obj.mapSeq fun _=>#[.int v tv,.ref T2])):=.of fun b ob nb e=>by
        have nbS:b ≠ S:=fun z=>nb (by rw [z]; exact List.mem_cons_self)
        exact (Heap.get?_update_other _ _ (Ne.symm nbS)).trans e
      have notS:∀ b,b ≠ S→b ∉ [S]:=fun b h z=>h (List.mem_singleton.mp z)
      have gS:=Heap.get?_update_self (Obj.mapSeq fun _=>#[Value.int v tv,Value.ref T2]) hS2 rfl
      have hB2:BestAt (s2.heap.update S (Obj.mapSeq fun _=>#[.int v tv,.ref T2])) S f v:=⟨_,tv,T2,items2,_,gS,rfl,rfl,kuS.tup hT2 (notS T2 T2S),hk2⟩
      refine wpAny_pure ⟨plainId_quiet PySem.F.plain_min_loop _,ih (j + 1) _ v (by omega) (by omega) (kuS.iter hit2 (notS I (Ne.symm hSI))) (kuS.list hl2 (notS l (Ne.symm hSl))) hB2 hmem (fun y hy=>?_) (zB4 e2 ku hch bare2 hb0 ⟨_,gS⟩) (hF2.kx kuS (notS F nF.2) (notS cl nl.2) (notS c' nc.2)) fun s' M' t' a1 a2 a3 a4 a5=>hR s' M' t' a1 a2 (a3.trans os2) a4 ((kx12.trans ku).trans a5)⟩
      rw [tk1] at hy
      rcases List.mem_append.mp hy with q | q
      · exact kk_trans (hbest y q) hb
      · rw [List.mem_singleton.mp q]
        exact kk_refl f v
    · rw [Bool.not_eq_true] at hb
      rw [hb]
      simp only [Bool.false_eq_true,if_false]
      refine wpAny_bind (wpAny_letGo ?_); rw [nm]
      refine wpAny_pure ⟨plainId_quiet PySem.F.plain_min_loop _,ih (j + 1) _ M (by omega) (by omega) hit2 hl2 ⟨_,tm,T,items,n,hS2,hSc,hSd,hT12,hk⟩ hM (fun y hy=>?_) e2 hF2 fun s' M' t' a1 a2 a3 a4 a5=>hR s' M' t' a1 a2 (a3.trans os2) a4 (kx12.trans a5)⟩
      rw [tk1] at hy
      rcases List.mem_append.mp hy with q | q
      · exact hbest y q
      · rw [List.mem_singleton.mp q]
        exact hb
end
section
variable {P:Program} {w:World} {mg:Str→Option Value} {base:Heap} {A:Around} {outer:List Env} {E:Value→Shared→Prop}
theorem minK_call {s:Shared} {l F cl c':Addr} {us:List Value} {ns:List Int} {f:Int} {Q:Value→Shared→Prop} (hr:zB7 1 A) (hz:mg "abs" = none) (e0:zHR P w [] mg base A outer s (fun _=>none)) (hl:s.heap.IsList l us.toArray) (hi:IntsAre us ns) (hne:0 < ns.length) (hF:LamAt s.heap F cl c' f)
    (h:∀ (s':Shared) (M:Int) (t':Tok),M ∈ ns→(∀ y ∈ ns,HT.zAP (kk f y) (kk f M) = false)→s'.os = s.os→AllBare s'.gens→KX (frs outer) [] s.heap s'.heap→Q (.int M t') s') :
    wpAny (model P w) A (call (.builtin "min") [.ref l] [(Str.ofString "key", .ref F)]) Q E s:=by
  have nm:(toString "min" ++ toString ".loop" : String) = "min.loop" := by decide
  have hlen:=hi.length
  obtain ⟨ol,hol,_⟩:=id hl
  obtain ⟨oF,_,_,_,hoF,_,⟨c2,oc,_,_,ec,hoc,_⟩,ocl,hocl,_⟩:=id hF
  cases ec
  have hll:l < s.heap.objs.size:=Heap.lt_size hol
  refine PyProof.Rows.kmk_tree PySem.F.kind_min PySem.F.plain_min PySem.F.entry_min (kmk_min_key _ _) ?_
  show wpAny _ A.in1 (Builtin.Builtins.bindParams "min" ["key", "default"] 0 ⟨[],[(Str.ofString "key", .ref F)]⟩ >>= _) _ _ s
  refine wpAny_bind (wpAny_of_eq (show Builtin.Builtins.bindParams "min" ["key", "default"] 0 ⟨[],[(Str.ofString "key", .ref F)]⟩ = pure [some (.ref F),none] from rfl) ?_)
  refine wpAny_bind (wpAny_pure ?_); refine wpAny_bind (wpAny_pyIter_list hl ?_); refine wpAny_bind (wpAny_newList ?_ (Nat.zero_le _)); rw [nm]
  refine wpAny_pure ⟨plainId_quiet PySem.F.plain_min_loop _,?_⟩
  generalize eI:s.heap.objs.size = I
  have hlI:l ≠ I:=by rw [← eI]; exact Nat.ne_of_lt hll
  have hS:(s.heap.push { cls:=.type "list_iterator", data:=.fields #[.ref l,.int 0 0] }).objs.size = I + 1:=by rw [← eI]; exact size_push' ..
  rw [hS]
  have hSI:I + 1 ≠ I:=Nat.succ_ne_self _
  have hSl:I + 1 ≠ l:=Nat.ne_of_gt (Nat.lt_succ_of_lt (by rw [← eI]; exact hll))
  have oldI:∀ {b:Addr} {o:Obj},s.heap.get? b = some o→b ≠ I∧b ≠ I + 1:=fun e=>by
    have:=Heap.lt_size e
    rw [eI] at this
    exact ⟨Nat.ne_of_lt this,Nat.ne_of_lt (Nat.lt_succ_of_lt this)⟩
  have gI:((s.heap.push { cls:=.type "list_iterator", data:=.fields #[.ref l,.int 0 0] }).push { cls:=.type "list", data:=.seq ([]:List Value).toArray }).get? I = some { cls:=.type "list_iterator", data:=.fields #[.ref l,.int 0 0] }:=by
    rw [← eI]; exact Heap.get?_push_of_some _ (Heap.get?_push_size _ rfl)
  have gS:((s.heap.push { cls:=.type "list_iterator", data:=.fields #[.ref l,.int 0 0] }).push { cls:=.type "list", data:=.seq ([]:List Value).toArray }).get? (I + 1) = some { cls:=.type "list", data:=.seq ([]:List Value).toArray }:=by
    rw [← hS]; exact Heap.get?_push_size _ rfl
  have old:∀ b o,s.heap.get? b = some o→((s.heap.push { cls:=.type "list_iterator", data:=.fields #[.ref l,.int 0 0] }).push { cls:=.type "list", data:=.seq ([]:List Value).toArray }).get? b = some o:=fun b o e=>Heap.get?_push_of_some _ (Heap.get?_push_of_some _ e)
  generalize ((s.heap.push { cls:=.type "list_iterator", data:=.fields #[.ref l,.int 0 0] }).push { cls:=.type "list", data:=.seq ([]:List Value).toArray }) = h0 at gI gS old ⊢
  have hit:h0.IsListIter I l 0:=⟨_,gI,rfl,rfl⟩
  have hl0:h0.IsList l us.toArray:=hl.at fun o e=>old l o e
  have hbI:base.objs.size ≤ I:=by rw [← eI]; exact e0.bsz
  have nofr:∀ b,I ≤ b→b ∉ frs outer:=fun b hb hm=>by
    obtain ⟨_,o,ho,_⟩:=e0.funs.mem hm
    have:=Heap.lt_size ho
    rw [eI] at this
    exact absurd (Nat.lt_of_lt_of_le this hb) (Nat.lt_irrefl _)
  have hch:∀ b ∈ [I,I + 1],base.get? b = none∧b ∉ frs outer:=fun b hb=>by
    rcases List.mem_cons.mp hb with z | z
    · rw [z]; exact ⟨Heap.get?_none_of_le hbI,nofr I (Nat.le_refl _)⟩
    · rw [List.mem_singleton.mp z]; exact ⟨Heap.get?_none_of_le (Nat.le_succ_of_le hbI),nofr (I + 1) (Nat.le_succ _)⟩
  have hb0:base.objs.size ≤ I + 1:=Nat.le_succ_of_le hbI
  have nF:=oldI hoF
  have nl:=oldI hocl
  have nc:=oldI hoc
  have kx0:KX (frs outer) [I,I + 1] s.heap h0:=.of fun b o _ e=>old b o e
  have kx00:KX (frs outer) [] s.heap h0:=.of fun b o _ e=>old b o e
  have nil:∀ b:Addr,b ∉ ([]:List Addr):=fun b z=>by cases z
  have hF0:LamAt h0 F cl c' f:=hF.kx kx00 (nil _) (nil _) (nil _)
  have ei:zHR P w [] mg base A.in1 outer s (fun _=>none):=e0.in1
  have W:=Walks.list (prog:=P) (w:=w) (A:=A.in1) hr.hd I l hlI us.toArray
  refine codeAny_builtin PySem.F.entry_min_loop ?_; rw [Around.under_plainId PySem.F.plain_min_loop _]; show wpAny _ A.in1 (seqItems? (.ref (I + 1)) >>= _) _ _ _
  refine wpAny_bind (wpAny_seqItems gS rfl ?_); show wpAny _ A.in1 (tryCatch (pyNext (.ref I)) _ >>= _) _ _ _
  obtain ⟨v,hn⟩:∃ v,ns[0]? = some v:=⟨_,List.getElem?_eq_getElem hne⟩
  obtain ⟨tv,hu⟩:=hi.get 0 v hn
  refine wpAny_bind (wpAny_tryCatch (W.item 0 _ _ _ (by rw [List.size_toArray]; omega) ⟨hit,hl0⟩ fun u h1 t1 hv st1 k1=>?_))
  have ev:u = .int v tv:=by
    have z:us[0]? = some u:=by simpa using hv
    rw [hu] at z
    exact (Option.some.inj z).symm
  subst ev
  have mI:∀ b,b ∉ [I,I + 1]→b ∉ [I]:=fun b h z=>h (by rw [List.mem_singleton.mp z]; exact List.mem_cons_self)
  have notI:∀ b,b ≠ I→b ∉ [I]:=fun b h z=>h (List.mem_singleton.mp z)
  have kx1:KX (frs outer) [I] h0 h1:=.of fun b ob nb e=>k1 b ob nb e
  have kx1':KX (frs outer) [I,I + 1] h0 h1:=.of fun b ob nb e=>k1 b ob (mI b nb) e
  have hS1:=k1 (I + 1) _ (notI _ hSI) gS
  have hF1:=hF0.kx kx1 (notI F nF.1) (notI cl nl.1) (notI c' nc.1)
  have e1:zHR P w [] mg base A.in1 outer { s with heap:=h1,toks:=t1 } (fun _=>none):=zB4 ei (kx0.trans kx1') hch e0.bare hb0 ⟨_,hS1⟩
  show wpAny _ A.in1 (tryCatch (holding [.int v tv] (call (.ref F) [.int v tv])) _ >>= _) _ _ _
  refine wpAny_bind (wpAny_tryCatch (wpAny_holding (wpAny_mono (lam_at e1 hr.in1 hz hF1) (fun x s2 he=>?_) fun _ _ z=>z.elim)))
  obtain ⟨T2,items2,rfl,os2,bare2,kf2,hT2,hk2⟩:=he
  have kx2:KX (frs outer) [] h1 s2.heap:=.ofF kf2
  have kx2':KX (frs outer) [I,I + 1] h1 s2.heap:=.ofF kf2
  obtain ⟨sl2,hS2⟩:=kx2.slot (I + 1) _ hS1 (nil _)
  have hF2:=hF1.kx kx2 (nil _) (nil _) (nil _)
  have hit2:=kx2.iter st1.1 (nil _)
  have hl2:=kx2.list st1.2 (nil _)
  have e2:zHR P w [] mg base A.in1 outer s2 (fun _=>none):=zB4 e1 kx2' hch bare2 hb0 ⟨_,hS2⟩
  have kx02:KX (frs outer) [I,I + 1] s.heap s2.heap:=(kx0.trans kx1').trans kx2'
  have T2S:T2 ≠ I + 1:=by
    rintro rfl
    obtain ⟨o1,q1,q2,_⟩:=hT2
    rw [hS2] at q1
    cases q1
    have q3:Value.type "list" = .type "tuple" := q2
    exact absurd q3 (by decide)
  show wpAny _ A.in1 (updateSeq (I + 1) (fun _=>#[.int v tv,.ref T2]) >>= _) _ _ _
  refine wpAny_bind ?_
  refine wpAny_updateSeq hS2 rfl ?_
  rw [nm]
  have notS:∀ b,b ≠ I + 1→b ∉ [I + 1]:=fun b h z=>h (List.mem_singleton.mp z)
  have ku:KX (frs outer) [I,I + 1] s2.heap (s2.heap.update (I + 1) (Obj.mapSeq fun _=>#[.int v tv,.ref T2])):=.of fun b ob nb e=>by
    have nbS:b ≠ I + 1:=fun z=>nb (by rw [z]; exact List.mem_cons_of_mem _ List.mem_cons_self)
    exact (Heap.get?_update_other _ _ (Ne.symm nbS)).trans e
  have kuS:KX (frs outer) [I + 1] s2.heap (s2.heap.update (I + 1) (Obj.mapSeq fun _=>#[.int v tv,.ref T2])):=.of fun b ob nb e=>by
    have nbS:b ≠ I + 1:=fun z=>nb (by rw [z]; exact List.mem_cons_self)
    exact (Heap.get?_update_other _ _ (Ne.symm nbS)).trans e
  have gS2:=Heap.get?_update_self (Obj.mapSeq fun _=>#[Value.int v tv,Value.ref T2]) hS2 rfl
  have hB2:BestAt (s2.heap.update (I + 1) (Obj.mapSeq fun _=>#[.int v tv,.ref T2])) (I + 1) f v:=⟨_,tv,T2,items2,_,gS2,rfl,rfl,kuS.tup hT2 (notS T2 T2S),hk2⟩
  refine wpAny_pure ⟨plainId_quiet PySem.F.plain_min_loop _,minK_loop hr hz hi hlI hSI hSl nF nl nc hch hb0 _ 1 _ v rfl (by omega) (kuS.iter hit2 (notS I (Ne.symm hSI))) (kuS.list hl2 (notS l (Ne.symm hSl))) hB2 (List.mem_of_getElem? hn) (fun y hy=>?_) (zB4 e2 ku hch bare2 hb0 ⟨_,gS2⟩) (hF2.kx kuS (notS F nF.2) (notS cl nl.2) (notS c' nc.2)) fun s' M' t' a1 a2 a3 a4 a5=>?_⟩
  · have tk1:ns.take 1 = [v]:=by
      rw [List.take_add_one,hn]
      rfl
    rw [tk1] at hy
    rw [List.mem_singleton.mp hy]
    exact kk_refl f v
  · have kf:=(kx02.trans ku).trans a5
    refine h s' M' t' a1 a2 (a3.trans os2) a4 ⟨fun b o e nb _=>kf.keep b o e nb fun z=>?_,fun b o e _=>kf.slot b o e fun z=>?_⟩
    all_goals
      rcases List.mem_cons.mp z with z | z
      · exact (oldI e).1 z
      · exact (oldI e).2 (List.mem_singleton.mp z)
end
theorem triples_snoc {a b:Int} {c:Value} (l:List Value) (h:TriplesOk l):TriplesOk (l ++ [rawInt a,rawInt b,c]):=by
  fun_induction TriplesOk l with
  | case1=>exact trivial
  | case2 _ _ _ _ _ rest ih=>exact ih h
  | case3=>exact h.elim
theorem among_snoc {p:Pos} {a b:Int} {c cv:Value} (l:List Value) (h:TriplesOk l) (e:codeAmong p (l ++ [rawInt a,rawInt b,c]) = some cv):codeAmong p l = some cv∨cv = c:=by
  fun_induction TriplesOk l with
  | case1 =>
    refine .inr ?_
    have e':(if a == p.line && b == p.col then some c else none) = some cv:=e
    split at e'
    · exact (Option.some.inj e').symm
    · cases e'
  | case2 x1 t1 x2 t2 y rest ih =>
    have e':(if x1 == p.line && x2 == p.col then some y else codeAmong p (rest ++ [rawInt a,rawInt b,c])) = some cv:=e
    have e2:codeAmong p (.int x1 t1 :: .int x2 t2 :: y :: rest) = if x1 == p.line && x2 == p.col then some y else codeAmong p rest:=rfl
    rw [e2]
    split at e'
    · rename_i z
      rw [if_pos z]
      exact .inl e'
    · rename_i z
      rw [if_neg z]
      exact ih h e'
  | case3=>exact h.elim
theorem clos_lam {env:Env} {cl:Addr} (e:env.cells.lookup ("floor" : Str) = some cl):closureFor lamS env = pure [(("floor" : Str),cl)]:=by
  have en:lamS.names = ([(("stop" : Str),NameKind.local),(("floor" : Str),NameKind.free),(("abs" : Str),NameKind.globalImplicit)]:List (Str × NameKind)):=rfl
  have ec:cellOf env "floor" = pure cl:=by
    unfold cellOf
    rw [e]
  unfold closureFor
  rw [en]
  simp [ec]
section
variable {X:Cx} {pins:List (Addr × Obj)} {σ:L2.St} {H:Hp} {s:Shared}
theorem mk_lam {E:Value→Shared→Prop} {Q:Value→Shared→Prop} {c T cl:Addr} {f:Int} {tf:Tok} (I:Inv X pins σ H s) (hcode:X.env.code = .ref c) (hhd:PySem.W.codeHdIn X.K c T = true) (hT:H T = some (.tbl zHW)) (hq:X.env.qual ++ "<lambda>" = zHW) (hcl:X.env.cells.lookup ("floor" : Str) = some cl) (hcell:s.heap.IsCell cl (some (.int f tf)))
    (h:∀ (F c':Addr) (H2:Hp) (s2:Shared),zG H H2→Inv X pins σ H2 s2→LamAt s2.heap F cl c' f→Q (.ref F) s2):wpAny (model X.prog X.w) X.A (eval (.Lambda lamA lamB lamS lamP) X.env) Q E s:=by
  refine PySem.W.kla_eval rfl ?_
  rw [hq]
  have C:PySem.W.CodeHd s.heap c T:=PySem.W.codeHd_of_K I.kIn hhd
  obtain ⟨ps,hP,ht,hent⟩:=I.hok T _ hT
  have hg:s.heap.Ns mainGlobals X.mg:=I.mod.glob.keeps I.bk
  have hgP:mainGlobals ≠ T:=fun z=>by
    obtain ⟨o,es,ep,e,hd,_⟩:=hg
    rw [z,hP] at e
    cases e
    cases hd
  have hb:s.heap.BuiltinsAt X.mg T:=by
    obtain ⟨bm,ob,b1,b2,b3,b4,b5,b6⟩:=I.mod.bm
    have b3':=I.bk _ _ b3
    refine ⟨bm,ob,b1,b2,fun z=>?_,fun z=>?_,b3',b4,b5,b6⟩
    · obtain ⟨o,es,ep,e,hd,_⟩:=hg
      rw [z,e] at b3'
      cases b3'
      rw [hd] at b6
      cases b6
    · rw [z,hP] at b3'
      cases b3'
      cases b4
  have ncl:cl ≠ T:=fun z=>by
    obtain ⟨o,e,hd⟩:=hcell
    rw [z,hP] at e
    cases e
    cases hd
  cases hf:codeAmong lamP ps.toList with
  | some cv =>
    obtain ⟨c',rfl,hown,hrec⟩:=hent _ _ hf
    refine PySem.W.kla_makeFunctionHit (mg:=X.mg) (clos_lam hcl) I.ok.glob hg hcode C hP ht hf hb fun ctv h' tk hk hsz=>?_
    have hk':∀ (o:Obj) b u,s.heap.get? b = some u→(h'.push o).get? b = some u:=fun o b u e=>Heap.get?_push_of_some _ (hk b u e)
    exact h _ c' H _ (zG.refl H) (I.kept (hk' _)) ⟨_,_,ctv,tf,Heap.get?_push_size _ rfl,rfl,hrec.keeps (hk' _),hcell.keeps (hk' _)⟩
  | none =>
    refine PySem.W.kla_makeFunction (mg:=X.mg) (clos_lam hcl) I.ok.glob hg hcode C hP ht hf hgP hb fun c' ctv h' tk hx hge hlt hrec htb=>?_
    have hnew:H c' = none:=I.hok.fresh hge
    have nT:c' ≠ T:=zM hT hnew |>.symm
    have hk':∀ (o:Obj) b u,b ≠ T→s.heap.get? b = some u→(h'.push o).get? b = some u:=fun o b u n e=>Heap.get?_push_of_some _ (hx b u n e)
    have low:∀ b u,s.heap.get? b = some u→b ≠ c':=fun b u e=>Nat.ne_of_lt (Nat.lt_of_lt_of_le (Heap.lt_size e) hge)
    have hrec':∀ o:Obj,(h'.push o).CodeRec (.ref c') zHW:=fun o=>hrec.push o
    have I2:Inv X pins σ (upd H c' (.own T)) { s with heap:=h'.push (PySem.W.kla_obj "<lambda>" zHW lamA lamB lamS [("floor", cl)] ((X.mg "__name__").getD .none) c' ctv),toks:=tk }:=by
      refine I.un ⟨fun b o e n _ _=>hk' _ b o (fun z=>by rw [z,hT] at n; cases n) e,fun b o e n _ _=>⟨o.slots,hk' _ b o (fun z=>by rw [z,hT] at n; cases n) e⟩,fun b o e n _=>?_,fun b o e _=>?_,fun b xs e=>?_,fun b o u e=>?_,fun b q e=>?_⟩ fun b u e=>?_
      · rw [zV (low b o e)]; exact n
      · by_cases z:b = T
        · exact ⟨_,by rw [z]; exact Heap.get?_push_of_some _ htb⟩
        · exact ⟨o,hk' _ b o z e⟩
      · rw [zV (zM e hnew)]; exact e
      · rw [zV (zM e hnew)]; exact e
      · rw [zV (zM e hnew)]; exact e
      · by_cases z1:b = c'
        · subst z1
          rw [zF] at e
          cases e
          obtain ⟨c2,o2,_,_,e2,ho2,_⟩:=hrec' (PySem.W.kla_obj "<lambda>" zHW lamA lamB lamS [("floor", cl)] ((X.mg "__name__").getD .none) b ctv)
          cases e2
          exact ⟨o2,ho2⟩
        · rw [zV z1] at e
          by_cases z2:b = T
          · subst z2
            rw [hT] at e
            cases e
            refine ⟨_,Heap.get?_push_of_some _ htb,?_,fun pos cv hc=>?_⟩
            · rw [Array.toList_append]
              exact triples_snoc _ ht
            · rw [Array.toList_append] at hc
              rcases among_snoc _ ht hc with z | z
              · obtain ⟨c3,e3,own3,rec3⟩:=hent pos cv z
                have n3:c3 ≠ b:=fun q=>by rw [q,hT] at own3; cases own3
                obtain ⟨c4,o4,v4,t4,e4,ho4,r4⟩:=rec3
                cases e4
                exact ⟨c3,e3,by rw [zV (zM own3 hnew)]; exact own3,c3,o4,v4,t4,rfl,hk' _ c3 o4 n3 ho4,r4⟩
              · exact ⟨c',z,zF,hrec' _⟩
          · refine (I.hok b u e).stay (fun d v hd q=>hk' _ d v ?_ q) (fun d q=>by rw [zV (zM q hnew)]; exact q) fun d xs q=>by rw [zV (zM q hnew)]; exact q
            rcases hd with hd | hd
            · rw [hd]; exact z2
            · intro q
              rw [q,hT] at hd
              cases hd
    exact h _ c' _ _ (zG.new hnew) I2 ⟨_,_,ctv,tf,Heap.get?_push_size _ rfl,rfl,hrec' _,let ⟨o,e,hd⟩:=hcell; ⟨o,hk' _ cl o ncl e,hd⟩⟩
end
def tMinK (K:PySem.W.Frag) (t:TA) (i:Nat):TE:=fun σ H Q=>t σ H fun vs H1=>∃ (a:Addr) (ns:List Int) (f:Int),vs = [.ref a]∧SqL K H1 a (ns.map V.int)∧0 < ns.length∧σ[i]? = some (some (.int f))∧∀ (H2:Hp) (M:Int),zG H1 H2→M ∈ ns→(∀ y ∈ ns,HT.zAP (kk f y) (kk f M) = false)→Q (.int M) H2
section
variable {X:Cx}
theorem env0_nil {A:Around} {outer:List Env} {s:Shared} {H:Hp} (e:zHR X.prog X.w X.K X.mg X.base A outer s H):zHR X.prog X.w [] X.mg X.base A outer s (fun _=>none) :=
  ⟨e.frames,⟨fun a o h=>(by cases h),e.mod.glob,e.mod.blt,e.mod.nolimit,e.mod.bm⟩,fun b o q=>⟨(e.bs b o q).1,rfl⟩,e.bsz,e.funs,fun _ _=>rfl,fun a o h=>(by cases h),e.bare,tb_nil⟩
theorem inv_kx {pins:List (Addr × Obj)} {σ:L2.St} {H:Hp} {s s':Shared} (I:Inv X pins σ H s) (os:s'.os = s.os) (bare:AllBare s'.gens) (k:KX (frs X.stack) [] s.heap s'.heap):Inv X pins σ H s':=by
  obtain ⟨hh,g,d,t,os'⟩:=s'
  obtain rfl:os' = s.os:=os
  refine I.call (h':=hh) (g':=g) (d':=d) (t':=t) (ch:=[]) ⟨fun b o e _ nb _=>k.keep b o e nb (by simp),fun b o e _ _ _=>k.slot b o e (by simp),fun _ _ _ n _=>n,fun b o e _=>?_,fun _ _ e=>e,fun _ _ _ e=>e,fun _ _ e=>e⟩ (fun b u e=>?_) bare (fun b z=>absurd z (by simp))
  · obtain ⟨sl,e1⟩:=k.slot b o e (by simp)
    exact ⟨_,e1⟩
  · refine (I.hok b u e).stay (fun c v hc q=>k.keep c v q (fun z=>?_) (by simp)) (fun _ q=>q) fun _ _ q=>q
    have n:=I.stkFree c z
    rcases hc with rfl | hc
    · rw [e] at n; cases n
    · rw [hc] at n; cases n
theorem pe_minK {p pos kpos:Pos} {e le:Expr} {t:TA} {c T:Addr} {i:Nat} (hr:zB7 1 X.A) (hg:Gl X "min") (hm:X.mg "min" = none) (hz:X.mg "abs" = none) (ha:PA X [e] t) (hle:le = .Lambda lamA lamB lamS lamP) (hcode:X.env.code = .ref c) (hhd:PySem.W.codeHdIn X.K c T = true) (hT:tabAt X.K X.mg T) (hq:X.env.qual ++ "<lambda>" = zHW)
    (hN:X.N[i]? = some "floor") (hv:Vis X.env.scope "floor") (hk:X.env.kindOf "floor" = some .cell)
    (he:backTo pos (starEach [e] X.env) = (false,eval e X.env) :: backTo pos (starEach [] X.env):=by rfl) (hpl:(backTo pos (starEach [e] X.env)).any (·.1) = false:=by rfl) :
    PE X (.Call (.Name "min" p) [e] [⟨some "key", le,kpos⟩] pos) (tMinK X.K t i):=by
  subst hle
  intro pins s σ H Q I h
  refine wpAny_Call_Name_kw (zIU I hg hm PyProof.Rows.boot_min ?_ (by decide) (by decide))
  refine callWith_kw (thn (ha pos pins s σ H _ I h) fun us s1 ⟨vs,H1,I1,r1,a,ns,f,ea,hs,hne,hσ,q⟩=>?_) he hpl
  subst ea
  show wpAny _ _ (evalAll ((do let v ← eval (.Lambda lamA lamB lamS lamP) X.env; standAt pos; pure v) :: [])) _ _ s1
  obtain ⟨m,hn,hl⟩:=id I1.loc
  obtain ⟨u,ru,lk⟩:=hl i "floor" _ hN hσ hv
  obtain ⟨tf,rfl⟩:=ru
  obtain ⟨cl,hcl,hcell⟩:∃ cl,X.env.cells.lookup ("floor" : Str) = some cl∧s1.heap.IsCell cl (some (.int f tf)):=by
    rcases lk with ⟨k1,_⟩ | ⟨_,cl,e1,e2⟩
    · rw [hk] at k1; cases k1
    · exact ⟨cl,e1,e2⟩
  refine wpAny_evalAll_cons (wpAny_bind (mk_lam I1 hcode hhd (I1.tab T hT) hq hcl hcell fun F c' H2 s2 s12 I2 hF=>wpAny_bind (wpAny_standAt (wpAny_pure ?_))))
  refine wpAny_evalAll_nil ?_
  obtain ⟨its,rv,hlst,_⟩:=I2.list (zG.seq s12 hs)
  rw [jS.ref1 r1]
  refine minK_call hr hz (env0_nil I2.env0) hlst.isList rv.ints hne hF fun s' M t' a1 a2 a3 a4 a5=>?_
  exact ⟨.int M,H2,inv_kx I2 a3 a4 a5,⟨t',rfl⟩,q H2 M s12 a1 a2⟩
end
def wF (K:PySem.W.Frag) (t:Adr):Sp:=fun vs H Q _=>∃ (a:Addr) (L:CL) (c:Lf.Car) (h:Lf.House),vs = [.ref a,.int (c.floor h:Nat)]∧zX K t H a L c∧c.stops ≠ []∧∀ H',zG H H'→Q (.int (c.towards h:Nat)) H'
theorem _root_.L2.Fun.okC {x qual:Str} {st:Stmt} {f:Addr} {fd:FuncData} {N ps:List Str} {k:Nat} {sp:Sp} (F:Fun K x qual st f fd) (S:zS N ps (zK st)) (len:∀ vs H Q E,sp vs H Q E→vs.length = ps.length)
    (hbody:∀ (cdv:Value) (A:Around) (outer:List Env) (s:Shared) (H:Hp) (vs:List V) (Q:VK) (E:XK),fd.code = cdv→(∃ o,K.lookup f = some o∧o.data = .func fd)→zB7 k (A.deeper (envOfC qual (zK st) s.heap.objs.size f cdv))→sp vs H Q E →
      ∃ t,PSs (cxOf CX0 P w K mg base N qual (zK st) f cdv A outer s H E).nox (jR st) t∧t { nx:=fun _ H'=>Q .non H',rt:=Q } (start N vs) H):qL P w K mg base CX0 (k + 1) f fd ps sp:=by
  obtain ⟨oc,od,kV,doc,pm,an,cdv,ct,osl,rfl,lk,hcd⟩:=F.ex
  refine fn_of lk hcd S len fun A outer s H vs Q E hr hsp=>?_
  obtain ⟨t,h,q⟩:=hbody cdv A outer s H vs Q E rfl ⟨_,lk,rfl⟩ hr hsp
  exact ⟨t,h.nox,q⟩
theorem tab_of (T:Txt K mg t) (hf:∃ o,K.lookup t.f_towards_nearest = some o∧o.data = .func t.d_towards_nearest):tabAt K mg t.tb:=by
  obtain ⟨o,lk,hd⟩:=hf
  have e:=T.L.hd
  unfold PySem.W.codeHdIn at e
  split at e
  · rename_i vs sl hk
    simp only [Bool.and_eq_true] at e
    have e1:=e.1.1.1.1.1
    split at e1
    · rename_i T' h11
      have hP:T' = t.tb:=beq_iff_eq.mp e1
      subst hP
      exact ⟨_,_,o,_,_,vs,T.D.towards_nearest.m,lk,hd,T.L.code,hk,rfl,h11⟩
    · cases e1
  · cases e
theorem near_of {f m y:Nat} (h:HT.zAP (kk (f:Int) (y:Int)) (kk (f:Int) (m:Int)) = false):LM.qE f m y:=by
  unfold kk at h
  rw [lex2f] at h
  unfold LM.qE Lf.distance
  split at h <;> split at h <;> omega
theorem zFO (T:Txt K mg t):qL P w K mg base CX0 2 t.f_towards_nearest t.d_towards_nearest ["car", "floor"] (wF K t):=by
  refine T.D.towards_nearest.F.okC zBA (fun vs H Q E h=>by obtain ⟨_,_,_,_,rfl,_⟩:=h; rfl) (fun cdv A outer s H vs Q E hcd hlk hr h=>?_)
  have ecd:cdv = .ref t.cb:=hcd.symm.trans T.L.code
  subst ecd
  obtain ⟨a,L,c,h,rfl,C,hs,q⟩:=h
  refine ⟨_,zC (yG (i:=2) zBA.nd rfl (by first | exact Or.inl rfl | exact Or.inr rfl) (pe_minK (c:=t.cb) (T:=t.tb) (i:=1) (hr.mono (by decide)) rfl T.G.z_min T.G.z_abs (zB (yA (zEZ T) (hr.mono (by decide)) rfl T.D.stops_of.m T.D.stops_of.F.kp T.D.stops_of.b .nil yD (zB (pv 0) zE)) zE) rfl rfl T.L.hd (tab_of T hlk) (show ("towards_nearest" : Str) ++ (".<locals>." : Str) ++ ("<lambda>" : Str) = zHW by decide +kernel) rfl (Or.inr (Or.inl rfl)) rfl)) (zH (zO (zCJ (zQ op_gt (pv 2) (pv 1) (zY _)) (yB rfl T.G.i_UP) (yB rfl T.G.i_DOWN)))),?_⟩
  refine zE7 C (zA rfl) H _ (zG.refl H) fun H1 p s1 n1 hp=>⟨p,c.stops.map (fun (n:Nat)=>(n:Int)),(c.floor h:Nat),rfl,?_,?_,rfl,fun H2 M s2 hM hn=>?_⟩
  · have e:=SqL.of (K:=K) hp
    rw [zE0] at e
    exact e
  · rw [List.length_map]
    exact List.length_pos_iff.mpr hs
  · obtain ⟨m,hm,rfl⟩:=List.mem_map.mp hM
    have hnear:∀ x ∈ c.stops,LM.qE (c.floor h) m x:=fun x hx=>near_of (hn (x:Int) (List.mem_map.mpr ⟨x,hx,rfl⟩))
    have et:=LM.zGX hm hnear
    refine yF (H0:=H2) (pu_if (b:=decide (((m:Nat):Int) > ((c.floor h:Nat):Int))) (zP (jN (g:=fun i j=>V.bl (decide (i > j))) (zA rfl) (zA rfl))) yH yH) (zG.refl _) fun H3 s3=>?_
    have q3:=q H3 ((s1.trans s2).trans s3)
    rw [et] at q3
    by_cases lt:c.floor h < m
    · rw [if_pos lt] at q3
      rw [if_pos (decide_eq_true (show ((m:Nat):Int) > ((c.floor h:Nat):Int) by omega))]
      exact q3
    · rw [if_neg lt] at q3
      rw [if_neg (fun z=>lt (by have:=of_decide_eq_true z; omega))]
      exact q3
theorem zFV {a:Addr} {L:CL} {c:Lf.Car} {h:Lf.House} (C:zX K t H0 a L c) (hs:c.stops ≠ []):∀ (H:Hp) (Q:VK),zG H0 H→(∀ H',zG H H'→Q (.int (c.towards h:Nat)) H')→wF K t ([.ref a,.int (c.floor h:Nat)] ++ []) H Q E0:=fun H Q s q=>⟨a,L,c,h,rfl,C.same s,hs,q⟩
def zHT (h:Lf.House) (c:Lf.Car):Nat:=if c.dir ≠ 0∧c.ahead h c.dir = true then c.dir else if c.dir ≠ 0∧c.ahead h (Lf.other c.dir) = true then Lf.other c.dir else c.towards h
def sp_way_on (K:PySem.W.Frag) (t:Adr):Sp:=fun vs H Q _=>∃ (a:Addr) (L:CL) (c:Lf.Car) (h:Lf.House),vs = [.ref a,.int (c.floor h:Nat)]∧zX K t H a L c∧c.stops ≠ []∧c.dir ≤ 2∧∀ H',zG H H'→Q (.int (zHT h c:Nat)) H'
theorem ok_way_on (T:Txt K mg t):qL P w K mg base CX0 3 t.f_way_on t.d_way_on ["car", "floor"] (sp_way_on K t):=by
  refine T.D.way_on.F.ok sc_way_on (fun vs H Q E h=>by obtain ⟨_,_,_,_,rfl,_⟩:=h; rfl) (fun cdv A outer s H vs Q E hr h=>?_)
  obtain ⟨a,L,c,h,rfl,C,hs,hd,q⟩:=h
  obtain ⟨⟨dx,hc⟩,h1,h2,h3,h4⟩:=id C
  refine ⟨_,zC (yX (zQ op_ne (zJ (pv 0) rfl) (yB rfl T.G.i_NONE) (zY _)) (zC (yX (zAJ (yA (yY T) (hr.mono (by decide)) rfl T.D.has_stop_beyond.m T.D.has_stop_beyond.F.kp T.D.has_stop_beyond.b .nil yD (zB (pv 0) (zB (pv 1) (zB (zJ (pv 0) rfl) zE))))) (zH (zO (zJ (pv 0) rfl))) (zU)) (zH (yX (zAJ (yA (yY T) (hr.mono (by decide)) rfl T.D.has_stop_beyond.m T.D.has_stop_beyond.F.kp T.D.has_stop_beyond.b .nil yD (zB (pv 0) (zB (pv 1) (zB (yA (zCK T) (hr.mono (by decide)) rfl T.D.opposite.m T.D.opposite.F.kp T.D.opposite.b .nil yD (zB (zJ (pv 0) rfl) zE)) zE))))) (zH (zO (yA (zCK T) (hr.mono (by decide)) rfl T.D.opposite.m T.D.opposite.F.kp T.D.opposite.b .nil yD (zB (zJ (pv 0) rfl) zE)))) (zU)))) (zU)) (zH (zO (yA (zFO T) (hr.mono (by decide)) rfl T.D.towards_nearest.m T.D.towards_nearest.F.kp T.D.towards_nearest.b .nil yD (zB (pv 0) (zB (pv 1) zE))))),?_⟩
  have last:∀ (D:zC4) (σ:L2.St) (H1:Hp),D.rt = Q→σ = [some (.ref a),some (.int (c.floor h:Nat))]→zG H H1→zHT h c = c.towards h→tRet (zC6 (wF K t) [] E0 (yW (zD4 0) (yW (zD4 1) zAG))) D σ H1:=by
    rintro D σ H1 e1 rfl s1 e2
    refine yF (xE (zD (zA rfl) (zD (zA rfl) zN)) (zFV C hs)) s1 fun H2 s2=>?_
    rw [e1,← e2]
    exact q H2 s2
  refine yK (zP (pu_ne (zI (zA rfl) (by assumption) T.C.k_Car.c T.C.n_Car_direction (zT _ _ _ _ _ _ _)) yH)) (zG.refl _) (fun H1 s1 e=>?_) (fun H1 s1 e=>?_)
  · have d0:c.dir ≠ 0:=by
      intro z
      rw [z] at e
      simp at e
    have d12:c.dir = 1∨c.dir = 2:=by omega
    refine yK (jH (xE (zD (zA rfl) (zD (zA rfl) (zD (zI (zA rfl) (by assumption) T.C.k_Car.c T.C.n_Car_direction (zT _ _ _ _ _ _ _)) zN))) (yZ C d12))) s1 (fun H1 s1 e1=>?_) (fun H1 s1 e1=>?_)
    · refine yF (zI (zA rfl) (by assumption) T.C.k_Car.c T.C.n_Car_direction (zT _ _ _ _ _ _ _)) s1 fun H2 s2=>qv (q H2 s2) ?_
      unfold zHT
      rw [if_pos ⟨d0,e1⟩]
    have n1:¬ (c.dir ≠ 0∧c.ahead h c.dir = true):=fun z=>by rw [e1] at z; exact Bool.false_ne_true z.2
    refine st_if (u:=tNext) (jH (xE (zD (zA rfl) (zD (zA rfl) (zD (xE (zD (zI (zA rfl) (by assumption) T.C.k_Car.c T.C.n_Car_direction (zT _ _ _ _ _ _ _)) zN) zCO) zN))) (yZ C oppo_12))) s1 (fun H1 s1 e2=>?_) (fun H1 s1 e2=>?_)
    · refine yF (xE (zD (zI (zA rfl) (by assumption) T.C.k_Car.c T.C.n_Car_direction (zT _ _ _ _ _ _ _)) zN) zCO) s1 fun H2 s2=>qv (q H2 s2) ?_
      rw [zAU d12] at e2 ⊢
      unfold zHT
      rw [if_neg n1,if_pos ⟨d0,e2⟩]
    · rw [zAU d12] at e2
      refine last _ _ H1 rfl rfl s1 ?_
      unfold zHT
      rw [if_neg n1,if_neg fun z=>by rw [e2] at z; exact Bool.false_ne_true z.2]
  · have d0:c.dir = 0:=by
      simp at e
      omega
    refine last _ _ H1 rfl rfl s1 ?_
    unfold zHT
    rw [if_neg fun z=>z.1 d0,if_neg fun z=>z.1 d0]
theorem cl_way_on {a:Addr} {L:CL} {c:Lf.Car} {h:Lf.House} (C:zX K t H0 a L c) (hs:c.stops ≠ []) (hd:c.dir ≤ 2):∀ (H:Hp) (Q:VK),zG H0 H→(∀ H',zG H H'→Q (.int (zHT h c:Nat)) H')→sp_way_on K t ([.ref a,.int (c.floor h:Nat)] ++ []) H Q E0:=fun H Q s q=>⟨a,L,c,h,rfl,C.same s,hs,hd,q⟩
def gone (c:Lf.Car) (n:Nat):Lf.Car:={ c with does_:=1,pos:=if c.dir = 1 then c.pos + n else c.pos - n }
def sp_go_on (K:PySem.W.Frag) (t:Adr):Sp:=fun vs H Q _=>∃ (a:Addr) (L:CL) (c:Lf.Car) (n:Nat),vs = [.ref a,.int n]∧zX K t H a L c∧(c.dir ≠ 1→n ≤ c.pos)∧∀ H',zX K t H' a L (gone c n)→But a H H'→Q .non H'
theorem ok_go_on (T:Txt K mg t):qL P w K mg base CX0 1 t.f_go_on t.d_go_on ["car", "ticks"] (sp_go_on K t):=by
  refine T.D.go_on.F.ok sc_go_on (fun vs H Q E h=>by obtain ⟨_,_,_,_,rfl,_⟩:=h; rfl) (fun cdv A outer s H vs Q E hr h=>?_)
  obtain ⟨a,L,c,n,rfl,C,hn,q⟩:=h
  obtain ⟨⟨dx,hc⟩,h1,h2,h3,h4⟩:=id C
  refine ⟨_,zC (yI (pv 0) (yB rfl T.G.i_MOVING) rfl) (zH (yX (zQ qJ (zJ (pv 0) rfl) (yB rfl T.G.i_UP) (zY _)) (zH (zB2 (pv 0) (pv 1) in_add)) (zH (zB2 (pv 0) (pv 1) in_sub)))),?_⟩
  refine wL (c':={ c with does_:=1 }) C hc yH (zA rfl) (zG.refl _) T.C.k_Car.c T.C.n_Car_doing (jG ..) rfl rfl rfl fun H1 C1 g1 b1=>?_
  refine st_if (zP (zA2 (zI (zA rfl) (by assumption) T.C.k_Car.c T.C.n_Car_direction (zT _ _ _ _ _ _ _)) yH)) (zG.refl _) (fun H2 s2 e=>?_) (fun H2 s2 e=>?_)
  · have e1:c.dir = 1:=by
      have z:((c.dir:Nat):Int) = 1:=of_decide_eq_true e
      omega
    refine st_cadd (c':={ c with does_:=1,pos:=c.pos + n }) C1 g1 (zA rfl) (zA rfl) s2 T.C.k_Car.c T.C.n_Car_place (qK ..) (zBU ..) rfl rfl rfl fun H3 C3 g3 b3=>q H3 ?_ (b1.trans b3)
    unfold gone
    rw [if_pos e1]
    exact C3
  · have e1:c.dir ≠ 1:=by
      have z:¬ ((c.dir:Nat):Int) = 1:=of_decide_eq_false e
      omega
    have le:=hn e1
    refine st_csub (c':={ c with does_:=1,pos:=c.pos - n }) C1 g1 (zA rfl) (zA rfl) s2 T.C.k_Car.c T.C.n_Car_place (qK ..) (Eq.trans (zBU ..) ?_) rfl rfl rfl fun H3 C3 g3 b3=>q H3 ?_ (b1.trans b3)
    · show zBV (.int ((c.pos:Int) - n)) _ _ _ _ _ _ = zBV (.int ((c.pos - n:Nat):Int)) _ _ _ _ _ _
      rw [Int.ofNat_sub le]
    · unfold gone
      rw [if_neg e1]
      exact C3
theorem st_go {σ:L2.St} {H:Hp} {ta tb:TE} {r:TS} {D:zC4} {a:Addr} {L:CL} {c:Lf.Car} {n:Nat} (C:zX K t H0 a L c) (hn:c.dir ≠ 1→n ≤ c.pos) (ha:PuE ta σ H0 (.ref a)) (hb:PuE tb σ H0 (.int (n:Int))) (s:zG H0 H)
    (q:∀ H',zX K t H' a L (gone c n)→But a H0 H'→r D σ H'):zBW (zC0 (zC6 (sp_go_on K t) [] E0 (yW ta (yW tb zAG)))) r D σ H :=
  ha H _ s fun H1 s1=>hb H1 _ (s.trans s1) fun H2 s2=>⟨a,L,c,n,rfl,C.same ((s.trans s1).trans s2),hn,fun H3 C3 b3=>q H3 C3 ((But.of ((s.trans s1).trans s2)).trans b3)⟩
def free (h:Lf.House) (c:Lf.Car):Prop:=c.does_ ≤ 1→c.inside.length < h.room∨c.pressed ≠ []
def sp_tick_closed (K:PySem.W.Frag) (t:Adr):Sp:=fun vs H Q _=>∃ (a p:Addr) (L:CL) (c:Lf.Car) (h:Lf.House),vs = [.ref a,.ref p]∧zX K t H a L c∧xO t H p h∧LM.xJ c∧LM.yE h∧free h c∧c.does_ ≤ 1 ∧
  ∀ H' (L':CL),zX K t H' a L' (c.alone h)→LRel H L L'→But a H H'→Q (.int (LM.yR h c:Nat)) H'
theorem floor_eq (c:Lf.Car) (h:Lf.House):(c.pos:Int) / (h.speed:Int) = ((c.floor h:Nat):Int):=by
  unfold Lf.Car.floor
  rw [Int.natCast_ediv]
theorem zIB (c:Lf.Car) (h:Lf.House):(c.pos:Int) % (h.speed:Int) = ((c.pos % h.speed:Nat):Int):=by
  rw [Int.natCast_emod]
theorem ok_tick_closed (T:Txt K mg t):qL P w K mg base CX0 5 t.f_tick_closed t.d_tick_closed ["car", "plan"] (sp_tick_closed K t):=by
  refine T.D.tick_closed.F.ok zED (fun vs H Q E h=>by obtain ⟨_,_,_,_,_,rfl,_⟩:=h; rfl) (fun cdv A outer s H vs Q E hr h=>?_)
  obtain ⟨a,p,L,c,h,rfl,C,Pn,ok,hh,fr,cl,q⟩:=h
  obtain ⟨⟨dx,hc⟩,h1,h2,h3,h4⟩:=id C
  obtain ⟨dp,hp⟩:=id Pn
  have hd:=ok.dir
  have sp1:=hh.sp
  have sp2:=hh.spm
  have ac:c.alone h = c.next h:=LM.zDU cl
  refine ⟨_,zC (yX (zQ op_ne (qX op_mod (zJ (pv 0) rfl) (zJ (pv 1) rfl)) yC (zY _)) (zC (xL (yA (ok_go_on T) (hr.mono (by decide)) rfl T.D.go_on.m T.D.go_on.F.kp T.D.go_on.b .nil yD (zB (pv 0) (zB yC zE)))) (zH (zO (yB rfl T.G.i_NOTHING)))) (zU)) (zC (yG (i:=2) zED.nd rfl (by first | exact Or.inl rfl | exact Or.inr rfl) (qX op_fdiv (zJ (pv 0) rfl) (zJ (pv 1) rfl))) (zC (yX (pt_not (zAJ (yA (zG7 T) (hr.mono (by decide)) rfl T.D.has_stops.m T.D.has_stops.F.kp T.D.has_stops.b .nil yD (zB (pv 0) zE)))) (zC (yI (pv 0) (yB rfl T.G.i_CLOSED) rfl) (zC (yI (pv 0) (yB rfl T.G.i_NONE) rfl) (zH (zO (yB rfl T.G.i_NOTHING))))) (zU)) (zC (yX (zAJ (yA (ok_opens_at T) (hr.mono (by decide)) rfl T.D.opens_at.m T.D.opens_at.F.kp T.D.opens_at.b .nil yD (zB (pv 0) (zB (pv 1) (zB (pv 2) zE))))) (zC (xL (yA (zHJ T) (hr.mono (by decide)) rfl T.D.begin_opening.m T.D.begin_opening.F.kp T.D.begin_opening.b .nil yD (zB (pv 0) (zB (pv 1) (zB (pv 2) zE))))) (zH (zO (yB rfl T.G.i_DOORS_BEGIN)))) (zU)) (zC (yI (pv 0) (yA (ok_way_on T) (hr.mono (by decide)) rfl T.D.way_on.m T.D.way_on.F.kp T.D.way_on.b .nil yD (zB (pv 0) (zB (pv 2) zE))) rfl) (zC (xL (yA (ok_go_on T) (hr.mono (by decide)) rfl T.D.go_on.m T.D.go_on.F.kp T.D.go_on.b .nil yD (zB (pv 0) (zB yC zE)))) (zH (zO (yB rfl T.G.i_NOTHING)))))))),?_⟩
  refine yK (zP (pu_ne (pu_iC (zI (zA rfl) (by assumption) T.C.k_Car.c T.C.n_Car_place (qK _ _ _ _ _ _ _)) (zI (zA rfl) (by assumption) T.C.k_Plan.c T.C.n_Plan_speed (wS _ _ _ _ _ _ _)) (by first | exact ⟨by omega,by omega⟩ | (show (0:Int) < _; omega))) yH)) (zG.refl _) (fun H1 s1 e=>?_) (fun H1 s1 e=>?_)
  · have l0:c.pos % h.speed ≠ 0:=by
      rw [zIB] at e
      intro z
      rw [z] at e
      simp at e
    have pp:1 ≤ c.pos:=Nat.pos_of_ne_zero fun z=>by rw [z,Nat.zero_mod] at l0; exact l0 rfl
    have lv:c.level h = false:=LM.zCM.mpr l0
    refine st_go C (n:=1) (fun _=>pp) (zA rfl) yH s1 fun H2 C2 b2=>?_
    refine yF yH (zG.refl _) fun H3 s3=>qv (q H3 L (zX.same (by rw [ac]; unfold Lf.Car.next; rw [if_pos lv]; exact C2) s3) (LRel.refl _ _) (b2.trans (But.of s3))) ?_
    unfold LM.yR
    rw [if_pos cl,if_neg (by rw [lv]; exact fun z=>Bool.false_ne_true z.1)]
    rfl
  have l0:c.pos % h.speed = 0:=by
    rw [zIB] at e
    simp at e
    omega
  have lv:c.level h = true:=LM.zIR.mpr l0
  have lv':¬ c.level h = false:=by rw [lv]; exact fun z=>Bool.noConfusion z
  refine xY (pu_iC (zI (zA rfl) (by assumption) T.C.k_Car.c T.C.n_Car_place (qK _ _ _ _ _ _ _)) (zI (zA rfl) (by assumption) T.C.k_Plan.c T.C.n_Plan_speed (wS _ _ _ _ _ _ _)) (by first | exact ⟨by omega,by omega⟩ | (show (0:Int) < _; omega))) s1 fun H1 s1=>?_
  rw [floor_eq]
  refine yK (pu_not (jH (xE (zD (zA rfl) zN) (zHA (by assumption))))) s1 (fun H1 s1 e=>?_) (fun H1 s1 e=>?_)
  · have es:c.stops.isEmpty = true:=by simpa using e
    refine wL (c':={ c with does_:=0 }) C hc yH (zA rfl) s1 T.C.k_Car.c T.C.n_Car_doing (jG ..) rfl rfl rfl fun H2 C2 g2 b2=>?_
    refine wL (c':={ c with does_:=0,dir:=0 }) C2 g2 yH (zA rfl) (zG.refl _) T.C.k_Car.c T.C.n_Car_direction (jE ..) rfl rfl rfl fun H3 C3 g3 b3=>?_
    refine yF yH (zG.refl _) fun H4 s4=>qv (q H4 L (zX.same (by rw [ac]; unfold Lf.Car.next; rw [if_neg lv',if_pos es]; exact C3) s4) (LRel.refl _ _) ((b2.trans b3).trans (But.of s4))) ?_
    unfold LM.yR
    rw [if_pos cl,if_neg (fun z=>z.2.1 (List.isEmpty_iff.mp es))]
    rfl
  have es':¬ c.stops.isEmpty = true:=by
    intro z
    rw [z] at e
    simp at e
  have es:c.stops ≠ []:=fun z=>es' (by rw [z]; rfl)
  refine yK (jH (xE (zD (zA rfl) (zD (zA rfl) (zD (zA rfl) zN))) (cl_opens_at (by assumption) (by assumption) (by assumption)))) s1 (fun H1 s1 e=>?_) (fun H1 s1 e=>?_)
  · refine zFF (zD (zA rfl) (zD (zA rfl) (zD (zA rfl) zN))) s1 fun H1 s1=>⟨a,p,L,c,h,rfl,C.same s1,Pn.same s1,ok,fun H2 L2 C2 l1 l2 l3 l4 b2=>?_⟩
    show tRet _ _ _ _
    refine yF (H0:=H2) yH (zG.refl _) fun H3 s3=>qv (q H3 L2 (zX.same (by rw [ac]; unfold Lf.Car.next; rw [if_neg lv',if_neg es',if_pos e]; exact C2) s3) ⟨l1,.inr ⟨s1.free l2,s1.free l3,l4⟩⟩ (((But.of s1).trans b2).trans (But.of s3))) ?_
    unfold LM.yR
    rw [if_pos cl,if_pos ⟨lv,es,e⟩]
    rfl
  have no':¬ c.opens h = true:=by rw [e]; exact Bool.false_ne_true
  have gp:=LM.go_pos hh ok (fr cl) es e (d:=zHT h c) rfl
  refine wL (c':={ c with dir:=zHT h c }) C hc (xE (zD (zA rfl) (zD (zA rfl) zN)) (cl_way_on C es hd)) (zA rfl) s1 T.C.k_Car.c T.C.n_Car_direction (jE ..) rfl rfl rfl fun H2 C2 g2 b2=>?_
  refine st_go C2 (n:=1) (fun z=>gp.2 (gp.1.resolve_left z)) (zA rfl) yH (zG.refl _) fun H3 C3 b3=>?_
  refine yF (H0:=H3) yH (zG.refl _) fun H4 s4=>qv (q H4 L (zX.same ?_ s4) (LRel.refl _ _) ((b2.trans b3).trans (But.of s4))) ?_
  · have e9:c.alone h = gone { c with dir:=zHT h c } 1:=by
      rw [ac]
      unfold Lf.Car.next
      rw [if_neg lv',if_neg es',if_neg no']
      unfold zHT gone
      by_cases n1:c.dir ≠ 0∧c.ahead h c.dir = true
      · simp only [if_pos n1]
        rfl
      · by_cases n2:c.dir ≠ 0∧c.ahead h (Lf.other c.dir) = true
        · simp only [if_neg n1,if_pos n2]
          rfl
        · simp only [if_neg n1,if_neg n2]
          rfl
    rw [e9]
    exact C3
  · unfold LM.yR
    rw [if_pos cl,if_neg (fun z=>no' z.2.2)]
    rfl
def sp_tick_doors (K:PySem.W.Frag) (t:Adr):Sp:=fun vs H Q _=>∃ (a p:Addr) (L:CL) (c:Lf.Car) (h:Lf.House),vs = [.ref a,.ref p]∧zX K t H a L c∧xO t H p h∧LM.xJ c∧2 ≤ c.does_ ∧
  ∀ H',zX K t H' a L (c.alone h)→But a H H'→Q (.int (LM.yR h c:Nat)) H'
theorem ok_tick_doors (T:Txt K mg t):qL P w K mg base CX0 1 t.f_tick_doors t.d_tick_doors ["car", "plan"] (sp_tick_doors K t):=by
  refine T.D.tick_doors.F.ok sc_tick_doors (fun vs H Q E h=>by obtain ⟨_,_,_,_,_,rfl,_⟩:=h; rfl) (fun cdv A outer s H vs Q E hr h=>?_)
  obtain ⟨a,p,L,c,h,rfl,C,Pn,ok,d2,q⟩:=h
  obtain ⟨⟨dx,hc⟩,h1,h2,h3,h4⟩:=id C
  have hl:=ok.left d2
  have d4:=ok.does_
  have nd:¬ c.does_ ≤ 1:=by omega
  refine ⟨_,zC (zB2 (pv 0) yC in_sub) (zC (yX (zQ op_gt (zJ (pv 0) rfl) yC (zY _)) (zH (zO (yB rfl T.G.i_NOTHING))) (zU)) (zC (yX (zQ qJ (zJ (pv 0) rfl) (yB rfl T.G.i_OPENING) (zY _)) (zC (yI (pv 0) (yB rfl T.G.i_OPENED) rfl) (zC (yI (pv 0) (zJ (pv 1) rfl) rfl) (zH (zO (yB rfl T.G.i_DOORS_STAND))))) (zU)) (zC (yX (zQ qJ (zJ (pv 0) rfl) (yB rfl T.G.i_OPENED) (zY _)) (zC (yI (pv 0) (yB rfl T.G.i_CLOSING) rfl) (zC (yI (pv 0) (zJ (pv 1) rfl) rfl) (zH (zO (yB rfl T.G.i_NOTHING))))) (zU)) (zC (yI (pv 0) (yB rfl T.G.i_CLOSED) rfl) (zH (zO (yB rfl T.G.i_DOORS_SHUT))))))),?_⟩
  refine st_csubS (c':={ c with left:=c.left - 1 }) C hc yH (zA rfl) (zG.refl _) T.C.k_Car.c T.C.n_Car_yet (zD2 ..) (Eq.trans (wA ..) ?_) rfl rfl rfl fun H1 C1 g1 b1=>?_
  · show zBV _ _ _ (.int ((c.left:Int) - 1)) _ _ _ = zBV _ _ _ (.int ((c.left - 1:Nat):Int)) _ _ _
    rw [Int.ofNat_sub hl]
    rfl
  have P1:=xO.but b1 hc Pn
  obtain ⟨dp,hp⟩:=id P1
  refine yK (zP (jN (zI (zA rfl) (by assumption) T.C.k_Car.c T.C.n_Car_yet (zD2 _ _ _ _ _ _ _)) yH)) (zG.refl _) (fun H2 s2 e=>?_) (fun H2 s2 e=>?_)
  · have e1:1 < c.left:=by
      have z:(0:Int) < ((c.left - 1:Nat):Int):=of_decide_eq_true e
      omega
    refine yF yH s2 fun H3 s3=>qv (q H3 (zX.same (by unfold Lf.Car.alone; rw [if_neg nd,if_pos e1]; exact C1) s3) (b1.trans (But.of s3))) ?_
    unfold LM.yR
    rw [if_neg nd,if_pos e1]
    rfl
  have e1:¬ 1 < c.left:=by
    have z:¬ (0:Int) < ((c.left - 1:Nat):Int):=of_decide_eq_false e
    omega
  have e0:c.left - 1 = 0:=by omega
  refine yK (zP (zA2 (zI (zA rfl) (by assumption) T.C.k_Car.c T.C.n_Car_doing (jM _ _ _ _ _ _ _)) yH)) s2 (fun H2 s2 e=>?_) (fun H2 s2 e=>?_)
  · have e2:c.does_ = 2:=by
      have z:((c.does_:Nat):Int) = 2:=of_decide_eq_true e
      omega
    refine wL (c':={ c with left:=c.left - 1,does_:=3 }) C1 g1 yH (zA rfl) s2 T.C.k_Car.c T.C.n_Car_doing (jG ..) rfl rfl rfl fun H3 C3 g3 b3=>?_
    have P3:=xO.but b3 g1 P1
    obtain ⟨dp,hp⟩:=id P3
    refine wL (c':={ c with left:=h.stand,does_:=3 }) C3 g3 (zI (zA rfl) (by assumption) T.C.k_Plan.c T.C.n_Plan_standing (planF_standing _ _ _ _ _ _ _)) (zA rfl) (zG.refl _) T.C.k_Car.c T.C.n_Car_yet (wA ..) rfl rfl rfl fun H4 C4 g4 b4=>?_
    refine yF yH (zG.refl _) fun H5 s5=>qv (q H5 (zX.same (by unfold Lf.Car.alone; rw [if_neg nd,if_neg e1,if_pos e2]; exact C4) s5) (((b1.trans b3).trans b4).trans (But.of s5))) ?_
    unfold LM.yR
    rw [if_neg nd,if_neg e1,if_pos e2]
    rfl
  have e2:¬ c.does_ = 2:=by
    have z:¬ ((c.does_:Nat):Int) = 2:=of_decide_eq_false e
    omega
  refine yK (zP (zA2 (zI (zA rfl) (by assumption) T.C.k_Car.c T.C.n_Car_doing (jM _ _ _ _ _ _ _)) yH)) s2 (fun H2 s2 e=>?_) (fun H2 s2 e=>?_)
  · have e3:c.does_ = 3:=by
      have z:((c.does_:Nat):Int) = 3:=of_decide_eq_true e
      omega
    refine wL (c':={ c with left:=c.left - 1,does_:=4 }) C1 g1 yH (zA rfl) s2 T.C.k_Car.c T.C.n_Car_doing (jG ..) rfl rfl rfl fun H3 C3 g3 b3=>?_
    have P3:=xO.but b3 g1 P1
    obtain ⟨dp,hp⟩:=id P3
    refine wL (c':={ c with left:=h.close,does_:=4 }) C3 g3 (zI (zA rfl) (by assumption) T.C.k_Plan.c T.C.n_Plan_closing (planF_closing _ _ _ _ _ _ _)) (zA rfl) (zG.refl _) T.C.k_Car.c T.C.n_Car_yet (wA ..) rfl rfl rfl fun H4 C4 g4 b4=>?_
    refine yF yH (zG.refl _) fun H5 s5=>qv (q H5 (zX.same (by unfold Lf.Car.alone; rw [if_neg nd,if_neg e1,if_neg e2,if_pos e3]; exact C4) s5) (((b1.trans b3).trans b4).trans (But.of s5))) ?_
    unfold LM.yR
    rw [if_neg nd,if_neg e1,if_neg e2,if_pos e3]
    rfl
  have e3:¬ c.does_ = 3:=by
    have z:¬ ((c.does_:Nat):Int) = 3:=of_decide_eq_false e
    omega
  refine wL (c':={ c with left:=0,does_:=0 }) C1 g1 yH (zA rfl) s2 T.C.k_Car.c T.C.n_Car_doing (Eq.trans (jG ..) (by rw [e0]; rfl)) rfl rfl rfl fun H3 C3 g3 b3=>?_
  refine yF yH (zG.refl _) fun H5 s5=>qv (q H5 (zX.same (by unfold Lf.Car.alone; rw [if_neg nd,if_neg e1,if_neg e2,if_neg e3]; exact C3) s5) ((b1.trans b3).trans (But.of s5))) ?_
  unfold LM.yR
  rw [if_neg nd,if_neg e1,if_neg e2,if_neg e3]
  rfl
def sp_tick_car (K:PySem.W.Frag) (t:Adr):Sp:=fun vs H Q _=>∃ (a p:Addr) (L:CL) (c:Lf.Car) (h:Lf.House),vs = [.ref a,.ref p]∧zX K t H a L c∧xO t H p h∧LM.xJ c∧LM.yE h∧free h c ∧
  ∀ H' (L':CL),zX K t H' a L' (c.alone h)→LRel H L L'→But a H H'→Q (.int (LM.yR h c:Nat)) H'
theorem LRel.same {H H1:Hp} {L L':CL} (s:zG H H1) (l:LRel H1 L L'):LRel H L L':=⟨l.1,l.2.imp id fun ⟨x,y,z⟩=>⟨s.free x,s.free y,z⟩⟩
theorem zIK (T:Txt K mg t):qL P w K mg base CX0 6 t.f_tick_car t.d_tick_car ["car", "plan"] (sp_tick_car K t):=by
  refine T.D.tick_car.F.ok sc_tick_car (fun vs H Q E h=>by obtain ⟨_,_,_,_,_,rfl,_⟩:=h; rfl) (fun cdv A outer s H vs Q E hr h=>?_)
  obtain ⟨a,p,L,c,h,rfl,C,Pn,ok,hh,fr,q⟩:=h
  obtain ⟨⟨dx,hc⟩,h1,h2,h3,h4⟩:=id C
  refine ⟨_,zC (yX (PW.pt (pw_or (zQ qJ (zJ (pv 0) rfl) (yB rfl T.G.i_CLOSED) (zY _)) (pw_or1 (zQ qJ (zJ (pv 0) rfl) (yB rfl T.G.i_MOVING) (zY _))))) (zH (zO (yA (ok_tick_closed T) (hr.mono (by decide)) rfl T.D.tick_closed.m T.D.tick_closed.F.kp T.D.tick_closed.b .nil yD (zB (pv 0) (zB (pv 1) zE))))) (zU)) (zH (zO (yA (ok_tick_doors T) (hr.mono (by decide)) rfl T.D.tick_doors.m T.D.tick_doors.F.kp T.D.tick_doors.b .nil yD (zB (pv 0) (zB (pv 1) zE))))),?_⟩
  refine yK (pu_or (zP (zA2 (zI (zA rfl) (by assumption) T.C.k_Car.c T.C.n_Car_doing (jM _ _ _ _ _ _ _)) yH)) (fun _=>(zP (zA2 (zI (zA rfl) (by assumption) T.C.k_Car.c T.C.n_Car_doing (jM _ _ _ _ _ _ _)) yH)))) (zG.refl _) (fun H2 s2 e=>?_) (fun H2 s2 e=>?_)
  · have cl:c.does_ ≤ 1:=by
      rw [Bool.or_eq_true,decide_eq_true_eq,decide_eq_true_eq] at e
      omega
    exact st_callR (zD (zA rfl) (zD (zA rfl) zN)) s2 fun H3 s3=>⟨a,p,L,c,h,rfl,C.same s3,Pn.same s3,ok,hh,fr,cl,fun H4 L4 C4 l4 b4=>q H4 L4 C4 (l4.same s3) ((But.of s3).trans b4)⟩
  · have cl:2 ≤ c.does_:=by
      rw [Bool.or_eq_false_iff,decide_eq_false_iff_not,decide_eq_false_iff_not] at e
      omega
    exact st_callR (zD (zA rfl) (zD (zA rfl) zN)) s2 fun H3 s3=>⟨a,p,L,c,h,rfl,C.same s3,Pn.same s3,ok,cl,fun H4 C4 b4=>q H4 L C4 (LRel.refl _ _) ((But.of s3).trans b4)⟩
def zBK (K:PySem.W.Frag) (t:Adr):Sp:=fun vs H Q _=>∃ (a p:Addr) (L:CL) (c:Lf.Car) (h:Lf.House),vs = [.ref a,.ref p]∧zX K t H a L c∧xO t H p h∧LM.xJ c∧LM.yE h∧∀ H',zG H H'→Q (.int (LM.quiet h c:Nat)) H'
theorem zEG (T:Txt K mg t):qL P w K mg base CX0 2 t.f_quiet_ticks t.d_quiet_ticks ["car", "plan"] (zBK K t):=by
  refine T.D.quiet_ticks.F.ok zEE (fun vs H Q E h=>by obtain ⟨_,_,_,_,_,rfl,_⟩:=h; rfl) (fun cdv A outer s H vs Q E hr h=>?_)
  obtain ⟨a,p,L,c,h,rfl,C,Pn,ok,hh,q⟩:=h
  obtain ⟨⟨dx,hc⟩,h1,h2,h3,h4⟩:=id C
  obtain ⟨dp,hp⟩:=id Pn
  have sp1:=hh.sp
  have sp2:=hh.spm
  refine ⟨_,zC (yX (PW.pt (pw_and (zQ op_ne (zJ (pv 0) rfl) (yB rfl T.G.i_CLOSED) (zY _)) (pw_and1 (zQ op_ne (zJ (pv 0) rfl) (yB rfl T.G.i_MOVING) (zY _))))) (zH (zO (qX zG6 (zJ (pv 0) rfl) yC))) (zU)) (zC (yG (i:=2) zEE.nd rfl (by first | exact Or.inl rfl | exact Or.inr rfl) (qX op_mod (zJ (pv 0) rfl) (zJ (pv 1) rfl))) (zC (yX (zQ op_ne (pv 2) yC (zY _)) (zH (zO (zCJ (zQ qJ (zJ (pv 0) rfl) (yB rfl T.G.i_UP) (zY _)) (qX zG6 (zJ (pv 1) rfl) (pv 2)) (pv 2)))) (zU)) (zC (yX (PW.pt (pw_and (zQ qJ (zJ (pv 0) rfl) (yB rfl T.G.i_CLOSED) (zY _)) (pw_and (zQ qJ (zJ (pv 0) rfl) (yB rfl T.G.i_NONE) (zY _)) (pw_and1 (pt_not (zAJ (yA (zG7 T) (hr.mono (by decide)) rfl T.D.has_stops.m T.D.has_stops.F.kp T.D.has_stops.b .nil yD (zB (pv 0) zE)))))))) (zH (zO (yB rfl T.G.i_FOREVER))) (zU)) (zH (zO yC))))),?_⟩
  refine yK (pu_and (zP (pu_ne (zI (zA rfl) (by assumption) T.C.k_Car.c T.C.n_Car_doing (jM _ _ _ _ _ _ _)) yH)) (fun _=>(zP (pu_ne (zI (zA rfl) (by assumption) T.C.k_Car.c T.C.n_Car_doing (jM _ _ _ _ _ _ _)) yH)))) (zG.refl _) (fun H1 s1 e=>?_) (fun H1 s1 e=>?_)
  · have d2:2 ≤ c.does_:=by
      simp at e
      omega
    have hl:=ok.left d2
    refine yF (jN (zI (zA rfl) (by assumption) T.C.k_Car.c T.C.n_Car_yet (zD2 _ _ _ _ _ _ _)) yH) s1 fun H2 s2=>qv (q H2 s2) ?_
    unfold LM.quiet
    rw [if_pos d2,Int.ofNat_sub hl]
    rfl
  have d2:¬ 2 ≤ c.does_:=by
    rw [Bool.and_eq_false_iff] at e
    simp at e
    omega
  refine xY (pu_iC (zI (zA rfl) (by assumption) T.C.k_Car.c T.C.n_Car_place (qK _ _ _ _ _ _ _)) (zI (zA rfl) (by assumption) T.C.k_Plan.c T.C.n_Plan_speed (wS _ _ _ _ _ _ _)) (by first | exact ⟨by omega,by omega⟩ | (show (0:Int) < _; omega))) s1 fun H1 s1=>?_
  rw [zIB]
  have lt:c.pos % h.speed < h.speed:=Nat.mod_lt _ sp1
  refine yK (zP (pu_ne (zA rfl) yH)) s1 (fun H1 s1 e=>?_) (fun H1 s1 e=>?_)
  · have l0:c.pos % h.speed ≠ 0:=by
      intro z
      rw [z] at e
      simp at e
    refine yF (pu_if (zP (zA2 (zI (zA rfl) (by assumption) T.C.k_Car.c T.C.n_Car_direction (zT _ _ _ _ _ _ _)) yH)) (jN (zI (zA rfl) (by assumption) T.C.k_Plan.c T.C.n_Plan_speed (wS _ _ _ _ _ _ _)) (zA rfl)) (zA rfl)) s1 fun H2 s2=>qv (q H2 s2) ?_
    unfold LM.quiet
    rw [if_neg d2,if_pos l0]
    by_cases e1:c.dir = 1
    · rw [if_pos e1,if_pos (by rw [e1]; rfl),Int.ofNat_sub (Nat.le_of_lt lt)]
    · rw [if_neg e1,if_neg (by simp; omega)]
  have l0:¬ c.pos % h.speed ≠ 0:=by
    intro z
    simp at e
    omega
  refine yK (pu_and (zP (zA2 (zI (zA rfl) (by assumption) T.C.k_Car.c T.C.n_Car_doing (jM _ _ _ _ _ _ _)) yH)) (fun _=>(pu_and (zP (zA2 (zI (zA rfl) (by assumption) T.C.k_Car.c T.C.n_Car_direction (zT _ _ _ _ _ _ _)) yH)) (fun _=>(pu_not (jH (xE (zD (zA rfl) zN) (zHA (by assumption))))))))) s1 (fun H1 s1 e=>?_) (fun H1 s1 e=>?_)
  · refine yF yH s1 fun H2 s2=>qv (q H2 s2) ?_
    have e1:c.does_ = 0∧c.dir = 0∧c.stops = []:=by
      simp at e
      exact ⟨by omega,by omega,e.2.2⟩
    unfold LM.quiet
    rw [if_neg d2,if_neg l0,if_pos e1]
    rfl
  · refine yF yH s1 fun H2 s2=>qv (q H2 s2) ?_
    have e1:¬ (c.does_ = 0∧c.dir = 0∧c.stops = []):=by
      rintro ⟨z1,z2,z3⟩
      rw [z1,z2,z3] at e
      simp at e
    unfold LM.quiet
    rw [if_neg d2,if_neg l0,if_neg e1]
    rfl
theorem zEK {a p:Addr} {L:CL} {c:Lf.Car} {h:Lf.House} (C:zX K t H0 a L c) (Pn:xO t H0 p h) (ok:LM.xJ c) (hh:LM.yE h):∀ (H:Hp) (Q:VK),zG H0 H→(∀ H',zG H H'→Q (.int (LM.quiet h c:Nat)) H')→zBK K t ([.ref a,.ref p] ++ []) H Q E0:=fun H Q s q=>⟨a,p,L,c,h,rfl,C.same s,Pn.same s,ok,hh,q⟩
def zH0 (K:PySem.W.Frag) (t:Adr):Sp:=fun vs H Q _=>∃ (a p:Addr) (L:CL) (c:Lf.Car) (h:Lf.House) (n:Nat),vs = [.ref a,.ref p,.int n]∧zX K t H a L c∧xO t H p h∧LM.xJ c∧LM.yE h∧n ≤ LM.quiet h c∧∀ H',zX K t H' a L (LM.zAT h c n)→But a H H'→Q .non H'
theorem zDM (T:Txt K mg t):qL P w K mg base CX0 2 t.f_pass_quietly t.d_pass_quietly ["car", "plan", "ticks"] (zH0 K t):=by
  refine T.D.pass_quietly.F.ok zH5 (fun vs H Q E h=>by obtain ⟨_,_,_,_,_,_,rfl,_⟩:=h; rfl) (fun cdv A outer s H vs Q E hr h=>?_)
  obtain ⟨a,p,L,c,h,n,rfl,C,Pn,ok,hh,hn,q⟩:=h
  obtain ⟨⟨dx,hc⟩,h1,h2,h3,h4⟩:=id C
  obtain ⟨dp,hp⟩:=id Pn
  have sp1:=hh.sp
  have sp2:=hh.spm
  unfold LM.quiet at hn
  refine ⟨_,zH (yX (PW.pt (pw_and (zQ op_ne (zJ (pv 0) rfl) (yB rfl T.G.i_CLOSED) (zY _)) (pw_and1 (zQ op_ne (zJ (pv 0) rfl) (yB rfl T.G.i_MOVING) (zY _))))) (zH (zB2 (pv 0) (pv 2) in_sub)) (zH (yX (zQ op_ne (qX op_mod (zJ (pv 0) rfl) (zJ (pv 1) rfl)) yC (zY _)) (zH (xL (yA (ok_go_on T) (hr.mono (by decide)) rfl T.D.go_on.m T.D.go_on.F.kp T.D.go_on.b .nil yD (zB (pv 0) (zB (pv 2) zE))))) (zU)))),?_⟩
  refine st_if (pu_and (zP (pu_ne (zI (zA rfl) (by assumption) T.C.k_Car.c T.C.n_Car_doing (jM _ _ _ _ _ _ _)) yH)) (fun _=>(zP (pu_ne (zI (zA rfl) (by assumption) T.C.k_Car.c T.C.n_Car_doing (jM _ _ _ _ _ _ _)) yH)))) (zG.refl _) (fun H1 s1 e=>?_) (fun H1 s1 e=>?_)
  · have d2:2 ≤ c.does_:=by
      simp at e
      omega
    have hl:=ok.left d2
    rw [if_pos d2] at hn
    refine st_csub (c':={ c with left:=c.left - n }) C hc (zA rfl) (zA rfl) s1 T.C.k_Car.c T.C.n_Car_yet (zD2 ..) (Eq.trans (wA ..) ?_) rfl rfl rfl fun H2 C2 g2 b2=>q H2 ?_ b2
    · show zBV _ _ _ (.int ((c.left:Int) - n)) _ _ _ = zBV _ _ _ (.int ((c.left - n:Nat):Int)) _ _ _
      rw [Int.ofNat_sub (by omega)]
    · unfold LM.zAT
      rw [if_pos d2]
      exact C2
  have d2:¬ 2 ≤ c.does_:=by
    rw [Bool.and_eq_false_iff] at e
    simp at e
    omega
  rw [if_neg d2] at hn
  refine st_if (u:=tNext) (zP (pu_ne (pu_iC (zI (zA rfl) (by assumption) T.C.k_Car.c T.C.n_Car_place (qK _ _ _ _ _ _ _)) (zI (zA rfl) (by assumption) T.C.k_Plan.c T.C.n_Plan_speed (wS _ _ _ _ _ _ _)) (by first | exact ⟨by omega,by omega⟩ | (show (0:Int) < _; omega))) yH)) s1 (fun H1 s1 e=>?_) (fun H1 s1 e=>?_)
  · have l0:c.pos % h.speed ≠ 0:=by
      rw [zIB] at e
      intro z
      rw [z] at e
      simp at e
    rw [if_pos l0] at hn
    refine st_callL (zD (zA rfl) (zD (zA rfl) zN)) s1 fun H2 s2=>⟨a,L,c,n,rfl,C.same s2,fun z=>?_,fun H3 C3 b3=>q H3 ?_ ((But.of s2).trans b3)⟩
    · rw [if_neg z] at hn
      exact Nat.le_trans hn (Nat.mod_le _ _)
    · unfold LM.zAT
      rw [if_neg d2,if_pos l0]
      exact C3
  · have l0:¬ c.pos % h.speed ≠ 0:=by
      rw [zIB] at e
      intro z
      simp at e
      omega
    refine q H1 ?_ (But.of s1)
    unfold LM.zAT
    rw [if_neg d2,if_neg l0]
    exact C.same s1
def sp_Plan_init (K:PySem.W.Frag) (t:Adr):Sp:=fun vs H Q _=>∃ (p dx l:Addr) (n0 n1 n2 n3 n4 n5 n6:Int),vs = [.ref p,.ref l]∧H p = some (.ins t.Plan dx [])∧H l = some (.lst [.int n0,.int n1,.int n2,.int n3,.int n4,.int n5,.int n6]) ∧
  ∀ H',H' p = some (.ins t.Plan dx (zDL (.int n0) (.int n1) (.int n2) (.int n3) (.int n4) (.int n5) (.int n6)))→But p H H'→Q .non H'
theorem ok_Plan_init (T:Txt K mg t):qL P w K mg base CX0 1 t.f_Plan_init t.d_Plan_init ["self", "numbers"] (sp_Plan_init K t):=by
  refine T.C.k_Plan.F.ok sc_Plan_init (fun vs H Q E h=>by obtain ⟨_,_,_,_,_,_,_,_,_,_,rfl,_⟩:=h; rfl) (fun cdv A outer s H vs Q E hr h=>?_)
  obtain ⟨p,dx,l,n0,n1,n2,n3,n4,n5,n6,rfl,hp,hl,q⟩:=h
  have ne:l ≠ p:=jC hl hp (by intro z; cases z)
  have hk:=T.C.k_Plan.c
  refine ⟨_,zC (yI (pv 0) (qA xF (pv 1) yC (fun _ _=>rfl)) rfl) (zC (yI (pv 0) (qA xF (pv 1) yC (fun _ _=>rfl)) rfl) (zC (yI (pv 0) (qA xF (pv 1) yC (fun _ _=>rfl)) rfl) (zC (yI (pv 0) (qA xF (pv 1) yC (fun _ _=>rfl)) rfl) (zC (yI (pv 0) (qA xF (pv 1) yC (fun _ _=>rfl)) rfl) (zC (yI (pv 0) (qA xF (pv 1) yC (fun _ _=>rfl)) rfl) (zH (yI (pv 0) (qA xF (pv 1) yC (fun _ _=>rfl)) rfl))))))),?_⟩
  refine jV (zC2 (n:=0) (zA rfl) yH hl rfl rfl) (zA rfl) (zG.refl _) hp hk T.C.n_Plan_floors (by show 0 < 1000; decide) fun H1 s1=>?_
  have g1:(upd H1 p (.ins t.Plan dx [("floors", .int n0)])) l = _:=Eq.trans (zV ne) (s1 _ _ hl)
  have b1:But p H (upd H1 p (.ins t.Plan dx [("floors", .int n0)])):=But.up s1
  refine jV (zC2 (n:=1) (zA rfl) yH g1 rfl rfl) (zA rfl) (zG.refl _) zF hk T.C.n_Plan_car_count (by show 1 < 1000; decide) fun H2 s2=>?_
  have g2:(upd H2 p (.ins t.Plan dx [("floors", .int n0),("car_count", .int n1)])) l = _:=Eq.trans (zV ne) (s2 _ _ g1)
  have b2:But p H (upd H2 p (.ins t.Plan dx [("floors", .int n0),("car_count", .int n1)])):=b1.trans (But.up s2)
  refine jV (zC2 (n:=2) (zA rfl) yH g2 rfl rfl) (zA rfl) (zG.refl _) zF hk T.C.n_Plan_speed (by show 2 < 1000; decide) fun H3 s3=>?_
  have g3:(upd H3 p (.ins t.Plan dx [("floors", .int n0),("car_count", .int n1),("speed", .int n2)])) l = _:=Eq.trans (zV ne) (s3 _ _ g2)
  have b3:But p H (upd H3 p (.ins t.Plan dx [("floors", .int n0),("car_count", .int n1),("speed", .int n2)])):=b2.trans (But.up s3)
  refine jV (zC2 (n:=3) (zA rfl) yH g3 rfl rfl) (zA rfl) (zG.refl _) zF hk T.C.n_Plan_opening (by show 3 < 1000; decide) fun H4 s4=>?_
  have g4:(upd H4 p (.ins t.Plan dx [("floors", .int n0),("car_count", .int n1),("speed", .int n2),("opening", .int n3)])) l = _:=Eq.trans (zV ne) (s4 _ _ g3)
  have b4:But p H (upd H4 p (.ins t.Plan dx [("floors", .int n0),("car_count", .int n1),("speed", .int n2),("opening", .int n3)])):=b3.trans (But.up s4)
  refine jV (zC2 (n:=4) (zA rfl) yH g4 rfl rfl) (zA rfl) (zG.refl _) zF hk T.C.n_Plan_standing (by show 4 < 1000; decide) fun H5 s5=>?_
  have g5:(upd H5 p (.ins t.Plan dx [("floors", .int n0),("car_count", .int n1),("speed", .int n2),("opening", .int n3),("standing", .int n4)])) l = _:=Eq.trans (zV ne) (s5 _ _ g4)
  have b5:But p H (upd H5 p (.ins t.Plan dx [("floors", .int n0),("car_count", .int n1),("speed", .int n2),("opening", .int n3),("standing", .int n4)])):=b4.trans (But.up s5)
  refine jV (zC2 (n:=5) (zA rfl) yH g5 rfl rfl) (zA rfl) (zG.refl _) zF hk T.C.n_Plan_closing (by show 5 < 1000; decide) fun H6 s6=>?_
  have g6:(upd H6 p (.ins t.Plan dx [("floors", .int n0),("car_count", .int n1),("speed", .int n2),("opening", .int n3),("standing", .int n4),("closing", .int n5)])) l = _:=Eq.trans (zV ne) (s6 _ _ g5)
  have b6:But p H (upd H6 p (.ins t.Plan dx [("floors", .int n0),("car_count", .int n1),("speed", .int n2),("opening", .int n3),("standing", .int n4),("closing", .int n5)])):=b5.trans (But.up s6)
  refine zEC (zC2 (n:=6) (zA rfl) yH g6 rfl rfl) (zA rfl) (zG.refl _) zF hk T.C.n_Plan_room (by show 6 < 1000; decide) fun H7 s7=>?_
  exact q _ zF (b6.trans (But.up s7))
def LNew (H:Hp) (L:CL):Prop:=H L.li = none∧H L.lp = none∧H L.lc = none∧L.li ≠ L.lp∧L.li ≠ L.lc∧L.lp ≠ L.lc
def zH4 (K:PySem.W.Frag) (t:Adr):Sp:=fun vs H Q _=>∃ (p dx:Addr),vs = [.ref p]∧H p = some (.ins t.Car dx [])∧∀ H' (L:CL),zX K t H' p L Lf.Car.first→LNew H L→But p H H'→Q .non H'
theorem zIO (T:Txt K mg t):qL P w K mg base CX0 1 t.f_Car_init t.d_Car_init ["self"] (zH4 K t):=by
  refine T.C.k_Car.F.ok sc_Car_init (fun vs H Q E h=>by obtain ⟨_,_,rfl,_⟩:=h; rfl) (fun cdv A outer s H vs Q E hr h=>?_)
  obtain ⟨p,dx,rfl,hp,q⟩:=h
  have hk:=T.C.k_Car.c
  refine ⟨_,zC (yI (pv 0) yC rfl) (zC (yI (pv 0) (yB rfl T.G.i_NONE) rfl) (zC (yI (pv 0) (yB rfl T.G.i_CLOSED) rfl) (zC (yI (pv 0) yC rfl) (zC (yI (pv 0) (xH zE) rfl) (zC (yI (pv 0) (xH zE) rfl) (zH (yI (pv 0) (xH zE) rfl))))))),?_⟩
  refine jV yH (zA rfl) (zG.refl _) hp hk T.C.n_Car_place (by show 0 < 1000; decide) fun H1 s1=>?_
  have b1:But p H (upd H1 p (.ins t.Car dx [("place", .int 0)])):=But.up s1
  refine jV yH (zA rfl) (zG.refl _) zF hk T.C.n_Car_direction (by show 1 < 1000; decide) fun H2 s2=>?_
  have b2:But p H (upd H2 p (.ins t.Car dx [("place", .int 0),("direction", .int 0)])):=b1.trans (But.up s2)
  refine jV yH (zA rfl) (zG.refl _) zF hk T.C.n_Car_doing (by show 2 < 1000; decide) fun H3 s3=>?_
  have b3:But p H (upd H3 p (.ins t.Car dx [("place", .int 0),("direction", .int 0),("doing", .int 0)])):=b2.trans (But.up s3)
  refine jV yH (zA rfl) (zG.refl _) zF hk T.C.n_Car_yet (by show 3 < 1000; decide) fun H4 s4=>?_
  have b4:But p H (upd H4 p (.ins t.Car dx [("place", .int 0),("direction", .int 0),("doing", .int 0),("yet", .int 0)])):=b3.trans (But.up s4)
  refine zC7 qB (zA rfl) (zG.refl _) zF hk T.C.n_Car_inside (by show 4 < 1000; decide) fun H5 l1 s5 n5 h5=>?_
  have m5:H5 p = some (.ins t.Car dx [("place", .int 0),("direction", .int 0),("doing", .int 0),("yet", .int 0)]):=s5 _ _ zF
  have x1:l1 ≠ p:=jC h5 m5 (by intro z; cases z)
  have f1:H l1 = none:=b4.free zF n5
  have g5:(upd H5 p (.ins t.Car dx [("place", .int 0),("direction", .int 0),("doing", .int 0),("yet", .int 0),("inside", .ref l1)])) l1 = some (.lst []):=Eq.trans (zV x1) h5
  have b5:But p H (upd H5 p (.ins t.Car dx [("place", .int 0),("direction", .int 0),("doing", .int 0),("yet", .int 0),("inside", .ref l1)])):=b4.trans (But.up s5)
  refine zC7 qB (zA rfl) (zG.refl _) zF hk T.C.n_Car_pressed (by show 5 < 1000; decide) fun H6 l2 s6 n6 h6=>?_
  have m6:H6 p = some (.ins t.Car dx [("place", .int 0),("direction", .int 0),("doing", .int 0),("yet", .int 0),("inside", .ref l1)]):=s6 _ _ zF
  have x2:l2 ≠ p:=jC h6 m6 (by intro z; cases z)
  have f2:H l2 = none:=b5.free zF n6
  have y12:l1 ≠ l2:=zM g5 n6
  have g6:(upd H6 p (.ins t.Car dx [("place", .int 0),("direction", .int 0),("doing", .int 0),("yet", .int 0),("inside", .ref l1),("pressed", .ref l2)])) l1 = some (.lst []):=Eq.trans (zV x1) (s6 _ _ g5)
  have g6':(upd H6 p (.ins t.Car dx [("place", .int 0),("direction", .int 0),("doing", .int 0),("yet", .int 0),("inside", .ref l1),("pressed", .ref l2)])) l2 = some (.lst []):=Eq.trans (zV x2) h6
  have b6:But p H (upd H6 p (.ins t.Car dx [("place", .int 0),("direction", .int 0),("doing", .int 0),("yet", .int 0),("inside", .ref l1),("pressed", .ref l2)])):=b5.trans (But.up s6)
  refine st_fldNL qB (zA rfl) (zG.refl _) zF hk T.C.n_Car_calls (by show 6 < 1000; decide) fun H7 l3 s7 n7 h7=>?_
  have m7:H7 p = some (.ins t.Car dx [("place", .int 0),("direction", .int 0),("doing", .int 0),("yet", .int 0),("inside", .ref l1),("pressed", .ref l2)]):=s7 _ _ zF
  have x3:l3 ≠ p:=jC h7 m7 (by intro z; cases z)
  have f3:H l3 = none:=b6.free zF n7
  refine q _ ⟨l1,l2,l3⟩ ⟨⟨dx,zF⟩,?_,?_,⟨[],rfl,?_,fun z hz=>by cases hz⟩,by show 0 ≤ 1000; decide⟩ ⟨f1,f2,f3,y12,zM g6 n7,zM g6' n7⟩ (b6.trans (But.up s7))
  · exact Eq.trans (zV x1) (s7 _ _ g6)
  · exact Eq.trans (zV x2) (s7 _ _ g6')
  · exact Eq.trans (zV x3) h7
def sp_twin_of (K:PySem.W.Frag) (t:Adr):Sp:=fun vs H Q _=>∃ (a:Addr) (L:CL) (c:Lf.Car),vs = [.ref a]∧zX K t H a L c∧∀ H' b (L':CL),zX K t H' b L' c→LNew H L'→H b = none→zG H H'→Q (.ref b) H'
theorem _root_.L2.zG.but {H H1 H2:Hp} {b:Addr} (s:zG H H1) (x:But b H1 H2) (n:H b = none):zG H H2:=fun a o e=>x a o (zM e n) (s a o e)
theorem ok_twin_of (T:Txt K mg t):qL P w K mg base CX0 3 t.f_twin_of t.d_twin_of ["car"] (sp_twin_of K t):=by
  refine T.D.twin_of.F.ok sc_twin_of (fun vs H Q E h=>by obtain ⟨_,_,_,rfl,_⟩:=h; rfl) (fun cdv A outer s H vs Q E hr h=>?_)
  obtain ⟨a,L,c,rfl,C,q⟩:=h
  have hk:=T.C.k_Car.c
  refine ⟨_,zC (yG (i:=1) sc_twin_of.nd rfl (by first | exact Or.inl rfl | exact Or.inr rfl) (pe_make0 T.C.k_Car.mm (zIO T) (hr.mono (by decide)) rfl T.C.k_Car.g T.C.k_Car.b .nil yD)) (zC (yI (pv 1) (zJ (pv 0) rfl) rfl) (zC (yI (pv 1) (zJ (pv 0) rfl) rfl) (zC (yI (pv 1) (zJ (pv 0) rfl) rfl) (zC (yI (pv 1) (zJ (pv 0) rfl) rfl) (zC (yI (pv 1) (zFL zBH rfl T.G.z_list PyProof.Rows.boot_list (zB (zJ (pv 0) rfl) zE)) rfl) (zC (yI (pv 1) (zFL zBH rfl T.G.z_list PyProof.Rows.boot_list (zB (zJ (pv 0) rfl) zE)) rfl) (zC (yI (pv 1) (zFL zBH rfl T.G.z_list PyProof.Rows.boot_list (zB (zJ (pv 0) rfl) zE)) rfl) (zH (zO (pv 1)))))))))),?_⟩
  refine st_makeV zN (zG.refl _) fun H0 b db s0 nb nd ne=>⟨b,db,rfl,zF,fun H1 L1 C1 n1 b1=>⟨rfl,?_⟩⟩
  have s1:zG H H1:=(s0.trans (zG.two nb nd)).but b1 (s0.free nb)
  have nb':H b = none:=s0.free nb
  have A1:=C.same s1
  have ab:a ≠ b:=let ⟨d,e⟩:=C.obj; zM e nb'
  have nl:LNew H L1:=⟨(s0.trans (zG.two nb nd)).free n1.1,(s0.trans (zG.two nb nd)).free n1.2.1,(s0.trans (zG.two nb nd)).free n1.2.2.1,n1.2.2.2⟩
  clear n1 b1 nb nd ne s0
  obtain ⟨da,ha⟩:=A1.obj
  obtain ⟨dx,hb⟩:=C1.obj
  refine wL (c':={ Lf.Car.first with pos:=c.pos }) C1 hb (zI (zA rfl) (by assumption) T.C.k_Car.c T.C.n_Car_place (qK _ _ _ _ _ _ _)) (zA rfl) (zG.refl _) hk T.C.n_Car_place (zBU ..) rfl rfl rfl fun H2 C2 g2 b2=>?_
  have s2:=s1.but b2 nb'
  have A2:=A1.but b2 hb ab
  obtain ⟨da,ha⟩:=A2.obj
  refine wL (c':={ Lf.Car.first with pos:=c.pos,dir:=c.dir }) C2 g2 (zI (zA rfl) (by assumption) T.C.k_Car.c T.C.n_Car_direction (zT _ _ _ _ _ _ _)) (zA rfl) (zG.refl _) hk T.C.n_Car_direction (jE ..) rfl rfl rfl fun H3 C3 g3 b3=>?_
  have s3:=s2.but b3 nb'
  have A3:=A2.but b3 g2 ab
  obtain ⟨da,ha⟩:=A3.obj
  refine wL (c':={ Lf.Car.first with pos:=c.pos,dir:=c.dir,does_:=c.does_ }) C3 g3 (zI (zA rfl) (by assumption) T.C.k_Car.c T.C.n_Car_doing (jM _ _ _ _ _ _ _)) (zA rfl) (zG.refl _) hk T.C.n_Car_doing (jG ..) rfl rfl rfl fun H4 C4 g4 b4=>?_
  have s4:=s3.but b4 nb'
  have A4:=A3.but b4 g3 ab
  obtain ⟨da,ha⟩:=A4.obj
  refine wL (c':={ Lf.Car.first with pos:=c.pos,dir:=c.dir,does_:=c.does_,left:=c.left }) C4 g4 (zI (zA rfl) (by assumption) T.C.k_Car.c T.C.n_Car_yet (zD2 _ _ _ _ _ _ _)) (zA rfl) (zG.refl _) hk T.C.n_Car_yet (wA ..) rfl rfl rfl fun H5 C5 g5 b5=>?_
  have s5:=s4.but b5 nb'
  have A5:=A4.but b5 g4 ab
  obtain ⟨⟨da,ha⟩,h1,h2,h3,h4⟩:=id A5
  refine zC7 (nw_list (fun _ _ _ h=>h) (zD (zI (zA rfl) (by assumption) T.C.k_Car.c T.C.n_Car_inside (qD _ _ _ _ _ _ _)) zN) h1) (zA rfl) (zG.refl _) g5 hk T.C.n_Car_inside nn7 fun H6 l1 s6 n6 p6=>?_
  have x1:l1 ≠ b:=jC p6 (s6 _ _ g5) (by intro z; cases z)
  have f1:H l1 = none:=s5.free n6
  have b6:But b H5 (upd H6 b (.ins t.Car dx (wV "inside" (.ref l1) (qP L1 { Lf.Car.first with pos:=c.pos,dir:=c.dir,does_:=c.does_,left:=c.left })))):=But.up s6
  have A6:=A5.but b6 g5 ab
  have q1:(upd H6 b (.ins t.Car dx (wV "inside" (.ref l1) (qP L1 { Lf.Car.first with pos:=c.pos,dir:=c.dir,does_:=c.does_,left:=c.left })))) l1 = some (.lst (nI c.inside)):=Eq.trans (zV x1) p6
  have s6':=s5.but b6 nb'
  have g6:(upd H6 b (.ins t.Car dx (wV "inside" (.ref l1) (qP L1 { Lf.Car.first with pos:=c.pos,dir:=c.dir,does_:=c.does_,left:=c.left })))) b = some (.ins t.Car dx (zBV (.int c.pos) (.int c.dir) (.int c.does_) (.int c.left) (.ref l1) (.ref L1.lp) (.ref L1.lc))):=by rw [zF,zDT]
  generalize (upd H6 b (.ins t.Car dx (wV "inside" (.ref l1) (qP L1 { Lf.Car.first with pos:=c.pos,dir:=c.dir,does_:=c.does_,left:=c.left })))) = B6 at b6 A6 q1 s6' g6 ⊢
  obtain ⟨⟨da,ha⟩,h1,h2,h3,h4⟩:=id A6
  refine zC7 (nw_list (fun _ _ _ h=>h) (zD (zI (zA rfl) (by assumption) T.C.k_Car.c T.C.n_Car_pressed (xQ _ _ _ _ _ _ _)) zN) h2) (zA rfl) (zG.refl _) g6 hk T.C.n_Car_pressed nn7 fun H7 l2 s7 n7 p7=>?_
  have x2:l2 ≠ b:=jC p7 (s7 _ _ g6) (by intro z; cases z)
  have f2:H l2 = none:=s6'.free n7
  have y12:l1 ≠ l2:=zM q1 n7
  have b7:But b B6 (upd H7 b (.ins t.Car dx (wV "pressed" (.ref l2) (zBV (.int c.pos) (.int c.dir) (.int c.does_) (.int c.left) (.ref l1) (.ref L1.lp) (.ref L1.lc))))):=But.up s7
  have A7:=A6.but b7 g6 ab
  have q2:(upd H7 b (.ins t.Car dx (wV "pressed" (.ref l2) (zBV (.int c.pos) (.int c.dir) (.int c.does_) (.int c.left) (.ref l1) (.ref L1.lp) (.ref L1.lc))))) l2 = some (.lst (nI c.pressed)):=Eq.trans (zV x2) p7
  have q1':=b7 _ _ x1 q1
  have s7':=s6'.but b7 nb'
  have g7:(upd H7 b (.ins t.Car dx (wV "pressed" (.ref l2) (zBV (.int c.pos) (.int c.dir) (.int c.does_) (.int c.left) (.ref l1) (.ref L1.lp) (.ref L1.lc))))) b = some (.ins t.Car dx (zBV (.int c.pos) (.int c.dir) (.int c.does_) (.int c.left) (.ref l1) (.ref l2) (.ref L1.lc))):=by rw [zF,zCY]
  generalize (upd H7 b (.ins t.Car dx (wV "pressed" (.ref l2) (zBV (.int c.pos) (.int c.dir) (.int c.does_) (.int c.left) (.ref l1) (.ref L1.lp) (.ref L1.lc))))) = B7 at b7 A7 q1' q2 s7' g7 ⊢
  obtain ⟨⟨da,ha⟩,h1,h2,⟨zs,ez,h3,h3'⟩,h4⟩:=id A7
  refine zC7 (nw_list (fun _ _ _ h=>h) (zD (zI (zA rfl) (by assumption) T.C.k_Car.c T.C.n_Car_calls (yT _ _ _ _ _ _ _)) zN) h3) (zA rfl) (zG.refl _) g7 hk T.C.n_Car_calls nn7 fun H8 l3 s8 n8 p8=>?_
  have x3:l3 ≠ b:=jC p8 (s8 _ _ g7) (by intro z; cases z)
  have f3:H l3 = none:=s7'.free n8
  have C8:zX K t (upd H8 b (.ins t.Car dx (wV "calls" (.ref l3) (zBV (.int c.pos) (.int c.dir) (.int c.does_) (.int c.left) (.ref l1) (.ref l2) (.ref L1.lc))))) b ⟨l1,l2,l3⟩ c :=
    zX.put (L:=⟨l1,l2,l3⟩) (s8 _ _ q1') (s8 _ _ q2) ⟨zs,ez,p8,fun z hz=>zG.tup s8 (h3' z hz)⟩ h4 (s8 _ _ g7) (zEL ..)
  have s9:=s7'.but (But.up (a:=b) (o:=.ins t.Car dx (wV "calls" (.ref l3) (zBV (.int c.pos) (.int c.dir) (.int c.does_) (.int c.left) (.ref l1) (.ref l2) (.ref L1.lc)))) s8) nb'
  exact yF (zA rfl) (zG.refl _) fun H9 s10=>q H9 b ⟨l1,l2,l3⟩ (C8.same s10) ⟨f1,f2,f3,y12,zM q1' n8,zM q2 n8⟩ nb' (s9.trans s10)
theorem zX.callIn {H:Hp} {b k:Addr} {L:CL} {c:Lf.Car} {x:Nat × Nat} (C:zX K t H b L c) (hx:xK K H k (cP x)) (n1:L.li ≠ L.lc) (n2:L.lp ≠ L.lc) (sz:c.inside.length + c.pressed.length + c.calls.length ≤ 999) :
    ∃ zs:List (Addr × Nat × Nat),H L.lc = some (.lst (zs.map fun z=>V.ref z.1))∧zs.length = c.calls.length∧∀ H1,zG H H1→zX K t (upd H1 L.lc (.lst ((zs.map fun z=>V.ref z.1) ++ [.ref k]))) b L { c with calls:=c.calls ++ [x] }:=by
  obtain ⟨⟨dx,hc⟩,h1,h2,⟨zs,ez,h3,h3'⟩,h4⟩:=C
  refine ⟨zs,h3,by rw [← ez,List.length_map],fun H1 s1=>?_⟩
  have nb:b ≠ L.lc:=jC hc h3 (by intro z; cases z)
  have tp:∀ {a:Addr} {xs:List V},SqT K H a xs→SqT K (upd H1 L.lc (.lst ((zs.map fun z=>V.ref z.1) ++ [.ref k]))) a xs:=fun {a xs} h=>by
    rcases h with (h | ⟨o,h⟩) | h
    · exact .inl (.inl (Eq.trans (zV (jC h h3 (by intro z; cases z))) (s1 _ _ h)))
    · exact .inl (.inr ⟨o,Eq.trans (zV (jC h h3 (by intro z; cases z))) (s1 _ _ h)⟩)
    · exact .inr h
  refine ⟨⟨dx,Eq.trans (zV nb) (s1 _ _ hc)⟩,Eq.trans (zV n1) (s1 _ _ h1),Eq.trans (zV n2) (s1 _ _ h2),⟨zs ++ [(k,x)],?_,?_,fun z hz=>?_⟩,?_⟩
  · rw [List.map_append,ez]
    rfl
  · rw [zF,List.map_append]
    rfl
  · rcases List.mem_append.mp hz with q | q
    · exact tp (h3' z q)
    · rw [List.mem_singleton.mp q]
      exact tp hx
  · show c.inside.length + c.pressed.length + (c.calls ++ [x]).length ≤ 1000
    rw [List.length_append,List.length_singleton]
    omega
theorem st_while {c:TT} {tb r:TS} {D:zC4} {σ:L2.St} {H:Hp} (Pv:L2.St→Hp→Prop) (μ:L2.St→Hp→Nat) (h0:Pv σ H)
    (hs:∀ σ H,Pv σ H→c σ H fun b H1=>if b = true then tb { D with nx:=fun σ' H'=>Pv σ' H'∧μ σ' H' < μ σ H,ct:=fun σ' H'=>Pv σ' H'∧μ σ' H' < μ σ H,bk:=r D } σ H1 else r D σ H1)
    (mono:∀ σ H Q Q',(∀ b H1,Q b H1→Q' b H1)→c σ H Q→c σ H Q'):zBW (tWhile c tb) r D σ H:=while_by (D:={ D with nx:=r D }) Pv μ h0 hs mono
def zB0 (K:PySem.W.Frag) (t:Adr):Sp:=fun vs H Q _=>∃ (a p k:Addr) (L:CL) (c:Lf.Car) (h:Lf.House) (x:Nat × Nat),vs = [.ref a,.ref p,.ref k]∧zX K t H a L c∧xO t H p h∧xK K H k (cP x)∧LM.xJ c∧LM.yE h∧(x.2 = 1∨x.2 = 2) ∧
  c.inside.length + c.pressed.length + c.calls.length ≤ 999∧∀ H',zG H H'→Q (.int (c.comes h x:Nat)) H'
def rkm (σ:L2.St):Nat:=match (σ[4]?:Option (Option V)) with
  | some (some (V.int i))=>(20000 - i).toNat
  | _=>0
theorem zGN (T:Txt K mg t):qL P w K mg base CX0 7 t.f_reckoned_ticks t.d_reckoned_ticks ["car", "plan", "call"] (zB0 K t):=by
  refine T.D.reckoned_ticks.F.ok jI (fun vs H Q E h=>by obtain ⟨_,_,_,_,_,_,_,rfl,_⟩:=h; rfl) (fun cdv A outer s H vs Q E hr h=>?_)
  obtain ⟨a,p,k,L,c,h,x,rfl,C,Pn,hx,ok,hh,x12,sz,q⟩:=h
  refine ⟨_,zC (yG (i:=3) jI.nd rfl (by first | exact Or.inl rfl | exact Or.inr rfl) (yA (ok_twin_of T) (hr.mono (by decide)) rfl T.D.twin_of.m T.D.twin_of.F.kp T.D.twin_of.b .nil yD (zB (pv 0) zE))) (zC (xL (zD6 PySem.F.plainAttrs_list PySem.F.slot_list_append PySem.F.type_list_append zB3 (zJ (pv 3) rfl) (zB (pv 2) zE))) (zC (yG (i:=4) jI.nd rfl (by first | exact Or.inl rfl | exact Or.inr rfl) yC) (zC (ps_while PassesOwn.never (zQ op_lt (pv 4) (yB rfl T.G.i_LONGEST) (zY _)) (zC (yX (PW.pt (pw_and (zAJ (yA (ok_is_full T) (hr.mono (by decide)) rfl T.D.is_full.m T.D.is_full.F.kp T.D.is_full.b .nil yD (zB (pv 3) (zB (pv 1) zE)))) (pw_and1 (zQ qJ (yJ zZ rfl T.G.z_len PySem.boot_len (zB (zJ (pv 3) rfl) zE)) yC (zY _))))) (zH (zO (yB rfl T.G.i_LONGEST))) (zU)) (zC (yG (i:=5) jI.nd rfl (by first | exact Or.inl rfl | exact Or.inr rfl) (yA (zEG T) (hr.mono (by decide)) rfl T.D.quiet_ticks.m T.D.quiet_ticks.F.kp T.D.quiet_ticks.b .nil yD (zB (pv 3) (zB (pv 1) zE)))) (zC (xL (yA (zDM T) (hr.mono (by decide)) rfl T.D.pass_quietly.m T.D.pass_quietly.F.kp T.D.pass_quietly.b .nil yD (zB (pv 3) (zB (pv 1) (zB (pv 5) zE))))) (zC (xL (yA (zIK T) (hr.mono (by decide)) rfl T.D.tick_car.m T.D.tick_car.F.kp T.D.tick_car.b .nil yD (zB (pv 3) (zB (pv 1) zE)))) (zC (ps_aug (i:=4) jI.nd rfl (Or.inl rfl) (qX zCV (pv 5) yC) ip_add) (zH (yX (zQ (op_notInP (u65 hr)) (pv 2) (zJ (pv 3) rfl) rfl) (zH (zO (yJ (call_min2 rfl) rfl T.G.z_min PyProof.Rows.boot_min (zB (pv 4) (zB (yB rfl T.G.i_LONGEST) zE))))) (zU))))))))) (zH (zO (yB rfl T.G.i_LONGEST)))))),?_⟩
  refine st_callV (zD (zA rfl) zN) (zG.refl _) fun H0 s0=>⟨a,L,c,rfl,C.same s0,fun H1 b L1 C1 n1 nb s1=>?_⟩
  show zBW (zC0 _) _ _ _ _
  have S1:=s0.trans s1
  have nb':=s0.free nb
  have nl:=s0.free n1.2.2.1
  obtain ⟨dx,hb⟩:=C1.obj
  obtain ⟨zs,h3,lz,hin⟩:=C1.callIn (zG.tup S1 hx) n1.2.2.2.2.1 n1.2.2.2.2.2 sz
  refine zF8 (zI (zA rfl) (by assumption) T.C.k_Car.c T.C.n_Car_calls (yT _ _ _ _ _ _ _)) (zA rfl) (zG.refl _) h3 (by rw [List.length_map,lz,sizeLine_eq]; omega) fun H2 s2=>?_
  have C2:=hin H2 s2
  have S2:=(S1.trans s2).up (l:=L1.lc) (o:=.lst ((zs.map fun z=>V.ref z.1) ++ [.ref k])) nl
  generalize (upd H2 L1.lc (.lst ((zs.map fun z=>V.ref z.1) ++ [.ref k]))) = B2 at C2 S2 ⊢
  generalize hc0:({ c with calls:=c.calls ++ [x] }:Lf.Car) = c0 at C2
  have ok0:LM.xJ c0:=by rw [← hc0]; exact ok.call x12
  have cm:c.comes h x = Lf.Car.waits h x Lf.FAR c0:=by rw [← hc0]; rfl
  have hx0:x ∈ c0.calls:=by rw [← hc0]; exact List.mem_append_right _ (List.mem_singleton.mpr rfl)
  clear hb h3 hin s2 hc0 s1 n1 nb nl C1 lz
  refine xY yH (zG.refl _) fun H3 s3=>?_
  refine st_while (fun σ H'=>∃ (τ:Nat) (L':CL) (vq:Option V),σ = [some (.ref a),some (.ref p),some (.ref k),some (.ref b),some (.int (τ:Int)),vq]∧zG H H'∧zX K t H' b L' (LM.iter h τ c0)∧LM.xJ (LM.iter h τ c0)∧(∀ s,s < τ→x ∈ (LM.iter h s c0).calls)∧x ∈ (LM.iter h τ c0).calls) (fun σ _=>rkm σ) ?_ ?_ ?_
  · exact ⟨0,L1,none,rfl,S2.trans s3,C2.same s3,ok0,fun s hs=>absurd hs (Nat.not_lt_zero _),hx0⟩
  · rintro σ B ⟨τ,L',vq,rfl,S,Ct,okt,hbef,hxt⟩
    refine zP (b:=decide ((τ:Int) < 20000)) (jN (zA rfl) yH) B _ (zG.refl _) fun B1 s1=>?_
    refine ite2 (fun e=>?_) (fun e=>?_)
    · have lt:τ < 20000:=by have:=of_decide_eq_true e; omega
      have S1:=S.trans s1
      have Ct1:=Ct.same s1
      obtain ⟨⟨dx,hb⟩,k1,k2,k3,k4⟩:=id Ct1
      have Pn1:=Pn.same S1
      refine yK (b:=(decide (h.room ≤ (LM.iter h τ c0).inside.length) && decide ((LM.iter h τ c0).pressed.length = 0))) (H0:=B1) (pu_and (jH (xE (zD (zA rfl) (zD (zA rfl) zN)) (cl_is_full Ct1 Pn1))) fun _=>?_) (zG.refl _) (fun B2 s2 e1=>?_) (fun B2 s2 e1=>?_)
      · have e3:(decide ((LM.iter h τ c0).pressed.length = 0)) = decide (((nI (LM.iter h τ c0).pressed).length:Int) = 0):=by rw [zR]; simp
        rw [e3]
        exact zP (zA2 (zGZ (fun _ _ _ h=>h) (zD (zI (zA rfl) (by assumption) T.C.k_Car.c T.C.n_Car_pressed (xQ _ _ _ _ _ _ _)) zN) k2) yH)
      · rw [Bool.and_eq_true,decide_eq_true_eq,decide_eq_true_eq] at e1
        refine yF (H0:=B2) yH (zG.refl _) fun B3 s3=>qv (q B3 ((S1.trans s2).trans s3)) ?_
        rw [cm,LM.reck_go τ hbef,if_pos (by show τ ≤ 20000; omega),LM.full_waits _ e1.1 (List.length_eq_zero_iff.mp e1.2) hxt,show τ + (Lf.FAR - τ) = 20000 by show τ + (20000 - τ) = 20000; omega]
        rfl
      have nf:(LM.iter h τ c0).inside.length < h.room∨(LM.iter h τ c0).pressed ≠ []:=by
        by_cases z:h.room ≤ (LM.iter h τ c0).inside.length
        · right
          intro y
          rw [y,decide_eq_true z] at e1
          simp at e1
        · left
          omega
      have S2:=S1.trans s2
      have Ct2:=Ct1.same s2
      have Pn2:=Pn1.same s2
      refine xY (H0:=B2) (xE (zD (zA rfl) (zD (zA rfl) zN)) (zEK Ct2 Pn2 okt hh)) (zG.refl _) fun B3 s3=>?_
      have S3:=S2.trans s3
      have Ct3:=Ct2.same s3
      have Pn3:=Pn2.same s3
      generalize hq:LM.quiet h (LM.iter h τ c0) = qn
      refine zFF (H0:=B3) (zD (zA rfl) (zD (zA rfl) (zD (zA rfl) zN))) (zG.refl _) fun B4 s4=>⟨b,p,L',LM.iter h τ c0,h,qn,rfl,Ct3.same s4,Pn3.same s4,okt,hh,by rw [hq]; exact Nat.le_refl _,fun B5 C5 b5=>?_⟩
      have S5:=(S3.trans s4).but b5 nb'
      have Pn5:=Pn.same S5
      have ok5:LM.xJ (LM.zAT h (LM.iter h τ c0) qn):=LM.pass_ok okt (by rw [hq]; exact Nat.le_refl _)
      show zBW (zC0 _) _ _ _ _
      refine zFF (H0:=B5) (zD (zA rfl) (zD (zA rfl) zN)) (zG.refl _) fun B6 s6=>⟨b,p,L',LM.zAT h (LM.iter h τ c0) qn,h,rfl,C5.same s6,Pn5.same s6,ok5,hh,fun _=>by rw [LM.zIG,LM.zG5]; exact nf,fun B7 L7 C7 l7 b7=>?_⟩
      have S7:=(S5.trans s6).but b7 nb'
      have e7:(LM.zAT h (LM.iter h τ c0) qn).alone h = LM.iter h (τ + (qn + 1)) c0:=by
        rw [LM.zHP,LM.iter_succ,← hq,← LM.quiet_pass hh okt]
      rw [e7] at C7
      have ok7:LM.xJ (LM.iter h (τ + (qn + 1)) c0):=LM.iter_ok hh _ ok0
      have bef7:∀ s,s < τ + (qn + 1)→x ∈ (LM.iter h s c0).calls:=by
        rw [← hq]
        exact LM.reck_step hh hbef okt hxt
      obtain ⟨⟨dx,hb⟩,k1,k2,k3,k4⟩:=id C7
      have hx7:=zG.tup S7 hx
      show zBW (tAug _ _ _) _ _ _ _
      refine st_augS (H0:=B7) (i:=(τ:Int)) (j:=(qn:Int) + 1) rfl (jN (zA rfl) yH) (zG.refl _) fun B8 s8=>?_
      have C8:=C7.same s8
      obtain ⟨⟨dx,hb⟩,k1,k2,k3,k4⟩:=id C8
      have hx8:xK K B8 k (cP x):=zG.tup s8 hx7
      have et:(τ:Int) + ((qn:Int) + 1) = ((τ + (qn + 1):Nat):Int):=by omega
      rw [et]
      refine st_if (u:=tNext) (H0:=B8) (zP (pu_notinA (zA rfl) hx8 (zI (zA rfl) (by assumption) T.C.k_Car.c T.C.n_Car_calls (yT _ _ _ _ _ _ _)) k3)) (zG.refl _) (fun B9 s9 e9=>?_) (fun B9 s9 e9=>?_)
      · have hn:x ∉ (LM.iter h (τ + (qn + 1)) c0).calls:=fun z=>by
          rw [List.contains_iff_mem.mpr z] at e9
          exact Bool.false_ne_true e9
        refine yF (H0:=B9) (pu_min2 (fun _ _ _ h=>h) (zD (zA rfl) (zD yH zN))) (zG.refl _) fun B10 s10=>qv (q B10 (((S7.trans s8).trans s9).trans s10)) ?_
        rw [cm,LM.reck_go _ bef7]
        by_cases z:τ + (qn + 1) ≤ Lf.FAR
        · rw [if_pos z,LM.waits_gone hn]
          have z':τ + (qn + 1) ≤ 20000:=z
          rw [if_neg (by omega)]
          rfl
        · rw [if_neg z]
          have z':¬ τ + (qn + 1) ≤ 20000:=z
          rw [if_pos (by omega)]
          rfl
      · have hn:x ∈ (LM.iter h (τ + (qn + 1)) c0).calls:=by
          rw [← List.contains_iff_mem]
          simpa using e9
        refine ⟨⟨τ + (qn + 1),L7,some (.int qn),rfl,(S7.trans s8).trans s9,C8.same s9,ok7,bef7,hn⟩,?_⟩
        show (20000 - ((τ + (qn + 1):Nat):Int)).toNat < (20000 - (τ:Int)).toNat
        omega
    · have ge:¬ τ < 20000:=by
        intro z
        exact e (decide_eq_true (by omega))
      refine yF (H0:=B1) yH (zG.refl _) fun B2 s2=>qv (q B2 ((S.trans s1).trans s2)) ?_
      rw [cm,LM.reck_go τ hbef]
      by_cases z:τ ≤ Lf.FAR
      · have z':τ ≤ 20000:=z
        have e1:τ = 20000:=by omega
        subst e1
        rw [if_pos z]
        rfl
      · rw [if_neg z]
        rfl
  · rintro σ B Q1 Q2 hQ ⟨v,h1,i,j,h2,h3,kk,h4,h5⟩
    exact ⟨v,h1,i,j,h2,h3,kk,h4,hQ _ _ h5⟩
theorem zGU {a p k:Addr} {L:CL} {c:Lf.Car} {h:Lf.House} {x:Nat × Nat} (C:zX K t H0 a L c) (Pn:xO t H0 p h) (hx:xK K H0 k (cP x)) (ok:LM.xJ c) (hh:LM.yE h) (x12:x.2 = 1∨x.2 = 2) (sz:c.inside.length + c.pressed.length + c.calls.length ≤ 999) :
    ∀ (H:Hp) (Q:VK),zG H0 H→(∀ H',zG H H'→Q (.int (c.comes h x:Nat)) H')→zB0 K t ([.ref a,.ref p,.ref k] ++ []) H Q E0:=fun H Q s q=>⟨a,p,k,L,c,h,x,rfl,C.same s,Pn.same s,zG.tup s hx,ok,hh,x12,sz,q⟩
abbrev CZ:=Addr × CL × Lf.Car
structure CarsAt (K:PySem.W.Frag) (t:Adr) (H:Hp) (l:Addr) (zs:List CZ):Prop where
  lst:H l = some (.lst (zs.map fun z=>V.ref z.1))
  car:∀ z ∈ zs,zX K t H z.1 z.2.1 z.2.2
theorem CarsAt.same {H H':Hp} {l:Addr} {zs:List CZ} (C:CarsAt K t H l zs) (s:zG H H'):CarsAt K t H' l zs:=⟨s _ _ C.lst,fun z hz=>(C.car z hz).same s⟩
def CarFit (c:Lf.Car):Prop:=LM.xJ c∧c.inside.length + c.pressed.length + c.calls.length ≤ 999
def zA8 (K:PySem.W.Frag) (t:Adr):Sp:=fun vs H Q _=>∃ (l p k:Addr) (zs:List CZ) (h:Lf.House) (x:Nat × Nat),vs = [.ref l,.ref p,.ref k]∧CarsAt K t H l zs∧xO t H p h∧xK K H k (cP x)∧(∀ z ∈ zs,CarFit z.2.2)∧LM.yE h∧(x.2 = 1∨x.2 = 2)∧zs.length ≤ 1000 ∧
  ∀ H' D,zG H H'→H D = none→H' D = some (.lst (nI (zs.map fun z=>z.2.2.comes h x)))→Q (.ref D) H'
theorem zBF (T:Txt K mg t):qL P w K mg base CX0 8 t.f_reckoned_of_all t.d_reckoned_of_all ["cars", "plan", "call"] (zA8 K t):=by
  refine T.D.reckoned_of_all.F.ok wH (fun vs H Q E h=>by obtain ⟨_,_,_,_,_,_,rfl,_⟩:=h; rfl) (fun cdv A outer s H vs Q E hr h=>?_)
  obtain ⟨l,p,k,zs,h,x,rfl,C,Pn,hx,fit,hh,x12,lz,q⟩:=h
  refine ⟨_,zH (zO (pe_lc rfl wH.nd (wT (pv 0)) (own:=[("car", 3)]) (wW (N:=["cars", "plan", "call", "car"]) (sc:=zK qI) (by decide +kernel)) (fun _ _ _ _ _=>jZ (i:=3) wH.nd rfl (Or.inl rfl)) (fun _ _ _ _ _=>zEX) (fun _ _ _ _ _=>(yA (zGN T) (hr.mono (by decide)) rfl T.D.reckoned_ticks.m T.D.reckoned_ticks.F.kp T.D.reckoned_ticks.b .nil yD (zB (pv 3) (zB (pv 1) (zB (pv 2) zE))))))),?_⟩
  refine pu_lc (p:=fun _=>true) (xv:=fun (z:CZ)=>V.ref z.1) (g:=fun (z:CZ)=>V.int (z.2.2.comes h x:Nat)) (zA rfl) C.lst (by rw [sizeLine_eq]; omega) (fun z hz=>pu_yes) (fun z hz _=>xE (zD (zA rfl) (zD (zA rfl) (zD (zA rfl) zN))) (zGU (C.car z hz) Pn hx (fit z hz).1 hh x12 (fit z hz).2)) H _ (zG.refl _) fun H2 D s2 hn hD=>q H2 D s2 hn ?_
  rw [List.filter_eq_self.mpr (fun _ _=>rfl)] at hD
  rw [hD]
  unfold nI
  rw [List.map_map]
  rfl
def zF1 (ns:List Nat) (j:Nat):Prop:=j < ns.length∧(∀ i,i < ns.length→ns.getD j 0 ≤ ns.getD i 0)∧∀ i,i < j→ns.getD j 0 < ns.getD i 0
def zEQ (K:PySem.W.Frag) (t:Adr):Sp:=fun vs H Q _=>∃ (l:Addr) (ns:List Nat),vs = [.ref l]∧H l = some (.lst (nI ns))∧ns ≠ []∧∀ j,zF1 ns j→Q (.int (j:Nat)) H
theorem firstMin_of {ns:List Nat} {m:Nat} (hm:m ∈ ns) (hg:∀ y ∈ ns,m ≤ y):zF1 ns (ns.idxOf m)∧ns[ns.idxOf m]? = some m∧∀ i y,i < ns.idxOf m→ns[i]? = some y→y ≠ m:=by
  have hj:ns.idxOf m < ns.length:=List.idxOf_lt_length_iff.mpr hm
  have e1:ns[ns.idxOf m]? = some m:=by
    rw [List.getElem?_eq_getElem hj]
    exact congrArg some (List.getElem_idxOf hj)
  have e2:∀ i y,i < ns.idxOf m→ns[i]? = some y→y ≠ m:=by
    intro i y hi hy e
    subst e
    have hl:i < ns.length:=Nat.lt_trans hi hj
    rw [List.getElem?_eq_getElem hl] at hy
    have:=List.not_of_lt_findIdx (p:=(· == y)) (xs:=ns) (i:=i) hi
    simp only [Option.some.inj hy] at this
    simp at this
  refine ⟨⟨hj,fun i hi=>?_,fun i hi=>?_⟩,e1,e2⟩
  · rw [List.getD_eq_getElem?_getD,e1,List.getD_eq_getElem?_getD,List.getElem?_eq_getElem hi]
    exact hg _ (List.getElem_mem hi)
  · have hl:i < ns.length:=Nat.lt_trans hi hj
    have a1:=hg _ (List.getElem_mem hl)
    have a2:=e2 i ns[i] hi (List.getElem?_eq_getElem hl)
    rw [List.getD_eq_getElem?_getD,e1,List.getD_eq_getElem?_getD,List.getElem?_eq_getElem hl]
    show m < ns[i]
    omega
theorem zIN (T:Txt K mg t):qL P w K mg base CX0 1 t.f_first_of t.d_first_of ["reckoned"] (zEQ K t):=by
  refine T.D.first_of.F.ok sc_first_of (fun vs H Q E h=>by obtain ⟨_,_,rfl,_⟩:=h; rfl) (fun cdv A outer s H vs Q E hr h=>?_)
  obtain ⟨l,ns,rfl,hl,ne,q⟩:=h
  refine ⟨_,zH (zO (zD6 PySem.F.plainAttrs_list PySem.F.slot_list_index PySem.F.type_list_index mt_index (pv 0) (zB (yJ (cr_min rfl) rfl T.G.z_min PyProof.Rows.boot_min (zB (pv 0) zE)) zE))),?_⟩
  refine ⟨_,rfl,.inl ⟨rfl,_,SqL.of hl⟩,_,rfl,l,ns.map fun (n:Nat)=>(n:Int),rfl,SqL.of (by rw [hl,zE0]),by rw [List.length_map]; exact List.length_pos_iff.mpr ne,fun m hm hg=>?_⟩
  obtain ⟨m,hm2,rfl⟩:=List.mem_map.mp hm
  have hg':∀ y ∈ ns,m ≤ y:=fun y hy=>by
    have:=hg (y:Int) (List.mem_map.mpr ⟨y,hy,rfl⟩)
    omega
  obtain ⟨f1,f2,f3⟩:=firstMin_of hm2 hg'
  refine ⟨l,nI ns,.int (m:Int),ns.idxOf m,.int (m:Int),rfl,rfl,SqL.of hl,rfl,nI_flat ns,?_,?_,fun i z hi hz=>?_,q _ f1⟩
  · unfold nI
    rw [List.getElem?_map,f2]
    rfl
  · show ((m:Int) == (m:Int)) = true
    simp
  · unfold nI at hz
    rw [List.getElem?_map] at hz
    cases e:ns[i]? with
    | none =>
      rw [e] at hz
      cases hz
    | some y =>
      rw [e] at hz
      have ez:V.int (y:Int) = z:=Option.some.inj hz
      subst ez
      show ((y:Int) == (m:Int)) = false
      have:=f3 i y hi e
      rw [beq_eq_false_iff_ne]
      intro w
      exact this (Int.ofNat_inj.mp w)
def tm (o:Option Nat):Nat:=o.elim 0 fun n=>n + 1
theorem tm_ne (n:Nat):¬ ((tm (some n):Nat):Int) = 0:=by
  show ¬ ((n + 1:Nat):Int) = 0
  omega
def wB (t:Adr) (H:Hp) (a:Addr) (p:Lf.Person):Prop:=∃ dx,H a = some (.ins t.Person dx (zAD (.int p.from_) (.int p.to_) (.int (p.came + 1:Nat)) (.int (tm p.entered)) (.int (tm p.left))))
theorem wB.same {H H':Hp} {a:Addr} {p:Lf.Person} (h:wB t H a p) (s:zG H H'):wB t H' a p:=let ⟨d,e⟩:=h; ⟨d,s _ _ e⟩
def sp_Person_init (K:PySem.W.Frag) (t:Adr):Sp:=fun vs H Q _=>∃ (p dx:Addr) (f g n:Nat),vs = [.ref p,.int f,.int g,.int n]∧H p = some (.ins t.Person dx [])∧∀ H',wB t H' p ⟨f,g,n,none,none⟩→But p H H'→Q .non H'
theorem ok_Person_init (T:Txt K mg t):qL P w K mg base CX0 1 t.f_Person_init t.d_Person_init ["self", "origin", "goal", "now"] (sp_Person_init K t):=by
  refine T.C.k_Person.F.ok sc_Person_init (fun vs H Q E h=>by obtain ⟨_,_,_,_,_,rfl,_⟩:=h; rfl) (fun cdv A outer s H vs Q E hr h=>?_)
  obtain ⟨p,dx,f,g,n,rfl,hp,q⟩:=h
  have hk:=T.C.k_Person.c
  refine ⟨_,zC (yI (pv 0) (pv 1) rfl) (zC (yI (pv 0) (pv 2) rfl) (zC (yI (pv 0) (qX zCV (pv 3) yC) rfl) (zC (yI (pv 0) (yB rfl T.G.i_NOT_YET) rfl) (zH (yI (pv 0) (yB rfl T.G.i_NOT_YET) rfl))))),?_⟩
  refine jV (zA rfl) (zA rfl) (zG.refl _) hp hk T.C.n_Person_origin (by show 0 < 1000; decide) fun H1 s1=>?_
  refine jV (zA rfl) (zA rfl) (zG.refl _) zF hk T.C.n_Person_goal (by show 1 < 1000; decide) fun H2 s2=>?_
  refine jV (jN (zA rfl) yH) (zA rfl) (zG.refl _) zF hk T.C.n_Person_came (by show 2 < 1000; decide) fun H3 s3=>?_
  refine jV yH (zA rfl) (zG.refl _) zF hk T.C.n_Person_entered (by show 3 < 1000; decide) fun H4 s4=>?_
  refine zEC yH (zA rfl) (zG.refl _) zF hk T.C.n_Person_left (by show 4 < 1000; decide) fun H5 s5=>?_
  exact q _ ⟨dx,zF⟩ (((((But.up s1).trans (But.up s2)).trans (But.up s3)).trans (But.up s4)).trans (But.up s5))
def zHE (K:PySem.W.Frag) (t:Adr):Sp:=fun vs H Q _=>∃ (a:Addr) (p:Lf.Person) (n:Nat),vs = [.ref a,.int n]∧wB t H a p∧∀ H',wB t H' a { p with entered:=some n }→But a H H'→Q .non H'
theorem zHI (T:Txt K mg t):qL P w K mg base CX0 1 t.f_note_entering t.d_note_entering ["person", "now"] (zHE K t):=by
  refine T.D.note_entering.F.ok zHG (fun vs H Q E h=>by obtain ⟨_,_,_,rfl,_⟩:=h; rfl) (fun cdv A outer s H vs Q E hr h=>?_)
  obtain ⟨a,p,n,rfl,⟨dx,hp⟩,q⟩:=h
  refine ⟨_,zH (yI (pv 0) (qX zCV (pv 1) yC) rfl),?_⟩
  refine zEC (jN (zA rfl) yH) (zA rfl) (zG.refl _) hp T.C.k_Person.c T.C.n_Person_entered (by show 5 < 1000; decide) fun H1 s1=>q _ ⟨dx,?_⟩ (But.up s1)
  rw [zF,zEY]
  rfl
def zH3 (K:PySem.W.Frag) (t:Adr):Sp:=fun vs H Q _=>∃ (a:Addr) (p:Lf.Person) (n:Nat),vs = [.ref a,.int n]∧wB t H a p∧∀ H',wB t H' a { p with left:=some n }→But a H H'→Q .non H'
theorem zIM (T:Txt K mg t):qL P w K mg base CX0 1 t.f_note_leaving t.d_note_leaving ["person", "now"] (zH3 K t):=by
  refine T.D.note_leaving.F.ok zH6 (fun vs H Q E h=>by obtain ⟨_,_,_,rfl,_⟩:=h; rfl) (fun cdv A outer s H vs Q E hr h=>?_)
  obtain ⟨a,p,n,rfl,⟨dx,hp⟩,q⟩:=h
  refine ⟨_,zH (yI (pv 0) (qX zCV (pv 1) yC) rfl),?_⟩
  refine zEC (jN (zA rfl) yH) (zA rfl) (zG.refl _) hp T.C.k_Person.c T.C.n_Person_left (by show 5 < 1000; decide) fun H1 s1=>q _ ⟨dx,?_⟩ (But.up s1)
  rw [zF,zHH]
  rfl
def stOf (p:Lf.Person):Nat:=if p.left.isSome = true then 2 else if p.entered.isSome = true then 1 else 0
def zEP (K:PySem.W.Frag) (t:Adr):Sp:=fun vs H Q _=>∃ (a:Addr) (p:Lf.Person),vs = [.ref a]∧wB t H a p∧(p.left ≠ none→p.entered ≠ none)∧∀ H',zG H H'→Q (.int (stOf p:Nat)) H'
theorem zIL (T:Txt K mg t):qL P w K mg base CX0 1 t.f_state_of t.d_state_of ["person"] (zEP K t):=by
  refine T.D.state_of.F.ok sc_state_of (fun vs H Q E h=>by obtain ⟨_,_,rfl,_⟩:=h; rfl) (fun cdv A outer s H vs Q E hr h=>?_)
  obtain ⟨a,p,rfl,⟨dx,hp⟩,le,q⟩:=h
  refine ⟨_,zC (yX (zQ qJ (zJ (pv 0) rfl) (yB rfl T.G.i_NOT_YET) (zY _)) (zH (zO (yB rfl T.G.i_WAITING))) (zU)) (zH (zO (zCJ (zQ qJ (zJ (pv 0) rfl) (yB rfl T.G.i_NOT_YET) (zY _)) (yB rfl T.G.i_INSIDE) (yB rfl T.G.i_LEFT)))),?_⟩
  refine yK (zP (zA2 (zI (zA rfl) (by assumption) T.C.k_Person.c T.C.n_Person_entered (jK _ _ _ _ _)) yH)) (zG.refl _) (fun H1 s1 e=>?_) (fun H1 s1 e=>?_)
  · refine yF yH s1 fun H2 s2=>qv (q H2 s2) ?_
    unfold stOf
    cases e1:p.entered with
    | some n =>
      rw [e1] at e
      exact absurd (of_decide_eq_true e) (tm_ne n)
    | none =>
      cases e2:p.left with
      | some n=>exact absurd e1 (le (by rw [e2]; exact fun z=>nomatch z))
      | none=>rfl
  · refine yF (pu_if (zP (zA2 (zI (zA rfl) (by assumption) T.C.k_Person.c T.C.n_Person_left (zBD _ _ _ _ _)) yH)) yH yH) s1 fun H2 s2=>qv (q H2 s2) ?_
    unfold stOf
    cases e1:p.entered with
    | none =>
      rw [e1] at e
      simp [tm] at e
    | some n =>
      cases e2:p.left with
      | some m =>
        rw [if_neg fun z=>tm_ne _ (of_decide_eq_true z)]
        rfl
      | none=>rfl
theorem zIY {a:Addr} {p:Lf.Person} (h:wB t H0 a p) (le:p.left ≠ none→p.entered ≠ none):∀ (H:Hp) (Q:VK),zG H0 H→(∀ H',zG H H'→Q (.int (stOf p:Nat)) H')→zEP K t ([.ref a] ++ []) H Q E0:=fun H Q s q=>⟨a,p,rfl,h.same s,le,q⟩
def zAX (K:PySem.W.Frag) (t:Adr):Sp:=fun vs H Q _=>∃ (a:Addr) (p:Lf.Person) (n:Nat),vs = [.ref a,.int n]∧wB t H a p∧p.came ≤ p.entered.getD n∧∀ H',zG H H'→Q (.int (p.entered.getD n - p.came:Nat)) H'
theorem zII (T:Txt K mg t):qL P w K mg base CX0 1 t.f_ticks_waited t.d_ticks_waited ["person", "now"] (zAX K t):=by
  refine T.D.ticks_waited.F.ok zDA (fun vs H Q E h=>by obtain ⟨_,_,_,rfl,_⟩:=h; rfl) (fun cdv A outer s H vs Q E hr h=>?_)
  obtain ⟨a,p,n,rfl,⟨dx,hp⟩,le,q⟩:=h
  refine ⟨_,zC (yG (i:=2) zDA.nd rfl (by first | exact Or.inl rfl | exact Or.inr rfl) (zCJ (zQ qJ (zJ (pv 0) rfl) (yB rfl T.G.i_NOT_YET) (zY _)) (qX zCV (pv 1) yC) (zJ (pv 0) rfl))) (zH (zO (qX zG6 (pv 2) (zJ (pv 0) rfl)))),?_⟩
  refine xY (pu_if (zP (zA2 (zI (zA rfl) (by assumption) T.C.k_Person.c T.C.n_Person_entered (jK _ _ _ _ _)) yH)) (jN (zA rfl) yH) (zI (zA rfl) (by assumption) T.C.k_Person.c T.C.n_Person_entered (jK _ _ _ _ _))) (zG.refl _) fun H1 s1=>?_
  have ev:(if decide ((tm p.entered:Int) = 0) = true then V.int ((n:Int) + 1) else V.int (tm p.entered)) = V.int (p.entered.getD n + 1:Nat):=by
    cases e1:p.entered with
    | none=>rfl
    | some m =>
      rw [if_neg fun z=>tm_ne _ (of_decide_eq_true z)]
      rfl
  rw [ev]
  refine yF (jN (zA rfl) (zI (zA rfl) (by assumption) T.C.k_Person.c T.C.n_Person_came (zG4 _ _ _ _ _))) s1 fun H2 s2=>qv (q H2 s2) ?_
  congr 1
  omega
theorem zIW {a:Addr} {p:Lf.Person} {n:Nat} (h:wB t H0 a p) (le:p.came ≤ p.entered.getD n):∀ (H:Hp) (Q:VK),zG H0 H→(∀ H',zG H H'→Q (.int (p.entered.getD n - p.came:Nat)) H')→zAX K t ([.ref a,.int n] ++ []) H Q E0:=fun H Q s q=>⟨a,p,n,rfl,h.same s,le,q⟩
def zBG (p:Lf.Person) (n:Nat):Nat:=match p.entered with
  | some m=>p.left.getD n - m
  | none=>0
def zAY (K:PySem.W.Frag) (t:Adr):Sp:=fun vs H Q _=>∃ (a:Addr) (p:Lf.Person) (n:Nat),vs = [.ref a,.int n]∧wB t H a p∧(∀ m,p.entered = some m→m ≤ p.left.getD n)∧∀ H',zG H H'→Q (.int (zBG p n:Nat)) H'
theorem zIJ (T:Txt K mg t):qL P w K mg base CX0 1 t.f_ticks_inside t.d_ticks_inside ["person", "now"] (zAY K t):=by
  refine T.D.ticks_inside.F.ok zDB (fun vs H Q E h=>by obtain ⟨_,_,_,rfl,_⟩:=h; rfl) (fun cdv A outer s H vs Q E hr h=>?_)
  obtain ⟨a,p,n,rfl,⟨dx,hp⟩,le,q⟩:=h
  refine ⟨_,zC (yX (zQ qJ (zJ (pv 0) rfl) (yB rfl T.G.i_NOT_YET) (zY _)) (zH (zO yC)) (zU)) (zC (yG (i:=2) zDB.nd rfl (by first | exact Or.inl rfl | exact Or.inr rfl) (zCJ (zQ qJ (zJ (pv 0) rfl) (yB rfl T.G.i_NOT_YET) (zY _)) (qX zCV (pv 1) yC) (zJ (pv 0) rfl))) (zH (zO (qX zG6 (pv 2) (zJ (pv 0) rfl))))),?_⟩
  refine yK (zP (zA2 (zI (zA rfl) (by assumption) T.C.k_Person.c T.C.n_Person_entered (jK _ _ _ _ _)) yH)) (zG.refl _) (fun H1 s1 e=>?_) (fun H1 s1 e=>?_)
  · refine yF yH s1 fun H2 s2=>qv (q H2 s2) ?_
    unfold zBG
    cases e1:p.entered with
    | some m =>
      rw [e1] at e
      exact absurd (of_decide_eq_true e) (tm_ne m)
    | none=>rfl
  cases e1:p.entered with
  | none =>
    rw [e1] at e
    simp [tm] at e
  | some m =>
    have l1:=le m e1
    refine xY (pu_if (zP (zA2 (zI (zA rfl) (by assumption) T.C.k_Person.c T.C.n_Person_left (zBD _ _ _ _ _)) yH)) (jN (zA rfl) yH) (zI (zA rfl) (by assumption) T.C.k_Person.c T.C.n_Person_left (zBD _ _ _ _ _))) s1 fun H1 s1=>?_
    have ev:(if decide ((tm p.left:Int) = 0) = true then V.int ((n:Int) + 1) else V.int (tm p.left)) = V.int (p.left.getD n + 1:Nat):=by
      cases e2:p.left with
      | none=>rfl
      | some k =>
        rw [if_neg fun z=>tm_ne _ (of_decide_eq_true z)]
        rfl
    rw [ev]
    refine yF (jN (zA rfl) (zI (zA rfl) (by assumption) T.C.k_Person.c T.C.n_Person_entered (jK _ _ _ _ _))) s1 fun H2 s2=>qv (q H2 s2) ?_
    unfold zBG
    rw [e1]
    show V.int ((p.left.getD n - m:Nat):Int) = V.int (((p.left.getD n + 1:Nat):Int) - ((m + 1:Nat):Int))
    congr 1
    omega
theorem zIX {a:Addr} {p:Lf.Person} {n:Nat} (h:wB t H0 a p) (le:∀ m,p.entered = some m→m ≤ p.left.getD n):∀ (H:Hp) (Q:VK),zG H0 H→(∀ H',zG H H'→Q (.int (zBG p n:Nat)) H')→zAY K t ([.ref a,.int n] ++ []) H Q E0:=fun H Q s q=>⟨a,p,n,rfl,h.same s,le,q⟩
structure HG where
  pl:Addr
  lC:Addr
  lP:Addr
  dW:Addr
  cs:List (Addr × CL)
  ps:List Addr
  tag:Addr→Nat
def zHC (tag:Addr→Nat) (i:Nat) (z:Addr × CL):Prop:=tag z.1 = 4 * i + 10∧tag z.2.li = 4 * i + 11∧tag z.2.lp = 4 * i + 12∧tag z.2.lc = 4 * i + 13
structure xA (K:PySem.W.Frag) (t:Adr) (H:Hp) (a:Addr) (G:HG) (S:Lf.Hall):Prop where
  obj:∃ dx,H a = some (.ins t.House dx (jO (.ref G.pl) (.int S.time) (.ref G.lC) (.ref G.lP) (.ref G.dW)))
  ta:G.tag a = 3
  tC:G.tag G.lC = 0
  tP:G.tag G.lP = 1
  tW:G.tag G.dW = 4
  plan:xO t H G.pl S.house
  lst:H G.lC = some (.lst (G.cs.map fun z=>V.ref z.1))
  clen:G.cs.length = S.cars.length
  c6:S.cars.length ≤ 6
  car:∀ i z c,G.cs[i]? = some z→S.cars[i]? = some c→zX K t H z.1 z.2 c∧zHC G.tag i z
  plst:H G.lP = some (.lst (G.ps.map V.ref))
  plen:G.ps.length = S.persons.length
  per:∀ k z p,G.ps[k]? = some z→S.persons[k]? = some p→wB t H z p∧G.tag z = 100000 + k
def key (f d:Nat):List Key:=[Sum.inl (f:Int),Sum.inl (d:Int)]
def wI (H:Hp) (tag:Addr→Nat) (dW:Addr) (W:Nat→Nat→List Nat):Prop :=
  ∃ kvs:List (List Key × V),H dW = some (.dT kvs)∧(kvs.map (·.1)).Nodup∧(∀ k ∈ kvs.map (·.1),∃ f d:Nat,f < 32∧d ≤ 2∧k = key f d) ∧
    ∀ f d:Nat,(∀ v,zEB kvs (key f d) = some v→∃ q,v = .ref q∧H q = some (.lst (nI (W f d)))∧tag q = 2)∧(zEB kvs (key f d) = none→W f d = [])
structure zW (K:PySem.W.Frag) (t:Adr) (H:Hp) (a:Addr) (G:HG) (S:Lf.Hall):Prop where
  b:xA K t H a G S
  w:wI H G.tag G.dW S.waiting
def Kp (G G':HG) (H H':Hp):Prop:=(∀ b o,H b = some o→(G.tag b = 7∨∃ xs,o = .tup xs)→H' b = some o)∧∀ b o,H b = some o→G.tag b = 7→G'.tag b = 7
section
variable {K:PySem.W.Frag} {t:Adr} {H H1 H2:Hp} {a m:Addr} {G G1 G2:HG} {S:Lf.Hall} {W:Nat→Nat→List Nat}
theorem Kp.of (s:zG H H1):Kp G G H H1:=⟨fun b o e _=>s b o e,fun _ _ _ e=>e⟩
theorem Kp.trans (x:Kp G G1 H H1) (y:Kp G1 G2 H1 H2):Kp G G2 H H2:=by
  refine ⟨fun b o e h=>?_,fun b o e h=>y.2 b o (x.1 b o e (.inl h)) (x.2 b o e h)⟩
  have e1:=x.1 b o e h
  rcases h with h | h
  · exact y.1 b o e1 (.inl (x.2 b o e h))
  · exact y.1 b o e1 (.inr h)
theorem xA.same (A:xA K t H a G S) (s:zG H H1):xA K t H1 a G S :=
  ⟨let ⟨d,e⟩:=A.obj; ⟨d,s _ _ e⟩,A.ta,A.tC,A.tP,A.tW,A.plan.same s,s _ _ A.lst,A.clen,A.c6,fun i z c h1 h2=>⟨(A.car i z c h1 h2).1.same s,(A.car i z c h1 h2).2⟩,s _ _ A.plst,A.plen,fun k z p h1 h2=>⟨(A.per k z p h1 h2).1.same s,(A.per k z p h1 h2).2⟩⟩
theorem wI.same {tag:Addr→Nat} {dW:Addr} (h:wI H tag dW W) (s:zG H H1):wI H1 tag dW W:=by
  obtain ⟨kvs,e,nd,ks,vs⟩:=h
  exact ⟨kvs,s _ _ e,nd,ks,fun f d=>⟨fun v hv=>let ⟨q,a1,a2,a3⟩:=(vs f d).1 v hv; ⟨q,a1,s _ _ a2,a3⟩,(vs f d).2⟩⟩
theorem zW.same (A:zW K t H a G S) (s:zG H H1):zW K t H1 a G S:=⟨A.b.same s,A.w.same s⟩
def zGV (o:HO):Prop:=(∀ xs,o ≠ .tup xs)∧∀ u xs,o ≠ .frz u (.tup xs)
theorem jB {C dx:Addr} {fs:List (Str × V)}:zGV (.ins C dx fs):=⟨fun _ z=>(by cases z),fun _ _ z=>(by cases z)⟩
theorem jA {xs:List V}:zGV (.lst xs):=⟨fun _ z=>(by cases z),fun _ _ z=>(by cases z)⟩
theorem zHN {kvs:List (List Key × V)}:zGV (.dT kvs):=⟨fun _ z=>(by cases z),fun _ _ z=>(by cases z)⟩
theorem But.tupN {o:HO} (x:But m H H1) (hm:H m = some o) (nt:zGV o) {b:Addr} {xs:List V} (h:SqT K H b xs):SqT K H1 b xs:=by
  rcases h with (h | ⟨u,h⟩) | h
  · exact .inl (.inl (x _ _ (fun e=>by rw [e,hm] at h; exact nt.1 _ (Option.some.inj h)) h))
  · exact .inl (.inr ⟨u,x _ _ (fun e=>by rw [e,hm] at h; exact nt.2 _ _ (Option.some.inj h)) h⟩)
  · exact .inr h
theorem zX.butN {o:HO} {b:Addr} {L:CL} {c:Lf.Car} (C:zX K t H b L c) (x:But m H H1) (hm:H m = some o) (nt:zGV o) (n0:b ≠ m) (n1:L.li ≠ m) (n2:L.lp ≠ m) (n3:L.lc ≠ m):zX K t H1 b L c:=by
  obtain ⟨⟨dx,hc⟩,h1,h2,⟨zs,ez,h3,h3'⟩,h4⟩:=C
  exact ⟨⟨dx,x _ _ n0 hc⟩,x _ _ n1 h1,x _ _ n2 h2,⟨zs,ez,x _ _ n3 h3,fun z hz=>x.tupN hm nt (h3' z hz)⟩,h4⟩
theorem xC {tag:Addr→Nat} {x y:Addr} {i j:Nat} (hx:tag x = i) (hy:tag y = j) (n:i ≠ j):x ≠ y:=fun e=>n (by rw [← hx,← hy,e])
theorem xA.carOf {o:HO} (A:xA K t H a G S) (x:But m H H1) (hm:H m = some o) (nt:zGV o) {i:Nat} {z:Addr × CL} {c:Lf.Car} (h1:G.cs[i]? = some z) (h2:S.cars[i]? = some c) (n:G.tag m < 4 * i + 10∨4 * i + 13 < G.tag m):zX K t H1 z.1 z.2 c:=by
  obtain ⟨C,t0,t1,t2,t3⟩:=A.car i z c h1 h2
  exact C.butN x hm nt (xC t0 rfl (by omega)) (xC t1 rfl (by omega)) (xC t2 rfl (by omega)) (xC t3 rfl (by omega))
theorem wI.but {o:HO} {tag tag':Addr→Nat} {dW:Addr} (h:wI H tag dW W) (x:But m H H1) (hm:H m = some o) (n1:dW ≠ m) (n2:tag m ≠ 2) (ht:∀ b u,H b = some u→tag' b = tag b):wI H1 tag' dW W:=by
  obtain ⟨kvs,e,nd,ks,vs⟩:=h
  exact ⟨kvs,x _ _ n1 e,nd,ks,fun f d=>⟨fun v hv=>let ⟨q,a1,a2,a3⟩:=(vs f d).1 v hv; ⟨q,a1,x _ _ (xC a3 rfl (Ne.symm n2)) a2,by rw [ht _ _ a2]; exact a3⟩,(vs f d).2⟩⟩
theorem plan_house {x0 x1 x2 x3 x4 x5 x6 y0 y1 y2 y3 y4:V}:zDL x0 x1 x2 x3 x4 x5 x6 ≠ jO y0 y1 y2 y3 y4:=by
  intro e
  unfold zDL jO at e
  injection e with e1 e2
  injection e1 with e3 e4
  exact absurd e3 (by decide +kernel)
theorem plan_pers {x0 x1 x2 x3 x4 x5 x6 y0 y1 y2 y3 y4:V}:zDL x0 x1 x2 x3 x4 x5 x6 ≠ zAD y0 y1 y2 y3 y4:=by
  intro e
  unfold zDL zAD at e
  injection e with e1 e2
  injection e1 with e3 e4
  exact absurd e3 (by decide +kernel)
theorem xA.rest {o:HO} (A:xA K t H a G S) (x:But m H H1) (hm:H m = some o) (nt:zGV o) (np:G.pl ≠ m) :
    (G.tag m ≠ 3→∃ dx,H1 a = some (.ins t.House dx (jO (.ref G.pl) (.int S.time) (.ref G.lC) (.ref G.lP) (.ref G.dW))))∧xO t H1 G.pl S.house∧(G.tag m ≠ 0→H1 G.lC = some (.lst (G.cs.map fun z=>V.ref z.1))) ∧
    (G.tag m ≠ 1→H1 G.lP = some (.lst (G.ps.map V.ref)))∧(∀ k z p,G.ps[k]? = some z→S.persons[k]? = some p→G.tag m ≠ 100000 + k→wB t H1 z p):=by
  refine ⟨fun n=>let ⟨d,e⟩:=A.obj; ⟨d,x _ _ (xC A.ta rfl (Ne.symm n)) e⟩,let ⟨d,e⟩:=A.plan; ⟨d,x _ _ np e⟩,fun n=>x _ _ (xC A.tC rfl (Ne.symm n)) A.lst,fun n=>x _ _ (xC A.tP rfl (Ne.symm n)) A.plst,fun k z p h1 h2 n=>?_⟩
  obtain ⟨⟨d,e⟩,tz⟩:=A.per k z p h1 h2
  exact ⟨d,x _ _ (xC tz rfl (Ne.symm n)) e⟩
theorem xA.setCar {o:HO} {i:Nat} {z:Addr × CL} {c c':Lf.Car} {L':CL} {tag':Addr→Nat} (A:xA K t H a G S) (hz:G.cs[i]? = some z) (hc:S.cars[i]? = some c) (x:But m H H1) (hm:H m = some o) (nt:zGV o) (np:G.pl ≠ m) (t1:4 * i + 10 ≤ G.tag m) (t2:G.tag m ≤ 4 * i + 13)
    (C':zX K t H1 z.1 L' c') (ht:∀ b u,H b = some u→tag' b = G.tag b) (tw:tag' G.dW = 4) (tl:zHC tag' i (z.1,L')):xA K t H1 a { G with cs:=G.cs.set i (z.1,L'),tag:=tag' } { S with cars:=S.cars.set i c' }:=by
  have hi:i < S.cars.length:=(List.getElem?_eq_some_iff.mp hc).1
  have hi':i < G.cs.length:=(List.getElem?_eq_some_iff.mp hz).1
  have c6:=A.c6
  obtain ⟨r1,r2,r3,r4,r5⟩:=A.rest x hm nt np
  obtain ⟨da,ea⟩:=A.obj
  refine ⟨r1 (by omega),Eq.trans (ht _ _ ea) A.ta,Eq.trans (ht _ _ A.lst) A.tC,Eq.trans (ht _ _ A.plst) A.tP,tw,r2,?_,by simp [A.clen],by simp; omega,fun j y d h1 h2=>?_,r4 (by omega),A.plen,fun k y p h1 h2=>⟨r5 k y p h1 h2 (by omega),?_⟩⟩
  · rw [r3 (by omega)]
    congr 2
    refine List.ext_getElem? fun j=>?_
    show (G.cs.map fun z=>V.ref z.1)[j]? = ((G.cs.set i (z.1,L')).map fun z=>V.ref z.1)[j]?
    rw [List.getElem?_map,List.getElem?_map,List.getElem?_set]
    by_cases e:i = j
    · subst e
      rw [if_pos rfl,if_pos hi',hz]
      rfl
    · rw [if_neg e]
  · have h1:(G.cs.set i (z.1,L'))[j]? = some y:=h1
    have h2:(S.cars.set i c')[j]? = some d:=h2
    by_cases e:i = j
    · subst e
      rw [List.getElem?_set_self hi'] at h1
      rw [List.getElem?_set_self hi] at h2
      cases h1
      cases h2
      exact ⟨C',tl⟩
    · rw [List.getElem?_set_ne e] at h1 h2
      obtain ⟨Cj,u0,u1,u2,u3⟩:=A.car j y d h1 h2
      obtain ⟨dj,ej⟩:=Cj.obj
      obtain ⟨yy,ly,_⟩:=Cj.cls.len
      refine ⟨A.carOf x hm nt h1 h2 (by omega),?_,?_,?_,?_⟩
      · exact Eq.trans (ht _ _ ej) u0
      · exact Eq.trans (ht _ _ Cj.ins) u1
      · exact Eq.trans (ht _ _ Cj.prs) u2
      · exact Eq.trans (ht _ _ ly) u3
  · obtain ⟨⟨d,e⟩,tz⟩:=A.per k y p h1 h2
    exact Eq.trans (ht _ _ e) tz
def retag (tag:Addr→Nat) (e:Addr) (n:Nat):Addr→Nat:=fun b=>if b = e then n else tag b
theorem yO {tag:Addr→Nat} {e:Addr} {n:Nat}:retag tag e n e = n:=if_pos rfl
theorem xI {tag:Addr→Nat} {e b:Addr} {n:Nat} (h:b ≠ e):retag tag e n b = tag b:=if_neg h
theorem yN {tag:Addr→Nat} {e:Addr} {n:Nat} (h:H e = none):∀ b u,H b = some u→retag tag e n b = tag b:=fun b u q=>xI (zM q h)
theorem xA.retag {tag':Addr→Nat} (A:xA K t H a G S) (ht:∀ b u,H b = some u→tag' b = G.tag b) (tw:tag' G.dW = 4):xA K t H a { G with tag:=tag' } S:=by
  obtain ⟨da,ea⟩:=A.obj
  refine ⟨A.obj,Eq.trans (ht _ _ ea) A.ta,Eq.trans (ht _ _ A.lst) A.tC,Eq.trans (ht _ _ A.plst) A.tP,tw,A.plan,A.lst,A.clen,A.c6,fun j y d h1 h2=>?_,A.plst,A.plen,fun k y p h1 h2=>?_⟩
  · obtain ⟨Cj,u0,u1,u2,u3⟩:=A.car j y d h1 h2
    obtain ⟨dj,ej⟩:=Cj.obj
    obtain ⟨yy,ly,_⟩:=Cj.cls.len
    exact ⟨Cj,Eq.trans (ht _ _ ej) u0,Eq.trans (ht _ _ Cj.ins) u1,Eq.trans (ht _ _ Cj.prs) u2,Eq.trans (ht _ _ ly) u3⟩
  · obtain ⟨⟨d,e⟩,tz⟩:=A.per k y p h1 h2
    exact ⟨⟨d,e⟩,Eq.trans (ht _ _ e) tz⟩
theorem wI.retag {tag tag':Addr→Nat} {dW:Addr} (h:wI H tag dW W) (ht:∀ b u,H b = some u→tag' b = tag b):wI H tag' dW W:=by
  obtain ⟨kvs,e,nd,ks,vs⟩:=h
  exact ⟨kvs,e,nd,ks,fun f d=>⟨fun v hv=>let ⟨q,a1,a2,a3⟩:=(vs f d).1 v hv; ⟨q,a1,a2,Eq.trans (ht _ _ a2) a3⟩,(vs f d).2⟩⟩
theorem wI.tracked {tag:Addr→Nat} {dW:Addr} (h:wI H tag dW W):∃ o,H dW = some o:=let ⟨kvs,e,_⟩:=h; ⟨_,e⟩
theorem zW.local {e:Addr} (A:zW K t H a G S) (n:H e = none):zW K t H a { G with tag:=LL.retag G.tag e 7 } S:=by
  obtain ⟨ow,ew⟩:=A.w.tracked
  exact ⟨A.b.retag (yN n) (Eq.trans (yN n _ _ ew) A.b.tW),A.w.retag (yN n)⟩
theorem Kp.local {e:Addr} (n:H e = none):Kp G { G with tag:=retag G.tag e 7 } H H:=⟨fun b o q _=>q,fun b o q h=>Eq.trans (yN n b o q) h⟩
theorem xA.setTime {dx:Addr} {n:Nat} (A:xA K t H a G S) (ea:H a = some (.ins t.House dx (jO (.ref G.pl) (.int S.time) (.ref G.lC) (.ref G.lP) (.ref G.dW)))) (s:zG H H1) :
    xA K t (upd H1 a (.ins t.House dx (jO (.ref G.pl) (.int (n:Int)) (.ref G.lC) (.ref G.lP) (.ref G.dW)))) a G { S with time:=n }:=by
  have A1:=A.same s
  have x:But a H1 (upd H1 a (.ins t.House dx (jO (.ref G.pl) (.int (n:Int)) (.ref G.lC) (.ref G.lP) (.ref G.dW)))):=But.up (zG.refl _)
  have np:G.pl ≠ a:=let ⟨d,e⟩:=A1.plan; jC e (s _ _ ea) (by intro z; injection z with z1 z2 z3; exact plan_house z3)
  obtain ⟨r1,r2,r3,r4,r5⟩:=A1.rest x (s _ _ ea) jB np
  have ta:=A.ta
  exact ⟨⟨dx,zF⟩,A.ta,A.tC,A.tP,A.tW,r2,r3 (by omega),A.clen,A.c6,fun i z c h1 h2=>⟨A1.carOf x (s _ _ ea) jB h1 h2 (by omega),(A.car i z c h1 h2).2⟩,r4 (by omega),A.plen,fun k z p h1 h2=>⟨r5 k z p h1 h2 (by omega),(A.per k z p h1 h2).2⟩⟩
theorem Kp.but {o:HO} (s:zG H H1) (x:But m H1 H2) (hm:H1 m = some o) (nt:zGV o) (n7:G.tag m ≠ 7) (ht:∀ b u,H b = some u→G1.tag b = G.tag b):Kp G G1 H H2:=by
  refine ⟨fun b u e h=>x _ _ (fun z=>?_) (s _ _ e),fun b u e h=>Eq.trans (ht _ _ e) h⟩
  subst z
  rcases h with h | ⟨xs,h⟩
  · exact n7 h
  · subst h
    rw [s _ _ e] at hm
    exact nt.1 xs (Option.some.inj hm).symm
theorem xA.setPers {k:Nat} {p p':Lf.Person} (A:xA K t H a G S) (hz:G.ps[k]? = some m) (hp:S.persons[k]? = some p) (x:But m H H1) (P':wB t H1 m p'):xA K t H1 a G { S with persons:=S.persons.set k p' }:=by
  obtain ⟨⟨dm,em⟩,tm⟩:=A.per k m p hz hp
  have np:G.pl ≠ m:=let ⟨d,e⟩:=A.plan; jC e em (by intro z; injection z with z1 z2 z3; exact plan_pers z3)
  obtain ⟨r1,r2,r3,r4,r5⟩:=A.rest x em jB np
  have c6:=A.c6
  have hk:k < S.persons.length:=(List.getElem?_eq_some_iff.mp hp).1
  refine ⟨r1 (by omega),A.ta,A.tC,A.tP,A.tW,r2,r3 (by omega),A.clen,A.c6,fun i z c h1 h2=>⟨A.carOf x em jB h1 h2 ?_,(A.car i z c h1 h2).2⟩,r4 (by omega),by simp [A.plen],fun j z q h1 h2=>?_⟩
  · have hi:i < S.cars.length:=(List.getElem?_eq_some_iff.mp h2).1
    omega
  · have h2:(S.persons.set k p')[j]? = some q:=h2
    by_cases e:k = j
    · subst e
      rw [List.getElem?_set_self hk] at h2
      cases h2
      rw [hz] at h1
      cases h1
      exact ⟨P',tm⟩
    · rw [List.getElem?_set_ne e] at h2
      exact ⟨r5 j z q h1 h2 (by omega),(A.per j z q h1 h2).2⟩
theorem xA.addPers {z:Addr} {p:Lf.Person} (A:xA K t H a G S) (s:zG H H1) (nz:H z = none) (hp:wB t H1 z p) (tw:∃ o,H G.dW = some o) :
    xA K t (upd H1 G.lP (.lst (G.ps.map V.ref ++ [.ref z]))) a { G with ps:=G.ps ++ [z],tag:=LL.retag G.tag z (100000 + S.persons.length) } { S with persons:=S.persons ++ [p] }:=by
  have ht:=yN (tag:=G.tag) (n:=100000 + S.persons.length) nz
  have A1:=(A.retag ht (by obtain ⟨o,e⟩:=tw; exact Eq.trans (ht _ _ e) A.tW)).same s
  have hm:H1 G.lP = some (.lst (G.ps.map V.ref)):=s _ _ A.plst
  have x:But G.lP H1 (upd H1 G.lP (.lst (G.ps.map V.ref ++ [.ref z]))):=But.up (zG.refl _)
  have np:G.pl ≠ G.lP:=let ⟨d,e⟩:=A1.plan; jC e hm (by intro z; cases z)
  obtain ⟨r1,r2,r3,r4,r5⟩:=A1.rest x hm jA np
  have tP:LL.retag G.tag z (100000 + S.persons.length) G.lP = 1:=A1.tP
  obtain ⟨dz,ez⟩:=hp
  have nzp:z ≠ G.lP:=jC ez hm (by intro z; cases z)
  refine ⟨r1 (by show LL.retag G.tag z (100000 + S.persons.length) G.lP ≠ 3; omega),A1.ta,A1.tC,A1.tP,A1.tW,r2,r3 (by show LL.retag G.tag z (100000 + S.persons.length) G.lP ≠ 0; omega),A1.clen,A1.c6,fun i y c h1 h2=>⟨A1.carOf x hm jA h1 h2 (.inl ?_),(A1.car i y c h1 h2).2⟩,?_,?_,fun j y q h1 h2=>?_⟩
  · show LL.retag G.tag z (100000 + S.persons.length) G.lP < 4 * i + 10
    omega
  · rw [zF,List.map_append]
    rfl
  · show (G.ps ++ [z]).length = (S.persons ++ [p]).length
    rw [List.length_append,List.length_append,A.plen]
    rfl
  · have h1:(G.ps ++ [z])[j]? = some y:=h1
    have h2:(S.persons ++ [p])[j]? = some q:=h2
    by_cases e:j < S.persons.length
    · rw [List.getElem?_append_left (by rw [A.plen]; exact e)] at h1
      rw [List.getElem?_append_left e] at h2
      exact ⟨r5 j y q h1 h2 (by show LL.retag G.tag z (100000 + S.persons.length) G.lP ≠ _; omega),(A1.per j y q h1 h2).2⟩
    · have hl:j < (S.persons ++ [p]).length:=(List.getElem?_eq_some_iff.mp h2).1
      rw [List.length_append,List.length_singleton] at hl
      have e1:j = S.persons.length:=by omega
      subst e1
      rw [← A.plen,List.getElem?_concat_length] at h1
      rw [List.getElem?_concat_length] at h2
      cases h1
      cases h2
      exact ⟨⟨dz,x _ _ nzp ez⟩,yO⟩
end
section
variable {K:PySem.W.Frag} {σ:L2.St} {H0 H:Hp} {tl te td ty:TE} {tt:TT} {α:Type} {D:zC4} {r:TS}
theorem nw_lc {j:Nat} {a:Addr} {as:List α} {xv g:α→V} {p:α→Bool} (hl:PuE tl σ H0 (.ref a)) (h:H0 a = some (.lst (as.map xv))) (hz:as.length ≤ sizeLine)
    (ht:∀ z ∈ as,PuT tt ((σ.set j none).set j (some (xv z))) H0 (p z)) (he:∀ z ∈ as,p z = true→PuE te ((σ.set j none).set j (some (xv z))) H0 (g z)):NwE (tLc (iList K tl) (zA7 j) tt te [j]) σ H0 ((as.filter p).map g):=fun H Q s q=>pu_lc hl h hz ht he H Q s q
theorem nw_lcA {j:Nat} {a:Addr} {as:List α} {xv g:α→V} (hl:PuE tl σ H0 (.ref a)) (h:H0 a = some (.lst (as.map xv))) (hz:as.length ≤ sizeLine)
    (he:∀ z ∈ as,PuE te ((σ.set j none).set j (some (xv z))) H0 (g z)):NwE (tLc (iList K tl) (zA7 j) tYes te [j]) σ H0 (as.map g):=by
  have e:as.filter (fun _=>true) = as:=List.filter_eq_self.mpr fun _ _=>rfl
  have:=nw_lc (K:=K) (tt:=tYes) (p:=fun _=>true) (g:=g) hl h hz (fun z hz=>pu_yes) (fun z hz _=>he z hz)
  rw [e] at this
  exact this
theorem st_ret_get {dW k:Addr} {kvs:List (List Key × V)} {f d:Nat} (hd:PuE td σ H0 (.ref dW)) (hy:PuE ty σ H0 (.ref k)) (s:zG H0 H) (e:H0 dW = some (.dT kvs)) (hk:H0 k = some (.tup [.int f,.int d]))
    (q:∀ H' p,zG H0 H'→H' p = some (.lst [])→D.rt ((zEB kvs (key f d)).getD (.ref p)) H'):tRet (tDGet2 td ty (tLst zAG)) D σ H :=
  hd H _ s fun H1 s1=>⟨dW,rfl,.inr ⟨kvs,.inl (s1 _ _ (s _ _ e))⟩,hy H1 _ (s.trans s1) fun H2 s2=>⟨Nat.zero_le _,fun p hp=>⟨zEB kvs (key f d),DGet.t (k:=key f d) ((((s.trans s1).trans s2).trans (zG.new hp)) _ _ e) ((((s.trans s1).trans s2).trans (zG.new hp)) _ _ hk),q _ p (((s.trans s1).trans s2).trans (zG.new hp)) zF⟩⟩⟩
theorem pu_any {bs:List Bool} (h:NwE te σ H0 (bs.map V.bl)):PuE (tCB (rAny K) (yW te zAG)) σ H0 (.bl (bs.any id)):=fun H Q s q =>
  h H _ s fun H1 p s1 _ hp=>⟨p,bs,rfl,SqL.of hp,q H1 s1⟩
theorem pu_sum {ns:List Int} (h:NwE te σ H0 (ns.map V.int)):PuE (tCB (rSum K) (yW te zAG)) σ H0 (.int ns.sum):=fun H Q s q =>
  h H _ s fun H1 p s1 _ hp=>⟨p,ns,rfl,SqL.of hp,q H1 s1⟩
theorem pu_minL {l:List Nat} {m:Nat} (h:NwE te σ H0 (nI l)) (hm:m ∈ l) (hg:∀ y ∈ l,m ≤ y):PuE (tCB (rMin K) (yW te zAG)) σ H0 (.int (m:Int)):=fun H Q s q =>
  h H _ s fun H1 p s1 _ hp=>⟨p,l.map fun (n:Nat)=>(n:Int),rfl,SqL.of (by rw [hp,zE0]),by rw [List.length_map]; exact List.length_pos_of_mem hm,fun m' hm' hg'=>qv (q H1 s1) (by
    obtain ⟨y,hy,rfl⟩:=List.mem_map.mp hm'
    have a1:=hg y hy
    have a2:=hg' (m:Int) (List.mem_map.mpr ⟨m,hm,rfl⟩)
    congr 1
    omega)⟩
theorem zDP {ts:TA} {vs:List V} (h:PuA ts σ H0 vs) (hz:vs.length ≤ sizeLine):NwE (tLst ts) σ H0 vs:=fun H Q s q=>h H _ s fun H1 s1=>⟨hz,fun p hp=>q _ p (s1.trans (zG.new hp)) (s1.free hp) zF⟩
theorem zBJ {i:Nat} {ys:List V} (h:NwE te σ H0 ys) (s:zG H0 H) (q:∀ H' p,zG H0 H'→H0 p = none→H' p = some (.lst ys)→r D (σ.set i (some (.ref p))) H'):zBW (tAsg te (zA7 i)) r D σ H :=
  h H _ s fun H1 p s1 n1 hp=>q H1 p (s.trans s1) (s.free n1) hp
theorem zF6 {ys:List V} (h:NwE te σ H0 ys) (s:zG H0 H) (q:∀ H' p,zG H0 H'→H0 p = none→H' p = some (.lst ys)→D.rt (.ref p) H'):tRet te D σ H :=
  h H _ s fun H1 p s1 n1 hp=>q H1 p (s.trans s1) (s.free n1) hp
end
section
variable {K:PySem.W.Frag} {σ:L2.St} {H0 H:Hp} {tl ta tb tv:TE} {D:zC4} {r bd:TS}
theorem st_for {j:Nat} {l:Addr} {xs:List V} (hl:PuE tl σ H0 (.ref l)) (s:zG H0 H) (h:H0 l = some (.lst xs)) (Pv:Nat→L2.St→Hp→Prop) (h0:∀ H1,zG H0 H1→Pv 0 σ H1) (hk:∀ i σ H,i ≤ xs.length→Pv i σ H→H l = some (.lst xs))
    (hs:∀ i x σ H,xs[i]? = some x→Pv i σ H→bd { D with nx:=Pv (i + 1),ct:=Pv (i + 1),bk:=D.nx } (σ.set j (some x)) H) (hd:∀ σ H,Pv xs.length σ H→D.nx σ H):tFor (iList K tl) (zA7 j) bd D σ H :=
  hl H _ s fun H1 s1=>⟨l,rfl,⟨_,SqL.of (s1 _ _ (s _ _ h))⟩,for_list (K:=K) (a:=l) (xs:=xs) Pv (h0 H1 (s.trans s1)) (fun i σ' H' hi p=>SqL.of (hk i σ' H' hi p)) hs hd⟩
theorem st_forS {j:Nat} {l:Addr} {xs:List V} (hl:PuE tl σ H0 (.ref l)) (s:zG H0 H) (h:H0 l = some (.lst xs)) (Pv:Nat→L2.St→Hp→Prop) (h0:∀ H1,zG H0 H1→Pv 0 σ H1) (hk:∀ i σ H,i ≤ xs.length→Pv i σ H→H l = some (.lst xs))
    (hs:∀ i x σ H,xs[i]? = some x→Pv i σ H→bd { D with nx:=Pv (i + 1),ct:=Pv (i + 1),bk:=r D } (σ.set j (some x)) H) (hd:∀ σ H,Pv xs.length σ H→r D σ H):zBW (tFor (iList K tl) (zA7 j) bd) r D σ H :=
  st_for (D:={ D with nx:=r D }) hl s h Pv h0 hk hs hd
theorem st_forN {j:Nat} {xs:List V} (hl:NwE tl σ H0 xs) (s:zG H0 H) (Pv:Addr→Nat→L2.St→Hp→Prop) (h0:∀ H1 l,zG H0 H1→H0 l = none→H1 l = some (.lst xs)→Pv l 0 σ H1) (hk:∀ l i σ H,i ≤ xs.length→Pv l i σ H→H l = some (.lst xs))
    (hs:∀ l i x σ H,xs[i]? = some x→Pv l i σ H→bd { D with nx:=Pv l (i + 1),ct:=Pv l (i + 1),bk:=r D } (σ.set j (some x)) H) (hd:∀ l σ H,Pv l xs.length σ H→r D σ H):zBW (tFor (iList K tl) (zA7 j) bd) r D σ H :=
  hl H _ s fun H1 l s1 n1 h1=>⟨l,rfl,⟨_,SqL.of h1⟩,for_list (K:=K) (a:=l) (xs:=xs) (D:={ D with nx:=r D }) (Pv l) (h0 H1 l (s.trans s1) (s.free n1) h1) (fun i σ' H' hi p=>SqL.of (hk l i σ' H' hi p)) (fun i x σ' H' hx p=>hs l i x σ' H' hx p) (fun σ' H' p=>hd l σ' H' p)⟩
theorem st_faddS {f:Str} {a C dx:Addr} {fs:List (Str × V)} {i j:Int} (hv:PuE tb σ H0 (.int j)) (ha:PuE ta σ H0 (.ref a)) (s:zG H0 H) (h:H0 a = some (.ins C dx fs)) (hc:Cls K C) (hn:yP K C f) (hl:fs.length < 1000) (hf:fs.lookup f = some (.int i))
    (q:∀ H',zG H0 H'→r D σ (upd H' a (.ins C dx (wV f (.int (i + j)) fs)))):zBW (zEW K ta tb rAdd f) r D σ H:=st_fadd (D:={ D with nx:=r D }) hv ha s h hc hn hl hf q
theorem st_forR {ts:TA} {j:Nat} {n:Nat} (ht:PuA ts σ H0 [.int (n:Int)]) (hn:n < 1000000) (s:zG H0 H) (Pv:Nat→L2.St→Hp→Prop) (h0:∀ H1,zG H0 H1→Pv 0 σ H1)
    (hs:∀ i σ H,i < n→Pv i σ H→bd { D with nx:=Pv (i + 1),ct:=Pv (i + 1),bk:=r D } (σ.set j (some (.int (i:Int)))) H) (hd:∀ σ H,Pv n σ H→r D σ H):zBW (tFor (iRng1 ts) (zA7 j) bd) r D σ H :=
  ht H _ s fun H1 s1=>⟨(n:Int),rfl,by omega,by omega,for_range (lo:=0) (n:=((n:Int)).toNat) (D:={ D with nx:=r D }) Pv (h0 H1 (s.trans s1)) (fun i σ' H' hi p=>by
    have e:V.int (0 + (i:Int)) = V.int (i:Int):=by rw [Int.zero_add]
    rw [e]
    exact hs i σ' H' (by rw [Int.toNat_natCast] at hi; exact hi) p) (fun σ' H' p=>hd σ' H' (by rw [Int.toNat_natCast] at p; exact p))⟩
theorem st_extendL {l b:Addr} {xs zs:List V} (ho:PuE ta σ H0 (.ref l)) (hv:PuE tv σ H0 (.ref b)) (s:zG H0 H) (h:H0 l = some (.lst xs)) (hb:H0 b = some (.lst zs)) (hz:xs.length + zs.length ≤ sizeLine) (q:∀ H',zG H0 H'→D.nx σ (upd H' l (.lst (xs ++ zs)))) :
    zC0 (tBM K "list" zDI ta (yW tv zAG)) D σ H :=
  ho H _ s fun H1 s1=>⟨.inl ⟨rfl,_,SqL.of (s1 _ _ (s _ _ h))⟩,hv H1 _ (s.trans s1) fun H2 s2=>⟨l,b,xs,zs,rfl,rfl,s2 _ _ (s1 _ _ (s _ _ h)),s2 _ _ (s1 _ _ (s _ _ hb)),hz,q H2 ((s.trans s1).trans s2)⟩⟩
theorem st_extendN {l:Addr} {xs zs:List V} (ho:PuE ta σ H0 (.ref l)) (hv:NwE tv σ H0 zs) (s:zG H0 H) (h:H0 l = some (.lst xs)) (hz:xs.length + zs.length ≤ sizeLine) (q:∀ H',zG H0 H'→D.nx σ (upd H' l (.lst (xs ++ zs)))) :
    zC0 (tBM K "list" zDI ta (yW tv zAG)) D σ H :=
  ho H _ s fun H1 s1=>⟨.inl ⟨rfl,_,SqL.of (s1 _ _ (s _ _ h))⟩,hv H1 _ (s.trans s1) fun H2 b s2 n2 hb=>⟨l,b,xs,zs,rfl,rfl,s2 _ _ (s1 _ _ (s _ _ h)),hb,hz,q H2 ((s.trans s1).trans s2)⟩⟩
end
theorem key_inj {f d f' d':Nat} (e:key f d = key f' d'):f = f'∧d = d':=by
  unfold key at e
  injection e with e1 e2
  injection e2 with e3 e4
  have a1:=Sum.inl.inj e1
  have a2:=Sum.inl.inj e3
  exact ⟨Int.ofNat_inj.mp a1,Int.ofNat_inj.mp a2⟩
theorem keys_le {kvs:List (List Key × V)} (nd:(kvs.map (·.1)).Nodup) (ks:∀ k ∈ kvs.map (·.1),∃ f d:Nat,f < 32∧d ≤ 2∧k = key f d):kvs.length ≤ 96:=by
  have h:∀ (l:List (List Key)),l.Nodup→(∀ k ∈ l,∃ f d:Nat,f < 32∧d ≤ 2∧k = key f d)→∃ l':List Nat,l'.length = l.length∧l'.Nodup∧(∀ n ∈ l',∃ f d:Nat,f < 32∧d ≤ 2∧n = 3 * f + d∧key f d ∈ l):=by
    intro l
    induction l with
    | nil=>exact fun _ _=>⟨[],rfl,List.nodup_nil,fun _ h=>by cases h⟩
    | cons k l ih =>
      intro nd h
      obtain ⟨n1,n2⟩:=List.nodup_cons.mp nd
      obtain ⟨l',e1,e2,e3⟩:=ih n2 fun x hx=>h x (List.mem_cons_of_mem _ hx)
      obtain ⟨f,d,hf,hd,ek⟩:=h k (List.mem_cons_self ..)
      refine ⟨(3 * f + d) :: l',by simp [e1],List.nodup_cons.mpr ⟨fun hm=>?_,e2⟩,fun n hn=>?_⟩
      · obtain ⟨f',d',hf',hd',en,hk⟩:=e3 _ hm
        have a1:f = f':=by omega
        have a2:d = d':=by omega
        subst a1 a2
        exact n1 (by rw [ek]; exact hk)
      · rcases List.mem_cons.mp hn with q | q
        · exact ⟨f,d,hf,hd,q,by rw [ek]; exact List.mem_cons_self ..⟩
        · obtain ⟨f',d',a1,a2,a3,a4⟩:=e3 n q
          exact ⟨f',d',a1,a2,a3,List.mem_cons_of_mem _ a4⟩
  obtain ⟨l',e1,e2,e3⟩:=h _ nd ks
  have:=LM.zHM 96 e2 fun n hn=>by
    obtain ⟨f,d,a1,a2,a3,_⟩:=e3 n hn
    omega
  rw [e1,List.length_map] at this
  exact this
theorem wI.put {H:Hp} {tag:Addr→Nat} {dW:Addr} {W:Nat→Nat→List Nat} (h:wI H tag dW W) {f d:Nat} (hf:f < 32) (hd:d ≤ 2):∃ kvs,H dW = some (.dT kvs)∧kvs.length < sizeLine ∧
    ∀ (H1:Hp) (q:Addr) (l:List Nat) (W':Nat→Nat→List Nat),zG H H1→H1 q = some (.lst (nI l))→tag q = 2→(∀ f' d',W' f' d' = if f' = f∧d' = d then l else W f' d')→wI (upd H1 dW (.dT (zC1 kvs (key f d) (.ref q)))) tag dW W':=by
  obtain ⟨kvs,e,nd,ks,vs⟩:=h
  refine ⟨kvs,e,by have:=keys_le nd ks; rw [sizeLine_eq]; omega,fun H1 q l W' s hq tq eW=>?_⟩
  have hw:H1 dW = some (.dT kvs):=s _ _ e
  have x:But dW H1 (upd H1 dW (.dT (zC1 kvs (key f d) (.ref q)))):=But.up (zG.refl _)
  have keep:∀ {b:Addr} {ys:List V},H1 b = some (.lst ys)→(upd H1 dW (.dT (zC1 kvs (key f d) (.ref q)))) b = some (.lst ys):=fun {b ys} hb=>x _ _ (jC hb hw (by intro z; cases z)) hb
  refine ⟨_,zF,?_,fun k hk=>?_,fun f' d'=>?_⟩
  · cases ev:zEB kvs (key f d) with
    | none=>exact nd_putK _ nd ev
    | some v =>
      have hm:=valV_in ev
      have:(zC1 kvs (key f d) (.ref q)).map (·.1) = kvs.map (·.1):=by
        unfold zC1
        rw [if_pos (by rw [zAK,ev]; rfl),List.map_map]
        refine List.map_congr_left fun kv _=>?_
        show (if kv.1 = key f d then (kv.1,V.ref q) else kv).1 = kv.1
        split <;> rfl
      rw [this]
      exact nd
  · have hk':k ∈ kvs.map (·.1)∨k = key f d:=by
      cases ev:zEB kvs (key f d) with
      | none =>
        rw [putK_new _ ev,List.map_append] at hk
        rcases List.mem_append.mp hk with z | z
        · exact .inl z
        · exact .inr (by simpa using z)
      | some v =>
        have:(zC1 kvs (key f d) (.ref q)).map (·.1) = kvs.map (·.1):=by
          unfold zC1
          rw [if_pos (by rw [zAK,ev]; rfl),List.map_map]
          refine List.map_congr_left fun kv _=>?_
          show (if kv.1 = key f d then (kv.1,V.ref q) else kv).1 = kv.1
          split <;> rfl
        rw [this] at hk
        exact .inl hk
    rcases hk' with z | z
    · exact ks k z
    · exact ⟨f,d,hf,hd,z⟩
  · rw [eW f' d',valV_put]
    by_cases ek:f' = f∧d' = d
    · obtain ⟨rfl,rfl⟩:=ek
      rw [if_pos rfl,if_pos ⟨rfl,rfl⟩]
      exact ⟨fun v hv=>⟨q,(Option.some.inj hv).symm,keep hq,tq⟩,fun z=>nomatch z⟩
    · rw [if_neg fun z=>ek (key_inj z),if_neg ek]
      exact ⟨fun v hv=>let ⟨p,a1,a2,a3⟩:=(vs f' d').1 v hv; ⟨p,a1,keep (s _ _ a2),a3⟩,(vs f' d').2⟩
theorem xA.butW {H H1:Hp} {a:Addr} {G:HG} {S:Lf.Hall} {o:HO} (A:xA K t H a G S) (x:But G.dW H H1) (hm:H G.dW = some o) (nt:zGV o) (ni:∀ C dx fs,o ≠ .ins C dx fs):xA K t H1 a G S:=by
  have np:G.pl ≠ G.dW:=let ⟨d,e⟩:=A.plan; jC e hm (fun z=>ni _ _ _ z.symm)
  obtain ⟨r1,r2,r3,r4,r5⟩:=A.rest x hm nt np
  have tW:=A.tW
  exact ⟨r1 (by omega),A.ta,A.tC,A.tP,A.tW,r2,r3 (by omega),A.clen,A.c6,fun i z c h1 h2=>⟨A.carOf x hm nt h1 h2 (by omega),(A.car i z c h1 h2).2⟩,r4 (by omega),A.plen,fun k z p h1 h2=>⟨r5 k z p h1 h2 (by omega),(A.per k z p h1 h2).2⟩⟩
theorem zip_cars:∀ {cs:List (Addr × CL)} {ss:List Lf.Car},cs.length = ss.length→∃ zs:List CZ,zs.map (fun z=>(z.1,z.2.1)) = cs∧zs.map (fun z=>z.2.2) = ss
  | [],[],_=>⟨[],rfl,rfl⟩
  | x :: cs,c :: ss,h=>by
    obtain ⟨zs,e1,e2⟩:=zip_cars (cs:=cs) (ss:=ss) (by simpa using h)
    exact ⟨(x.1,x.2,c) :: zs,by simp [e1],by simp [e2]⟩
theorem xA.zs {H:Hp} {a:Addr} {G:HG} {S:Lf.Hall} (A:xA K t H a G S):∃ zs:List CZ,CarsAt K t H G.lC zs∧zs.map (fun z=>(z.1,z.2.1)) = G.cs∧zs.map (fun z=>z.2.2) = S.cars:=by
  obtain ⟨zs,e1,e2⟩:=zip_cars A.clen
  refine ⟨zs,⟨?_,fun z hz=>?_⟩,e1,e2⟩
  · rw [A.lst,← e1,List.map_map]
    rfl
  · obtain ⟨i,hi,e⟩:=List.getElem_of_mem hz
    have h1:G.cs[i]? = some (z.1,z.2.1):=by rw [← e1,List.getElem?_map,List.getElem?_eq_getElem hi,e]; rfl
    have h2:S.cars[i]? = some z.2.2:=by rw [← e2,List.getElem?_map,List.getElem?_eq_getElem hi,e]; rfl
    exact (A.car i _ _ h1 h2).1
theorem fit_of {S:Lf.Hall} (ok:LM.yV S) {c:Lf.Car} (hc:c ∈ S.cars):CarFit c:=by
  obtain ⟨i,hi⟩:=List.mem_iff_getElem?.mp hc
  have I:=ok.car i c hi
  have h1:=I.room
  have h2:=I.pressed_le ok.house
  have h3:=I.calls_le ok.house
  have h4:=ok.house.rmm
  exact ⟨I.ok,by omega⟩
def zCR (K:PySem.W.Frag) (t:Adr):Sp:=fun vs H Q _=>∃ (a:Addr) (G:HG) (S:Lf.Hall) (f d:Nat),vs = [.ref a,.int f,.int d]∧xA K t H a G S∧LM.yE S.house∧∀ H',zG H H'→Q (.bl (Lf.isCall S f d)) H'
theorem zCW (T:Txt K mg t):qL P w K mg base CX0 1 t.f_House_is_call t.d_House_is_call ["self", "floor", "direction"] (zCR K t):=by
  refine T.M.House_is_call.F.ok zCS (fun vs H Q E h=>by obtain ⟨_,_,_,_,_,rfl,_⟩:=h; rfl) (fun cdv A outer s H vs Q E hr h=>?_)
  obtain ⟨a,G,S,f,d,rfl,A,hh,q⟩:=h
  obtain ⟨da,ea⟩:=A.obj
  obtain ⟨dp,ep⟩:=A.plan
  have h2:=hh.fl
  refine ⟨_,zC (yG (i:=3) zCS.nd rfl (by first | exact Or.inl rfl | exact Or.inr rfl) (qX zG6 (zJ (zJ (pv 0) rfl) rfl) yC)) (zC (yX (zQ qJ (pv 2) (yB rfl T.G.i_UP) (zY _)) (zH (zO (zAE op_lt (pv 1) (pv 3) (zY _)))) (zU)) (zH (zO (pe_and (zAE qJ (pv 2) (yB rfl T.G.i_DOWN) (zY _)) (pe_and (zAE op_gt (pv 1) yC (zY _)) (pe_one (zAE op_le (pv 1) (pv 3) (zY _)))))))),?_⟩
  refine xY (jN (zI (zI (zA rfl) (by assumption) T.C.k_House.c T.C.n_House_plan (jQ _ _ _ _ _)) (by assumption) T.C.k_Plan.c T.C.n_Plan_floors (zG2 _ _ _ _ _ _ _)) yH) (zG.refl _) fun H1 s1=>?_
  refine yK (zP (zA2 (zA rfl) yH)) s1 (fun H1 s1 e=>?_) (fun H1 s1 e=>?_)
  · have e1:d = 1:=by have:=of_decide_eq_true e; omega
    subst e1
    refine yF (jN (zA rfl) (zA rfl)) s1 fun H2 s2=>qv (q H2 s2) ?_
    unfold Lf.isCall
    congr 1
    rw [Bool.eq_iff_iff]
    simp
    omega
  · have e1:d ≠ 1:=by have:=of_decide_eq_false e; omega
    refine yF (pu_andV (zA2 (zA rfl) yH) (fun _=>(pu_andV (jN (zA rfl) yH) (fun _=>(jN (zA rfl) (zA rfl)))))) s1 fun H2 s2=>qv (q H2 s2) ?_
    unfold Lf.isCall
    congr 1
    rw [Bool.eq_iff_iff]
    simp [e1]
    omega
theorem zCX {a:Addr} {G:HG} {S:Lf.Hall} {f d:Nat} (A:xA K t H0 a G S) (hh:LM.yE S.house):∀ (H:Hp) (Q:VK),zG H0 H→(∀ H',zG H H'→Q (.bl (Lf.isCall S f d)) H')→zCR K t (.ref a :: ([.int f,.int d] ++ [])) H Q E0:=fun H Q s q=>⟨a,G,S,f,d,rfl,A.same s,hh,q⟩
def wG (K:PySem.W.Frag) (t:Adr):Sp:=fun vs H Q _=>∃ (a k:Addr) (G:HG) (S:Lf.Hall) (W:Nat→Nat→List Nat) (f d:Nat),vs = [.ref a,.ref k]∧xA K t H a G S∧wI H G.tag G.dW W∧H k = some (.tup [.int f,.int d]) ∧
  ∀ H' q,zG H H'→H' q = some (.lst (nI (W f d)))→Q (.ref q) H'
theorem jW (T:Txt K mg t):qL P w K mg base CX0 1 t.f_House_who_waits t.d_House_who_waits ["self", "call"] (wG K t):=by
  refine T.M.House_who_waits.F.ok zFK (fun vs H Q E h=>by obtain ⟨_,_,_,_,_,_,_,rfl,_⟩:=h; rfl) (fun cdv A outer s H vs Q E hr h=>?_)
  obtain ⟨a,k,G,S,W,f,d,rfl,A,ww,hk,q⟩:=h
  obtain ⟨da,ea⟩:=A.obj
  obtain ⟨kvs,e,nd,ks,vs⟩:=ww
  refine ⟨_,zH (zO (pe_dget2 (hu_of hr) (zJ (pv 0) rfl) (pv 1) (xH zE) ⟨rfl,rfl,rfl,rfl⟩)),?_⟩
  refine st_ret_get (zI (zA rfl) (by assumption) T.C.k_House.c T.C.n_House_waiting (zBS _ _ _ _ _)) (zA rfl) (zG.refl _) e hk fun H1 p s1 hp=>?_
  cases ev:zEB kvs (key f d) with
  | none =>
    refine q _ p s1 ?_
    rw [hp,(vs f d).2 ev]
    rfl
  | some v =>
    obtain ⟨z,rfl,hz,_⟩:=(vs f d).1 v ev
    exact q _ z s1 (s1 _ _ hz)
def zC9 (K:PySem.W.Frag) (t:Adr):Sp:=fun vs H Q _=>∃ (a k:Addr) (G:HG) (S:Lf.Hall) (x:Nat × Nat),vs = [.ref a,.ref k]∧xA K t H a G S∧xK K H k (cP x)∧∀ H',zG H H'→Q (.bl (S.given x)) H'
theorem zDO (T:Txt K mg t):qL P w K mg base CX0 1 t.f_House_is_had t.d_House_is_had ["self", "call"] (zC9 K t):=by
  refine T.M.House_is_had.F.ok zAZ (fun vs H Q E h=>by obtain ⟨_,_,_,_,_,rfl,_⟩:=h; rfl) (fun cdv A outer s H vs Q E hr h=>?_)
  obtain ⟨a,k,G,S,x,rfl,A,hk,q⟩:=h
  obtain ⟨da,ea⟩:=A.obj
  obtain ⟨zs,C,e1,e2⟩:=A.zs
  have lz:zs.length ≤ 6:=by rw [← List.length_map (f:=fun z:CZ=>z.2.2),e2]; exact A.c6
  refine ⟨_,zH (zO (yJ (cr_any rfl) rfl T.G.z_any PyProof.Rows.boot_any (zB (pe_lc rfl zAZ.nd (wT (zJ (pv 0) rfl)) (own:=[("car", 2)]) (wW (N:=["self", "call", "car"]) (sc:=zK wU) (by decide +kernel)) (fun _ _ _ _ _=>jZ (i:=2) zAZ.nd rfl (Or.inl rfl)) (fun _ _ _ _ _=>zEX) (fun _ _ _ _ _=>(zAE (op_inPK (K:=K) rfl (u65 hr)) (pv 1) (pe_fldK (K:=K) rfl (pv 2) rfl) rfl))) zE))),?_⟩
  have eb:(zs.map fun (z:CZ)=>V.bl (z.2.2.calls.contains x)) = (S.cars.map fun c=>c.calls.contains x).map V.bl:=by
    rw [← e2,List.map_map,List.map_map]
    rfl
  have hb:=nw_lcA (K:=K) (tl:=tFld K (zD4 0) "cars") (te:=tOp (rInP K false) (zD4 1) (tFld K (zD4 2) "calls")) (σ:=L2.start ["self", "call", "car"] [.ref a,.ref k]) (H0:=H) (j:=2) (xv:=fun (z:CZ)=>V.ref z.1) (g:=fun (z:CZ)=>V.bl (z.2.2.calls.contains x)) (zI (zA rfl) (by assumption) T.C.k_House.c T.C.n_House_cars (xG _ _ _ _ _)) C.lst (by rw [sizeLine_eq]; omega) (fun z hz=>by
    obtain ⟨⟨dx,hc⟩,h1,h2,h3,h4⟩:=C.car z hz
    exact pu_inA (zA rfl) hk (zI (zA rfl) (by assumption) T.C.k_Car.c T.C.n_Car_calls (yT _ _ _ _ _ _ _)) h3)
  rw [eb] at hb
  refine yF (pu_any hb) (zG.refl _) fun H2 s2=>qv (q H2 s2) ?_
  unfold Lf.Hall.given
  rw [List.any_map]
  rfl
theorem zDR {a k:Addr} {G:HG} {S:Lf.Hall} {x:Nat × Nat} (A:xA K t H0 a G S) (hk:xK K H0 k (cP x)):∀ (H:Hp) (Q:VK),zG H0 H→(∀ H',zG H H'→Q (.bl (S.given x)) H')→zC9 K t (.ref a :: ([.ref k] ++ [])) H Q E0:=fun H Q s q=>⟨a,k,G,S,x,rfl,A.same s,zG.tup s hk,q⟩
def evN (l:List Lf.Event):List Nat:=l.flatMap Lf.eventNums
def zI5 (K:PySem.W.Frag) (t:Adr) (H:Hp) (a:Addr) (G:HG) (R:Lf.Hall × List Lf.Event) (Q:VK):Prop :=
  ∀ (H':Hp) (G':HG) (e:Addr),zW K t H' a G' R.1→Kp G G' H H'→H' e = some (.lst (nI (evN R.2)))→G'.tag e = 7→H e = none→Q (.ref e) H'
theorem zI5.same {H H1:Hp} {a:Addr} {G:HG} {R:Lf.Hall × List Lf.Event} {Q:VK} (h:zI5 K t H a G R Q) (s:zG H H1):zI5 K t H1 a G R Q:=fun H' G' e h1 h2 h3 h4 h5=>h H' G' e h1 ((Kp.of s).trans h2) h3 h4 (s.free h5)
theorem zI5.kp {H H1:Hp} {a:Addr} {G G1:HG} {R:Lf.Hall × List Lf.Event} {Q:VK} (h:zI5 K t H a G R Q) (k:Kp G G1 H H1) (fr:∀ e,H1 e = none→H e = none):zI5 K t H1 a G1 R Q:=fun H' G' e h1 h2 h3 h4 h5=>h H' G' e h1 (k.trans h2) h3 h4 (fr e h5)
theorem pu_first {σ:L2.St} {te:TE} {ns:List Nat} {j:Nat} (h:NwE te σ H0 (nI ns)) (ne:ns ≠ []) (u:∀ j',zF1 ns j'→j = j'):PuE (zC6 (zEQ K t) [] E0 (yW te zAG)) σ H0 (.int (j:Int)):=fun H Q s q =>
  h H _ s fun H1 p s1 n1 hp=>⟨p,ns,rfl,hp,ne,fun j' hj=>by
    rw [← u j' hj]
    exact q H1 s1⟩
theorem zIP {σ:L2.St} {ta tb tc:TE} {l p k:Addr} {zs:List CZ} {h:Lf.House} {x:Nat × Nat} (ha:PuE ta σ H0 (.ref l)) (hb:PuE tb σ H0 (.ref p)) (hc:PuE tc σ H0 (.ref k)) (C:CarsAt K t H0 l zs) (Pn:xO t H0 p h) (hx:xK K H0 k (cP x))
    (fit:∀ z ∈ zs,CarFit z.2.2) (hh:LM.yE h) (x12:x.2 = 1∨x.2 = 2) (lz:zs.length ≤ 1000):NwE (zC6 (zA8 K t) [] E0 (yW ta (yW tb (yW tc zAG)))) σ H0 (nI (zs.map fun z=>z.2.2.comes h x)):=fun H Q s q =>
  ha H _ s fun H1 s1=>hb H1 _ (s.trans s1) fun H2 s2=>hc H2 _ ((s.trans s1).trans s2) fun H3 s3=>⟨l,p,k,zs,h,x,rfl,C.same (((s.trans s1).trans s2).trans s3),Pn.same (((s.trans s1).trans s2).trans s3),zG.tup (((s.trans s1).trans s2).trans s3) hx,fit,hh,x12,lz,fun H4 D s4 n4 h4=>q H4 D (((s1.trans s2).trans s3).trans s4) (((s1.trans s2).trans s3).free n4) h4⟩
theorem first_best {S:Lf.Hall} {x:Nat × Nat} {j:Nat} (h:zF1 (S.cars.map fun c=>c.comes S.house x) j):S.best x = j:=by
  obtain ⟨h1,h2,h3⟩:=h
  rw [List.length_map] at h1 h2
  have at_:∀ i,i < S.cars.length→(S.cars.map fun c=>c.comes S.house x).getD i 0 = (S.car i).comes S.house x:=fun i hi=>by
    rw [List.getD_eq_getElem?_getD,List.getElem?_map,List.getElem?_eq_getElem hi]
    unfold Lf.Hall.car
    rw [List.getD_eq_getElem?_getD,List.getElem?_eq_getElem hi]
    rfl
  refine LM.best_spec h1 (fun i hi=>?_) (fun i hi=>?_)
  · have:=h2 i hi
    rw [at_ j h1,at_ i hi] at this
    exact this
  · have:=h3 i hi
    rw [at_ j h1,at_ i (Nat.lt_trans hi h1)] at this
    exact this
def sp_House_press (K:PySem.W.Frag) (t:Adr):Sp:=fun vs H Q _=>∃ (a k:Addr) (G:HG) (S:Lf.Hall) (x:Nat × Nat),vs = [.ref a,.ref k]∧zW K t H a G S∧LM.yV S∧xK K H k (cP x)∧(x.2 = 1∨x.2 = 2)∧zI5 K t H a G (S.press x) Q
theorem zEH (T:Txt K mg t):qL P w K mg base CX0 9 t.f_House_press t.d_House_press ["self", "call"] (sp_House_press K t):=by
  refine T.M.House_press.F.ok zEF (fun vs H Q E h=>by obtain ⟨_,_,_,_,_,rfl,_⟩:=h; rfl) (fun cdv A outer s H vs Q E hr h=>?_)
  obtain ⟨a,k,G,S,x,rfl,A,ok,hk,x12,q⟩:=h
  obtain ⟨da,ea⟩:=A.b.obj
  obtain ⟨zs,C,e1,e2⟩:=A.b.zs
  have cl:=ok.cars
  have cl1:=ok.house.cr
  have lz:zs.length ≤ 6:=by rw [← List.length_map (f:=fun z:CZ=>z.2.2),e2]; exact A.b.c6
  refine ⟨_,zC (yX (zAJ (xT (pv 0) T.C.k_House.c T.M.House_is_had.m (zDO T) (hr.mono (by decide)) T.M.House_is_had.b .nil yD (zB (pv 1) zE))) (zH (zO (xH zE))) (zU)) (zC (yG (i:=2) zEF.nd rfl (by first | exact Or.inl rfl | exact Or.inr rfl) (yA (zIN T) (hr.mono (by decide)) rfl T.D.first_of.m T.D.first_of.F.kp T.D.first_of.b .nil yD (zB (yA (zBF T) (hr.mono (by decide)) rfl T.D.reckoned_of_all.m T.D.reckoned_of_all.F.kp T.D.reckoned_of_all.b .nil yD (zB (zJ (pv 0) rfl) (zB (zJ (pv 0) rfl) (zB (pv 1) zE)))) zE))) (zC (xL (zD6 PySem.F.plainAttrs_list PySem.F.slot_list_append PySem.F.type_list_append zB3 (zJ (qA xF (zJ (pv 0) rfl) (pv 2) (fun _ _=>rfl)) rfl) (zB (pv 1) zE))) (zH (zO (xH (zB (zJ (pv 0) rfl) (zB (yB rfl T.G.i_CALL_GIVEN) (zB (pv 2) (zB (qA zG8 (pv 1) yC (fun _ _=>rfl)) (zB (qA zG8 (pv 1) yC (fun _ _=>rfl)) zE)))))))))),?_⟩
  refine yK (jH (pu_meth (zA rfl) ea rfl (zD (zA rfl) zN) (zDR A.b hk))) (zG.refl _) (fun H1 s1 e=>?_) (fun H1 s1 e=>?_)
  · refine zF6 (H0:=H1) qB (zG.refl _) fun H2 p s2 n2 hp=>?_
    have A1:=(A.same s1).local n2
    have hpr:S.press x = (S,[]):=by unfold Lf.Hall.press; rw [if_pos e]
    rw [hpr] at q
    exact q H2 _ p (A1.same s2) (((Kp.of s1).trans (Kp.local n2)).trans (Kp.of s2)) hp yO (s1.free n2)
  have hpr:S.press x = ({ S with cars:=S.cars.set (S.best x) { S.car (S.best x) with calls:=(S.car (S.best x)).calls ++ [x] } },[⟨S.time,1,S.best x,x.1,x.2⟩]):=by
    unfold Lf.Hall.press
    rw [if_neg (by rw [e]; exact Bool.false_ne_true)]
  rw [hpr] at q
  have hnw:=zIP (K:=K) (t:=t) (H0:=H) (ta:=tFld K (zD4 0) "cars") (tb:=tFld K (zD4 0) "plan") (tc:=zD4 1) (σ:=L2.start ["self", "call", "number"] [.ref a,.ref k]) (zI (zA rfl) (by assumption) T.C.k_House.c T.C.n_House_cars (xG _ _ _ _ _)) (zI (zA rfl) (by assumption) T.C.k_House.c T.C.n_House_plan (jQ _ _ _ _ _)) (zA rfl) C A.b.plan hk (fun z hz=>fit_of ok (by rw [← e2]; exact List.mem_map.mpr ⟨z,hz,rfl⟩)) ok.house x12 (by omega)
  have ens:(zs.map fun z=>z.2.2.comes S.house x) = S.cars.map fun c=>c.comes S.house x:=by rw [← e2,List.map_map]; rfl
  rw [ens] at hnw
  have nne:(S.cars.map fun c=>c.comes S.house x) ≠ []:=by
    intro z
    have z2:S.cars.length = 0:=by
      rw [← List.length_map (f:=fun c=>Lf.Car.comes S.house c x),z]
      rfl
    omega
  refine xY (pu_first hnw nne fun j' hj=>first_best hj) s1 fun H2 s2=>?_
  have hb:S.best x < S.cars.length:=LM.best_lt (by omega)
  generalize S.best x = i at hb q
  obtain ⟨c,hc⟩:∃ c,S.cars[i]? = some c:=⟨_,List.getElem?_eq_getElem hb⟩
  obtain ⟨z,hz⟩:∃ z,G.cs[i]? = some z:=⟨_,List.getElem?_eq_getElem (by rw [A.b.clen]; exact hb)⟩
  have ec:S.car i = c:=LM.zFX hc
  rw [ec] at q
  have A2:=A.same s2
  obtain ⟨Ci,t0,t1,t2,t3⟩:=A2.b.car i z c hz hc
  have hk2:xK K H2 k (cP x):=zG.tup s2 hk
  have fit:=fit_of ok (List.mem_of_getElem? hc)
  obtain ⟨zz,h3,lzz,hin⟩:=Ci.callIn hk2 (xC t1 t3 (by omega)) (xC t2 t3 (by omega)) fit.2
  obtain ⟨dz,hcz⟩:=Ci.obj
  obtain ⟨da,ea⟩:=A2.b.obj
  refine zF8 (H0:=H2) (zI (zC2 (n:=i) (zI (zA rfl) (by assumption) T.C.k_House.c T.C.n_House_cars (xG _ _ _ _ _)) (zA rfl) A2.b.lst rfl (by rw [List.getElem?_map,hz]; rfl)) hcz T.C.k_Car.c T.C.n_Car_calls (yT ..)) (zA rfl) (zG.refl _) h3 (by rw [List.length_map,lzz,sizeLine_eq]; have:=fit.2; omega) fun H3 s3=>?_
  have C3:=hin H3 s3
  have A3:=A2.same s3
  have h3':=s3 _ _ h3
  have x3:But z.2.lc H3 (upd H3 z.2.lc (.lst ((zz.map fun z=>V.ref z.1) ++ [.ref k]))):=But.up (zG.refl _)
  have np:G.pl ≠ z.2.lc:=let ⟨d,e⟩:=A3.b.plan; jC e h3' (by intro z; cases z)
  have B4:=A3.b.setCar hz hc x3 h3' jA np (by omega) (by omega) C3 (fun _ _ _=>rfl) A.b.tW ⟨t0,t1,t2,t3⟩
  have W4:=A3.w.but (tag':=G.tag) x3 h3' (xC A.b.tW t3 (by omega)) (by omega) (fun _ _ _=>rfl)
  have A4:zW K t (upd H3 z.2.lc (.lst ((zz.map fun z=>V.ref z.1) ++ [.ref k]))) a { G with cs:=G.cs.set i (z.1,z.2) } { S with cars:=S.cars.set i { c with calls:=c.calls ++ [x] } }:=⟨B4,W4⟩
  have K4:Kp G { G with cs:=G.cs.set i (z.1,z.2) } H (upd H3 z.2.lc (.lst ((zz.map fun z=>V.ref z.1) ++ [.ref k]))):=Kp.but (s2.trans s3) x3 h3' jA (by omega) (fun _ _ _=>rfl)
  have k4:xK K (upd H3 z.2.lc (.lst ((zz.map fun z=>V.ref z.1) ++ [.ref k]))) k (cP x):=x3.tupN h3' jA (zG.tup s3 hk2)
  have f4:∀ e,(upd H3 z.2.lc (.lst ((zz.map fun z=>V.ref z.1) ++ [.ref k]))) e = none→H e = none:=fun e he=>(s2.trans s3).free (x3.free zF he)
  generalize (upd H3 z.2.lc (.lst ((zz.map fun z=>V.ref z.1) ++ [.ref k]))) = B at A4 K4 k4 f4 ⊢
  obtain ⟨da,ea⟩:=A4.b.obj
  refine zF6 (H0:=B) (zDP (zD (zI (zA rfl) (by assumption) T.C.k_House.c T.C.n_House_now (xB _ _ _ _ _)) (zD yH (zD (zA rfl) (zD (zG0 (n:=0) (zA rfl) yH k4 rfl rfl) (zD (zG0 (n:=1) (zA rfl) yH k4 rfl rfl) zN))))) (by show 5 ≤ sizeLine; decide)) (zG.refl _) fun H5 p s5 n5 hp=>?_
  exact q H5 _ p ((A4.local n5).same s5) ((K4.trans (Kp.local n5)).trans (Kp.of s5)) hp yO (f4 p n5)
theorem min_ex:∀ {l:List Nat},l ≠ []→∃ m ∈ l,∀ y ∈ l,m ≤ y
  | [],h=>absurd rfl h
  | [x],_=>⟨x,by simp,fun y hy=>by simp at hy; omega⟩
  | x :: y :: l,_=>by
    obtain ⟨m,h1,h2⟩:=min_ex (l:=y :: l) (by simp)
    by_cases e:x ≤ m
    · exact ⟨x,by simp,fun z hz=>by
        rcases List.mem_cons.mp hz with q | q
        · omega
        · have:=h2 z q
          omega⟩
    · exact ⟨m,List.mem_cons_of_mem _ h1,fun z hz=>by
        rcases List.mem_cons.mp hz with q | q
        · omega
        · exact h2 z q⟩
def jX (K:PySem.W.Frag) (t:Adr):Sp:=fun vs H Q _=>∃ (a:Addr) (G:HG) (S:Lf.Hall),vs = [.ref a]∧xA K t H a G S∧LM.yV S∧∀ (H':Hp) (m:Nat),zG H H'→(∃ c ∈ S.cars,m = LM.quiet S.house c)→(∀ c ∈ S.cars,m ≤ LM.quiet S.house c)→Q (.int m) H'
theorem zA3 (T:Txt K mg t):qL P w K mg base CX0 3 t.f_House_quiet_ticks_of_all t.d_House_quiet_ticks_of_all ["self"] (jX K t):=by
  refine T.M.House_quiet_ticks_of_all.F.ok xS (fun vs H Q E h=>by obtain ⟨_,_,_,rfl,_⟩:=h; rfl) (fun cdv A outer s H vs Q E hr h=>?_)
  obtain ⟨a,G,S,rfl,A,ok,q⟩:=h
  obtain ⟨da,ea⟩:=A.obj
  obtain ⟨zs,C,e1,e2⟩:=A.zs
  have lz:zs.length ≤ 6:=by rw [← List.length_map (f:=fun z:CZ=>z.2.2),e2]; exact A.c6
  have cl:=ok.cars
  have cl1:=ok.house.cr
  have hnw:=nw_lcA (K:=K) (tl:=tFld K (zD4 0) "cars") (te:=zC6 (zBK K t) [] E0 (yW (zD4 1) (yW (tFld K (zD4 0) "plan") zAG))) (σ:=L2.start ["self", "car"] [.ref a]) (H0:=H) (j:=1) (xv:=fun (z:CZ)=>V.ref z.1) (g:=fun (z:CZ)=>V.int (LM.quiet S.house z.2.2:Nat)) (zI (zA rfl) (by assumption) T.C.k_House.c T.C.n_House_cars (xG _ _ _ _ _)) C.lst (by rw [sizeLine_eq]; omega) (fun z hz =>
    xE (zD (zA rfl) (zD (zI (zA rfl) (by assumption) T.C.k_House.c T.C.n_House_plan (jQ _ _ _ _ _)) zN)) (zEK (C.car z hz) A.plan (fit_of ok (by rw [← e2]; exact List.mem_map.mpr ⟨z,hz,rfl⟩)).1 ok.house))
  have en:(zs.map fun (z:CZ)=>V.int (LM.quiet S.house z.2.2:Nat)) = nI (S.cars.map fun c=>LM.quiet S.house c):=by
    rw [← e2]
    unfold nI
    rw [List.map_map,List.map_map]
    rfl
  rw [en] at hnw
  have nne:(S.cars.map fun c=>LM.quiet S.house c) ≠ []:=by
    intro z
    have z2:S.cars.length = 0:=by
      rw [← List.length_map (f:=fun c=>LM.quiet S.house c),z]
      rfl
    omega
  obtain ⟨m,hm,hg⟩:=min_ex nne
  refine ⟨_,zH (zO (yJ (cr_min rfl) rfl T.G.z_min PyProof.Rows.boot_min (zB (pe_lc rfl xS.nd (wT (zJ (pv 0) rfl)) (own:=[("car", 1)]) (wW (N:=["self", "car"]) (sc:=zK xD) (by decide +kernel)) (fun _ _ _ _ _=>jZ (i:=1) xS.nd rfl (Or.inl rfl)) (fun _ _ _ _ _=>zEX) (fun _ _ _ _ _=>(yA (zEG T) (hr.mono (by decide)) rfl T.D.quiet_ticks.m T.D.quiet_ticks.F.kp T.D.quiet_ticks.b .nil yD (zB (pv 1) (zB (pe_fldK (K:=K) rfl (pv 0) rfl) zE))))) zE))),?_⟩
  refine yF (pu_minL hnw hm hg) (zG.refl _) fun H1 s1=>q H1 m s1 ?_ fun c hc=>hg _ (List.mem_map.mpr ⟨c,hc,rfl⟩)
  obtain ⟨c,hc,e⟩:=List.mem_map.mp hm
  exact ⟨c,hc,e.symm⟩
theorem LRel.tags {H:Hp} {L L':CL} {tag:Addr→Nat} {i:Nat} {z:Addr} {o:HO} (l:LRel H L L') (ct:zHC tag i (z,L)) (hz:H z = some o) (hi:∃ u,H L.li = some u) :
    ∃ tag':Addr→Nat,(∀ b u,H b = some u→tag' b = tag b)∧zHC tag' i (z,L'):=by
  obtain ⟨e0,h | ⟨n1,n2,n3⟩⟩:=l
  · refine ⟨tag,fun _ _ _=>rfl,?_⟩
    obtain ⟨li,lp,lc⟩:=L'
    simp at e0 h
    obtain ⟨h1,h2⟩:=h
    subst e0 h1 h2
    exact ct
  · obtain ⟨u,hu⟩:=hi
    obtain ⟨t0,t1,t2,t3⟩:=ct
    refine ⟨retag (retag tag L'.lp (4 * i + 12)) L'.lc (4 * i + 13),fun b v hb=>?_,?_,?_,?_,yO⟩
    · rw [yN n2 b v hb,yN n1 b v hb]
    · show retag (retag tag L'.lp (4 * i + 12)) L'.lc (4 * i + 13) z = _
      rw [yN n2 _ _ hz,yN n1 _ _ hz]
      exact t0
    · show retag (retag tag L'.lp (4 * i + 12)) L'.lc (4 * i + 13) L'.li = _
      rw [e0,yN n2 _ _ hu,yN n1 _ _ hu]
      exact t1
    · show retag (retag tag L'.lp (4 * i + 12)) L'.lc (4 * i + 13) L'.lp = _
      rw [xI n3]
      exact yO
theorem carV_pl {t:Adr} {H:Hp} {a dx:Addr} {G:HG} {S:Lf.Hall} {L:CL} {c:Lf.Car} (A:xA K t H a G S) {z:Addr} (hz:H z = some (.ins t.Car dx (qP L c))):G.pl ≠ z :=
  let ⟨_,e⟩:=A.plan; jC e hz (by intro z; injection z with z1 z2 z3; exact plan_car z3)
theorem zW.car {H H1:Hp} {a:Addr} {G:HG} {S:Lf.Hall} {i:Nat} {z:Addr × CL} {c c':Lf.Car} {L':CL} (A:zW K t H a G S) (hz:G.cs[i]? = some z) (hc:S.cars[i]? = some c) (x:But z.1 H H1) (C':zX K t H1 z.1 L' c') (l:LRel H z.2 L') :
    ∃ G',zW K t H1 a G' { S with cars:=S.cars.set i c' }∧Kp G G' H H1∧G'.cs = G.cs.set i (z.1,L')∧G'.lC = G.lC∧G'.pl = G.pl∧G'.ps = G.ps:=by
  obtain ⟨Ci,ct⟩:=A.b.car i z c hz hc
  obtain ⟨dz,ez⟩:=Ci.obj
  obtain ⟨tag',ht,tl⟩:=l.tags ct ez ⟨_,Ci.ins⟩
  obtain ⟨ow,ew⟩:=A.w.tracked
  have tw:tag' G.dW = 4:=Eq.trans (ht _ _ ew) A.b.tW
  have np:=carV_pl A.b ez
  obtain ⟨t0,_⟩:=ct
  exact ⟨_,⟨A.b.setCar hz hc x ez jB np (by omega) (by omega) C' ht tw tl,A.w.but x ez (xC A.b.tW t0 (by omega)) (by omega) ht⟩,Kp.but (zG.refl _) x ez jB (by omega) ht,rfl,rfl,rfl,rfl⟩
def zCU (h:Lf.House) (n i:Nat) (l:List Lf.Car):List Lf.Car:=(l.take i).map (fun c=>LM.zAT h c n) ++ l.drop i
theorem passed_len (h:Lf.House) (n i:Nat) (l:List Lf.Car):(zCU h n i l).length = l.length:=by
  unfold zCU
  rw [List.length_append,List.length_map,List.length_take,List.length_drop]
  omega
theorem passed_at {h:Lf.House} {n i:Nat} {l:List Lf.Car} {c:Lf.Car} (e:l[i]? = some c):(zCU h n i l)[i]? = some c∧(zCU h n i l).set i (LM.zAT h c n) = zCU h n (i + 1) l:=by
  have hi:i < l.length:=(List.getElem?_eq_some_iff.mp e).1
  have l1:((l.take i).map (fun c=>LM.zAT h c n)).length = i:=by rw [List.length_map,List.length_take]; omega
  have dr:l.drop i = c :: l.drop (i + 1):=by
    rw [List.drop_eq_getElem_cons hi]
    congr 1
    exact (List.getElem?_eq_some_iff.mp e).2
  have tk:l.take (i + 1) = l.take i ++ [c]:=by
    rw [List.take_add_one,e]
    rfl
  unfold zCU
  constructor
  · rw [List.getElem?_append_right (by omega),l1,Nat.sub_self,dr]
    rfl
  · rw [List.set_append_right _ _ (by omega),l1,Nat.sub_self,dr,tk,List.map_append,List.append_assoc]
    rfl
def zBL (K:PySem.W.Frag) (t:Adr):Sp:=fun vs H Q _=>∃ (a:Addr) (G:HG) (S:Lf.Hall) (n:Nat),vs = [.ref a,.int n]∧zW K t H a G S∧LM.yV S∧1 ≤ n∧(∀ c ∈ S.cars,n ≤ LM.quiet S.house c)∧∀ (H':Hp) (G':HG),zW K t H' a G' (LM.later S n)→Kp G G' H H'→Q .non H'
theorem zBR (T:Txt K mg t):qL P w K mg base CX0 3 t.f_House_pass_quietly_all t.d_House_pass_quietly_all ["self", "ticks"] (zBL K t):=by
  refine T.M.House_pass_quietly_all.F.ok qR (fun vs H Q E h=>by obtain ⟨_,_,_,_,rfl,_⟩:=h; rfl) (fun cdv A outer s H vs Q E hr h=>?_)
  obtain ⟨a,G,S,n,rfl,A,ok,n1,hn,q⟩:=h
  obtain ⟨da,ea⟩:=A.b.obj
  refine ⟨_,zC (zB2 (pv 0) (pv 1) in_add) (zH (ps_for PassesOwn.never rfl (wT (zJ (pv 0) rfl)) (jZ (i:=2) qR.nd rfl (Or.inl rfl)) (zH (xL (yA (zDM T) (hr.mono (by decide)) rfl T.D.pass_quietly.m T.D.pass_quietly.F.kp T.D.pass_quietly.b .nil yD (zB (pv 2) (zB (zJ (pv 0) rfl) (zB (pv 1) zE)))))))),?_⟩
  refine st_faddS (i:=(S.time:Int)) (zA rfl) (zA rfl) (zG.refl _) ea T.C.k_House.c T.C.n_House_now (by show 5 < 1000; decide) (xB ..) fun H1 s1=>?_
  rw [zEI,show (S.time:Int) + (n:Int) = ((S.time + n:Nat):Int) by omega]
  have B1:=A.b.setTime (n:=S.time + n) ea s1
  have x1:But a H1 (upd H1 a (.ins t.House da (jO (.ref G.pl) (.int ((S.time + n:Nat):Int)) (.ref G.lC) (.ref G.lP) (.ref G.dW)))):=But.up (zG.refl _)
  have W1:=(A.w.same s1).but x1 (s1 _ _ ea) (xC A.b.tW A.b.ta (by omega)) (by rw [A.b.ta]; decide) (tag':=G.tag) (fun _ _ _=>rfl)
  have K1:Kp G G H (upd H1 a (.ins t.House da (jO (.ref G.pl) (.int ((S.time + n:Nat):Int)) (.ref G.lC) (.ref G.lP) (.ref G.dW)))):=Kp.but s1 x1 (s1 _ _ ea) jB (by rw [A.b.ta]; decide) (fun _ _ _=>rfl)
  have A1:zW K t (upd H1 a (.ins t.House da (jO (.ref G.pl) (.int ((S.time + n:Nat):Int)) (.ref G.lC) (.ref G.lP) (.ref G.dW)))) a G { S with time:=S.time + n }:=⟨B1,W1⟩
  generalize (upd H1 a (.ins t.House da (jO (.ref G.pl) (.int ((S.time + n:Nat):Int)) (.ref G.lC) (.ref G.lP) (.ref G.dW)))) = B at A1 K1 ⊢
  obtain ⟨da,ea⟩:=A1.b.obj
  refine st_for (zI (zA rfl) (by assumption) T.C.k_House.c T.C.n_House_cars (xG _ _ _ _ _)) (zG.refl _) A1.b.lst (fun i σ H'=>∃ (v:Option V) (G':HG),σ = [some (.ref a),some (.int n),v]∧zW K t H' a G' { S with time:=S.time + n,cars:=zCU S.house n i S.cars }∧Kp G G' H H'∧G'.lC = G.lC∧G'.cs.map (·.1) = G.cs.map (·.1)) ?_ ?_ ?_ ?_
  · exact fun H2 s2=>⟨none,G,rfl,A1.same s2,K1.trans (Kp.of s2),rfl,rfl⟩
  · rintro i σ H2 hi ⟨v,G',rfl,A2,K2,e1,e2⟩
    rw [← e1,A2.b.lst]
    congr 2
    have:(G'.cs.map (·.1)).map V.ref = (G.cs.map (·.1)).map V.ref:=by rw [e2]
    rw [List.map_map,List.map_map] at this
    exact this
  · rintro i y σ H2 hy ⟨v,G',rfl,A2,K2,e1,e2⟩
    have hi:i < S.cars.length:=by
      have:=(List.getElem?_eq_some_iff.mp hy).1
      rw [List.length_map,A.b.clen] at this
      exact this
    obtain ⟨c,hc⟩:∃ c,S.cars[i]? = some c:=⟨_,List.getElem?_eq_getElem hi⟩
    obtain ⟨hp1,hp2⟩:=passed_at (h:=S.house) (n:=n) hc
    have cl2:=A2.b.clen
    have cl3:(zCU S.house n i S.cars).length = S.cars.length:=passed_len ..
    obtain ⟨z,hz⟩:∃ z,G'.cs[i]? = some z:=⟨_,List.getElem?_eq_getElem (by rw [cl2]; show i < (zCU S.house n i S.cars).length; omega)⟩
    have ey:y = .ref z.1:=by
      have a1:(G'.cs.map (·.1))[i]? = some z.1:=by rw [List.getElem?_map,hz]; rfl
      rw [e2,List.getElem?_map] at a1
      rw [List.getElem?_map] at hy
      cases e:G.cs[i]? with
      | none =>
        rw [e] at hy
        cases hy
      | some z' =>
        rw [e] at hy a1
        have b1:V.ref z'.1 = y:=Option.some.inj hy
        have b2:z'.1 = z.1:=Option.some.inj a1
        rw [← b1,b2]
    subst ey
    obtain ⟨Ci,ct⟩:=A2.b.car i z c hz hp1
    obtain ⟨da,ea⟩:=A2.b.obj
    have okc:=fit_of ok (List.mem_of_getElem? hc)
    refine st_callL (H0:=H2) (zD (zA rfl) (zD (zI (zA rfl) (by assumption) T.C.k_House.c T.C.n_House_plan (jQ _ _ _ _ _)) (zD (zA rfl) zN))) (zG.refl _) fun H3 s3=>⟨z.1,G'.pl,z.2,c,S.house,n,rfl,Ci.same s3,A2.b.plan.same s3,okc.1,ok.house,hn c (List.mem_of_getElem? hc),fun H4 C4 b4=>?_⟩
    obtain ⟨G4,A4,K4,f1,f2,f3,f4⟩:=(A2.same s3).car hz hp1 b4 C4 (LRel.refl _ _)
    have A4':zW K t H4 a G4 { S with time:=S.time + n,cars:=(zCU S.house n i S.cars).set i (LM.zAT S.house c n) }:=A4
    rw [hp2] at A4'
    refine ⟨_,G4,rfl,A4',K2.trans ((Kp.of s3).trans K4),f2.trans e1,?_⟩
    rw [f1,← e2]
    refine List.ext_getElem? fun j=>?_
    rw [List.getElem?_map,List.getElem?_map,List.getElem?_set]
    by_cases e:i = j
    · subst e
      rw [if_pos rfl,if_pos (List.getElem?_eq_some_iff.mp hz).1,hz]
      all_goals rfl
    · rw [if_neg e]
  · rintro σ H2 ⟨v,G',rfl,A2,K2,e1,e2⟩
    have lc:(G.cs.map fun z=>V.ref z.1).length = S.cars.length:=by rw [List.length_map,A.b.clen]
    rw [lc] at A2
    have ep:zCU S.house n S.cars.length S.cars = S.cars.map (LM.iter S.house n):=by
      unfold zCU
      rw [List.take_length,List.drop_length,List.append_nil]
      refine List.map_congr_left fun c hc=>?_
      exact (LM.zB1 ok.house n (fit_of ok hc).1 n1 (hn c hc)).symm
    rw [ep] at A2
    exact q H2 G' A2 K2
structure HW (K:PySem.W.Frag) (t:Adr) (H:Hp) (a:Addr) (G:HG) (S:Lf.Hall) (W:Nat→Nat→List Nat):Prop where
  b:xA K t H a G S
  w:wI H G.tag G.dW W
section
variable {K:PySem.W.Frag} {t:Adr} {H H1 H2:Hp} {a m:Addr} {G G1 G2:HG} {S:Lf.Hall} {W:Nat→Nat→List Nat} {o:HO}
theorem HW.same (A:HW K t H a G S W) (s:zG H H1):HW K t H1 a G S W:=⟨A.b.same s,A.w.same s⟩
theorem zW.hw (A:zW K t H a G S):HW K t H a G S S.waiting:=⟨A.b,A.w⟩
theorem HW.new {e:Addr} (A:HW K t H a G S W) (n:H e = none) (k:Nat):HW K t H a { G with tag:=LL.retag G.tag e k } S W:=by
  obtain ⟨ow,ew⟩:=A.w.tracked
  exact ⟨A.b.retag (yN n) (Eq.trans (yN n _ _ ew) A.b.tW),A.w.retag (yN n)⟩
theorem Kp.new {e:Addr} (n:H e = none) (k:Nat):Kp G { G with tag:=retag G.tag e k } H H:=⟨fun b o q _=>q,fun b o q h=>Eq.trans (yN n b o q) h⟩
theorem HW.to {e:Addr} (A:HW K t H a G S W) (h8:G.tag e = 8) (k:Nat):HW K t H a { G with tag:=LL.retag G.tag e k } S W:=by
  have ne:∀ {b:Addr} {n:Nat},G.tag b = n→n ≠ 8→LL.retag G.tag e k b = n:=fun {b n} hb hn=>by rw [xI (xC hb h8 hn)]; exact hb
  have B:=A.b
  refine ⟨⟨B.obj,ne B.ta (by decide),ne B.tC (by decide),ne B.tP (by decide),ne B.tW (by decide),B.plan,B.lst,B.clen,B.c6,fun i z c h1 h2=>?_,B.plst,B.plen,fun j z p h1 h2=>?_⟩,?_⟩
  · obtain ⟨C,t0,t1,t2,t3⟩:=B.car i z c h1 h2
    exact ⟨C,ne t0 (by omega),ne t1 (by omega),ne t2 (by omega),ne t3 (by omega)⟩
  · obtain ⟨P,tz⟩:=B.per j z p h1 h2
    exact ⟨P,ne tz (by omega)⟩
  · obtain ⟨kvs,e1,nd,ks,vs⟩:=A.w
    exact ⟨kvs,e1,nd,ks,fun f d=>⟨fun v hv=>let ⟨q,a1,a2,a3⟩:=(vs f d).1 v hv; ⟨q,a1,a2,ne a3 (by decide)⟩,(vs f d).2⟩⟩
theorem HW.else (A:HW K t H a G S W) (x:But m H H1) (hm:H m = some o) (nt:zGV o) (ni:∀ C dx fs,o ≠ .ins C dx fs) (t7:G.tag m = 7∨G.tag m = 8):HW K t H1 a G S W:=by
  have np:G.pl ≠ m:=let ⟨d,e⟩:=A.b.plan; jC e hm (fun z=>ni _ _ _ z.symm)
  obtain ⟨r1,r2,r3,r4,r5⟩:=A.b.rest x hm nt np
  have B:=A.b
  refine ⟨⟨r1 (by omega),B.ta,B.tC,B.tP,B.tW,r2,r3 (by omega),B.clen,B.c6,fun i z c h1 h2=>⟨B.carOf x hm nt h1 h2 (by omega),(B.car i z c h1 h2).2⟩,r4 (by omega),B.plen,fun k z p h1 h2=>⟨r5 k z p h1 h2 (by omega),(B.per k z p h1 h2).2⟩⟩,?_⟩
  exact A.w.but x hm (xC B.tW rfl (by omega)) (by omega) (fun _ _ _=>rfl)
theorem HW.lst (A:HW K t H a G S W) {xs ys:List V} (hm:H m = some (.lst xs)) (s:zG H H1) (t7:G.tag m = 7∨G.tag m = 8):HW K t (upd H1 m (.lst ys)) a G S W :=
  (A.same s).else (But.up (zG.refl _)) (s _ _ hm) jA (fun _ _ _ z=>by cases z) t7
theorem HW.pers {k:Nat} {p p':Lf.Person} (A:HW K t H a G S W) (hz:G.ps[k]? = some m) (hp:S.persons[k]? = some p) (x:But m H H1) (P':wB t H1 m p'):HW K t H1 a G { S with persons:=S.persons.set k p' } W:=by
  obtain ⟨⟨dm,em⟩,tz⟩:=A.b.per k m p hz hp
  exact ⟨A.b.setPers hz hp x P',A.w.but x em (xC A.b.tW tz (by omega)) (by omega) (fun _ _ _=>rfl)⟩
theorem HW.car {i:Nat} {z:Addr × CL} {c c':Lf.Car} {L':CL} (A:HW K t H a G S W) (hz:G.cs[i]? = some z) (hc:S.cars[i]? = some c) (x:But m H H1) (hm:H m = some o) (nt:zGV o) (np:G.pl ≠ m) (t1:4 * i + 10 ≤ G.tag m) (t2:G.tag m ≤ 4 * i + 13)
    (C':zX K t H1 z.1 L' c') (tl:zHC G.tag i (z.1,L')):HW K t H1 a { G with cs:=G.cs.set i (z.1,L') } { S with cars:=S.cars.set i c' } W :=
  ⟨A.b.setCar hz hc x hm nt np t1 t2 C' (fun _ _ _=>rfl) A.b.tW tl,A.w.but x hm (xC A.b.tW rfl (by omega)) (by omega) (fun _ _ _=>rfl)⟩
theorem Kp.fresh (k:Kp G G1 H H1) (x:But m H1 H2) (n:H m = none) (ht:∀ b,b ≠ m→G2.tag b = G1.tag b):Kp G G2 H H2 :=
  ⟨fun b u e h=>x _ _ (zM e n) (k.1 b u e h),fun b u e h=>Eq.trans (ht b (zM e n)) (k.2 b u e h)⟩
theorem Kp.own (k:Kp G G1 H H1) (x:But m H1 H2) (hm:H1 m = some o) (nt:zGV o) (n7:G1.tag m ≠ 7) (ht:∀ b u,H1 b = some u→G2.tag b = G1.tag b):Kp G G2 H H2:=k.trans (Kp.but (zG.refl _) x hm nt n7 ht)
end
def wJ (n:Nat) (l:List Nat) (ps:List Lf.Person):List Lf.Person:=ps.zipIdx.map fun (p:Lf.Person × Nat)=>if l.contains p.2 = true then { p.1 with left:=some n } else p.1
def zCQ (n:Nat) (l:List Nat) (ps:List Lf.Person):List Lf.Person:=ps.zipIdx.map fun (p:Lf.Person × Nat)=>if l.contains p.2 = true then { p.1 with entered:=some n } else p.1
theorem qZ (n:Nat) (l:List Nat) (ps:List Lf.Person) (k:Nat):(wJ n l ps)[k]? = (ps[k]?).map fun p=>if l.contains k = true then { p with left:=some n } else p:=by
  unfold wJ
  rw [List.getElem?_map,List.getElem?_zipIdx,Option.map_map]
  cases ps[k]? <;> simp
theorem wK (n:Nat) (l:List Nat) (ps:List Lf.Person) (k:Nat):(zCQ n l ps)[k]? = (ps[k]?).map fun p=>if l.contains k = true then { p with entered:=some n } else p:=by
  unfold zCQ
  rw [List.getElem?_map,List.getElem?_zipIdx,Option.map_map]
  cases ps[k]? <;> simp
theorem stampL_len (n:Nat) (l:List Nat) (ps:List Lf.Person):(wJ n l ps).length = ps.length:=by unfold wJ; simp
theorem stampL_nil (n:Nat) (ps:List Lf.Person):wJ n [] ps = ps:=List.ext_getElem? fun k=>by
  rw [qZ]
  cases ps[k]? <;> simp
theorem stampE_nil (n:Nat) (ps:List Lf.Person):zCQ n [] ps = ps:=List.ext_getElem? fun k=>by
  rw [wK]
  cases ps[k]? <;> simp
theorem stampL_snoc {n k:Nat} {l:List Nat} {ps:List Lf.Person} {p:Lf.Person} (h:(wJ n l ps)[k]? = some p):(wJ n l ps).set k { p with left:=some n } = wJ n (l ++ [k]) ps:=List.ext_getElem? fun j=>by
  have hk:k < (wJ n l ps).length:=(List.getElem?_eq_some_iff.mp h).1
  by_cases e:k = j
  · subst e
    rw [List.getElem?_set_self hk,qZ]
    rw [qZ] at h
    cases q:ps[k]? with
    | none =>
      rw [q] at h
      cases h
    | some r =>
      rw [q] at h
      have h':(if l.contains k = true then { r with left:=some n } else r) = p:=Option.some.inj h
      rw [← h']
      simp
      split <;> exact ⟨rfl,rfl,rfl,rfl⟩
  · rw [List.getElem?_set_ne e,qZ,qZ]
    have:(l ++ [k]).contains j = l.contains j:=by
      rw [Bool.eq_iff_iff,List.contains_iff_mem,List.contains_iff_mem,List.mem_append,List.mem_singleton]
      constructor
      · rintro (q | q)
        · exact q
        · exact absurd q.symm e
      · exact .inl
    rw [this]
theorem stampE_snoc {n k:Nat} {l:List Nat} {ps:List Lf.Person} {p:Lf.Person} (h:(zCQ n l ps)[k]? = some p):(zCQ n l ps).set k { p with entered:=some n } = zCQ n (l ++ [k]) ps:=List.ext_getElem? fun j=>by
  have hk:k < (zCQ n l ps).length:=(List.getElem?_eq_some_iff.mp h).1
  by_cases e:k = j
  · subst e
    rw [List.getElem?_set_self hk,wK]
    rw [wK] at h
    cases q:ps[k]? with
    | none =>
      rw [q] at h
      cases h
    | some r =>
      rw [q] at h
      have h':(if l.contains k = true then { r with entered:=some n } else r) = p:=Option.some.inj h
      rw [← h']
      simp
      split <;> exact ⟨rfl,rfl,rfl,rfl⟩
  · rw [List.getElem?_set_ne e,wK,wK]
    have:(l ++ [k]).contains j = l.contains j:=by
      rw [Bool.eq_iff_iff,List.contains_iff_mem,List.contains_iff_mem,List.mem_append,List.mem_singleton]
      constructor
      · rintro (q | q)
        · exact q
        · exact absurd q.symm e
      · exact .inl
    rw [this]
theorem zAS {α:Type} {l:List α} {i:Nat} {x:α} (h:l[i]? = some x):l.take (i + 1) = l.take i ++ [x]:=by
  rw [List.take_add_one,h]
  rfl
theorem jD (l m:List Nat):nI (l ++ m) = nI l ++ nI m:=by unfold nI; rw [List.map_append]
theorem nI_get {l:List Nat} {i:Nat} {v:V} (h:(nI l)[i]? = some v):∃ n,l[i]? = some n∧v = .int (n:Int):=by
  unfold nI at h
  rw [List.getElem?_map] at h
  cases q:l[i]? with
  | none =>
    rw [q] at h
    cases h
  | some n =>
    rw [q] at h
    exact ⟨n,rfl,(Option.some.inj h).symm⟩
theorem zAV (l m:List Lf.Event):evN (l ++ m) = evN l ++ evN m:=by unfold evN; rw [List.flatMap_append]
theorem jL (l:List Lf.Event):(evN l).length = 5 * l.length:=by
  unfold evN
  induction l with
  | nil=>rfl
  | cons e l ih =>
    rw [List.flatMap_cons,List.length_append,ih,List.length_cons]
    show 5 + 5 * l.length = 5 * (l.length + 1)
    omega
section
variable {K:PySem.W.Frag} {t:Adr} {σ:L2.St} {H0 H:Hp} {te tn td ty tv ta:TE} {D:zC4} {r:TS}
theorem cut_from (xs:List V) (n:Nat):cutV xs (some (n:Int)) none = xs.drop n:=by
  unfold cutV
  rw [HT.sIx_nat,HT.sIx_none]
  by_cases h:n ≤ xs.length
  · rw [Nat.min_eq_left h,List.take_of_length_le (by rw [List.length_drop]; omega)]
  · rw [Nat.min_eq_right (by omega),List.drop_eq_nil_of_le (Nat.le_refl _),List.drop_eq_nil_of_le (by omega),List.take_nil]
theorem cut_to (xs:List V) (n:Nat):cutV xs none (some (n:Int)) = xs.take n:=by
  unfold cutV
  rw [HT.sIx_nat,HT.sIx_none,List.drop_zero,Nat.sub_zero]
  by_cases h:n ≤ xs.length
  · rw [Nat.min_eq_left h]
  · rw [Nat.min_eq_right (by omega),List.take_of_length_le (Nat.le_refl _),List.take_of_length_le (by omega)]
theorem nw_from {q:Addr} {xs:List V} {n:Nat} (h:PuE te σ H0 (.ref q)) (hn:PuE tn σ H0 (.int (n:Int))) (hq:H0 q = some (.lst xs)):NwE (tSl (rSlL K) te (tPart tn) tNoPart) σ H0 (xs.drop n):=fun H Q s k =>
  h H _ s fun H1 s1=>hn H1 _ (s.trans s1) fun H2 s2=>⟨(n:Int),rfl,q,xs,rfl,SqL.of (s2 _ _ (s1 _ _ (s _ _ hq))),fun p hp=>k _ p ((s1.trans s2).trans (zG.new hp)) ((s1.trans s2).free hp) (by rw [zF,cut_from])⟩
theorem nw_to {q:Addr} {xs:List V} {n:Nat} (h:PuE te σ H0 (.ref q)) (hn:PuE tn σ H0 (.int (n:Int))) (hq:H0 q = some (.lst xs)):NwE (tSl (rSlL K) te tNoPart (tPart tn)) σ H0 (xs.take n):=fun H Q s k =>
  h H _ s fun H1 s1=>hn H1 _ (s.trans s1) fun H2 s2=>⟨(n:Int),rfl,q,xs,rfl,SqL.of (s2 _ _ (s1 _ _ (s _ _ hq))),fun p hp=>k _ p ((s1.trans s2).trans (zG.new hp)) ((s1.trans s2).free hp) (by rw [zF,cut_to])⟩
theorem st_dputN {dW k:Addr} {kvs:List (List Key × V)} {f d:Nat} {ys:List V} (hv:NwE tv σ H0 ys) (hd:PuE td σ H0 (.ref dW)) (hy:PuE ty σ H0 (.ref k)) (s:zG H0 H) (e:H0 dW = some (.dT kvs)) (hk:H0 k = some (.tup [.int f,.int d])) (hl:kvs.length < sizeLine)
    (q:∀ H' p,zG H0 H'→H0 p = none→H' p = some (.lst ys)→r D σ (upd H' dW (.dT (zC1 kvs (key f d) (.ref p))))):zBW (sDPut td ty tv) r D σ H :=
  hv H _ s fun H1 p s1 n1 hp=>hd H1 _ (s.trans s1) fun H2 s2=>hy H2 _ ((s.trans s1).trans s2) fun H3 s3=>⟨dW,_,rfl,DPut.t (k:=key f d) ((((s.trans s1).trans s2).trans s3) _ _ e) ((((s.trans s1).trans s2).trans s3) _ _ hk) hl,q H3 p (((s.trans s1).trans s2).trans s3) (s.free n1) (s3 _ _ (s2 _ _ hp))⟩
variable {C:Addr} {m:Str} {sp:Sp} {ts:TA} {vs:List V} {a dx:Addr} {fs:List (Str × V)}
theorem st_methV {i:Nat} (ho:PuE ta σ H0 (.ref a)) (hi:H0 a = some (.ins C dx fs)) (hm:fs.lookup m = none) (ha:PuA ts σ H0 vs) (s:zG H0 H) (h:∀ H',zG H0 H'→sp (.ref a :: (vs ++ [])) H' (fun v H''=>r D (σ.set i (some v)) H'') E0):zBW (tAsg (zEN C m sp [] E0 ta ts) (zA7 i)) r D σ H :=
  ho H _ s fun H1 s1=>⟨a,dx,fs,rfl,s1 _ _ (s _ _ hi),hm,ha H1 _ (s.trans s1) fun H2 s2=>h H2 ((s.trans s1).trans s2)⟩
theorem zAM (ho:PuE ta σ H0 (.ref a)) (hi:H0 a = some (.ins C dx fs)) (hm:fs.lookup m = none) (ha:PuA ts σ H0 vs) (s:zG H0 H) (h:∀ H',zG H0 H'→sp (.ref a :: (vs ++ [])) H' D.rt E0):tRet (zEN C m sp [] E0 ta ts) D σ H :=
  ho H _ s fun H1 s1=>⟨a,dx,fs,rfl,s1 _ _ (s _ _ hi),hm,ha H1 _ (s.trans s1) fun H2 s2=>h H2 ((s.trans s1).trans s2)⟩
theorem st_methL (ho:PuE ta σ H0 (.ref a)) (hi:H0 a = some (.ins C dx fs)) (hm:fs.lookup m = none) (ha:PuA ts σ H0 vs) (s:zG H0 H) (h:∀ H',zG H0 H'→sp (.ref a :: (vs ++ [])) H' (fun _ H''=>D.nx σ H'') E0):zC0 (zEN C m sp [] E0 ta ts) D σ H :=
  ho H _ s fun H1 s1=>⟨a,dx,fs,rfl,s1 _ _ (s _ _ hi),hm,ha H1 _ (s.trans s1) fun H2 s2=>h H2 ((s.trans s1).trans s2)⟩
theorem zF7 {l:Addr} (ho:PuE ta σ H0 (.ref a)) (hi:H0 a = some (.ins C dx fs)) (hm:fs.lookup m = none) (hl:PuE te σ H0 (.ref l)) (hx:∃ xs,H0 l = some (.lst xs)) (ha:PuA ts σ H0 vs) (s:zG H0 H)
    (h:∀ H',zG H0 H'→sp (.ref a :: (vs ++ [])) H' (fun v H''=>zDI (.ref l) [v] H'' fun _ H3=>D.nx σ H3) E0):zC0 (tBM K "list" zDI te (yW (zEN C m sp [] E0 ta ts) zAG)) D σ H:=by
  obtain ⟨xs0,hx⟩:=hx
  exact hl H _ s fun H1 s1=>⟨.inl ⟨rfl,_,SqL.of (s1 _ _ (s _ _ hx))⟩,ho H1 _ (s.trans s1) fun H2 s2=>⟨a,dx,fs,rfl,s2 _ _ (s1 _ _ (s _ _ hi)),hm,ha H2 _ ((s.trans s1).trans s2) fun H3 s3=>h H3 (((s.trans s1).trans s2).trans s3)⟩⟩
end
theorem zX.insIn {K:PySem.W.Frag} {t:Adr} {H H1:Hp} {b:Addr} {L:CL} {c:Lf.Car} {k:Nat} (C:zX K t H b L c) (s:zG H H1) (n1:L.lp ≠ L.li) (n2:L.lc ≠ L.li) (sz:c.inside.length + c.pressed.length + c.calls.length ≤ 999):zX K t (upd H1 L.li (.lst (nI c.inside ++ [.int (k:Int)]))) b L { c with inside:=c.inside ++ [k] }:=by
  obtain ⟨⟨dx,hc⟩,h1,h2,⟨zs,ez,h3,h3'⟩,h4⟩:=C.same s
  have x:But L.li H1 (upd H1 L.li (.lst (nI c.inside ++ [.int (k:Int)]))):=But.up (zG.refl _)
  refine ⟨⟨dx,x _ _ (jC hc h1 (by intro z; cases z)) hc⟩,?_,x _ _ n1 h2,⟨zs,ez,x _ _ n2 h3,fun z hz=>x.tupN h1 jA (h3' z hz)⟩,?_⟩
  · rw [zF,jD]
    rfl
  · show (c.inside ++ [k]).length + c.pressed.length + c.calls.length ≤ 1000
    rw [List.length_append,List.length_singleton]
    omega
theorem zX.prsIn {K:PySem.W.Frag} {t:Adr} {H H1:Hp} {b:Addr} {L:CL} {c:Lf.Car} {k:Nat} (C:zX K t H b L c) (s:zG H H1) (n1:L.li ≠ L.lp) (n2:L.lc ≠ L.lp) (sz:c.inside.length + c.pressed.length + c.calls.length ≤ 999):zX K t (upd H1 L.lp (.lst (nI c.pressed ++ [.int (k:Int)]))) b L { c with pressed:=c.pressed ++ [k] }:=by
  obtain ⟨⟨dx,hc⟩,h1,h2,⟨zs,ez,h3,h3'⟩,h4⟩:=C.same s
  have x:But L.lp H1 (upd H1 L.lp (.lst (nI c.pressed ++ [.int (k:Int)]))):=But.up (zG.refl _)
  refine ⟨⟨dx,x _ _ (jC hc h2 (by intro z; cases z)) hc⟩,x _ _ n1 h1,?_,⟨zs,ez,x _ _ n2 h3,fun z hz=>x.tupN h2 jA (h3' z hz)⟩,?_⟩
  · rw [zF,jD]
    rfl
  · show c.inside.length + (c.pressed ++ [k]).length + c.calls.length ≤ 1000
    rw [List.length_append,List.length_singleton]
    omega
theorem set_same {α:Type} {l:List α} {i:Nat} {x:α} (h:l[i]? = some x):l.set i x = l:=List.ext_getElem? fun j=>by
  rw [List.getElem?_set]
  by_cases e:i = j
  · subst e
    rw [if_pos rfl,if_pos (List.getElem?_eq_some_iff.mp h).1,h]
  · rw [if_neg e]
def zGL (S:Lf.Hall) (f:Nat) (l:List Nat):List Nat:=l.filter fun (k:Nat)=>(S.person k).to_ == f
def zAW (S:Lf.Hall) (f:Nat) (l:List Nat):List Nat:=l.filter fun (k:Nat)=>(S.person k).to_ != f
def ev (n kind i f:Nat) (l:List Nat):List Lf.Event:=l.map fun (k:Nat)=>(⟨n,kind,i,f,k⟩:Lf.Event)
def leftS (S:Lf.Hall) (i f:Nat) (c:Lf.Car):Lf.Hall:={ S with persons:=wJ S.time (zGL S f c.inside) S.persons,cars:=S.cars.set i { c with inside:=zAW S f c.inside } }
def zFH (K:PySem.W.Frag) (t:Adr):Sp:=fun vs H Q _=>∃ (a:Addr) (G:HG) (S:Lf.Hall) (W:Nat→Nat→List Nat) (i f:Nat) (c:Lf.Car),vs = [.ref a,.int i,.int f]∧HW K t H a G S W∧S.cars[i]? = some c∧(∀ k ∈ c.inside,k < S.persons.length) ∧
  ∀ (H':Hp) (G':HG) (e:Addr),HW K t H' a G' (leftS S i f c) W→Kp G G' H H'→H' e = some (.lst (nI (evN (ev S.time 3 i f (zGL S f c.inside)))))→G'.tag e = 7→H e = none→(∀ b,H' b = none→H b = none)→Q (.ref e) H'
theorem zFQ (T:Txt K mg t):qL P w K mg base CX0 2 t.f_House_let_leave t.d_House_let_leave ["self", "number", "floor"] (zFH K t):=by
  refine T.M.House_let_leave.F.ok xZ (fun vs H Q E h=>by obtain ⟨_,_,_,_,_,_,_,rfl,_⟩:=h; rfl) (fun cdv A outer s H vs Q E hr h=>?_)
  obtain ⟨a,G,S,W,i,f,c,rfl,A,hc,hin,q⟩:=h
  obtain ⟨da,ea⟩:=A.b.obj
  obtain ⟨z,hz⟩:∃ z,G.cs[i]? = some z:=⟨_,List.getElem?_eq_getElem (by rw [A.b.clen]; exact (List.getElem?_eq_some_iff.mp hc).1)⟩
  have sz:=(A.b.car i z c hz hc).1.sz
  refine ⟨_,zC (yG (i:=3) xZ.nd rfl (by first | exact Or.inl rfl | exact Or.inr rfl) (qA xF (zJ (pv 0) rfl) (pv 1) (fun _ _=>rfl))) (zC (yG (i:=4) xZ.nd rfl (by first | exact Or.inl rfl | exact Or.inr rfl) (xH zE)) (zC (yG (i:=5) xZ.nd rfl (by first | exact Or.inl rfl | exact Or.inr rfl) (xH zE)) (zC (ps_for PassesOwn.never rfl (wT (zJ (pv 3) rfl)) (jZ (i:=6) xZ.nd rfl (Or.inl rfl)) (zH (yX (zQ qJ (zJ (qA xF (zJ (pv 0) rfl) (pv 6) (fun _ _=>rfl)) rfl) (pv 2) (zY _)) (zC (xL (yA (zIM T) (hr.mono (by decide)) rfl T.D.note_leaving.m T.D.note_leaving.F.kp T.D.note_leaving.b .nil yD (zB (qA xF (zJ (pv 0) rfl) (pv 6) (fun _ _=>rfl)) (zB (zJ (pv 0) rfl) zE)))) (zH (xL (zD6 PySem.F.plainAttrs_list PySem.F.slot_list_extend PySem.F.type_list_extend wY (pv 4) (zB (xH (zB (zJ (pv 0) rfl) (zB (yB rfl T.G.i_SOMEBODY_LEFT) (zB (pv 1) (zB (pv 2) (zB (pv 6) zE)))))) zE))))) (zH (xL (zD6 PySem.F.plainAttrs_list PySem.F.slot_list_append PySem.F.type_list_append zB3 (pv 5) (zB (pv 6) zE))))))) (zC (yI (pv 3) (pv 5) rfl) (zH (zO (pv 4))))))),?_⟩
  refine xY (zC2 (n:=i) (zI (zA rfl) (by assumption) T.C.k_House.c T.C.n_House_cars (xG _ _ _ _ _)) (zA rfl) A.b.lst rfl (by rw [List.getElem?_map,hz]; rfl)) (zG.refl _) fun H1 s1=>?_
  refine zBJ (H0:=H1) qB (zG.refl _) fun H2 e s2 n2 he=>?_
  refine zBJ (H0:=H2) qB (zG.refl _) fun H3 st s3 n3 hst=>?_
  have ne:e ≠ st:=zM he n3
  have nHe:H e = none:=s1.free n2
  have nHs:H st = none:=(s1.trans s2).free n3
  have A3:=((((((A.same s1).new n2 7).same s2).new n3 8).same s3))
  have K3:Kp G { G with tag:=retag (retag G.tag e 7) st 8 } H H3:=(((((Kp.of s1).trans (Kp.new n2 7)).trans (Kp.of s2)).trans (Kp.new n3 8)).trans (Kp.of s3))
  have t7:retag (retag G.tag e 7) st 8 e = 7:=by rw [xI ne]; exact yO
  have t8:retag (retag G.tag e 7) st 8 st = 8:=yO
  have he3:=s3 _ _ he
  have fr3:∀ b,H3 b = none→H b = none:=fun b hb=>((s1.trans s2).trans s3).free hb
  generalize retag (retag G.tag e 7) st 8 = tg at A3 K3 t7 t8
  obtain ⟨Ci,ct⟩:=A3.b.car i z c hz hc
  obtain ⟨dz,ez⟩:=Ci.obj
  refine st_forS (H0:=H3) (zI (zA rfl) (by assumption) T.C.k_Car.c T.C.n_Car_inside (qD _ _ _ _ _ _ _)) (zG.refl _) Ci.ins (fun j σ H'=>∃ (v:Option V),σ = [some (.ref a),some (.int i),some (.int f),some (.ref z.1),some (.ref e),some (.ref st),v] ∧
    HW K t H' a { G with tag:=tg } { S with persons:=wJ S.time (zGL S f (c.inside.take j)) S.persons } W∧Kp G { G with tag:=tg } H H'∧H' e = some (.lst (nI (evN (ev S.time 3 i f (zGL S f (c.inside.take j))))))∧H' st = some (.lst (nI (zAW S f (c.inside.take j))))∧(∀ b,H' b = none→H b = none)) ?_ ?_ ?_ ?_
  · intro H4 s4
    refine ⟨none,rfl,?_,K3.trans (Kp.of s4),s4 _ _ he3,s4 _ _ hst,fun b hb=>fr3 b (s4.free hb)⟩
    rw [List.take_zero,show zGL S f [] = [] from rfl,stampL_nil]
    exact A3.same s4
  · rintro j σ H4 hj ⟨v,rfl,A4,K4,e4,st4,fr4⟩
    exact (A4.b.car i z c hz hc).1.ins
  · rintro j y σ H4 hy ⟨v,rfl,A4,K4,e4,st4,fr4⟩
    obtain ⟨k,hk,rfl⟩:=nI_get hy
    have kin:k ∈ c.inside:=List.mem_of_getElem? hk
    have kl:=hin k kin
    obtain ⟨p0,hp0⟩:∃ p,S.persons[k]? = some p:=⟨_,List.getElem?_eq_getElem kl⟩
    obtain ⟨pz,hpz⟩:∃ m,G.ps[k]? = some m:=⟨_,List.getElem?_eq_getElem (by rw [A.b.plen]; exact kl)⟩
    obtain ⟨p,hp,pt⟩:∃ p,(wJ S.time (zGL S f (c.inside.take j)) S.persons)[k]? = some p∧p.to_ = p0.to_:=by
      rw [qZ,hp0]
      refine ⟨_,rfl,?_⟩
      split <;> rfl
    have pk:S.person k = p0:=LM.qS hp0
    obtain ⟨⟨dp,ep⟩,tp⟩:=A4.b.per k pz p hpz hp
    obtain ⟨da,ea⟩:=A4.b.obj
    have jl:j < c.inside.length:=(List.getElem?_eq_some_iff.mp hk).1
    refine st_if (H0:=H4) (zP (zA2 (zI (zC2 (n:=k) (zI (zA rfl) (by assumption) T.C.k_House.c T.C.n_House_persons (yU _ _ _ _ _)) (zA rfl) A4.b.plst rfl (by rw [List.getElem?_map,hpz]; rfl)) ep T.C.k_Person.c T.C.n_Person_goal (zBE ..)) (zA rfl))) (zG.refl _) (fun H5 s5 e5=>?_) (fun H5 s5 e5=>?_)
    · have et:p0.to_ = f:=by
        have:=of_decide_eq_true e5
        rw [pt] at this
        omega
      have o1:zGL S f (c.inside.take (j + 1)) = zGL S f (c.inside.take j) ++ [k]:=by
        unfold zGL
        rw [zAS hk,List.filter_append,List.filter_cons,if_pos (by rw [pk,et]; exact beq_self_eq_true f),List.filter_nil]
      have o2:zAW S f (c.inside.take (j + 1)) = zAW S f (c.inside.take j):=by
        unfold zAW
        rw [zAS hk,List.filter_append,List.filter_cons,if_neg (by rw [pk,et]; simp),List.filter_nil,List.append_nil]
      refine zFF (H0:=H4) (zD (zC2 (n:=k) (zI (zA rfl) (by assumption) T.C.k_House.c T.C.n_House_persons (yU _ _ _ _ _)) (zA rfl) A4.b.plst rfl (by rw [List.getElem?_map,hpz]; rfl)) (zD (zI (zA rfl) (by assumption) T.C.k_House.c T.C.n_House_now (xB _ _ _ _ _)) zN)) s5 fun H6 s6=>⟨pz,p,S.time,rfl,(A4.b.per k pz p hpz hp).1.same s6,fun H7 P7 b7=>?_⟩
      have A7:=(A4.same s6).pers hpz hp b7 P7
      have A7':HW K t H7 a { G with tag:=tg } { S with persons:=wJ S.time (zGL S f (c.inside.take (j + 1))) S.persons } W:=by
        rw [o1,← stampL_snoc hp]
        exact A7
      have K7:=(K4.trans (Kp.of s6)).own (G2:={ G with tag:=tg }) b7 (s6 _ _ ep) jB (by rw [tp]; omega) (fun _ _ _=>rfl)
      have e7:=b7 _ _ (xC t7 tp (by omega)) (s6 _ _ e4)
      have st7:=b7 _ _ (xC t8 tp (by omega)) (s6 _ _ st4)
      obtain ⟨dp7,ep7⟩:=P7
      have fr7:∀ b,H7 b = none→H b = none:=fun b hb=>fr4 b (s6.free (b7.free ep7 hb))
      obtain ⟨da,ea⟩:=A7'.b.obj
      show zC0 _ _ _ _
      have le1:(zGL S f (c.inside.take j)).length ≤ j:=by
        have:=List.length_filter_le (fun (k:Nat)=>(S.person k).to_ == f) (c.inside.take j)
        unfold zGL
        rw [List.length_take] at this
        omega
      refine st_extendN (H0:=H7) (zA rfl) (zDP (zD (zI (zA rfl) (by assumption) T.C.k_House.c T.C.n_House_now (xB _ _ _ _ _)) (zD yH (zD (zA rfl) (zD (zA rfl) (zD (zA rfl) zN))))) (by show 5 ≤ sizeLine; decide)) (zG.refl _) e7 (by rw [zR,jL,sizeLine_eq]; unfold ev; rw [List.length_map]; show 5 * (zGL S f (c.inside.take j)).length + 5 ≤ _; omega) fun H8 s8=>?_
      have x8:But e H8 (upd H8 e (.lst (nI (evN (ev S.time 3 i f (zGL S f (c.inside.take j)))) ++ [.int (S.time:Int),.int 3,.int i,.int f,.int k]))):=But.up (zG.refl _)
      refine ⟨_,rfl,A7'.lst e7 s8 (.inl t7),(K7.trans (Kp.of s8)).fresh x8 nHe (fun _ _=>rfl),?_,?_,fun b hb=>fr7 b (s8.free (x8.free zF hb))⟩
      · rw [zF,o1]
        unfold ev
        rw [List.map_append,zAV,jD]
        rfl
      · rw [o2]
        exact x8 _ _ ne.symm (s8 _ _ st7)
    · have et:p0.to_ ≠ f:=by
        have:=of_decide_eq_false e5
        rw [pt] at this
        omega
      have o1:zGL S f (c.inside.take (j + 1)) = zGL S f (c.inside.take j):=by
        unfold zGL
        rw [zAS hk,List.filter_append,List.filter_cons,if_neg (by rw [pk]; simp [et]),List.filter_nil,List.append_nil]
      have o2:zAW S f (c.inside.take (j + 1)) = zAW S f (c.inside.take j) ++ [k]:=by
        unfold zAW
        rw [zAS hk,List.filter_append,List.filter_cons,if_pos (by rw [pk]; simp [et]),List.filter_nil]
      have le1:(zAW S f (c.inside.take j)).length ≤ j:=by
        have:=List.length_filter_le (fun (k:Nat)=>(S.person k).to_ != f) (c.inside.take j)
        unfold zAW
        rw [List.length_take] at this
        omega
      refine st_appendL (H0:=H4) (zA rfl) (zA rfl) s5 st4 (by rw [zR,sizeLine_eq]; omega) fun H8 s8=>?_
      have x8:But st H8 (upd H8 st (.lst (nI (zAW S f (c.inside.take j)) ++ [.int k]))):=But.up (zG.refl _)
      refine ⟨_,rfl,?_,(K4.trans (Kp.of s8)).fresh x8 nHs (fun _ _=>rfl),?_,?_,fun b hb=>fr4 b (s8.free (x8.free zF hb))⟩
      · rw [o1]
        exact A4.lst st4 s8 (.inr t8)
      · rw [o1]
        exact x8 _ _ ne (s8 _ _ e4)
      · rw [zF,o2,jD]
        rfl
  · rintro σ H4 ⟨v,rfl,A4,K4,e4,st4,fr4⟩
    rw [zR,List.take_length] at A4 e4 st4
    have A5:=A4.to t8 (4 * i + 11)
    have hz5:({ G with tag:=retag tg st (4 * i + 11) }:HG).cs[i]? = some z:=hz
    obtain ⟨C5,u0,u1,u2,u3⟩:=A5.b.car i z c hz5 hc
    obtain ⟨⟨dz,ez⟩,k1,k2,k3,k4⟩:=id C5
    refine jV (H0:=H4) (zA rfl) (zA rfl) (zG.refl _) ez T.C.k_Car.c T.C.n_Car_inside nn7 fun H6 s6=>?_
    have ls:(zAW S f c.inside).length ≤ c.inside.length:=List.length_filter_le ..
    have C6:zX K t (upd H6 z.1 (.ins t.Car dz (wV "inside" (.ref st) (qP z.2 c)))) z.1 { z.2 with li:=st } { c with inside:=zAW S f c.inside } :=
      zX.put (L:={ z.2 with li:=st }) (c:={ c with inside:=zAW S f c.inside }) (s6 _ _ st4) (s6 _ _ k2) (k3.same s6) (by show (zAW S f c.inside).length + c.pressed.length + c.calls.length ≤ 1000; omega) (s6 _ _ ez) (zDT ..)
    have x6:But z.1 H6 (upd H6 z.1 (.ins t.Car dz (wV "inside" (.ref st) (qP z.2 c)))):=But.up (zG.refl _)
    have A6:=(A5.same s6).car hz5 hc x6 (s6 _ _ ez) jB (carV_pl (A5.same s6).b (s6 _ _ ez)) (by omega) (by omega) C6 ⟨u0,yO,u2,u3⟩
    have K6:Kp G { G with tag:=retag tg st (4 * i + 11),cs:=G.cs.set i (z.1,{ z.2 with li:=st }) } H (upd H6 z.1 (.ins t.Car dz (wV "inside" (.ref st) (qP z.2 c)))):=by
      have k0:Kp G { G with tag:=retag tg st (4 * i + 11) } H H4:=⟨K4.1,fun b u hb h=>by
        show retag tg st (4 * i + 11) b = 7
        rw [xI (zM hb nHs)]
        exact K4.2 b u hb h⟩
      exact (k0.trans (Kp.of s6)).own x6 (s6 _ _ ez) jB (fun h=>by have:=u0.symm.trans h; omega) (fun _ _ _=>rfl)
    have et6:retag tg st (4 * i + 11) e = 7:=by rw [xI ne]; exact t7
    have e6:=x6 _ _ (xC et6 u0 (by omega)) (s6 _ _ e4)
    refine yF (H0:=upd H6 z.1 (.ins t.Car dz (wV "inside" (.ref st) (qP z.2 c)))) (zA rfl) (zG.refl _) fun H7 s7=>?_
    exact q H7 _ e (A6.same s7) (K6.trans (Kp.of s7)) (s7 _ _ e6) et6 nHe fun b hb=>fr4 b (s6.free (x6.free zF (s7.free hb)))
def inC (S:Lf.Hall) (c:Lf.Car) (l:List Nat):Lf.Car:={ c with inside:=c.inside ++ l,pressed:=(l.map fun (k:Nat)=>(S.person k).to_).foldl LM.xV c.pressed }
def inS (S:Lf.Hall) (i:Nat) (c:Lf.Car) (l:List Nat):Lf.Hall:={ S with persons:=zCQ S.time l S.persons,cars:=S.cars.set i (inC S c l) }
theorem zDJ:∀ (gs ps:List Nat),(gs.foldl LM.xV ps).length ≤ ps.length + gs.length
  | [],ps=>Nat.le_refl _
  | g :: gs,ps=>by
    have:=zDJ gs (LM.xV ps g)
    have h2:(LM.xV ps g).length ≤ ps.length + 1:=by
      unfold LM.xV
      split
      · omega
      · rw [List.length_append,List.length_singleton]
        omega
    rw [List.foldl_cons,List.length_cons]
    omega
def zFI (K:PySem.W.Frag) (t:Adr):Sp:=fun vs H Q _=>∃ (a:Addr) (G:HG) (S:Lf.Hall) (W:Nat→Nat→List Nat) (i f:Nat) (c:Lf.Car),vs = [.ref a,.int i,.int f]∧HW K t H a G S W∧S.cars[i]? = some c∧c.dir ≤ 2∧f < 32∧c.inside.length ≤ S.house.room∧S.house.room ≤ 40 ∧
  c.pressed.length ≤ 100∧c.calls.length ≤ 200∧(∀ k ∈ W f c.dir,k < S.persons.length) ∧
  ∀ (H':Hp) (G':HG) (e:Addr),HW K t H' a G' (inS S i c ((W f c.dir).take (S.house.room - c.inside.length))) (fun f' d'=>if f' = f∧d' = c.dir then (W f c.dir).drop (S.house.room - c.inside.length) else W f' d')→Kp G G' H H' →
    H' e = some (.lst (nI (evN (ev S.time 4 i f ((W f c.dir).take (S.house.room - c.inside.length))))))→G'.tag e = 7→H e = none→(∀ b,H' b = none→H b = none)→Q (.ref e) H'
theorem zFR (T:Txt K mg t):qL P w K mg base CX0 2 t.f_House_let_enter t.d_House_let_enter ["self", "number", "floor"] (zFI K t):=by
  refine T.M.House_let_enter.F.ok yS (fun vs H Q E h=>by obtain ⟨_,_,_,_,_,_,_,rfl,_⟩:=h; rfl) (fun cdv A outer s H vs Q E hr h=>?_)
  obtain ⟨a,G,S,W,i,f,c,rfl,A,hc,dl,fl,rm,r40,pl,clen,hin,q⟩:=h
  obtain ⟨da,ea⟩:=A.b.obj
  have hi:i < S.cars.length:=(List.getElem?_eq_some_iff.mp hc).1
  obtain ⟨z,hz⟩:∃ z,G.cs[i]? = some z:=⟨_,List.getElem?_eq_getElem (by rw [A.b.clen]; exact hi)⟩
  generalize hpl:S.house.room - c.inside.length = n at q
  refine ⟨_,zC (yG (i:=3) yS.nd rfl (by first | exact Or.inl rfl | exact Or.inr rfl) (qA xF (zJ (pv 0) rfl) (pv 1) (fun _ _=>rfl))) (zC (yG (i:=4) yS.nd rfl (by first | exact Or.inl rfl | exact Or.inr rfl) (xN (zB (pv 2) (zB (zJ (pv 3) rfl) zE)))) (zC (yG (i:=5) yS.nd rfl (by first | exact Or.inl rfl | exact Or.inr rfl) (xT (pv 0) T.C.k_House.c T.M.House_who_waits.m (jW T) (hr.mono (by decide)) T.M.House_who_waits.b .nil yD (zB (pv 4) zE))) (zC (yG (i:=6) yS.nd rfl (by first | exact Or.inl rfl | exact Or.inr rfl) (qX zG6 (zJ (zJ (pv 0) rfl) rfl) (yJ zZ rfl T.G.z_len PySem.boot_len (zB (zJ (pv 3) rfl) zE)))) (zC (ps_dput (hu_of hr) (zJ (pv 0) rfl) (pv 4) (pe_slice sl_list (pv 5) (po_some (pv 6)) po_none) rfl) (zC (yG (i:=7) yS.nd rfl (by first | exact Or.inl rfl | exact Or.inr rfl) (xH zE)) (zC (ps_for PassesOwn.never rfl (wT (pe_slice sl_list (pv 5) po_none (po_some (pv 6)))) (jZ (i:=8) yS.nd rfl (Or.inl rfl)) (zC (yG (i:=9) yS.nd rfl (by first | exact Or.inl rfl | exact Or.inr rfl) (qA xF (zJ (pv 0) rfl) (pv 8) (fun _ _=>rfl))) (zC (xL (yA (zHI T) (hr.mono (by decide)) rfl T.D.note_entering.m T.D.note_entering.F.kp T.D.note_entering.b .nil yD (zB (pv 9) (zB (zJ (pv 0) rfl) zE)))) (zC (xL (zD6 PySem.F.plainAttrs_list PySem.F.slot_list_append PySem.F.type_list_append zB3 (zJ (pv 3) rfl) (zB (pv 8) zE))) (zC (yX (zQ op_notIn_seq (zJ (pv 9) rfl) (zJ (pv 3) rfl) rfl) (zH (xL (zD6 PySem.F.plainAttrs_list PySem.F.slot_list_append PySem.F.type_list_append zB3 (zJ (pv 3) rfl) (zB (zJ (pv 9) rfl) zE)))) (zU)) (zH (xL (zD6 PySem.F.plainAttrs_list PySem.F.slot_list_extend PySem.F.type_list_extend wY (pv 7) (zB (xH (zB (zJ (pv 0) rfl) (zB (yB rfl T.G.i_SOMEBODY_ENTERED) (zB (pv 1) (zB (pv 2) (zB (pv 8) zE)))))) zE))))))))) (zH (zO (pv 7))))))))),?_⟩
  refine xY (zC2 (n:=i) (zI (zA rfl) (by assumption) T.C.k_House.c T.C.n_House_cars (xG _ _ _ _ _)) (zA rfl) A.b.lst rfl (by rw [List.getElem?_map,hz]; rfl)) (zG.refl _) fun H1 s1=>?_
  have A1:=A.same s1
  obtain ⟨⟨dz,ez⟩,k1,k2,k3,k4⟩:=(A1.b.car i z c hz hc).1
  refine zHX (H0:=H1) (zA rfl) (zI (zA rfl) (by assumption) T.C.k_Car.c T.C.n_Car_direction (zT _ _ _ _ _ _ _)) (zG.refl _) fun H2 tk s2 n2 htk=>?_
  have A2:=A1.same s2
  obtain ⟨da,ea⟩:=A2.b.obj
  refine st_methV (H0:=H2) (zA rfl) ea rfl (zD (zA rfl) zN) (zG.refl _) fun H3 s3=>⟨a,tk,G,S,W,f,c.dir,rfl,(A2.same s3).b,(A2.same s3).w,s3 _ _ htk,fun H4 qa s4 hq=>?_⟩
  have A4:=(A2.same s3).same s4
  have S4:=((s1.trans s2).trans s3).trans s4
  have htk4:=s4 _ _ (s3 _ _ htk)
  obtain ⟨da,ea⟩:=A4.b.obj
  obtain ⟨dp,ep⟩:=A4.b.plan
  obtain ⟨⟨dz,ez⟩,k1,k2,k3,k4⟩:=(A4.b.car i z c hz hc).1
  show zBW (tAsg _ _) _ _ _ _
  refine xY (H0:=H4) (jN (zI (zI (zA rfl) (by assumption) T.C.k_House.c T.C.n_House_plan (jQ _ _ _ _ _)) (by assumption) T.C.k_Plan.c T.C.n_Plan_room (planF_room _ _ _ _ _ _ _)) (zGZ (fun _ _ _ h=>h) (zD (zI (zA rfl) (by assumption) T.C.k_Car.c T.C.n_Car_inside (qD _ _ _ _ _ _ _)) zN) (by assumption))) (zG.refl _) fun H5 s5=>?_
  rw [zR,show (S.house.room:Int) - (c.inside.length:Int) = ((n:Nat):Int) by omega]
  obtain ⟨kvs,ekv,lkv,hput⟩:=A4.w.put fl dl
  refine st_dputN (H0:=H4) (nw_from (n:=n) (zA rfl) (zA rfl) hq) (zI (zA rfl) (by assumption) T.C.k_House.c T.C.n_House_waiting (zBS _ _ _ _ _)) (zA rfl) s5 ekv htk4 lkv fun H6 nq s6 n6 hnq=>?_
  have B6:=((A4.new n6 2).same s6)
  have hput6:wI (upd H6 G.dW (.dT (zC1 kvs (key f c.dir) (.ref nq)))) (retag G.tag nq 2) G.dW (fun f' d'=>if f' = f∧d' = c.dir then (W f c.dir).drop n else W f' d'):=by
    have w6:=(A4.new n6 2).w
    obtain ⟨kvs',ekv',_,hp'⟩:=w6.put fl dl
    have e1:kvs' = kvs:=by
      have:some (HO.dT kvs') = some (HO.dT kvs):=ekv'.symm.trans ekv
      injection this with t1
      injection t1
    subst e1
    refine hp' H6 nq _ _ s6 ?_ yO (fun _ _=>rfl)
    rw [hnq]
    unfold nI
    rw [List.map_drop]
  have x6:But G.dW H6 (upd H6 G.dW (.dT (zC1 kvs (key f c.dir) (.ref nq)))):=But.up (zG.refl _)
  have A6:HW K t (upd H6 G.dW (.dT (zC1 kvs (key f c.dir) (.ref nq)))) a { G with tag:=retag G.tag nq 2 } S (fun f' d'=>if f' = f∧d' = c.dir then (W f c.dir).drop n else W f' d'):=⟨B6.b.butW x6 (s6 _ _ ekv) zHN (fun _ _ _ z=>by cases z),hput6⟩
  have K6:Kp G { G with tag:=retag G.tag nq 2 } H (upd H6 G.dW (.dT (zC1 kvs (key f c.dir) (.ref nq)))):=(((Kp.of S4).trans (Kp.new n6 2)).trans (Kp.of s6)).own x6 (s6 _ _ ekv) zHN (by show retag G.tag nq 2 G.dW ≠ 7; rw [yN n6 _ _ ekv,A.b.tW]; decide) (fun _ _ _=>rfl)
  have q6:(upd H6 G.dW (.dT (zC1 kvs (key f c.dir) (.ref nq)))) qa = some (.lst (nI (W f c.dir))):=x6 _ _ (jC (s6 _ _ hq) (s6 _ _ ekv) (by intro z; cases z)) (s6 _ _ hq)
  have fr6:∀ b,(upd H6 G.dW (.dT (zC1 kvs (key f c.dir) (.ref nq)))) b = none→H b = none:=fun b hb=>S4.free (s6.free (x6.free zF hb))
  generalize (upd H6 G.dW (.dT (zC1 kvs (key f c.dir) (.ref nq)))) = B at A6 K6 q6 fr6 ⊢
  generalize retag G.tag nq 2 = tg at A6 K6
  refine zBJ (H0:=B) qB (zG.refl _) fun H7 e s7 n7 he=>?_
  have A7:=(A6.new n7 7).same s7
  have K7:=(K6.trans (Kp.new n7 7)).trans (Kp.of s7)
  have nHe:H e = none:=fr6 e n7
  have q7:=s7 _ _ q6
  have fr7:∀ b,H7 b = none→H b = none:=fun b hb=>fr6 b (s7.free hb)
  have te7:retag tg e 7 e = 7:=yO
  generalize (⟨G.pl,G.lC,G.lP,G.dW,G.cs,G.ps,retag tg e 7⟩:HG) = dummy
  clear dummy
  generalize hW':(fun f' d'=>if f' = f∧d' = c.dir then (W f c.dir).drop n else W f' d':Nat→Nat→List Nat) = W' at A6 A7 q hput6
  refine st_forN (H0:=H7) (nw_to (n:=n) (zA rfl) (zA rfl) q7) (zG.refl _) (fun l j σ H'=>∃ (v8 v9:Option V),σ = [some (.ref a),some (.int i),some (.int f),some (.ref z.1),some (.ref tk),some (.ref qa),some (.int (n:Nat)),some (.ref e),v8,v9]∧e ≠ l∧H l = none ∧
    HW K t H' a { G with tag:=retag (retag tg e 7) l 7 } (inS S i c (((W f c.dir).take n).take j)) W'∧Kp G { G with tag:=retag (retag tg e 7) l 7 } H H'∧H' l = some (.lst ((nI (W f c.dir)).take n))∧H' e = some (.lst (nI (evN (ev S.time 4 i f (((W f c.dir).take n).take j)))))∧(∀ b,H' b = none→H b = none)) ?_ ?_ ?_ ?_
  · intro H8 l s8 n8 hl
    have nel:e ≠ l:=zM he n8
    refine ⟨none,none,rfl,nel,fr7 l n8,?_,(K7.trans (Kp.new n8 7)).trans (Kp.of s8),hl,s8 _ _ he,fun b hb=>fr7 b (s8.free hb)⟩
    have e0:inS S i c (((W f c.dir).take n).take 0) = S:=by
      unfold inS inC
      rw [List.take_zero,stampE_nil,List.append_nil]
      show ({ S with cars:=S.cars.set i c }:Lf.Hall) = S
      rw [set_same hc]
    rw [e0]
    exact (A7.new n8 7).same s8
  · rintro l j σ H8 hj ⟨v8,v9,rfl,nel,nl,A8,K8,hl8,e8,fr8⟩
    exact hl8
  · rintro l j y σ H8 hy ⟨v8,v9,rfl,nel,nl,A8,K8,hl8,e8,fr8⟩
    have hy':(nI ((W f c.dir).take n))[j]? = some y:=by
      unfold nI at hy ⊢
      rw [List.map_take]
      exact hy
    obtain ⟨k,hk,rfl⟩:=nI_get hy'
    have kin:k ∈ W f c.dir:=List.mem_of_mem_take (List.mem_of_getElem? hk)
    have kl:=hin k kin
    have jl:j < ((W f c.dir).take n).length:=(List.getElem?_eq_some_iff.mp hk).1
    have jn:j < n:=by rw [List.length_take] at jl; omega
    have tks:=zAS hk
    generalize hP:((W f c.dir).take n).take j = Lj at A8 e8 tks
    have ljl:Lj.length ≤ j:=by rw [← hP,List.length_take]; omega
    have tl:retag (retag tg e 7) l 7 l = 7:=yO
    have te:retag (retag tg e 7) l 7 e = 7:=by rw [xI nel]; exact yO
    generalize retag (retag tg e 7) l 7 = tgl at A8 K8 tl te
    obtain ⟨p0,hp0⟩:∃ p,S.persons[k]? = some p:=⟨_,List.getElem?_eq_getElem kl⟩
    obtain ⟨pz,hpz⟩:∃ m,G.ps[k]? = some m:=⟨_,List.getElem?_eq_getElem (by rw [A.b.plen]; exact kl)⟩
    obtain ⟨p,hp,pt⟩:∃ p,(zCQ S.time Lj S.persons)[k]? = some p∧p.to_ = p0.to_:=by
      rw [wK,hp0]
      refine ⟨_,rfl,?_⟩
      split <;> rfl
    have pk:S.person k = p0:=LM.qS hp0
    obtain ⟨⟨dp,ep⟩,tp⟩:=A8.b.per k pz p hpz hp
    obtain ⟨da,ea⟩:=A8.b.obj
    refine xY (H0:=H8) (zC2 (n:=k) (zI (zA rfl) (by assumption) T.C.k_House.c T.C.n_House_persons (yU _ _ _ _ _)) (zA rfl) A8.b.plst rfl (by rw [List.getElem?_map,hpz]; rfl)) (zG.refl _) fun H9 s9=>?_
    refine zFF (H0:=H8) (zD (zA rfl) (zD (zI (zA rfl) (by assumption) T.C.k_House.c T.C.n_House_now (xB _ _ _ _ _)) zN)) s9 fun H10 s10=>⟨pz,p,S.time,rfl,(A8.b.per k pz p hpz hp).1.same s10,fun H11 P11 b11=>?_⟩
    have A11:=(A8.same s10).pers hpz hp b11 P11
    have K11:=(K8.trans (Kp.of s10)).own (G2:={ G with tag:=tgl }) b11 (s10 _ _ ep) jB (by rw [tp]; omega) (fun _ _ _=>rfl)
    have l11:=b11 _ _ (xC tl tp (by omega)) (s10 _ _ hl8)
    have e11:=b11 _ _ (xC te tp (by omega)) (s10 _ _ e8)
    obtain ⟨dp11,ep11⟩:=P11
    have fr11:∀ b,H11 b = none→H b = none:=fun b hb=>fr8 b (s10.free (b11.free ep11 hb))
    have A11':HW K t H11 a { G with tag:=tgl } { S with persons:=zCQ S.time (Lj ++ [k]) S.persons,cars:=S.cars.set i (inC S c Lj) } W':=by
      rw [← stampE_snoc hp]
      exact A11
    have hc11:(S.cars.set i (inC S c Lj))[i]? = some (inC S c Lj):=List.getElem?_set_self hi
    obtain ⟨C11,u0,u1,u2,u3⟩:=A11'.b.car i z (inC S c Lj) hz hc11
    obtain ⟨⟨dz,ez⟩,k1,k2,k3,k4⟩:=id C11
    have szi:(inC S c Lj).inside.length ≤ c.inside.length + j:=by
      show (c.inside ++ Lj).length ≤ _
      rw [List.length_append]
      omega
    have szp:(inC S c Lj).pressed.length ≤ c.pressed.length + j:=by
      have:=zDJ (Lj.map fun (k:Nat)=>(S.person k).to_) c.pressed
      rw [List.length_map] at this
      show ((Lj.map fun (k:Nat)=>(S.person k).to_).foldl LM.xV c.pressed).length ≤ _
      omega
    have szc:(inC S c Lj).calls.length = c.calls.length:=rfl
    show zBW (zC0 _) _ _ _ _
    refine zF8 (H0:=H11) (zI (zA rfl) (by assumption) T.C.k_Car.c T.C.n_Car_inside (qD _ _ _ _ _ _ _)) (zA rfl) (zG.refl _) k1 (by rw [zR,sizeLine_eq]; omega) fun H12 s12=>?_
    have C12:=C11.insIn (k:=k) s12 (xC u2 u1 (by omega)) (xC u3 u1 (by omega)) (by omega)
    have x12:But z.2.li H12 (upd H12 z.2.li (.lst (nI (inC S c Lj).inside ++ [.int (k:Int)]))):=But.up (zG.refl _)
    have np12:G.pl ≠ z.2.li:=let ⟨d,e⟩:=(A11'.same s12).b.plan; jC e (s12 _ _ k1) (by intro z; cases z)
    have A12:=(A11'.same s12).car hz hc11 x12 (s12 _ _ k1) jA np12 (by omega) (by omega) C12 ⟨u0,u1,u2,u3⟩
    have K12:=(K11.trans (Kp.of s12)).own (G2:={ G with tag:=tgl,cs:=G.cs.set i (z.1,z.2) }) x12 (s12 _ _ k1) jA (fun h=>by have:=u1.symm.trans h; omega) (fun _ _ _=>rfl)
    have l12:=x12 _ _ (xC tl u1 (by omega)) (s12 _ _ l11)
    have e12:=x12 _ _ (xC te u1 (by omega)) (s12 _ _ e11)
    have p12:(upd H12 z.2.li (.lst (nI (inC S c Lj).inside ++ [.int (k:Int)]))) pz = _:=x12 _ _ (jC (s12 _ _ ep11) (s12 _ _ k1) (by intro z; cases z)) (s12 _ _ ep11)
    have fr12:∀ b,(upd H12 z.2.li (.lst (nI (inC S c Lj).inside ++ [.int (k:Int)]))) b = none→H b = none:=fun b hb=>fr11 b (s12.free (x12.free zF hb))
    rw [set_same (show G.cs[i]? = some (z.1,z.2) from hz)] at A12 K12
    generalize (upd H12 z.2.li (.lst (nI (inC S c Lj).inside ++ [.int (k:Int)]))) = B12 at A12 K12 l12 e12 p12 fr12 ⊢
    have A12':HW K t B12 a { G with tag:=tgl } { S with persons:=zCQ S.time (Lj ++ [k]) S.persons,cars:=S.cars.set i { inC S c Lj with inside:=(inC S c Lj).inside ++ [k] } } W':=by
      have:=A12
      rw [List.set_set] at this
      exact this
    generalize hci:({ inC S c Lj with inside:=(inC S c Lj).inside ++ [k] }:Lf.Car) = ci at A12'
    have ci1:ci.inside = c.inside ++ (Lj ++ [k]):=by rw [← hci,← List.append_assoc]; rfl
    have ci2:ci.pressed = (Lj.map fun (k:Nat)=>(S.person k).to_).foldl LM.xV c.pressed:=by rw [← hci]; rfl
    have ci3:ci.calls = c.calls:=by rw [← hci]; rfl
    have hc12:(S.cars.set i ci)[i]? = some ci:=List.getElem?_set_self hi
    obtain ⟨C12',_,_,_,_⟩:=A12'.b.car i z ci hz hc12
    obtain ⟨⟨dz,ez⟩,k1,k2,k3,k4⟩:=id C12'
    have eout:inC S c (Lj ++ [k]) = { ci with pressed:=LM.xV ci.pressed p0.to_ }:=by
      rw [ci2,← hci]
      unfold inC
      simp only [List.map_append,List.foldl_append,List.map_cons,List.map_nil,List.foldl_cons,List.foldl_nil,pk,List.append_assoc]
    refine st_if2 (fun Hx=>HW K t Hx a { G with tag:=tgl } (inS S i c (Lj ++ [k])) W'∧Kp G { G with tag:=tgl } H Hx∧Hx l = some (.lst ((nI (W f c.dir)).take n))∧Hx e = some (.lst (nI (evN (ev S.time 4 i f Lj))))∧∀ b,Hx b = none→H b = none) (H0:=B12) (u:=tNext) (zP (pu_notin (n:=p0.to_) (by have z:=zI (K:=K) (f := "goal") (zA (n:=9) (σ:=[some (.ref a),some (.int i),some (.int f),some (.ref z.1),some (.ref tk),some (.ref qa),some (.int (n:Nat)),some (.ref e),some (.int (k:Int)),some (.ref pz)]) (H0:=B12) rfl) p12 T.C.k_Person.c T.C.n_Person_goal (zBE ..); rw [← pt]; exact z) (zI (zA rfl) (by assumption) T.C.k_Car.c T.C.n_Car_pressed (xQ _ _ _ _ _ _ _)) k2)) (zG.refl _) (fun H13 D13 s13 e13 kk=>?_) (fun H13 D13 s13 e13 kk=>?_) ?_
    · have nin:p0.to_ ∉ ci.pressed:=fun h=>by
        rw [List.contains_iff_mem.mpr h] at e13
        exact Bool.false_ne_true e13
      refine st_appendL (H0:=B12) (zI (zA rfl) (by assumption) T.C.k_Car.c T.C.n_Car_pressed (xQ _ _ _ _ _ _ _)) (by have z:=zI (K:=K) (f := "goal") (zA (n:=9) (σ:=[some (.ref a),some (.int i),some (.int f),some (.ref z.1),some (.ref tk),some (.ref qa),some (.int (n:Nat)),some (.ref e),some (.int (k:Int)),some (.ref pz)]) (H0:=B12) rfl) p12 T.C.k_Person.c T.C.n_Person_goal (zBE ..); rw [show (p.to_:Int) = ((p0.to_:Nat):Int) by rw [pt]] at z; exact z) s13 k2 (by rw [zR,sizeLine_eq,ci2]; have z9:((Lj.map fun (k:Nat)=>(S.person k).to_).foldl LM.xV c.pressed).length ≤ c.pressed.length + j:=szp; omega) fun H14 s14=>?_
      have C14:=C12'.prsIn (k:=p0.to_) s14 (xC u1 u2 (by omega)) (xC u3 u2 (by omega)) (by rw [ci1,ci2,ci3,List.length_append,List.length_append,List.length_singleton]; have z9:((Lj.map fun (k:Nat)=>(S.person k).to_).foldl LM.xV c.pressed).length ≤ c.pressed.length + j:=szp; omega)
      have x14:But z.2.lp H14 (upd H14 z.2.lp (.lst (nI ci.pressed ++ [.int (p0.to_:Int)]))):=But.up (zG.refl _)
      have np14:G.pl ≠ z.2.lp:=let ⟨d,e⟩:=(A12'.same s14).b.plan; jC e (s14 _ _ k2) (by intro z; cases z)
      have A14:=(A12'.same s14).car hz hc12 x14 (s14 _ _ k2) jA np14 (by omega) (by omega) C14 ⟨u0,u1,u2,u3⟩
      have K14:=(K12.trans (Kp.of s14)).own (G2:={ G with tag:=tgl,cs:=G.cs.set i (z.1,z.2) }) x14 (s14 _ _ k2) jA (fun h=>by have:=u2.symm.trans h; omega) (fun _ _ _=>rfl)
      rw [set_same (show G.cs[i]? = some (z.1,z.2) from hz)] at A14 K14
      refine kk _ ⟨?_,K14,x14 _ _ (xC tl u2 (by omega)) (s14 _ _ l12),x14 _ _ (xC te u2 (by omega)) (s14 _ _ e12),fun b hb=>fr12 b (s14.free (x14.free zF hb))⟩
      unfold inS
      rw [eout]
      have ep1:LM.xV ci.pressed p0.to_ = ci.pressed ++ [p0.to_]:=by
        unfold LM.xV
        rw [if_neg nin]
      rw [ep1]
      have:=A14
      rw [List.set_set] at this
      exact this
    · have yin:p0.to_ ∈ ci.pressed:=by
        rw [← List.contains_iff_mem]
        simpa using e13
      refine kk H13 ⟨?_,K12.trans (Kp.of s13),s13 _ _ l12,s13 _ _ e12,fun b hb=>fr12 b (s13.free hb)⟩
      unfold inS
      have ep1:LM.xV ci.pressed p0.to_ = ci.pressed:=by
        unfold LM.xV
        rw [if_pos yin]
      rw [eout,ep1]
      exact A12'.same s13
    · rintro Hx ⟨Ax,Kx,lx,ex,frx⟩
      obtain ⟨da,ea⟩:=Ax.b.obj
      refine st_extendN (H0:=Hx) (zA rfl) (zDP (zD (zI (zA rfl) (by assumption) T.C.k_House.c T.C.n_House_now (xB _ _ _ _ _)) (zD yH (zD (zA rfl) (zD (zA rfl) (zD (zA rfl) zN))))) (by show 5 ≤ sizeLine; decide)) (zG.refl _) ex (by rw [zR,jL,sizeLine_eq]; unfold ev; rw [List.length_map]; show 5 * Lj.length + 5 ≤ _; omega) fun Hy sy=>?_
      have xy:But e Hy (upd Hy e (.lst (nI (evN (ev S.time 4 i f Lj)) ++ [.int (S.time:Int),.int 4,.int i,.int f,.int k]))):=But.up (zG.refl _)
      rw [tks]
      refine ⟨_,_,rfl,nel,nl,Ax.lst ex sy (.inl te),(Kx.trans (Kp.of sy)).fresh xy nHe (fun _ _=>rfl),xy _ _ nel.symm (sy _ _ lx),?_,fun b hb=>frx b (sy.free (xy.free zF hb))⟩
      rw [zF]
      unfold ev
      rw [List.map_append,zAV,jD]
      rfl
  · rintro l σ H8 ⟨v8,v9,rfl,nel,nl,A8,K8,hl8,e8,fr8⟩
    have ll:((nI (W f c.dir)).take n).length = ((W f c.dir).take n).length:=by unfold nI; rw [List.length_take,List.length_map,List.length_take]
    rw [ll,List.take_length] at A8 e8
    refine yF (H0:=H8) (zA rfl) (zG.refl _) fun H9 s9=>?_
    exact q H9 _ e (A8.same s9) (K8.trans (Kp.of s9)) (s9 _ _ e8) (by show retag (retag tg e 7) l 7 e = 7; rw [xI nel]; exact yO) nHe fun b hb=>fr8 b (s9.free hb)
theorem HW.at {H:Hp} {a:Addr} {G:HG} {S:Lf.Hall} {W:Nat→Nat→List Nat} (A:HW K t H a G S W) (e:W = S.waiting):zW K t H a G S:=⟨A.b,by rw [← e]; exact A.w⟩
theorem pu_lenW {σ:L2.St} {ta tk:TE} {r:List V→Hp→VK→Prop} {a k dx:Addr} {fs:List (Str × V)} {G:HG} {S:Lf.Hall} {W:Nat→Nat→List Nat} {f d:Nat} (hr:∀ xs H Q,(∃ p ys,xs = [V.ref p]∧(SqL K H p ys∨SqT K H p ys)∧Q (.int ys.length) H)→r xs H Q)
    (ho:PuE ta σ H0 (.ref a)) (hi:H0 a = some (.ins t.House dx fs)) (hm:fs.lookup ("who_waits" : Str) = none) (hk:PuE tk σ H0 (.ref k)) (A:HW K t H0 a G S W) (htk:H0 k = some (.tup [.int f,.int d])) :
    PuE (tCB r (yW (zEN t.House "who_waits" (wG K t) [] E0 ta (yW tk zAG)) zAG)) σ H0 (.int ((W f d).length:Nat)):=fun H Q s q =>
  ho H _ s fun H1 s1=>⟨a,dx,fs,rfl,s1 _ _ (s _ _ hi),hm,hk H1 _ (s.trans s1) fun H2 s2=>⟨a,k,G,S,W,f,d,rfl,(A.same ((s.trans s1).trans s2)).b,(A.same ((s.trans s1).trans s2)).w,((s.trans s1).trans s2) _ _ htk,fun H3 p s3 hp=>hr _ _ _ ⟨p,_,rfl,.inl (SqL.of hp),by rw [zR]; exact q H3 ((s1.trans s2).trans s3)⟩⟩⟩
def shutR (S:Lf.Hall) (i f:Nat) (c:Lf.Car):Lf.Hall × List Lf.Event:=if (S.waiting f c.dir).isEmpty = true then (S,[⟨S.time,5,i,f,c.inside.length⟩]) else ((S.press (f,c.dir)).1,⟨S.time,5,i,f,c.inside.length⟩ :: (S.press (f,c.dir)).2)
def sp_House_shut (K:PySem.W.Frag) (t:Adr):Sp:=fun vs H Q _=>∃ (a:Addr) (G:HG) (S:Lf.Hall) (i f:Nat) (c:Lf.Car),vs = [.ref a,.int i,.int f]∧zW K t H a G S∧LM.yV S∧S.cars[i]? = some c∧(S.waiting f c.dir ≠ []→c.dir = 1∨c.dir = 2)∧zI5 K t H a G (shutR S i f c) Q
theorem ok_House_shut (T:Txt K mg t):qL P w K mg base CX0 10 t.f_House_shut t.d_House_shut ["self", "number", "floor"] (sp_House_shut K t):=by
  refine T.M.House_shut.F.ok zAN (fun vs H Q E h=>by obtain ⟨_,_,_,_,_,_,rfl,_⟩:=h; rfl) (fun cdv A outer s H vs Q E hr h=>?_)
  obtain ⟨a,G,S,i,f,c,rfl,A,ok,hc,d12,q⟩:=h
  obtain ⟨da,ea⟩:=A.b.obj
  obtain ⟨z,hz⟩:∃ z,G.cs[i]? = some z:=⟨_,List.getElem?_eq_getElem (by rw [A.b.clen]; exact (List.getElem?_eq_some_iff.mp hc).1)⟩
  refine ⟨_,zC (yG (i:=3) zAN.nd rfl (by first | exact Or.inl rfl | exact Or.inr rfl) (qA xF (zJ (pv 0) rfl) (pv 1) (fun _ _=>rfl))) (zC (yG (i:=4) zAN.nd rfl (by first | exact Or.inl rfl | exact Or.inr rfl) (xH (zB (zJ (pv 0) rfl) (zB (yB rfl T.G.i_DOORS_CLOSED) (zB (pv 1) (zB (pv 2) (zB (yJ zZ rfl T.G.z_len PySem.boot_len (zB (zJ (pv 3) rfl) zE)) zE))))))) (zC (yG (i:=5) zAN.nd rfl (by first | exact Or.inl rfl | exact Or.inr rfl) (xN (zB (pv 2) (zB (zJ (pv 3) rfl) zE)))) (zC (yX (zQ op_gt (yJ zZ rfl T.G.z_len PySem.boot_len (zB (xT (pv 0) T.C.k_House.c T.M.House_who_waits.m (jW T) (hr.mono (by decide)) T.M.House_who_waits.b .nil yD (zB (pv 5) zE)) zE)) yC (zY _)) (zH (xL (zD6 PySem.F.plainAttrs_list PySem.F.slot_list_extend PySem.F.type_list_extend wY (pv 4) (zB (xT (pv 0) T.C.k_House.c T.M.House_press.m (zEH T) (hr.mono (by decide)) T.M.House_press.b .nil yD (zB (pv 5) zE)) zE)))) (zU)) (zH (zO (pv 4)))))),?_⟩
  refine xY (zC2 (n:=i) (zI (zA rfl) (by assumption) T.C.k_House.c T.C.n_House_cars (xG _ _ _ _ _)) (zA rfl) A.b.lst rfl (by rw [List.getElem?_map,hz]; rfl)) (zG.refl _) fun H1 s1=>?_
  have A1:=A.same s1
  obtain ⟨da,ea⟩:=A1.b.obj
  obtain ⟨⟨dz,ez⟩,k1,k2,k3,k4⟩:=(A1.b.car i z c hz hc).1
  refine zBJ (H0:=H1) (zDP (zD (zI (zA rfl) (by assumption) T.C.k_House.c T.C.n_House_now (xB _ _ _ _ _)) (zD yH (zD (zA rfl) (zD (zA rfl) (zD (zGZ (fun _ _ _ h=>h) (zD (zI (zA rfl) (by assumption) T.C.k_Car.c T.C.n_Car_inside (qD _ _ _ _ _ _ _)) zN) (by assumption)) zN))))) (by show 5 ≤ sizeLine; decide)) (zG.refl _) fun H2 e s2 n2 he=>?_
  have A2:=(A1.local n2).same s2
  have K2:=((Kp.of s1 (G:=G)).trans (Kp.local n2)).trans (Kp.of s2)
  have te:retag G.tag e 7 e = 7:=yO
  generalize retag G.tag e 7 = tg at A2 K2 te
  have nHe:H e = none:=s1.free n2
  obtain ⟨⟨dz,ez⟩,k1,k2,k3,k4⟩:=(A2.b.car i z c hz hc).1
  refine zHX (H0:=H2) (zA rfl) (zI (zA rfl) (by assumption) T.C.k_Car.c T.C.n_Car_direction (zT _ _ _ _ _ _ _)) (zG.refl _) fun H3 tk s3 n3 htk=>?_
  have A3:=A2.same s3
  obtain ⟨da,ea⟩:=A3.b.obj
  have e3:H3 e = some (.lst (nI (evN [⟨S.time,5,i,f,c.inside.length⟩]))):=by
    rw [s3 _ _ he,zR]
    rfl
  refine st_if2 (fun Hx=>∃ G',zW K t Hx a G' (shutR S i f c).1∧Kp G G' H Hx∧Hx e = some (.lst (nI (evN (shutR S i f c).2)))∧G'.tag e = 7) (H0:=H3) (u:=tNext) (zP (jN (pu_lenW (fun _ _ _ h=>h) (zA rfl) ea rfl (zA rfl) A3.hw htk) yH)) (zG.refl _) (fun H4 D4 s4 e4 kk=>?_) (fun H4 D4 s4 e4 kk=>?_) ?_
  · have ne:S.waiting f c.dir ≠ []:=fun z=>by
      rw [z] at e4
      simp at e4
    have ne':¬ (S.waiting f c.dir).isEmpty = true:=fun z=>ne (List.isEmpty_iff.mp z)
    have hR:shutR S i f c = ((S.press (f,c.dir)).1,⟨S.time,5,i,f,c.inside.length⟩ :: (S.press (f,c.dir)).2):=by unfold shutR; rw [if_neg ne']
    refine zF7 (H0:=H3) (zA rfl) ea rfl (zA rfl) ⟨_,e3⟩ (zD (zA rfl) zN) s4 fun H5 s5=>⟨a,tk,_,S,(f,c.dir),rfl,A3.same s5,ok,zG.tup s5 (SqT.of htk),d12 ne,fun H6 G6 e6 A6 K6 h6 t6 n6=>?_⟩
    have e5:=K6.1 e _ (s5 _ _ e3) (.inl te)
    have te6:=K6.2 e _ (s5 _ _ e3) te
    have pl:=LM.zDJ S (f,c.dir)
    refine ⟨e,e6,_,_,rfl,rfl,e5,h6,by rw [zR,zR,jL,jL,sizeLine_eq]; show 5 * 1 + 5 * (S.press (f,c.dir)).2.length ≤ _; omega,kk _ ⟨G6,?_,?_,?_,te6⟩⟩
    · rw [hR]
      exact (A6.hw.lst e5 (zG.refl _) (.inl te6)).at rfl
    · exact (((K2.trans (Kp.of s3)).trans (Kp.of s5)).trans K6).fresh (But.up (zG.refl _)) nHe (fun _ _=>rfl)
    · rw [zF,hR,← jD,← zAV]
      rfl
  · have em:S.waiting f c.dir = []:=by
      have z:¬ ((0:Int) < ((S.waiting f c.dir).length:Nat)):=of_decide_eq_false e4
      exact List.length_eq_zero_iff.mp (by omega)
    have hR:shutR S i f c = (S,[⟨S.time,5,i,f,c.inside.length⟩]):=by unfold shutR; rw [if_pos (by rw [em]; rfl)]
    refine kk H4 ⟨_,?_,(K2.trans (Kp.of s3)).trans (Kp.of s4),?_,te⟩
    · rw [hR]
      exact A3.same s4
    · rw [hR]
      exact s4 _ _ e3
  · rintro Hx ⟨G',Ax,Kx,ex,tx⟩
    exact yF (H0:=Hx) (zA rfl) (zG.refl _) fun H5 s5=>q H5 G' e (Ax.same s5) (Kx.trans (Kp.of s5)) (s5 _ _ ex) tx nHe
section
variable {σ:L2.St} {H:Hp} {ta tb:TE} {D:zC4} {C a dx:Addr} {m:Str} {sp:Sp} {ts:TA} {vs:List V} {fs:List (Str × V)} {r2:R2} {Q:VK}
theorem r_meth (ho:PuE ta σ H0 (.ref a)) (hi:H0 a = some (.ins C dx fs)) (hm:fs.lookup m = none) (ha:PuA ts σ H0 vs) (s:zG H0 H) (h:∀ H',zG H0 H'→sp (.ref a :: (vs ++ [])) H' Q E0):zEN C m sp [] E0 ta ts σ H Q :=
  ho H _ s fun H1 s1=>⟨a,dx,fs,rfl,s1 _ _ (s _ _ hi),hm,ha H1 _ (s.trans s1) fun H2 s2=>h H2 ((s.trans s1).trans s2)⟩
theorem st_retMO (ho:PuE ta σ H0 (.ref a)) (hi:H0 a = some (.ins C dx fs)) (hm:fs.lookup m = none) (ha:PuA ts σ H0 vs) (s:zG H0 H) (h:∀ H',zG H0 H'→sp (.ref a :: (vs ++ [])) H' (fun x H1=>tb σ H1 fun y H2=>r2 x y H2 D.rt) E0) :
    tRet (tOp r2 (zEN C m sp [] E0 ta ts) tb) D σ H:=r_meth ho hi hm ha s h
end
theorem person_to {S:Lf.Hall} {n:Nat} {l:List Nat} (k:Nat):((wJ n l S.persons).getD k ⟨0,0,0,none,none⟩).to_ = (S.person k).to_:=by
  unfold Lf.Hall.person
  rw [List.getD_eq_getElem?_getD,List.getD_eq_getElem?_getD,qZ]
  cases S.persons[k]? with
  | none=>rfl
  | some p =>
    show (if l.contains k = true then { p with left:=some n } else p).to_ = p.to_
    split <;> rfl
theorem zCT {σ:L2.St} {ta tb:TE} {m n:Nat} (ha:PuE ta σ H0 (.int (m:Int))) (hb:PuE tb σ H0 (.int (n:Int))):PuE (tOp rEq ta tb) σ H0 (.bl (decide (m = n))):=by
  have z:=zA2 ha hb
  have e:decide ((m:Int) = (n:Int)) = decide (m = n):=by
    rw [Bool.eq_iff_iff,decide_eq_true_eq,decide_eq_true_eq]
    omega
  rw [e] at z
  exact z
theorem both_eq {S:Lf.Hall} {i:Nat} {c:Lf.Car} (R:LM.Ready S c):inS (leftS S i (c.floor S.house) c) i { c with inside:=zAW S (c.floor S.house) c.inside } (LM.zD9 S c) = LM.after S i c:=by
  unfold inS leftS LM.after
  have e1:inC { S with persons:=wJ S.time (zGL S (c.floor S.house) c.inside) S.persons,cars:=S.cars.set i { c with inside:=zAW S (c.floor S.house) c.inside } } { c with inside:=zAW S (c.floor S.house) c.inside } (LM.zD9 S c) = LM.zI3 S c:=by
    unfold inC LM.zI3 LM.zDK
    have e2:(LM.zD9 S c).map (fun (k:Nat)=>(Lf.Hall.person { S with persons:=wJ S.time (zGL S (c.floor S.house) c.inside) S.persons,cars:=S.cars.set i { c with inside:=zAW S (c.floor S.house) c.inside } } k).to_) = (LM.zD9 S c).map fun (k:Nat)=>(S.person k).to_:=List.map_congr_left fun k _=>person_to k
    simp only [e2,LM.press_fold]
    rfl
  have e3:zCQ S.time (LM.zD9 S c) (wJ S.time (zGL S (c.floor S.house) c.inside) S.persons) = LM.zCZ S c:=List.ext_getElem? fun k=>by
    rw [wK,qZ,LM.zB6,Option.map_map]
    cases S.persons[k]? with
    | none=>rfl
    | some p =>
      show some (if (LM.zD9 S c).contains k = true then { (if (zGL S (c.floor S.house) c.inside).contains k = true then { p with left:=some S.time } else p) with entered:=some S.time } else (if (zGL S (c.floor S.house) c.inside).contains k = true then { p with left:=some S.time } else p)) = some (LM.zBI S c k p)
      congr 1
      unfold LM.zBI
      by_cases o:(zGL S (c.floor S.house) c.inside).contains k = true
      · have o':(LM.outOf S c).contains k = true:=o
        have n:¬ (LM.zD9 S c).contains k = true:=fun z=>LM.out_in R (List.contains_iff_mem.mp o') (List.contains_iff_mem.mp z)
        rw [if_pos o',if_neg n,if_pos o]
      · have o':¬ (LM.outOf S c).contains k = true:=o
        rw [if_neg o',if_neg o]
  show ({ S with persons:=_,cars:=_ }:Lf.Hall) = _
  rw [e1]
  simp only [List.set_set,e3]
def zF9 (K:PySem.W.Frag) (t:Adr):Sp:=fun vs H Q _=>∃ (a:Addr) (G:HG) (S:Lf.Hall) (i:Nat),vs = [.ref a,.int i]∧zW K t H a G S∧LM.Good S∧i < S.cars.length∧zI5 K t H a G (S.turn i) Q
theorem zGO (T:Txt K mg t):qL P w K mg base CX0 11 t.f_House_tick_one t.d_House_tick_one ["self", "number"] (zF9 K t):=by
  refine T.M.House_tick_one.F.ok qG (fun vs H Q E h=>by obtain ⟨_,_,_,_,rfl,_⟩:=h; rfl) (fun cdv A outer s H vs Q E hr h=>?_)
  obtain ⟨a,G,S,i,rfl,A,gd,hi,q⟩:=h
  have ok:=gd.ok
  obtain ⟨da,ea⟩:=A.b.obj
  obtain ⟨c,hc⟩:∃ c,S.cars[i]? = some c:=⟨_,List.getElem?_eq_getElem hi⟩
  obtain ⟨z,hz⟩:∃ z,G.cs[i]? = some z:=⟨_,List.getElem?_eq_getElem (by rw [A.b.clen]; exact hi)⟩
  have I:=ok.car i c hc
  have fl32:c.floor S.house < 32:=by
    have:=LM.floor_lt gd (List.mem_of_getElem? hc)
    have:=ok.house.flm
    omega
  refine ⟨_,zC (yG (i:=2) qG.nd rfl (by first | exact Or.inl rfl | exact Or.inr rfl) (qA xF (zJ (pv 0) rfl) (pv 1) (fun _ _=>rfl))) (zC (yG (i:=3) qG.nd rfl (by first | exact Or.inl rfl | exact Or.inr rfl) (yA (zIK T) (hr.mono (by decide)) rfl T.D.tick_car.m T.D.tick_car.F.kp T.D.tick_car.b .nil yD (zB (pv 2) (zB (zJ (pv 0) rfl) zE)))) (zC (yG (i:=4) qG.nd rfl (by first | exact Or.inl rfl | exact Or.inr rfl) (qX op_fdiv (zJ (pv 2) rfl) (zJ (zJ (pv 0) rfl) rfl))) (zC (yX (zQ qJ (pv 3) (yB rfl T.G.i_DOORS_BEGIN) (zY _)) (zH (zO (xH (zB (zJ (pv 0) rfl) (zB (yB rfl T.G.i_DOORS_BEGAN) (zB (pv 1) (zB (pv 4) (zB (zJ (pv 2) rfl) zE)))))))) (zU)) (zC (yX (zQ qJ (pv 3) (yB rfl T.G.i_DOORS_STAND) (zY _)) (zH (zO (qX op_cat (xT (pv 0) T.C.k_House.c T.M.House_let_leave.m (zFQ T) (hr.mono (by decide)) T.M.House_let_leave.b .nil yD (zB (pv 1) (zB (pv 4) zE))) (xT (pv 0) T.C.k_House.c T.M.House_let_enter.m (zFR T) (hr.mono (by decide)) T.M.House_let_enter.b .nil yD (zB (pv 1) (zB (pv 4) zE)))))) (zU)) (zC (yX (zQ qJ (pv 3) (yB rfl T.G.i_DOORS_SHUT) (zY _)) (zH (zO (xT (pv 0) T.C.k_House.c T.M.House_shut.m (ok_House_shut T) (hr.mono (by decide)) T.M.House_shut.b .nil yD (zB (pv 1) (zB (pv 4) zE))))) (zU)) (zH (zO (xH zE)))))))),?_⟩
  refine xY (zC2 (n:=i) (zI (zA rfl) (by assumption) T.C.k_House.c T.C.n_House_cars (xG _ _ _ _ _)) (zA rfl) A.b.lst rfl (by rw [List.getElem?_map,hz]; rfl)) (zG.refl _) fun H1 s1=>?_
  refine st_callV (H0:=H) (zD (zA rfl) (zD (zI (zA rfl) (by assumption) T.C.k_House.c T.C.n_House_plan (jQ _ _ _ _ _)) zN)) s1 fun H2 s2=>⟨z.1,G.pl,z.2,c,S.house,rfl,(A.b.car i z c hz hc).1.same s2,A.b.plan.same s2,I.ok,ok.house,fun hd=>I.free ok.house (by omega),fun H3 L3 C3 l3 b3=>?_⟩
  obtain ⟨G3,A3,K3,f1,f2,f3,f4⟩:=(A.same s2).car hz hc b3 C3 l3
  have K3':Kp G G3 H H3:=(Kp.of s2).trans K3
  have fr3:∀ b,H3 b = none→H b = none:=fun b hb=>by
    obtain ⟨d,e⟩:=C3.obj
    exact s2.free (b3.free e hb)
  have q3:zI5 K t H3 a G3 (S.turn i) Q:=q.kp K3' fr3
  clear q
  have hz3:G3.cs[i]? = some (z.1,L3):=by rw [f1]; exact List.getElem?_set_self (List.getElem?_eq_some_iff.mp hz).1
  have hc3:(S.cars.set i (c.alone S.house))[i]? = some (c.alone S.house):=List.getElem?_set_self hi
  obtain ⟨da,ea⟩:=A3.b.obj
  obtain ⟨dp,ep⟩:=A3.b.plan
  obtain ⟨⟨dz,ez⟩,k1,k2,k3,k4⟩:=id C3
  have sp1:=ok.house.sp
  have sp2:=ok.house.spm
  show zBW (tAsg _ _) _ _ _ _
  refine xY (H0:=H3) (i:=4) (v:=.int (((c.alone S.house).floor S.house:Nat):Int)) ?_ (zG.refl _) fun H4 s4=>?_
  · rw [← floor_eq]
    exact (pu_iC (zI (zA rfl) (by assumption) T.C.k_Car.c T.C.n_Car_place (qK _ _ _ _ _ _ _)) (zI (zI (zA rfl) (by assumption) T.C.k_House.c T.C.n_House_plan (jQ _ _ _ _ _)) (by assumption) T.C.k_Plan.c T.C.n_Plan_speed (wS _ _ _ _ _ _ _)) (by first | exact ⟨by omega,by omega⟩ | (show (0:Int) < _; omega)))
  refine yK (H0:=H3) (zP (zCT (n:=1) (zA rfl) yH)) s4 (fun H5 s5 e5=>?_) (fun H5 s5 e5=>?_)
  · have b1:=of_decide_eq_true e5
    have eo:=(LM.zFZ b1).2
    rw [LM.turn_1 hc b1] at q3
    rw [eo] at A3 hc3 ez
    refine zF6 (H0:=H3) (zDP (zD (zI (zA rfl) (by assumption) T.C.k_House.c T.C.n_House_now (xB _ _ _ _ _)) (zD yH (zD (zA rfl) (zD (zA rfl) (zD (zI (zA rfl) (by assumption) T.C.k_Car.c T.C.n_Car_direction (zT _ _ _ _ _ _ _)) zN))))) (by show 5 ≤ sizeLine; decide)) s5 fun H6 e s6 n6 he=>?_
    refine q3 H6 _ e ((A3.local n6).same s6) ((Kp.local n6).trans (Kp.of s6)) ?_ yO n6
    rw [he,eo]
    rfl
  refine yK (H0:=H3) (zP (zCT (n:=2) (zA rfl) yH)) s5 (fun H5 s5 e5=>?_) (fun H5 s5 e5=>?_)
  · have b2:=of_decide_eq_true e5
    have R:=LM.turn_2r ok hc b2
    have ea2:c.alone S.house = LM.jT S c:=(LM.zI1 b2).2.2
    rw [LM.turn_2' hc b2] at q3
    rw [ea2] at A3 hc3
    have A3s:zW K t H3 a G3 (LM.yL S i (LM.jT S c)):=A3
    have hcs:(LM.yL S i (LM.jT S c)).cars[i]? = some (LM.jT S c):=hc3
    have fe:(c.alone S.house).floor S.house = (LM.jT S c).floor (LM.yL S i (LM.jT S c)).house:=by rw [ea2]; rfl
    have insl:∀ k ∈ (LM.jT S c).inside,k < (LM.yL S i (LM.jT S c)).persons.length:=fun k hk=>by
      obtain ⟨p,_,hp,_⟩:=R.ins k hk
      exact (List.getElem?_eq_some_iff.mp hp).1
    refine st_retMO (H0:=H3) (zA rfl) ea rfl (zD (zA rfl) (zD (zA rfl) zN)) s5 fun H6 s6=>⟨a,G3,LM.yL S i (LM.jT S c),S.waiting,i,(c.alone S.house).floor S.house,LM.jT S c,rfl,⟨(A3s.same s6).b,(A3s.same s6).w⟩,hcs,insl,fun H7 G7 e7 A7 K7 h7 t7 n7 fr7=>?_⟩
    rw [fe] at A7 h7
    generalize hS1:LM.yL S i (LM.jT S c) = S1 at A7 h7 R hcs insl A3s
    have hS1t:S1.time = S.time:=by rw [← hS1]; rfl
    have hS1h:S1.house = S.house:=by rw [← hS1]; rfl
    have hS1w:S1.waiting = S.waiting:=by rw [← hS1]; rfl
    generalize hc1:LM.jT S c = c1 at A7 h7 R hcs insl
    have il:i < S1.cars.length:=(List.getElem?_eq_some_iff.mp hcs).1
    have hc7:(leftS S1 i (c1.floor S1.house) c1).cars[i]? = some { c1 with inside:=zAW S1 (c1.floor S1.house) c1.inside }:=List.getElem?_set_self il
    have stl:(zAW S1 (c1.floor S1.house) c1.inside).length ≤ c1.inside.length:=List.length_filter_le ..
    obtain ⟨da,ea⟩:=A7.b.obj
    have ip:=I.pressed_le ok.house
    have ic:=I.calls_le ok.house
    show zEN _ _ _ _ _ _ _ _ _ _
    refine r_meth (H0:=H7) (zA rfl) ea rfl (zD (zA rfl) (zD (zA rfl) zN)) (zG.refl _) fun H8 s8=>⟨a,G7,leftS S1 i (c1.floor S1.house) c1,S.waiting,i,(c.alone S.house).floor S.house,_,rfl,A7.same s8,hc7,R.ok.dir,by rw [ea2]; exact fl32,?_,?_,?_,?_,?_,fun H9 G9 e9 A9 K9 h9 t9 n9 fr9=>?_⟩
    · exact Nat.le_trans stl R.room
    · show S1.house.room ≤ 40
      rw [hS1h]
      exact ok.house.rmm
    · show c1.pressed.length ≤ 100
      rw [← hc1]
      show c.pressed.length ≤ 100
      omega
    · show c1.calls.length ≤ 200
      rw [← hc1]
      show c.calls.length ≤ 200
      omega
    · intro k hk
      obtain ⟨p,hp,_⟩:=LM.zA4.mp hk
      show k < (wJ S1.time (zGL S1 (c1.floor S1.house) c1.inside) S1.persons).length
      rw [stampL_len,← hS1]
      exact (List.getElem?_eq_some_iff.mp hp).1
    rw [fe] at A9 h9
    rw [hS1,hc1] at A9 h9
    have gi:(S.waiting (c1.floor S1.house) c1.dir).take (S1.house.room - (zAW S1 (c1.floor S1.house) c1.inside).length) = LM.zD9 S1 c1:=by rw [← hS1w]; rfl
    have A9':HW K t H9 a G9 (LM.after S1 i c1) (fun f' d'=>if f' = c1.floor S1.house∧d' = c1.dir then (S.waiting (c1.floor S1.house) c1.dir).drop (S1.house.room - (zAW S1 (c1.floor S1.house) c1.inside).length) else S.waiting f' d'):=by
      rw [← both_eq R,← gi]
      exact A9
    have AF:zW K t H9 a G9 (LM.after S1 i c1):=A9'.at (by
      funext f' d'
      by_cases e:f' = c1.floor S1.house∧d' = c1.dir
      · rw [if_pos e,e.1,e.2,LM.zE8 R,hS1w]
        rfl
      · rw [if_neg e,LM.zE9 R e,hS1w])
    have e79:=K9.1 e7 _ (s8 _ _ h7) (.inl t7)
    have l3:(evN (ev S1.time 3 i (c1.floor S1.house) (zGL S1 (c1.floor S1.house) c1.inside))).length ≤ 5 * 1000:=by
      rw [jL]
      unfold ev
      rw [List.length_map]
      have:(zGL S1 (c1.floor S1.house) c1.inside).length ≤ c1.inside.length:=List.length_filter_le ..
      have:=R.room
      have r4:S1.house.room ≤ 40:=by rw [hS1h]; exact ok.house.rmm
      omega
    have l4:(evN (ev S1.time 4 i (c1.floor S1.house) (LM.zD9 S1 c1))).length ≤ 5 * 1000:=by
      rw [jL]
      unfold ev
      rw [List.length_map]
      have:(LM.zD9 S1 c1).length ≤ S1.house.room:=by
        unfold LM.zD9
        rw [List.length_take]
        omega
      have r4:S1.house.room ≤ 40:=by rw [hS1h]; exact ok.house.rmm
      omega
    have h9':H9 e9 = some (.lst (nI (evN (ev S1.time 4 i (c1.floor S1.house) (LM.zD9 S1 c1))))):=by rw [← gi]; exact h9
    refine ⟨e7,e9,_,_,rfl,rfl,e79,h9',by rw [zR,zR,sizeLine_eq]; omega,fun p hp=>?_⟩
    have q4:=q3 (upd H9 p (.lst (nI (evN (ev S1.time 3 i (c1.floor S1.house) (zGL S1 (c1.floor S1.house) c1.inside))) ++ nI (evN (ev S1.time 4 i (c1.floor S1.house) (LM.zD9 S1 c1)))))) { G9 with tag:=retag G9.tag p 7 } p
    refine q4 ?_ ?_ ?_ yO ?_
    · rw [hS1,hc1]
      exact (AF.local hp).same (zG.new hp)
    · exact ((((Kp.of s6).trans K7).trans (Kp.of s8)).trans K9).trans ((Kp.local hp).trans (Kp.of (zG.new hp)))
    · rw [zF,← jD,← zAV,hc1,← hS1,← hc1]
      rfl
    · exact s6.free (fr7 p (s8.free (fr9 p hp)))
  refine yK (H0:=H3) (zP (zCT (n:=3) (zA rfl) yH)) s5 (fun H5 s5 e5=>?_) (fun H5 s5 e5=>?_)
  · have b3':=of_decide_eq_true e5
    have ea3:c.alone S.house = LM.zA6 c:=(LM.zFY I.ok b3').2.2
    rw [LM.turn_3 I.ok hc b3'] at q3
    rw [ea3] at A3 hc3
    have W:LM.yV (LM.yL S i (LM.zA6 c)):=LM.zBX ok (LM.shut_in ok.house I (LM.zFY I.ok b3').1)
    refine zAM (H0:=H3) (zA rfl) ea rfl (zD (zA rfl) (zD (zA rfl) zN)) s5 fun H6 s6=>⟨a,G3,LM.yL S i (LM.zA6 c),i,(c.alone S.house).floor S.house,LM.zA6 c,rfl,zW.same A3 s6,W,hc3,fun ne=>?_,?_⟩
    · obtain ⟨k,hk⟩:=List.exists_mem_of_ne_nil _ ne
      obtain ⟨p,a1,_,a3,a4⟩:=LM.zA4.mp hk
      rw [← a4]
      exact LM.zDZ p
    · have:shutR (LM.yL S i (LM.zA6 c)) i ((c.alone S.house).floor S.house) (LM.zA6 c) = (if ((LM.yL S i (LM.zA6 c)).waiting (c.floor S.house) c.dir).isEmpty = true then (LM.yL S i (LM.zA6 c),[⟨S.time,5,i,c.floor S.house,c.inside.length⟩]) else (((LM.yL S i (LM.zA6 c)).press (c.floor S.house,c.dir)).1,⟨S.time,5,i,c.floor S.house,c.inside.length⟩ :: ((LM.yL S i (LM.zA6 c)).press (c.floor S.house,c.dir)).2)):=by
        rw [ea3]
        rfl
      rw [this]
      exact q3.same s6
  · have b0:LM.yR S.house c = 0:=by
      have n1:=of_decide_eq_false e5
      rcases LM.zAR S.house c with z | z | z | z
      · exact z
      · rename_i e1 _ _
        simp_all
      · simp_all
      · exact absurd z n1
    rw [LM.turn_0 hc b0] at q3
    refine zF6 (H0:=H3) qB s5 fun H6 e s6 n6 he=>?_
    exact q3 H6 _ e ((zW.local A3 n6).same s6) ((Kp.local n6).trans (Kp.of s6)) he yO n6
theorem wR {σ:L2.St} {r:List V→Hp→VK→Prop} {ts:TA} {p:Addr} {ys:List V} {n:Nat} (hr:∀ xs H Q,(∃ p ys,xs = [V.ref p]∧(SqL K H p ys∨SqT K H p ys)∧Q (.int ys.length) H)→r xs H Q) (ha:PuA ts σ H0 [.ref p]) (h:H0 p = some (.lst ys)) (e:ys.length = n):PuE (tCB r ts) σ H0 (.int (n:Int)):=by
  subst e
  exact zGZ hr ha h
theorem zW.time {H H1:Hp} {a dx:Addr} {G:HG} {S:Lf.Hall} {n:Nat} (A:zW K t H a G S) (ea:H a = some (.ins t.House dx (jO (.ref G.pl) (.int S.time) (.ref G.lC) (.ref G.lP) (.ref G.dW)))) (s:zG H H1) :
    zW K t (upd H1 a (.ins t.House dx (jO (.ref G.pl) (.int (n:Int)) (.ref G.lC) (.ref G.lP) (.ref G.dW)))) a G { S with time:=n }∧Kp G G H (upd H1 a (.ins t.House dx (jO (.ref G.pl) (.int (n:Int)) (.ref G.lC) (.ref G.lP) (.ref G.dW))))∧∀ b,(upd H1 a (.ins t.House dx (jO (.ref G.pl) (.int (n:Int)) (.ref G.lC) (.ref G.lP) (.ref G.dW)))) b = none→H b = none:=by
  have x1:But a H1 (upd H1 a (.ins t.House dx (jO (.ref G.pl) (.int (n:Int)) (.ref G.lC) (.ref G.lP) (.ref G.dW)))):=But.up (zG.refl _)
  have W1:=(A.w.same s).but x1 (s _ _ ea) (xC A.b.tW A.b.ta (by omega)) (by rw [A.b.ta]; decide) (tag':=G.tag) (fun _ _ _=>rfl)
  exact ⟨⟨A.b.setTime ea s,W1⟩,Kp.but s x1 (s _ _ ea) jB (by rw [A.b.ta]; decide) (fun _ _ _=>rfl),fun b hb=>s.free (x1.free zF hb)⟩
def sp_House_tick (K:PySem.W.Frag) (t:Adr):Sp:=fun vs H Q _=>∃ (a:Addr) (G:HG) (S:Lf.Hall),vs = [.ref a]∧zW K t H a G S∧LM.Good S∧zI5 K t H a G S.tick Q
theorem ok_House_tick (T:Txt K mg t):qL P w K mg base CX0 12 t.f_House_tick t.d_House_tick ["self"] (sp_House_tick K t):=by
  refine T.M.House_tick.F.ok zCA (fun vs H Q E h=>by obtain ⟨_,_,_,rfl,_⟩:=h; rfl) (fun cdv A outer s H vs Q E hr h=>?_)
  obtain ⟨a,G,S,rfl,A,gd,q⟩:=h
  obtain ⟨da,ea⟩:=A.b.obj
  refine ⟨_,zC (zB2 (pv 0) yC in_add) (zC (yG (i:=1) zCA.nd rfl (by first | exact Or.inl rfl | exact Or.inr rfl) (xH zE)) (zC (ps_for PassesOwn.never rfl (pi_range1 rfl T.G.z_range (zB (yJ zZ rfl T.G.z_len PySem.boot_len (zB (zJ (pv 0) rfl) zE)) zE)) (jZ (i:=2) zCA.nd rfl (Or.inl rfl)) (zH (xL (zD6 PySem.F.plainAttrs_list PySem.F.slot_list_extend PySem.F.type_list_extend wY (pv 1) (zB (xT (pv 0) T.C.k_House.c T.M.House_tick_one.m (zGO T) (hr.mono (by decide)) T.M.House_tick_one.b .nil yD (zB (pv 2) zE)) zE))))) (zH (zO (pv 1))))),?_⟩
  refine st_faddS (i:=(S.time:Int)) yH (zA rfl) (zG.refl _) ea T.C.k_House.c T.C.n_House_now (by show 5 < 1000; decide) (xB ..) fun H1 s1=>?_
  rw [zEI,show (S.time:Int) + 1 = ((S.time + 1:Nat):Int) by omega]
  obtain ⟨A1,K1,fr1⟩:=A.time (n:=S.time + 1) ea s1
  generalize (upd H1 a (.ins t.House da (jO (.ref G.pl) (.int ((S.time + 1:Nat):Int)) (.ref G.lC) (.ref G.lP) (.ref G.dW)))) = B at A1 K1 fr1 ⊢
  refine zBJ (H0:=B) qB (zG.refl _) fun H2 e s2 n2 he=>?_
  have A2:=(A1.local n2).same s2
  have K2:=(K1.trans (Kp.local n2)).trans (Kp.of s2)
  have nHe:H e = none:=fr1 e n2
  have te:retag G.tag e 7 e = 7:=yO
  obtain ⟨da,ea⟩:=A2.b.obj
  have ll:(G.cs.map fun z=>V.ref z.1).length = S.cars.length:=by rw [List.length_map,A.b.clen]
  have c6:=A.b.c6
  refine st_forR (H0:=H2) (n:=S.cars.length) (zD (wR (fun _ _ _ h=>h) (zD (zI (zA rfl) (by assumption) T.C.k_House.c T.C.n_House_cars (xG _ _ _ _ _)) zN) A2.b.lst ll) zN) (by omega) (zG.refl _) (fun j σ H'=>∃ (v:Option V) (G':HG),σ = [some (.ref a),some (.ref e),v]∧zW K t H' a G' (LM.zB9 S j).1∧Kp G G' H H'∧H' e = some (.lst (nI (evN (LM.zB9 S j).2)))∧G'.tag e = 7) ?_ ?_ ?_
  · intro H3 s3
    refine ⟨none,_,rfl,?_,K2.trans (Kp.of s3),s3 _ _ he,te⟩
    rw [LM.turns_zero]
    exact A2.same s3
  · rintro j σ H3 hj ⟨v,G',rfl,A3,K3,e3,t3⟩
    obtain ⟨da,ea⟩:=A3.b.obj
    have to:=LM.zDX gd.ok j (Nat.le_of_lt hj)
    have tg:=LM.zF4 gd j (Nat.le_of_lt hj)
    have hj':j < (LM.zB9 S j).1.cars.length:=by rw [to.2.2.2]; exact hj
    have tl:=LM.zHU gd.ok j (Nat.le_of_lt hj)
    have t1:=LM.turn_len to.1 (List.getElem?_eq_getElem hj')
    refine zF7 (H0:=H3) (zA rfl) ea rfl (zA rfl) ⟨_,e3⟩ (zD (zA rfl) zN) (zG.refl _) fun H4 s4=>⟨a,G',(LM.zB9 S j).1,j,rfl,A3.same s4,tg,hj',fun H5 G5 e5 A5 K5 h5 t5 n5=>?_⟩
    have ee:=K5.1 e _ (s4 _ _ e3) (.inl t3)
    have te5:=K5.2 e _ (s4 _ _ e3) t3
    refine ⟨e,e5,_,_,rfl,rfl,ee,h5,by rw [zR,zR,jL,jL,sizeLine_eq]; omega,_,G5,rfl,?_,?_,?_,te5⟩
    · rw [LM.zBY]
      exact (A5.hw.lst ee (zG.refl _) (.inl te5)).at rfl
    · exact ((K3.trans (Kp.of s4)).trans K5).fresh (But.up (zG.refl _)) nHe (fun _ _=>rfl)
    · rw [zF,LM.zBY,← jD,← zAV]
  · rintro σ H3 ⟨v,G',rfl,A3,K3,e3,t3⟩
    refine yF (H0:=H3) (zA rfl) (zG.refl _) fun H4 s4=>?_
    exact q H4 G' e (A3.same s4) (K3.trans (Kp.of s4)) (s4 _ _ e3) t3 nHe
def jU (K:PySem.W.Frag) (t:Adr) (H:Hp) (a:Addr) (G:HG) (S':Lf.Hall) (z:Int) (l:List Nat) (Q:VK):Prop :=
  ∀ (H':Hp) (G':HG) (p e:Addr),zW K t H' a G' S'→Kp G G' H H'→H' p = some (.tup [.int z,.ref e])→H' e = some (.lst (nI l))→Q (.ref p) H'
theorem wE {σ:L2.St} {H:Hp} {ta tb:TE} {D:zC4} {z:Int} {ys:List V} (ha:PuE ta σ H0 (.int z)) (hb:NwE tb σ H0 ys) (s:zG H0 H) (q:∀ H' p e,zG H0 H'→H' p = some (.tup [.int z,.ref e])→H' e = some (.lst ys)→D.rt (.ref p) H'):tRet (tTup (yW ta (yW tb zAG))) D σ H :=
  ha H _ s fun H1 s1=>hb H1 _ (s.trans s1) fun H2 e s2 n2 he=>⟨by show 2 ≤ sizeLine; decide,fun p hp=>q _ p e (((s.trans s1).trans s2).trans (zG.new hp)) zF (zG.new hp _ _ he)⟩
theorem st_ret2v {σ:L2.St} {H:Hp} {ta tb:TE} {D:zC4} {z:Int} {e:Addr} (ha:PuE ta σ H0 (.int z)) (hb:PuE tb σ H0 (.ref e)) (s:zG H0 H) (q:∀ H' p,zG H0 H'→H' p = some (.tup [.int z,.ref e])→D.rt (.ref p) H'):tRet (tTup (yW ta (yW tb zAG))) D σ H :=
  ha H _ s fun H1 s1=>hb H1 _ (s.trans s1) fun H2 s2=>⟨by show 2 ≤ sizeLine; decide,fun p hp=>q _ p (((s.trans s1).trans s2).trans (zG.new hp)) zF⟩
theorem jU.no {H H':Hp} {a p e:Addr} {G:HG} {S:Lf.Hall} {z:Int} {Q:VK} (q:jU K t H a G S z [] Q) (A:zW K t H a G S) (s:zG H H') (hp:H' p = some (.tup [.int z,.ref e])) (he:H' e = some (.lst [])):Q (.ref p) H':=q H' G p e (A.same s) (Kp.of s) hp he
theorem st_whileM {c:TT} {tb r:TS} {D:zC4} {σ:L2.St} {H:Hp} (Pv:Nat→L2.St→Hp→Prop) (h0:∃ m,Pv m σ H)
    (hs:∀ m σ H,Pv m σ H→c σ H fun b H1=>if b = true then tb { D with nx:=fun σ' H'=>∃ m',m' < m∧Pv m' σ' H',ct:=fun σ' H'=>∃ m',m' < m∧Pv m' σ' H',bk:=r D } σ H1 else r D σ H1)
    (mono:∀ σ H Q Q',(∀ b H1,Q b H1→Q' b H1)→c σ H Q→c σ H Q'):zBW (tWhile c tb) r D σ H:=by
  refine ⟨Pv,h0,fun m σ' H' p=>mono σ' H' _ _ (fun b H1 k=>?_) (hs m σ' H' p)⟩
  cases b with
  | true=>exact iteT ⟨_,fun _ _ z=>z,(by simpa using k)⟩
  | false=>exact iteF (by simpa using k)
theorem st_quiet {σ:L2.St} {H:Hp} {ta tb:TE} {r:List V→Hp→VK→Prop} {rs:TS} {D:zC4} {n:Nat} {a dx:Addr} {fs:List (Str × V)} {G:HG} {S:Lf.Hall} {j:Int} (hr:∀ xs H Q,(∃ i j,xs = [V.int i,V.int j]∧Q (.int (if j < i then j else i)) H)→r xs H Q)
    (ho:PuE ta σ H0 (.ref a)) (hi:H0 a = some (.ins t.House dx fs)) (hm:fs.lookup ("quiet_ticks_of_all" : Str) = none) (hb:PuE tb σ H0 (.int j)) (A:xA K t H0 a G S) (ok:LM.yV S) (s:zG H0 H)
    (q:∀ (H':Hp) (m:Nat),zG H0 H'→(∃ c ∈ S.cars,m = LM.quiet S.house c)→(∀ c ∈ S.cars,m ≤ LM.quiet S.house c)→rs D (σ.set n (some (.int (if j < (m:Int) then j else (m:Int))))) H') :
    zBW (tAsg (tCB r (yW (zEN t.House "quiet_ticks_of_all" (jX K t) [] E0 ta zAG) (yW tb zAG))) (zA7 n)) rs D σ H :=
  ho H _ s fun H1 s1=>⟨a,dx,fs,rfl,s1 _ _ (s _ _ hi),hm,⟨a,G,S,rfl,A.same (s.trans s1),ok,fun H2 m s2 h1 h2=>hb H2 _ ((s.trans s1).trans s2) fun H3 s3=>hr _ _ _ ⟨(m:Int),j,rfl,q H3 m (((s.trans s1).trans s2).trans s3) h1 h2⟩⟩⟩
def sp_House_run (K:PySem.W.Frag) (t:Adr):Sp:=fun vs H Q _=>∃ (a:Addr) (G:HG) (S:Lf.Hall) (n:Nat),vs = [.ref a,.int n]∧zW K t H a G S∧LM.Good S ∧
  (if 2000 < n then jU K t H a G S (-1) [] Q else jU K t H a G (Lf.Hall.ticks n S).1 ((Lf.Hall.ticks n S).2.length:Nat) (evN (Lf.Hall.ticks n S).2) Q)
theorem ok_House_run (T:Txt K mg t):qL P w K mg base CX0 13 t.f_House_run t.d_House_run ["self", "ticks"] (sp_House_run K t):=by
  refine T.M.House_run.F.ok zBB (fun vs H Q E h=>by obtain ⟨_,_,_,_,rfl,_⟩:=h; rfl) (fun cdv A outer s H vs Q E hr h=>?_)
  obtain ⟨a,G,S,n,rfl,A,gd,q⟩:=h
  obtain ⟨da,ea⟩:=A.b.obj
  refine ⟨_,zC (yX (zQ op_gt (pv 1) (yB rfl T.G.i_MOST_TICKS) (zY _)) (zH (zO (xN (zB (yB rfl T.G.i_WRONG_NUMBER) (zB (xH zE) zE))))) (zU)) (zC (yG (i:=2) zBB.nd rfl (by first | exact Or.inl rfl | exact Or.inr rfl) (qX zCV (zJ (pv 0) rfl) (pv 1))) (zC (yG (i:=3) zBB.nd rfl (by first | exact Or.inl rfl | exact Or.inr rfl) (xH zE)) (zC (ps_while PassesOwn.never (zQ op_lt (zJ (pv 0) rfl) (pv 2) (zY _)) (zC (yG (i:=4) zBB.nd rfl (by first | exact Or.inl rfl | exact Or.inr rfl) (yJ (call_min2 rfl) rfl T.G.z_min PyProof.Rows.boot_min (zB (pe_meth0 (pv 0) T.C.k_House.c T.M.House_quiet_ticks_of_all.m (zA3 T) (hr.mono (by decide)) T.M.House_quiet_ticks_of_all.b .nil yD) (zB (qX zG6 (pv 2) (zJ (pv 0) rfl)) zE)))) (zH (yX (zQ op_gt (pv 4) yC (zY _)) (zH (xL (xT (pv 0) T.C.k_House.c T.M.House_pass_quietly_all.m (zBR T) (hr.mono (by decide)) T.M.House_pass_quietly_all.b .nil yD (zB (pv 4) zE)))) (zH (xL (zD6 PySem.F.plainAttrs_list PySem.F.slot_list_extend PySem.F.type_list_extend wY (pv 3) (zB (pe_meth0 (pv 0) T.C.k_House.c T.M.House_tick.m (ok_House_tick T) (hr.mono (by decide)) T.M.House_tick.b .nil yD) zE)))))))) (zH (zO (xN (zB (qX op_fdiv (yJ zZ rfl T.G.z_len PySem.boot_len (zB (pv 3) zE)) (yB rfl T.G.i_EVENT_SIZE)) (zB (pv 3) zE)))))))),?_⟩
  refine yK (zP (jN (zA rfl) yH)) (zG.refl _) (fun H1 s1 e0=>?_) (fun H1 s1 e0=>?_)
  · have gt:2000 < n:=by have:=of_decide_eq_true e0; omega
    rw [if_pos gt] at q
    exact wE (H0:=H) yH qB s1 fun H2 p e2 s2 hp he=>q.no A s2 hp he
  have le:¬ 2000 < n:=by have:=of_decide_eq_false e0; omega
  clear e0
  rw [if_neg le] at q
  refine xY (jN (zI (zA rfl) (by assumption) T.C.k_House.c T.C.n_House_now (xB _ _ _ _ _)) (zA rfl)) s1 fun H1 s1=>?_
  refine zBJ (H0:=H1) qB (zG.refl _) fun H2 e s2 n2 he=>?_
  have A2:=((A.same s1).local n2).same s2
  have K2:=((Kp.of s1 (G:=G)).trans (Kp.local n2)).trans (Kp.of s2)
  have nHe:H e = none:=s1.free n2
  have te:retag G.tag e 7 e = 7:=yO
  refine st_whileM (fun m σ H'=>∃ (τ:Nat) (v:Option V) (G':HG),m = n - τ∧τ ≤ n∧σ = [some (.ref a),some (.int n),some (.int ((S.time:Int) + n)),some (.ref e),v]∧zW K t H' a G' (Lf.Hall.ticks τ S).1∧Kp G G' H H'∧H' e = some (.lst (nI (evN (Lf.Hall.ticks τ S).2)))∧G'.tag e = 7) ?_ ?_ ?_
  · exact ⟨n,0,none,_,rfl,Nat.zero_le _,rfl,A2,K2,he,te⟩
  · rintro m σ B ⟨τ,v,G',rfl,tn,rfl,A3,K3,e3,t3⟩
    obtain ⟨da,ea⟩:=A3.b.obj
    have tok:=LM.ticks_ok τ gd.ok
    have tgd:=LM.zF5 τ gd
    have ttm:(Lf.Hall.ticks τ S).1.time = S.time + τ:=tok.2.2
    have tln:=LM.ticks_len τ gd.ok
    refine zP (b:=decide (((Lf.Hall.ticks τ S).1.time:Int) < (S.time:Int) + n)) (jN (zI (zA rfl) (by assumption) T.C.k_House.c T.C.n_House_now (xB _ _ _ _ _)) (zA rfl)) B _ (zG.refl _) fun B1 s1=>?_
    refine ite2 (fun e1=>?_) (fun e1=>?_)
    · have lt:τ < n:=by
        have:=of_decide_eq_true e1
        rw [ttm] at this
        omega
      have A4:=A3.same s1
      obtain ⟨da,ea⟩:=A4.b.obj
      refine st_quiet (H0:=B1) (j:=(S.time:Int) + n - ((Lf.Hall.ticks τ S).1.time:Int)) (fun _ _ _ h=>h) (zA rfl) ea rfl (jN (zA rfl) (zI (zA rfl) (by assumption) T.C.k_House.c T.C.n_House_now (xB _ _ _ _ _))) A4.b tok.1 (zG.refl _) fun B2 mq s2 hq1 hq2=>?_
      rw [ttm]
      have A5:=A4.same s2
      obtain ⟨da,ea⟩:=A5.b.obj
      have K5:=(K3.trans (Kp.of s1)).trans (Kp.of s2)
      have e5:=s2 _ _ (s1 _ _ e3)
      generalize hqn:(if (S.time:Int) + n - ((S.time + τ:Nat):Int) < (mq:Int) then (S.time:Int) + n - ((S.time + τ:Nat):Int) else (mq:Int)) = qv
      obtain ⟨qn,rfl,qle,qmq⟩:∃ qn:Nat,qv = (qn:Int)∧qn ≤ n - τ∧qn ≤ mq∧(qn = 0→mq = 0):=by
        refine ⟨min (n - τ) mq,?_,Nat.min_le_left _ _,Nat.min_le_right _ _,fun z=>by omega⟩
        rw [← hqn]
        split <;> omega
      refine st_if (H0:=B2) (zP (jN (zA rfl) yH)) (zG.refl _) (fun B3 s3 e6=>?_) (fun B3 s3 e6=>?_)
      · have q1:1 ≤ qn:=by have:=of_decide_eq_true e6; omega
        refine st_methL (H0:=B2) (zA rfl) ea rfl (zD (zA rfl) zN) s3 fun B4 s4=>⟨a,G',(Lf.Hall.ticks τ S).1,qn,rfl,A5.same s4,tok.1,q1,fun c hc=>Nat.le_trans qmq.1 (hq2 c hc),fun B5 G5 A6 K6=>?_⟩
        have hx:=K6.1 e _ (s4 _ _ e5) (.inl t3)
        have tx:=K6.2 e _ (s4 _ _ e5) t3
        have ta:Lf.Hall.ticks (τ + qn) S = (LM.later (Lf.Hall.ticks τ S).1 qn,(Lf.Hall.ticks τ S).2):=by
          rw [LM.zHV,LM.ticks_quiet tok.1.house tok.1.carOk qn (fun c hc=>Nat.le_trans qmq.1 (hq2 c hc)),List.append_nil]
        refine ⟨n - (τ + qn),by omega,τ + qn,_,G5,rfl,by omega,rfl,?_,(K5.trans (Kp.of s4)).trans K6,?_,tx⟩
        · rw [ta]
          exact A6
        · rw [ta]
          exact hx
      · have q0:qn = 0:=by have:=of_decide_eq_false e6; omega
        refine zF7 (H0:=B2) (zA rfl) ea rfl (zA rfl) ⟨_,e5⟩ zN s3 fun B4 s4=>⟨a,G',(Lf.Hall.ticks τ S).1,rfl,A5.same s4,tgd,fun B5 G5 e7 A6 K6 h6 t6 n6=>?_⟩
        have hx:=K6.1 e _ (s4 _ _ e5) (.inl t3)
        have tx:=K6.2 e _ (s4 _ _ e5) t3
        have tl1:=LM.tick_len tok.1
        have t1:Lf.Hall.ticks 1 (Lf.Hall.ticks τ S).1 = ((Lf.Hall.ticks τ S).1.tick.1,(Lf.Hall.ticks τ S).1.tick.2 ++ []):=rfl
        have ta:Lf.Hall.ticks (τ + 1) S = ((Lf.Hall.ticks τ S).1.tick.1,(Lf.Hall.ticks τ S).2 ++ (Lf.Hall.ticks τ S).1.tick.2):=by
          rw [LM.zHV,t1,List.append_nil]
        refine ⟨e,e7,_,_,rfl,rfl,hx,h6,by rw [zR,zR,jL,jL,sizeLine_eq]; omega,n - (τ + 1),by omega,τ + 1,_,G5,rfl,by omega,rfl,?_,?_,?_,tx⟩
        · rw [ta]
          exact (A6.hw.lst hx (zG.refl _) (.inl tx)).at rfl
        · exact ((K5.trans (Kp.of s4)).trans K6).fresh (But.up (zG.refl _)) nHe (fun _ _=>rfl)
        · rw [zF,ta,← jD,← zAV]
    · have ge:τ = n:=by
        have:¬ (((Lf.Hall.ticks τ S).1.time:Int) < (S.time:Int) + n):=fun z=>e1 (decide_eq_true z)
        rw [ttm] at this
        omega
      subst ge
      have e4:=s1 _ _ e3
      refine st_ret2v (H0:=B1) (z:=((Lf.Hall.ticks τ S).2.length:Nat)) (e:=e) ?_ (zA rfl) (zG.refl _) fun B2 p s2 hp=>?_
      · have z:=pu_iC (C:=CDiv) (g:=fun i j=>V.int (i / j)) (zGZ (K:=K) (σ:=[some (V.ref a),some (.int (τ:Int)),some (.int ((S.time:Int) + τ)),some (.ref e),v]) (H0:=B1) (r:=fun xs H Q=>∃ p ys,xs = [V.ref p]∧(SqL K H p ys∨SqT K H p ys)∧Q (.int ys.length) H) (fun _ _ _ h=>h) (zD (ta:=zD4 3) (zA rfl) zN) e4) (yH (v:=.int 5)) ⟨by decide,by decide⟩
        rw [zR,jL] at z
        have e9:(((5 * (Lf.Hall.ticks τ S).2.length:Nat):Int) / 5) = ((Lf.Hall.ticks τ S).2.length:Int):=by omega
        rw [e9] at z
        exact z
      · exact q B2 G' p e ((A3.same s1).same s2) ((K3.trans (Kp.of s1)).trans (Kp.of s2)) hp (s2 _ _ e4)
  · rintro σ B Q1 Q2 hQ ⟨v,h1,a',C,dx,fs,v',h2,h3,h4,h5,h6,v2,h7,i,j,h8,h9,kk,h10,h11⟩
    exact ⟨v,h1,a',C,dx,fs,v',h2,h3,h4,h5,h6,v2,h7,i,j,h8,h9,kk,h10,hQ _ _ h11⟩
theorem st_appendMk {σ:L2.St} {H:Hp} {ta:TE} {r:TS} {D:zC4} {sp:Sp} {ts:TA} {vs xs:List V} {C l:Addr} (ho:PuE ta σ H0 (.ref l)) (h:H0 l = some (.lst xs)) (ha:PuA ts σ H0 vs) (s:zG H0 H)
    (q:∀ H' x dx,zG H0 H'→H' x = none→H' dx = none→dx ≠ x→sp (.ref x :: (vs ++ [])) (upd (upd H' dx (.own x)) x (.ins C dx [])) (fun v H2=>v = .non∧zIC (.ref l) [.ref x] H2 fun _ H3=>r D σ H3) E0) :
    zBW (zC0 (tBM K "list" zIC ta (yW (tMake C sp [] E0 ts) zAG))) r D σ H :=
  ho H _ s fun H1 s1=>⟨.inl ⟨rfl,_,SqL.of (s1 _ _ (s _ _ h))⟩,ha H1 _ (s.trans s1) fun H2 s2 x dx nx nd ne=>q H2 x dx ((s.trans s1).trans s2) nx nd ne⟩
theorem nw_waitCat {σ:L2.St} {ta tk tw:TE} {a k dx:Addr} {fs:List (Str × V)} {G:HG} {S:Lf.Hall} {W:Nat→Nat→List Nat} {f d n:Nat} (ho:PuE ta σ H0 (.ref a)) (hi:H0 a = some (.ins t.House dx fs)) (hm:fs.lookup ("who_waits" : Str) = none) (hk:PuE tk σ H0 (.ref k)) (A:HW K t H0 a G S W) (htk:H0 k = some (.tup [.int f,.int d])) (hw:PuE tw σ H0 (.int (n:Int))) (hl:(W f d).length ≤ 1000) :
    NwE (tOp rCat (zEN t.House "who_waits" (wG K t) [] E0 ta (yW tk zAG)) (tLst (yW tw zAG))) σ H0 (nI (W f d ++ [n])):=fun H Q s q =>
  ho H _ s fun H1 s1=>⟨a,dx,fs,rfl,s1 _ _ (s _ _ hi),hm,hk H1 _ (s.trans s1) fun H2 s2=>⟨a,k,G,S,W,f,d,rfl,(A.same ((s.trans s1).trans s2)).b,(A.same ((s.trans s1).trans s2)).w,((s.trans s1).trans s2) _ _ htk,fun H3 p s3 hp=>hw H3 _ (((s.trans s1).trans s2).trans s3) fun H4 s4=>⟨by show 1 ≤ sizeLine; decide,fun l hl'=>by
    have s5:zG H4 (upd H4 l (.lst [.int (n:Int)])):=zG.new hl'
    refine ⟨p,l,_,_,rfl,rfl,s5 _ _ (s4 _ _ hp),zF,by rw [zR,sizeLine_eq]; show (W f d).length + 1 ≤ _; omega,fun m hm'=>?_⟩
    have s6:=((((s1.trans s2).trans s3).trans s4).trans s5)
    refine q _ m (s6.trans (zG.new hm')) (s6.free hm') ?_
    rw [zF,jD]
    rfl⟩⟩⟩
theorem st_ret2M {σ:L2.St} {H:Hp} {ta tb:TE} {D:zC4} {sp:Sp} {ts:TA} {vs:List V} {C a dx:Addr} {m:Str} {fs:List (Str × V)} {z:Int} (ha:PuE ta σ H0 (.int z)) (ho:PuE tb σ H0 (.ref a)) (hi:H0 a = some (.ins C dx fs)) (hm:fs.lookup m = none) (hs:PuA ts σ H0 vs) (s:zG H0 H)
    (q:∀ H',zG H0 H'→sp (.ref a :: (vs ++ [])) H' (fun v H1=>[V.int z,v].length ≤ sizeLine∧∀ p,H1 p = none→D.rt (.ref p) (upd H1 p (.tup [.int z,v]))) E0):tRet (tTup (yW ta (yW (zEN C m sp [] E0 tb ts) zAG))) D σ H :=
  ha H _ s fun H1 s1=>ho H1 _ (s.trans s1) fun H2 s2=>⟨a,dx,fs,rfl,s2 _ _ (s1 _ _ (s _ _ hi)),hm,hs H2 _ ((s.trans s1).trans s2) fun H3 s3=>q H3 (((s.trans s1).trans s2).trans s3)⟩
def zAQ (f g:Nat):Nat:=if f < g then 1 else 2
def sp_House_come (K:PySem.W.Frag) (t:Adr):Sp:=fun vs H Q _=>∃ (a:Addr) (G:HG) (S:Lf.Hall) (f g:Nat),vs = [.ref a,.int f,.int g]∧zW K t H a G S∧LM.Good S ∧
  (if S.house.floors ≤ f∨S.house.floors ≤ g∨f = g then jU K t H a G S (-1) [] Q else if 200 ≤ S.persons.length then jU K t H a G S (-2) [] Q else jU K t H a G (S.come f g).1 (S.persons.length:Nat) (evN (S.come f g).2) Q)
theorem ok_House_come (T:Txt K mg t):qL P w K mg base CX0 10 t.f_House_come t.d_House_come ["self", "floor", "goal"] (sp_House_come K t):=by
  refine T.M.House_come.F.ok zAO (fun vs H Q E h=>by obtain ⟨_,_,_,_,_,rfl,_⟩:=h; rfl) (fun cdv A outer s H vs Q E hr h=>?_)
  obtain ⟨a,G,S,f,g,rfl,A,gd,q⟩:=h
  have ok:=gd.ok
  obtain ⟨da,ea⟩:=A.b.obj
  obtain ⟨dp,ep⟩:=A.b.plan
  refine ⟨_,zC (yG (i:=3) zAO.nd rfl (by first | exact Or.inl rfl | exact Or.inr rfl) (zJ (zJ (pv 0) rfl) rfl)) (zC (yX (PW.pt (pw_or (zQ op_ge (pv 1) (pv 3) (zY _)) (pw_or (zQ op_ge (pv 2) (pv 3) (zY _)) (pw_or1 (zQ qJ (pv 1) (pv 2) (zY _)))))) (zH (zO (xN (zB (yB rfl T.G.i_WRONG_NUMBER) (zB (xH zE) zE))))) (zU)) (zC (yG (i:=4) zAO.nd rfl (by first | exact Or.inl rfl | exact Or.inr rfl) (yJ zZ rfl T.G.z_len PySem.boot_len (zB (zJ (pv 0) rfl) zE))) (zC (yX (zQ op_ge (pv 4) (yB rfl T.G.i_MOST_PERSONS) (zY _)) (zH (zO (xN (zB (yB rfl T.G.i_TOO_MANY_PERSONS) (zB (xH zE) zE))))) (zU)) (zC (yG (i:=5) zAO.nd rfl (by first | exact Or.inl rfl | exact Or.inr rfl) (xN (zB (pv 1) (zB (zCJ (zQ op_gt (pv 2) (pv 1) (zY _)) (yB rfl T.G.i_UP) (yB rfl T.G.i_DOWN)) zE)))) (zC (xL (zD6 PySem.F.plainAttrs_list PySem.F.slot_list_append PySem.F.type_list_append zB3 (zJ (pv 0) rfl) (zB (pe_make T.C.k_Person.mm (ok_Person_init T) (hr.mono (by decide)) rfl T.C.k_Person.g T.C.k_Person.b .nil yD (zB (pv 1) (zB (pv 2) (zB (zJ (pv 0) rfl) zE)))) zE))) (zC (ps_dput (hu_of hr) (zJ (pv 0) rfl) (pv 5) (qX op_cat (xT (pv 0) T.C.k_House.c T.M.House_who_waits.m (jW T) (hr.mono (by decide)) T.M.House_who_waits.b .nil yD (zB (pv 5) zE)) (xH (zB (pv 4) zE))) rfl) (zH (zO (xN (zB (pv 4) (zB (xT (pv 0) T.C.k_House.c T.M.House_press.m (zEH T) (hr.mono (by decide)) T.M.House_press.b .nil yD (zB (pv 5) zE)) zE))))))))))),?_⟩
  refine xY (zI (zI (zA rfl) (by assumption) T.C.k_House.c T.C.n_House_plan (jQ _ _ _ _ _)) (by assumption) T.C.k_Plan.c T.C.n_Plan_floors (zG2 _ _ _ _ _ _ _)) (zG.refl _) fun H1 s1=>?_
  refine yK (pu_or (zP (jN (zA rfl) (zA rfl))) (fun _=>(pu_or (zP (jN (zA rfl) (zA rfl))) (fun _=>(zP (zA2 (zA rfl) (zA rfl))))))) s1 (fun H1 s1 e1=>?_) (fun H1 s1 e1=>?_)
  · have c1:S.house.floors ≤ f∨S.house.floors ≤ g∨f = g:=by
      rw [Bool.or_eq_true,Bool.or_eq_true,decide_eq_true_eq,decide_eq_true_eq,decide_eq_true_eq] at e1
      omega
    rw [if_pos c1] at q
    exact wE (H0:=H) yH qB s1 fun H2 p e2 s2 hp he=>q.no A s2 hp he
  have c1:¬ (S.house.floors ≤ f∨S.house.floors ≤ g∨f = g):=by
    rw [Bool.or_eq_false_iff,Bool.or_eq_false_iff,decide_eq_false_iff_not,decide_eq_false_iff_not,decide_eq_false_iff_not] at e1
    omega
  rw [if_neg c1] at q
  have lP:(G.ps.map V.ref).length = S.persons.length:=by rw [List.length_map,A.b.plen]
  refine xY (wR (fun _ _ _ h=>h) (zD (zI (zA rfl) (by assumption) T.C.k_House.c T.C.n_House_persons (yU _ _ _ _ _)) zN) A.b.plst lP) s1 fun H1 s1=>?_
  refine yK (zP (jN (zA rfl) yH)) s1 (fun H1 s1 e2=>?_) (fun H1 s1 e2=>?_)
  · have c2:200 ≤ S.persons.length:=by have:=of_decide_eq_true e2; omega
    rw [if_pos c2] at q
    exact wE (H0:=H) yH qB s1 fun H2 p e2 s2 hp he=>q.no A s2 hp he
  have c2:¬ 200 ≤ S.persons.length:=by have:=of_decide_eq_false e2; omega
  rw [if_neg c2] at q
  have hf:f < S.house.floors:=by omega
  have hg:g < S.house.floors:=by omega
  have hne:f ≠ g:=by omega
  have f32:f < 32:=by have:=ok.house.flm; omega
  refine zHX (y:=.int ((zAQ f g:Nat):Int)) (zA rfl) (by
    have z:(if decide ((f:Int) < (g:Int)) = true then V.int 1 else V.int 2) = V.int ((zAQ f g:Nat):Int):=by
      unfold zAQ
      by_cases l:f < g
      · rw [if_pos l,if_pos (decide_eq_true (by omega))]
        rfl
      · rw [if_neg l,if_neg (fun w=>l (by have:=of_decide_eq_true w; omega))]
        rfl
    rw [← z]
    exact pu_if (zP (jN (zA rfl) (zA rfl))) yH yH) s1 fun H2 tk s2 n2 htk=>?_
  have A2:=A.same s2
  obtain ⟨da,ea⟩:=A2.b.obj
  generalize hp:(⟨f,g,S.time,none,none⟩:Lf.Person) = p
  refine st_appendMk (H0:=H2) (zI (zA rfl) (by assumption) T.C.k_House.c T.C.n_House_persons (yU _ _ _ _ _)) A2.b.plst (zD (zA rfl) (zD (zA rfl) (zD (zI (zA rfl) (by assumption) T.C.k_House.c T.C.n_House_now (xB _ _ _ _ _)) zN))) (zG.refl _) fun H3 x dx s3 nx nd nex=>⟨x,dx,f,g,S.time,rfl,zF,fun H4 P4 b4=>⟨rfl,?_⟩⟩
  have s34:zG H3 H4:=(zG.two nx nd).but b4 nx
  have S4:zG H2 H4:=s3.trans s34
  have nx2:H2 x = none:=s3.free nx
  refine ⟨G.lP,_,_,rfl,rfl,S4 _ _ A2.b.plst,by rw [lP,sizeLine_eq]; omega,?_⟩
  rw [hp] at P4
  have B5:=A2.b.addPers S4 nx2 P4 A2.w.tracked
  have x5:But G.lP H4 (upd H4 G.lP (.lst (G.ps.map V.ref ++ [.ref x]))):=But.up (zG.refl _)
  have hl4:H4 G.lP = some (.lst (G.ps.map V.ref)):=S4 _ _ A2.b.plst
  have ow:=A2.w.tracked
  have W5:wI (upd H4 G.lP (.lst (G.ps.map V.ref ++ [.ref x]))) (retag G.tag x (100000 + S.persons.length)) G.dW S.waiting:=by
    have w0:=(A2.w.retag (tag':=retag G.tag x (100000 + S.persons.length)) (yN nx2)).same S4
    obtain ⟨o,eo⟩:=ow
    refine w0.but x5 hl4 ?_ ?_ (fun _ _ _=>rfl)
    · exact xC A.b.tW A.b.tP (by decide)
    · rw [yN nx2 _ _ A2.b.plst,A.b.tP]
      decide
  have A5:HW K t (upd H4 G.lP (.lst (G.ps.map V.ref ++ [.ref x]))) a { G with ps:=G.ps ++ [x],tag:=retag G.tag x (100000 + S.persons.length) } { S with persons:=S.persons ++ [p] } S.waiting:=⟨B5,W5⟩
  have K5:Kp G { G with ps:=G.ps ++ [x],tag:=retag G.tag x (100000 + S.persons.length) } H (upd H4 G.lP (.lst (G.ps.map V.ref ++ [.ref x]))):=by
    refine ⟨fun b o e h=>x5 _ _ ?_ ((s2.trans S4) _ _ e),fun b o e h=>Eq.trans (yN nx2 b o (s2 _ _ e)) h⟩
    rintro rfl
    rcases h with h | ⟨xs,h⟩
    · rw [A.b.tP] at h
      cases h
    · subst h
      rw [A.b.plst] at e
      cases e
  have t5:(upd H4 G.lP (.lst (G.ps.map V.ref ++ [.ref x]))) tk = some (.tup [.int f,.int ((zAQ f g:Nat):Int)]):=x5 _ _ (jC (S4 _ _ htk) hl4 (by intro z; cases z)) (S4 _ _ htk)
  show zBW (sDPut _ _ _) _ _ _ _
  generalize (upd H4 G.lP (.lst (G.ps.map V.ref ++ [.ref x]))) = B at A5 K5 t5 ⊢
  generalize hG5:({ G with ps:=G.ps ++ [x],tag:=retag G.tag x (100000 + S.persons.length) }:HG) = G5 at A5 K5
  have d2:zAQ f g ≤ 2:=by unfold zAQ; split <;> omega
  have d12:zAQ f g = 1∨zAQ f g = 2:=by
    unfold zAQ
    split
    · exact .inl rfl
    · exact .inr rfl
  obtain ⟨da,ea⟩:=A5.b.obj
  have wl:(S.waiting f (zAQ f g)).length ≤ 1000:=by
    have:=LM.waiting_len S f (zAQ f g)
    have:=ok.most
    omega
  obtain ⟨kvs,ekv,lkv,_⟩:=A5.w.put f32 d2
  refine st_dputN (H0:=B) (nw_waitCat (zA rfl) ea rfl (zA rfl) A5 t5 (zA rfl) wl) (zI (zA rfl) (by assumption) T.C.k_House.c T.C.n_House_waiting (zBS _ _ _ _ _)) (zA rfl) (zG.refl _) ekv t5 lkv fun H6 nq s6 n6 hnq=>?_
  have hS':({ S with persons:=S.persons ++ [p] }:Lf.Hall).waiting = fun f' d'=>if f' = f∧d' = zAQ f g then S.waiting f (zAQ f g) ++ [S.persons.length] else S.waiting f' d':=by
    funext f' d'
    rw [LM.waiting_come p (by rw [← hp]),← hp]
    show (if f' = f∧d' = zAQ f g then _ else _) = _
    by_cases e:f' = f∧d' = zAQ f g
    · rw [if_pos e,if_pos e,e.1,e.2]
    · rw [if_neg e,if_neg e]
  have A6:zW K t (upd H6 G5.dW (.dT (zC1 kvs (key f (zAQ f g)) (.ref nq)))) a { G5 with tag:=retag G5.tag nq 2 } { S with persons:=S.persons ++ [p] }:=by
    have B6:=(A5.new n6 2)
    have x6:But G5.dW H6 (upd H6 G5.dW (.dT (zC1 kvs (key f (zAQ f g)) (.ref nq)))):=But.up (zG.refl _)
    refine ⟨(B6.same s6).b.butW x6 (s6 _ _ ekv) zHN (fun _ _ _ z=>by cases z),?_⟩
    rw [hS']
    obtain ⟨kvs',ekv',_,hp'⟩:=B6.w.put f32 d2
    have e1:kvs' = kvs:=by
      have:some (HO.dT kvs') = some (HO.dT kvs):=ekv'.symm.trans ekv
      injection this with t1
      injection t1
    subst e1
    exact hp' H6 nq _ _ s6 hnq yO (fun _ _=>rfl)
  have x6:But G5.dW H6 (upd H6 G5.dW (.dT (zC1 kvs (key f (zAQ f g)) (.ref nq)))):=But.up (zG.refl _)
  have K6:Kp G { G5 with tag:=retag G5.tag nq 2 } H (upd H6 G5.dW (.dT (zC1 kvs (key f (zAQ f g)) (.ref nq)))):=((K5.trans (Kp.new n6 2)).trans (Kp.of s6)).own x6 (s6 _ _ ekv) zHN (by show retag G5.tag nq 2 G5.dW ≠ 7; rw [yN n6 _ _ ekv,A5.b.tW]; decide) (fun _ _ _=>rfl)
  have t6:(upd H6 G5.dW (.dT (zC1 kvs (key f (zAQ f g)) (.ref nq)))) tk = some (.tup [.int f,.int ((zAQ f g:Nat):Int)]):=x6 _ _ (jC (s6 _ _ t5) (s6 _ _ ekv) (by intro z; cases z)) (s6 _ _ t5)
  generalize (upd H6 G5.dW (.dT (zC1 kvs (key f (zAQ f g)) (.ref nq)))) = B6 at A6 K6 t6 ⊢
  obtain ⟨da,ea⟩:=A6.b.obj
  have okS:LM.yV { S with persons:=S.persons ++ [p] }:=by
    rw [← hp]
    exact LM.come_mid ok hf hg hne (by omega)
  have ecome:S.come f g = ({ S with persons:=S.persons ++ [p] }:Lf.Hall).press (f,zAQ f g):=by
    rw [← hp]
    rfl
  rw [ecome] at q
  refine st_ret2M (H0:=B6) (zA rfl) (zA rfl) ea rfl (zD (zA rfl) zN) (zG.refl _) fun H8 s8=>⟨a,tk,_,_,(f,zAQ f g),rfl,A6.same s8,okS,SqT.of (s8 _ _ t6),d12,fun H9 G9 e9 A9 K9 h9 t9 n9=>⟨by show 2 ≤ sizeLine; decide,fun pp hpp=>?_⟩⟩
  exact q _ G9 pp e9 (A9.same (zG.new hpp)) ((K6.trans (Kp.of s8)).trans (K9.trans (Kp.of (zG.new hpp)))) zF (zG.new hpp _ _ h9)
theorem zip_pers:∀ {ps:List Addr} {ss:List Lf.Person},ps.length = ss.length→∃ zs:List (Addr × Lf.Person),zs.map (·.1) = ps∧zs.map (·.2) = ss
  | [],[],_=>⟨[],rfl,rfl⟩
  | x :: ps,c :: ss,h=>by
    obtain ⟨zs,e1,e2⟩:=zip_pers (ps:=ps) (ss:=ss) (by simpa using h)
    exact ⟨(x,c) :: zs,by simp [e1],by simp [e2]⟩
theorem xA.pz {H:Hp} {a:Addr} {G:HG} {S:Lf.Hall} (A:xA K t H a G S):∃ zs:List (Addr × Lf.Person),H G.lP = some (.lst (zs.map fun z=>V.ref z.1))∧(∀ z ∈ zs,wB t H z.1 z.2)∧zs.map (·.2) = S.persons:=by
  obtain ⟨zs,e1,e2⟩:=zip_pers A.plen
  refine ⟨zs,?_,fun z hz=>?_,e2⟩
  · rw [A.plst,← e1,List.map_map]
    rfl
  · obtain ⟨i,hi,e⟩:=List.getElem_of_mem hz
    have h1:G.ps[i]? = some z.1:=by rw [← e1,List.getElem?_map,List.getElem?_eq_getElem hi,e]; rfl
    have h2:S.persons[i]? = some z.2:=by rw [← e2,List.getElem?_map,List.getElem?_eq_getElem hi,e]; rfl
    exact (A.per i _ _ h1 h2).1
theorem jU.yes {H H':Hp} {a p e:Addr} {G:HG} {S:Lf.Hall} {z:Int} {l:List Nat} {Q:VK} (q:jU K t H a G S z l Q) (A:zW K t H a G S) (s:zG H H') (hp:H' p = some (.tup [.int z,.ref e])) (he:H' e = some (.lst (nI l))):Q (.ref p) H':=q H' G p e (A.same s) (Kp.of s) hp he
theorem pers_ok {S:Lf.Hall} (ok:LM.yV S) {p:Lf.Person} (hp:p ∈ S.persons):LM.zD3 S.house S.time p:=by
  obtain ⟨i,hi⟩:=List.mem_iff_getElem?.mp hp
  exact ok.people i p hi
theorem left_ent {h:Lf.House} {n:Nat} {p:Lf.Person} (k:LM.zD3 h n p):p.left ≠ none→p.entered ≠ none:=fun hl he=>by
  cases e:p.left with
  | none=>exact hl e
  | some m =>
    obtain ⟨n,h1,_⟩:=k.lf m e
    rw [he] at h1
    cases h1
def zD5 (K:PySem.W.Frag) (t:Adr):Sp:=fun vs H Q _=>∃ (a:Addr) (G:HG) (S:Lf.Hall) (k:Nat),vs = [.ref a,.int k]∧zW K t H a G S∧LM.yV S ∧
  (if S.persons.length ≤ k then jU K t H a G S (-1) [] Q else jU K t H a G S (stOf (S.person k):Nat) ([(S.person k).from_,(S.person k).to_] ++ Lf.times (S.person k)) Q)
theorem zD8 (T:Txt K mg t):qL P w K mg base CX0 2 t.f_House_tell_person t.d_House_tell_person ["self", "who"] (zD5 K t):=by
  refine T.M.House_tell_person.F.ok zAI (fun vs H Q E h=>by obtain ⟨_,_,_,_,rfl,_⟩:=h; rfl) (fun cdv A outer s H vs Q E hr h=>?_)
  obtain ⟨a,G,S,k,rfl,A,ok,q⟩:=h
  obtain ⟨da,ea⟩:=A.b.obj
  have lP:(G.ps.map V.ref).length = S.persons.length:=by rw [List.length_map,A.b.plen]
  refine ⟨_,zC (yX (zQ op_ge (pv 1) (yJ zZ rfl T.G.z_len PySem.boot_len (zB (zJ (pv 0) rfl) zE)) (zY _)) (zH (zO (xN (zB (yB rfl T.G.i_WRONG_NUMBER) (zB (xH zE) zE))))) (zU)) (zC (yG (i:=2) zAI.nd rfl (by first | exact Or.inl rfl | exact Or.inr rfl) (qA xF (zJ (pv 0) rfl) (pv 1) (fun _ _=>rfl))) (zH (zO (xN (zB (yA (zIL T) (hr.mono (by decide)) rfl T.D.state_of.m T.D.state_of.F.kp T.D.state_of.b .nil yD (zB (pv 2) zE)) (zB (xH (zB (zJ (pv 2) rfl) (zB (zJ (pv 2) rfl) (zB (zJ (pv 2) rfl) (zB (zJ (pv 2) rfl) (zB (zJ (pv 2) rfl) zE)))))) zE)))))),?_⟩
  refine yK (zP (jN (zA rfl) (wR (fun _ _ _ h=>h) (zD (zI (zA rfl) (by assumption) T.C.k_House.c T.C.n_House_persons (yU _ _ _ _ _)) zN) A.b.plst lP))) (zG.refl _) (fun H1 s1 e=>?_) (fun H1 s1 e=>?_)
  · rw [if_pos (by have:=of_decide_eq_true e; omega)] at q
    exact wE (H0:=H) yH qB s1 fun H2 p e2 s2 hp he=>q.no A s2 hp he
  have kl:k < S.persons.length:=by have:=of_decide_eq_false e; omega
  rw [if_neg (by omega)] at q
  obtain ⟨p,hp⟩:∃ p,S.persons[k]? = some p:=⟨_,List.getElem?_eq_getElem kl⟩
  obtain ⟨z,hz⟩:∃ z,G.ps[k]? = some z:=⟨_,List.getElem?_eq_getElem (by rw [A.b.plen]; exact kl)⟩
  rw [LM.qS hp] at q
  obtain ⟨Pz,_⟩:=A.b.per k z p hz hp
  obtain ⟨dz,ez⟩:=id Pz
  refine xY (zC2 (n:=k) (zI (zA rfl) (by assumption) T.C.k_House.c T.C.n_House_persons (yU _ _ _ _ _)) (zA rfl) A.b.plst rfl (by rw [List.getElem?_map,hz]; rfl)) s1 fun H1 s1=>?_
  refine wE (H0:=H) (xE (zD (zA rfl) zN) (zIY Pz (left_ent (ok.people k p hp)))) (zDP (zD (zI (zA rfl) (by assumption) T.C.k_Person.c T.C.n_Person_origin (personF_origin _ _ _ _ _)) (zD (zI (zA rfl) (by assumption) T.C.k_Person.c T.C.n_Person_goal (zBE _ _ _ _ _)) (zD (zI (zA rfl) (by assumption) T.C.k_Person.c T.C.n_Person_came (zG4 _ _ _ _ _)) (zD (zI (zA rfl) (by assumption) T.C.k_Person.c T.C.n_Person_entered (jK _ _ _ _ _)) (zD (zI (zA rfl) (by assumption) T.C.k_Person.c T.C.n_Person_left (zBD _ _ _ _ _)) zN))))) (by show 5 ≤ sizeLine; decide)) s1 fun H2 pp e2 s2 hpp he=>q.yes A s2 hpp ?_
  rw [he]
  rfl
theorem pu_firstV {σ:L2.St} {ta:TE} {r:Addr} {ns:List Nat} {j:Nat} (h:PuE ta σ H0 (.ref r)) (hr:H0 r = some (.lst (nI ns))) (ne:ns ≠ []) (u:∀ j',zF1 ns j'→j = j'):PuE (zC6 (zEQ K t) [] E0 (yW ta zAG)) σ H0 (.int (j:Int)):=fun H Q s q =>
  h H _ s fun H1 s1=>⟨r,ns,rfl,s1 _ _ (s _ _ hr),ne,fun j' hj=>by
    rw [← u j' hj]
    exact q H1 s1⟩
def sp_House_guess (K:PySem.W.Frag) (t:Adr):Sp:=fun vs H Q _=>∃ (a:Addr) (G:HG) (S:Lf.Hall) (f d:Nat),vs = [.ref a,.int f,.int d]∧zW K t H a G S∧LM.yV S ∧
  (if Lf.isCall S f d = false then jU K t H a G S (-1) [] Q else if S.given (f,d) = true then jU K t H a G S (-3) [] Q else jU K t H a G S (S.best (f,d):Nat) ((List.range S.cars.length).map fun (i:Nat)=>(S.car i).comes S.house (f,d)) Q)
theorem range_cars (S:Lf.Hall) (x:Nat × Nat):((List.range S.cars.length).map fun (i:Nat)=>(S.car i).comes S.house x) = S.cars.map fun c=>c.comes S.house x:=List.ext_getElem? fun i=>by
  rw [List.getElem?_map,List.getElem?_map]
  by_cases h:i < S.cars.length
  · rw [List.getElem?_range h,List.getElem?_eq_getElem h]
    have e:S.car i = S.cars[i]:=LM.zFX (List.getElem?_eq_getElem h)
    simp [e]
  · rw [List.getElem?_eq_none (by simp; omega),List.getElem?_eq_none (by omega)]
    rfl
theorem ok_House_guess (T:Txt K mg t):qL P w K mg base CX0 9 t.f_House_guess t.d_House_guess ["self", "floor", "direction"] (sp_House_guess K t):=by
  refine T.M.House_guess.F.ok zBM (fun vs H Q E h=>by obtain ⟨_,_,_,_,_,rfl,_⟩:=h; rfl) (fun cdv A outer s H vs Q E hr h=>?_)
  obtain ⟨a,G,S,f,d,rfl,A,ok,q⟩:=h
  obtain ⟨da,ea⟩:=A.b.obj
  refine ⟨_,zC (yX (pt_not (zAJ (xT (pv 0) T.C.k_House.c T.M.House_is_call.m (zCW T) (hr.mono (by decide)) T.M.House_is_call.b .nil yD (zB (pv 1) (zB (pv 2) zE))))) (zH (zO (xN (zB (yB rfl T.G.i_WRONG_NUMBER) (zB (xH zE) zE))))) (zU)) (zC (yG (i:=3) zBM.nd rfl (by first | exact Or.inl rfl | exact Or.inr rfl) (xN (zB (pv 1) (zB (pv 2) zE)))) (zC (yX (zAJ (xT (pv 0) T.C.k_House.c T.M.House_is_had.m (zDO T) (hr.mono (by decide)) T.M.House_is_had.b .nil yD (zB (pv 3) zE))) (zH (zO (xN (zB (yB rfl T.G.i_CALL_IS_HAD) (zB (xH zE) zE))))) (zU)) (zC (yG (i:=4) zBM.nd rfl (by first | exact Or.inl rfl | exact Or.inr rfl) (yA (zBF T) (hr.mono (by decide)) rfl T.D.reckoned_of_all.m T.D.reckoned_of_all.F.kp T.D.reckoned_of_all.b .nil yD (zB (zJ (pv 0) rfl) (zB (zJ (pv 0) rfl) (zB (pv 3) zE))))) (zH (zO (xN (zB (yA (zIN T) (hr.mono (by decide)) rfl T.D.first_of.m T.D.first_of.F.kp T.D.first_of.b .nil yD (zB (pv 4) zE)) (zB (pv 4) zE)))))))),?_⟩
  refine yK (pu_not (jH (pu_meth (zA rfl) ea rfl (zD (zA rfl) (zD (zA rfl) zN)) (zCX A.b ok.house)))) (zG.refl _) (fun H1 s1 e=>?_) (fun H1 s1 e=>?_)
  · rw [if_pos (by simpa using e)] at q
    exact wE (H0:=H) yH qB s1 fun H2 p e2 s2 hp he=>q.no A s2 hp he
  have ic:Lf.isCall S f d = true:=by simpa using e
  rw [if_neg (by rw [ic]; exact fun z=>Bool.noConfusion z)] at q
  have d12:d = 1∨d = 2:=by
    unfold Lf.isCall at ic
    simp at ic
    omega
  refine zHX (H0:=H) (zA rfl) (zA rfl) s1 fun H2 tk s2 n2 htk=>?_
  have A2:=A.same s2
  obtain ⟨da,ea⟩:=A2.b.obj
  have hk:xK K H2 tk (cP (f,d)):=SqT.of htk
  refine yK (H0:=H2) (jH (pu_meth (zA rfl) ea rfl (zD (zA rfl) zN) (zDR A2.b hk))) (zG.refl _) (fun H3 s3 e3=>?_) (fun H3 s3 e3=>?_)
  · rw [if_pos e3] at q
    exact wE (H0:=H2) yH qB s3 fun H4 p e2 s4 hp he=>q.no A (s2.trans s4) hp he
  rw [if_neg (by rw [e3]; exact Bool.false_ne_true),range_cars] at q
  obtain ⟨zs,C,e1,e2⟩:=A2.b.zs
  have lz:zs.length ≤ 6:=by rw [← List.length_map (f:=fun z:CZ=>z.2.2),e2]; exact A.b.c6
  have ens:(zs.map fun z=>z.2.2.comes S.house (f,d)) = S.cars.map fun c=>c.comes S.house (f,d):=by rw [← e2,List.map_map]; rfl
  have cl:=ok.cars
  have cl1:=ok.house.cr
  have nne:(S.cars.map fun c=>c.comes S.house (f,d)) ≠ []:=by
    intro z
    have z2:S.cars.length = 0:=by
      rw [← List.length_map (f:=fun c=>Lf.Car.comes S.house c (f,d)),z]
      rfl
    omega
  have hnw:=zIP (K:=K) (t:=t) (H0:=H2) (ta:=tFld K (zD4 0) "cars") (tb:=tFld K (zD4 0) "plan") (tc:=zD4 3) (σ:=[some (.ref a),some (.int f),some (.int d),some (.ref tk),none]) (zI (zA rfl) (by assumption) T.C.k_House.c T.C.n_House_cars (xG _ _ _ _ _)) (zI (zA rfl) (by assumption) T.C.k_House.c T.C.n_House_plan (jQ _ _ _ _ _)) (zA rfl) C A2.b.plan hk (fun z hz=>fit_of ok (by rw [← e2]; exact List.mem_map.mpr ⟨z,hz,rfl⟩)) ok.house d12 (by omega)
  rw [ens] at hnw
  refine zBJ (H0:=H2) hnw s3 fun H4 r s4 n4 hr4=>?_
  refine st_ret2v (H0:=H4) (z:=(S.best (f,d):Nat)) (e:=r) (pu_firstV (zA rfl) hr4 nne fun j' hj=>first_best hj) (zA rfl) (zG.refl _) fun H5 p s5 hp=>?_
  exact q.yes A ((s2.trans s4).trans s5) hp (s5 _ _ hr4)
def zC8 (K:PySem.W.Frag) (t:Adr):Sp:=fun vs H Q _=>∃ (a:Addr) (G:HG) (S:Lf.Hall) (f d:Nat),vs = [.ref a,.int f,.int d]∧zW K t H a G S∧LM.yV S ∧
  (if Lf.isCall S f d = false then jU K t H a G S (-1) [] Q else jU K t H a G S ((S.waiting f d).length:Nat) (S.waiting f d) Q)
theorem zDN (T:Txt K mg t):qL P w K mg base CX0 2 t.f_House_tell_waiting t.d_House_tell_waiting ["self", "floor", "direction"] (zC8 K t):=by
  refine T.M.House_tell_waiting.F.ok wX (fun vs H Q E h=>by obtain ⟨_,_,_,_,_,rfl,_⟩:=h; rfl) (fun cdv A outer s H vs Q E hr h=>?_)
  obtain ⟨a,G,S,f,d,rfl,A,ok,q⟩:=h
  obtain ⟨da,ea⟩:=A.b.obj
  refine ⟨_,zC (yX (pt_not (zAJ (xT (pv 0) T.C.k_House.c T.M.House_is_call.m (zCW T) (hr.mono (by decide)) T.M.House_is_call.b .nil yD (zB (pv 1) (zB (pv 2) zE))))) (zH (zO (xN (zB (yB rfl T.G.i_WRONG_NUMBER) (zB (xH zE) zE))))) (zU)) (zC (yG (i:=3) wX.nd rfl (by first | exact Or.inl rfl | exact Or.inr rfl) (xT (pv 0) T.C.k_House.c T.M.House_who_waits.m (jW T) (hr.mono (by decide)) T.M.House_who_waits.b .nil yD (zB (xN (zB (pv 1) (zB (pv 2) zE))) zE))) (zH (zO (xN (zB (yJ zZ rfl T.G.z_len PySem.boot_len (zB (pv 3) zE)) (zB (zFL zBH rfl T.G.z_list PyProof.Rows.boot_list (zB (pv 3) zE)) zE)))))),?_⟩
  refine yK (pu_not (jH (pu_meth (zA rfl) ea rfl (zD (zA rfl) (zD (zA rfl) zN)) (zCX A.b ok.house)))) (zG.refl _) (fun H1 s1 e=>?_) (fun H1 s1 e=>?_)
  · rw [if_pos (by simpa using e)] at q
    exact wE (H0:=H) yH qB s1 fun H2 p e2 s2 hp he=>q.no A s2 hp he
  have ic:Lf.isCall S f d = true:=by simpa using e
  rw [if_neg (by rw [ic]; exact fun z=>Bool.noConfusion z)] at q
  refine st_seq ⟨_,rfl,a,da,_,rfl,s1 _ _ ea,rfl,_,rfl,_,rfl,by show 2 ≤ sizeLine; decide,fun tk ntk=>?_⟩
  have s2:zG H (upd H1 tk (.tup [.int f,.int d])):=s1.trans (zG.new ntk)
  refine ⟨a,tk,G,S,S.waiting,f,d,rfl,(A.same s2).b,(A.same s2).w,zF,fun H3 qa s3 hq=>?_⟩
  refine wE (H0:=H3) (z:=((S.waiting f d).length:Nat)) (wR (fun _ _ _ h=>h) (zD (zA rfl) zN) hq (zR _)) (nw_list (fun _ _ _ h=>h) (zD (zA rfl) zN) hq) (zG.refl _) fun H4 p e4 s4 hp he=>?_
  exact q.yes A ((s2.trans s3).trans s4) hp he
section
variable {σ:L2.St} {H:Hp} {ta tv:TE} {r:TS} {D:zC4}
theorem zHY {l b:Addr} {xs zs:List V} (ho:PuE ta σ H0 (.ref l)) (hv:PuE tv σ H0 (.ref b)) (s:zG H0 H) (h:H0 l = some (.lst xs)) (hb:H0 b = some (.lst zs)) (hz:xs.length + zs.length ≤ sizeLine) (q:∀ H',zG H0 H'→r D σ (upd H' l (.lst (xs ++ zs)))) :
    zBW (zC0 (tBM K "list" zDI ta (yW tv zAG))) r D σ H:=st_extendL (D:={ D with nx:=r D }) ho hv s h hb hz q
theorem st_extendT {l b:Addr} {xs zs:List V} (ho:PuE ta σ H0 (.ref l)) (hv:PuE tv σ H0 (.ref b)) (s:zG H0 H) (h:H0 l = some (.lst xs)) (hb:SqT K H0 b zs) (hz:xs.length + zs.length ≤ sizeLine) (q:∀ H',zG H0 H'→D.nx σ (upd H' l (.lst (xs ++ zs)))) :
    zC0 (tBM K "list" (rExtendT K) ta (yW tv zAG)) D σ H :=
  ho H _ s fun H1 s1=>⟨.inl ⟨rfl,_,SqL.of (s1 _ _ (s _ _ h))⟩,hv H1 _ (s.trans s1) fun H2 s2=>⟨l,b,xs,zs,rfl,rfl,s2 _ _ (s1 _ _ (s _ _ h)),zG.tup ((s.trans s1).trans s2) hb,hz,q H2 ((s.trans s1).trans s2)⟩⟩
end
def callN (l:List (Nat × Nat)):List Nat:=l.flatMap fun (x:Nat × Nat)=>[x.1,x.2]
def carN (c:Lf.Car):List Nat:=[c.pos,c.dir,c.does_,c.left,c.pressed.length,c.calls.length] ++ (c.inside ++ (c.pressed ++ callN c.calls))
def zGA (K:PySem.W.Frag) (t:Adr):Sp:=fun vs H Q _=>∃ (a:Addr) (G:HG) (S:Lf.Hall) (i:Nat),vs = [.ref a,.int i]∧zW K t H a G S ∧
  (if S.cars.length ≤ i then jU K t H a G S (-1) [] Q else jU K t H a G S ((S.car i).inside.length:Nat) (carN (S.car i)) Q)
theorem zGP (T:Txt K mg t):qL P w K mg base CX0 1 t.f_House_tell_car t.d_House_tell_car ["self", "number"] (zGA K t):=by
  refine T.M.House_tell_car.F.ok qH (fun vs H Q E h=>by obtain ⟨_,_,_,_,rfl,_⟩:=h; rfl) (fun cdv A outer s H vs Q E hr h=>?_)
  obtain ⟨a,G,S,i,rfl,A,q⟩:=h
  obtain ⟨da,ea⟩:=A.b.obj
  have lC:(G.cs.map fun z=>V.ref z.1).length = S.cars.length:=by rw [List.length_map,A.b.clen]
  refine ⟨_,zC (yX (zQ op_ge (pv 1) (yJ zZ rfl T.G.z_len PySem.boot_len (zB (zJ (pv 0) rfl) zE)) (zY _)) (zH (zO (xN (zB (yB rfl T.G.i_WRONG_NUMBER) (zB (xH zE) zE))))) (zU)) (zC (yG (i:=2) qH.nd rfl (by first | exact Or.inl rfl | exact Or.inr rfl) (qA xF (zJ (pv 0) rfl) (pv 1) (fun _ _=>rfl))) (zC (yG (i:=3) qH.nd rfl (by first | exact Or.inl rfl | exact Or.inr rfl) (xH (zB (zJ (pv 2) rfl) (zB (zJ (pv 2) rfl) (zB (zJ (pv 2) rfl) (zB (zJ (pv 2) rfl) (zB (yJ zZ rfl T.G.z_len PySem.boot_len (zB (zJ (pv 2) rfl) zE)) (zB (yJ zZ rfl T.G.z_len PySem.boot_len (zB (zJ (pv 2) rfl) zE)) zE)))))))) (zC (xL (zD6 PySem.F.plainAttrs_list PySem.F.slot_list_extend PySem.F.type_list_extend wY (pv 3) (zB (zJ (pv 2) rfl) zE))) (zC (xL (zD6 PySem.F.plainAttrs_list PySem.F.slot_list_extend PySem.F.type_list_extend wY (pv 3) (zB (zJ (pv 2) rfl) zE))) (zC (ps_for PassesOwn.never rfl (wT (zJ (pv 2) rfl)) (jZ (i:=4) qH.nd rfl (Or.inl rfl)) (zH (xL (zD6 PySem.F.plainAttrs_list PySem.F.slot_list_extend PySem.F.type_list_extend mt_extendP (pv 3) (zB (pv 4) zE))))) (zH (zO (xN (zB (yJ zZ rfl T.G.z_len PySem.boot_len (zB (zJ (pv 2) rfl) zE)) (zB (pv 3) zE)))))))))),?_⟩
  refine yK (zP (jN (zA rfl) (wR (fun _ _ _ h=>h) (zD (zI (zA rfl) (by assumption) T.C.k_House.c T.C.n_House_cars (xG _ _ _ _ _)) zN) A.b.lst lC))) (zG.refl _) (fun H1 s1 e=>?_) (fun H1 s1 e=>?_)
  · rw [if_pos (by have:=of_decide_eq_true e; omega)] at q
    exact wE (H0:=H) yH qB s1 fun H2 p e2 s2 hp he=>q.no A s2 hp he
  have il:i < S.cars.length:=by have:=of_decide_eq_false e; omega
  rw [if_neg (by omega)] at q
  clear e
  obtain ⟨c,hc⟩:∃ c,S.cars[i]? = some c:=⟨_,List.getElem?_eq_getElem il⟩
  obtain ⟨z,hz⟩:∃ z,G.cs[i]? = some z:=⟨_,List.getElem?_eq_getElem (by rw [A.b.clen]; exact il)⟩
  rw [LM.zFX hc] at q
  have C:=(A.b.car i z c hz hc).1
  obtain ⟨⟨dz,ez⟩,k1,k2,k3,k4⟩:=id C
  obtain ⟨ys,k5,ly⟩:=k3.len
  refine xY (zC2 (n:=i) (zI (zA rfl) (by assumption) T.C.k_House.c T.C.n_House_cars (xG _ _ _ _ _)) (zA rfl) A.b.lst rfl (by rw [List.getElem?_map,hz]; rfl)) s1 fun H1 s1=>?_
  refine zBJ (zDP (zD (zI (zA rfl) (by assumption) T.C.k_Car.c T.C.n_Car_place (qK _ _ _ _ _ _ _)) (zD (zI (zA rfl) (by assumption) T.C.k_Car.c T.C.n_Car_direction (zT _ _ _ _ _ _ _)) (zD (zI (zA rfl) (by assumption) T.C.k_Car.c T.C.n_Car_doing (jM _ _ _ _ _ _ _)) (zD (zI (zA rfl) (by assumption) T.C.k_Car.c T.C.n_Car_yet (zD2 _ _ _ _ _ _ _)) (zD (wR (fun _ _ _ h=>h) (zD (zI (zA rfl) (by assumption) T.C.k_Car.c T.C.n_Car_pressed (xQ _ _ _ _ _ _ _)) zN) k2 (zR _)) (zD (wR (fun _ _ _ h=>h) (zD (zI (zA rfl) (by assumption) T.C.k_Car.c T.C.n_Car_calls (yT _ _ _ _ _ _ _)) zN) k5 ly) zN)))))) (by show 6 ≤ sizeLine; decide)) s1 fun H2 e s2 n2 he=>?_
  have C2:=C.same s2
  obtain ⟨⟨dz,ez⟩,k1,k2,k3,k4⟩:=id C2
  refine zHY (H0:=H2) (zA rfl) (zI (zA rfl) (by assumption) T.C.k_Car.c T.C.n_Car_inside (qD _ _ _ _ _ _ _)) (zG.refl _) he k1 (by rw [zR,sizeLine_eq]; show 6 + c.inside.length ≤ _; omega) fun H3 s3=>?_
  have s3':=(s2.trans s3).up (l:=e) (o:=.lst (nI [c.pos,c.dir,c.does_,c.left,c.pressed.length,c.calls.length] ++ nI c.inside)) n2
  have C3:=C.same s3'
  obtain ⟨⟨dz,ez⟩,k1,k2,k3,k4⟩:=id C3
  refine zHY (H0:=upd H3 e (.lst (nI [c.pos,c.dir,c.does_,c.left,c.pressed.length,c.calls.length] ++ nI c.inside))) (zA rfl) (zI (zA rfl) (by assumption) T.C.k_Car.c T.C.n_Car_pressed (xQ _ _ _ _ _ _ _)) (zG.refl _) zF k2 (by rw [List.length_append,zR,zR,zR,sizeLine_eq]; show 6 + c.inside.length + c.pressed.length ≤ _; omega) fun H4 s4=>?_
  have s4':=(s3'.trans s4).up (l:=e) (o:=.lst (nI [c.pos,c.dir,c.does_,c.left,c.pressed.length,c.calls.length] ++ nI c.inside ++ nI c.pressed)) n2
  have C4:=C.same s4'
  obtain ⟨⟨dz,ez⟩,k1,k2,⟨zs,ezs,k3,k3'⟩,k4⟩:=id C4
  have lzs:zs.length = c.calls.length:=by rw [← ezs,List.length_map]
  refine st_forS (H0:=upd H4 e (.lst (nI [c.pos,c.dir,c.does_,c.left,c.pressed.length,c.calls.length] ++ nI c.inside ++ nI c.pressed))) (zI (zA rfl) (by assumption) T.C.k_Car.c T.C.n_Car_calls (yT _ _ _ _ _ _ _)) (zG.refl _) k3 (fun j σ H'=>∃ v,σ = [some (.ref a),some (.int i),some (.ref z.1),some (.ref e),v]∧zG H H'∧H' e = some (.lst (nI [c.pos,c.dir,c.does_,c.left,c.pressed.length,c.calls.length] ++ nI c.inside ++ nI c.pressed ++ nI (callN (c.calls.take j))))∧zG H H'∧H' z.2.lc = some (.lst (zs.map fun z=>V.ref z.1))∧∀ y ∈ zs,xK K H' y.1 (cP y.2)) ?_ ?_ ?_ ?_
  · intro H5 s5
    refine ⟨none,rfl,s4'.trans s5,?_,s4'.trans s5,s5 _ _ k3,fun y hy=>zG.tup s5 (k3' y hy)⟩
    rw [s5 _ _ zF]
    show _ = some (HO.lst (_ ++ []))
    rw [List.append_nil]
  · rintro j σ H5 hj ⟨v,rfl,S5,e5,_,l5,p5⟩
    exact l5
  · rintro j y σ H5 hy ⟨v,rfl,S5,e5,_,l5,p5⟩
    obtain ⟨zj,hzj,rfl⟩:∃ zj,zs[j]? = some zj∧V.ref zj.1 = y:=by
      rw [List.getElem?_map] at hy
      cases q:zs[j]? with
      | none =>
        rw [q] at hy
        cases hy
      | some zj =>
        rw [q] at hy
        exact ⟨zj,rfl,Option.some.inj hy⟩
    have hcj:c.calls[j]? = some zj.2:=by rw [← ezs,List.getElem?_map,hzj]; rfl
    have jl:j < c.calls.length:=(List.getElem?_eq_some_iff.mp hcj).1
    have cl:(callN (c.calls.take j)).length ≤ 2 * j:=by
      have:∀ l:List (Nat × Nat),(callN l).length = 2 * l.length:=fun l=>by
        unfold callN
        induction l with
        | nil=>rfl
        | cons x l ih =>
          rw [List.flatMap_cons,List.length_append,ih]
          show 2 + 2 * l.length = 2 * (l.length + 1)
          omega
      rw [this,List.length_take]
      omega
    refine st_extendT (H0:=H5) (zA rfl) (zA rfl) (zG.refl _) e5 (p5 zj (List.mem_of_getElem? hzj)) (by rw [List.length_append,List.length_append,List.length_append,zR,zR,zR,zR,sizeLine_eq]; show 6 + c.inside.length + c.pressed.length + (callN (c.calls.take j)).length + 2 ≤ _; omega) fun H6 s6=>?_
    have S6:=(S5.trans s6).up (l:=e) (o:=.lst (nI [c.pos,c.dir,c.does_,c.left,c.pressed.length,c.calls.length] ++ nI c.inside ++ nI c.pressed ++ nI (callN (c.calls.take j)) ++ pairV (cP zj.2))) n2
    have x6:But e H6 (upd H6 e (.lst (nI [c.pos,c.dir,c.does_,c.left,c.pressed.length,c.calls.length] ++ nI c.inside ++ nI c.pressed ++ nI (callN (c.calls.take j)) ++ pairV (cP zj.2)))):=But.up (zG.refl _)
    have ne:z.2.lc ≠ e:=by
      obtain ⟨yy,hyy,_⟩:=C.cls.len
      exact zM hyy n2
    refine ⟨_,rfl,S6,?_,S6,x6 _ _ ne (s6 _ _ l5),fun y hy=>x6.tupN (s6 _ _ e5) jA (zG.tup s6 (p5 y hy))⟩
    rw [zF,zAS hcj]
    unfold callN
    rw [List.flatMap_append,jD,List.append_assoc,List.append_assoc,List.append_assoc,List.append_assoc]
    rfl
  · rintro σ H5 ⟨v,rfl,S5,e5,_,l5,p5⟩
    rw [List.length_map,lzs,List.take_length] at e5
    obtain ⟨⟨dz,ez⟩,k1,k2,k3,k4⟩:=id (C.same S5)
    refine st_ret2v (H0:=H5) (z:=(c.inside.length:Nat)) (e:=e) (wR (fun _ _ _ h=>h) (zD (zI (zA rfl) (by assumption) T.C.k_Car.c T.C.n_Car_inside (qD _ _ _ _ _ _ _)) zN) k1 (zR _)) (zA rfl) (zG.refl _) fun H6 p s6 hp=>q.yes A (S5.trans s6) hp ?_
    rw [s6 _ _ e5]
    unfold carN
    rw [jD,jD,jD,List.append_assoc,List.append_assoc]
theorem sum_cast:∀ l:List Nat,(l.map fun (n:Nat)=>(n:Int)).sum = ((l.foldr (fun (a b:Nat)=>a + b) 0:Nat):Int)
  | []=>rfl
  | n :: l=>by
    rw [List.map_cons,List.sum_cons,sum_cast l,List.foldr_cons]
    omega
def sumsN (S:Lf.Hall):List Nat:=[(S.persons.filter fun (p:Lf.Person)=>p.left.isSome).length,S.persons.length,(S.persons.map fun (p:Lf.Person)=>(p.entered.getD S.time) - p.came).foldr (fun (a b:Nat)=>a + b) 0,(S.persons.map fun (p:Lf.Person)=>zBG p S.time).foldr (fun (a b:Nat)=>a + b) 0]
def zFG (K:PySem.W.Frag) (t:Adr):Sp:=fun vs H Q _=>∃ (a:Addr) (G:HG) (S:Lf.Hall),vs = [.ref a]∧zW K t H a G S∧LM.yV S∧jU K t H a G S (S.time:Nat) (sumsN S) Q
theorem zFP (T:Txt K mg t):qL P w K mg base CX0 2 t.f_House_tell_sums t.d_House_tell_sums ["self"] (zFG K t):=by
  refine T.M.House_tell_sums.F.ok yM (fun vs H Q E h=>by obtain ⟨_,_,_,rfl,_⟩:=h; rfl) (fun cdv A outer s H vs Q E hr h=>?_)
  obtain ⟨a,G,S,rfl,A,ok,q⟩:=h
  obtain ⟨da,ea⟩:=A.b.obj
  obtain ⟨zs,hl,hz,e2⟩:=A.b.pz
  have lz:zs.length = S.persons.length:=by rw [← e2,List.length_map]
  have pm:=ok.most
  have po:∀ z ∈ zs,LM.zD3 S.house S.time z.2:=fun z h=>pers_ok ok (by rw [← e2]; exact List.mem_map.mpr ⟨z,h,rfl⟩)
  have zl:zs.length ≤ sizeLine:=by rw [sizeLine_eq]; omega
  refine ⟨_,zC (ps_setLc (i:=1) rfl yM.nd rfl rfl rfl (wT (zJ (pv 0) rfl)) (own:=[("person", 2)]) (wW (N:=["self", "left", "person", "waited", "inside"]) (sc:=zK xR) (by decide +kernel)) (fun _ _ _ _ _=>jZ (i:=2) yM.nd rfl (Or.inl rfl)) (fun _ _ _ _ _=>(pts_one (zQ qJ (yA (zIL T) (hr.mono (by decide)) rfl T.D.state_of.m T.D.state_of.F.kp T.D.state_of.b .nil yD (zB (pv 2) zE)) (yB rfl T.G.i_LEFT) (zY _)))) (fun _ _ _ _ _=>(pv 2))) (zC (yG (i:=3) yM.nd rfl (by first | exact Or.inl rfl | exact Or.inr rfl) (yJ (cr_sum rfl) rfl T.G.z_sum PyProof.Rows.boot_sum (zB (pe_lc rfl yM.nd (wT (zJ (pv 0) rfl)) (own:=[("person", 2)]) (wW (N:=["self", "left", "person", "waited", "inside"]) (sc:=zK xR) (by decide +kernel)) (fun _ _ _ _ _=>jZ (i:=2) yM.nd rfl (Or.inl rfl)) (fun _ _ _ _ _=>zEX) (fun _ _ _ _ _=>(yA (zII T) (hr.mono (by decide)) rfl T.D.ticks_waited.m T.D.ticks_waited.F.kp T.D.ticks_waited.b .nil yD (zB (pv 2) (zB (pe_fldK (K:=K) rfl (pv 0) rfl) zE))))) zE))) (zC (yG (i:=4) yM.nd rfl (by first | exact Or.inl rfl | exact Or.inr rfl) (yJ (cr_sum rfl) rfl T.G.z_sum PyProof.Rows.boot_sum (zB (pe_lc rfl yM.nd (wT (zJ (pv 0) rfl)) (own:=[("person", 2)]) (wW (N:=["self", "left", "person", "waited", "inside"]) (sc:=zK xR) (by decide +kernel)) (fun _ _ _ _ _=>jZ (i:=2) yM.nd rfl (Or.inl rfl)) (fun _ _ _ _ _=>zEX) (fun _ _ _ _ _=>(yA (zIJ T) (hr.mono (by decide)) rfl T.D.ticks_inside.m T.D.ticks_inside.F.kp T.D.ticks_inside.b .nil yD (zB (pv 2) (zB (pe_fldK (K:=K) rfl (pv 0) rfl) zE))))) zE))) (zH (zO (xN (zB (zJ (pv 0) rfl) (zB (xH (zB (yJ zZ rfl T.G.z_len PySem.boot_len (zB (pv 1) zE)) (zB (yJ zZ rfl T.G.z_len PySem.boot_len (zB (zJ (pv 0) rfl) zE)) (zB (pv 3) (zB (pv 4) zE))))) zE))))))),?_⟩
  have n1:=nw_lc (K:=K) (tl:=tFld K (zD4 0) "persons") (tt:=tTest (tOp rEq (zC6 (zEP K t) [] E0 (yW (zD4 2) zAG)) (tC (.int 2)))) (te:=zD4 2) (σ:=L2.start ["self", "left", "person", "waited", "inside"] [.ref a]) (H0:=H) (j:=2) (as:=zs) (xv:=fun z=>V.ref z.1) (g:=fun z=>V.ref z.1) (p:=fun z=>decide (stOf z.2 = 2)) (zI (zA rfl) (by assumption) T.C.k_House.c T.C.n_House_persons (yU _ _ _ _ _)) hl zl (fun z h=>zP (zCT (n:=2) (xE (zD (zA rfl) zN) (zIY (hz z h) (left_ent (po z h)))) yH)) (fun z h _=>zA rfl)
  refine zBJ n1 (zG.refl _) fun H1 l1 s1 m1 h1=>?_
  have A1:=A.same s1
  obtain ⟨da,ea⟩:=A1.b.obj
  have hl1:=s1 _ _ hl
  have n2:=nw_lcA (K:=K) (tl:=tFld K (zD4 0) "persons") (te:=zC6 (zAX K t) [] E0 (yW (zD4 2) (yW (tFld K (zD4 0) "now") zAG))) (σ:=[some (.ref a),some (.ref l1),none,none,none]) (H0:=H1) (j:=2) (as:=zs) (xv:=fun z=>V.ref z.1) (g:=fun z=>V.int ((z.2.entered.getD S.time - z.2.came:Nat):Int)) (zI (zA rfl) (by assumption) T.C.k_House.c T.C.n_House_persons (yU _ _ _ _ _)) hl1 zl (fun z h=>xE (zD (zA rfl) (zD (zI (zA rfl) (by assumption) T.C.k_House.c T.C.n_House_now (xB _ _ _ _ _)) zN)) (zIW ((hz z h).same s1) (by
    have k:=po z h
    cases e:z.2.entered with
    | none=>exact k.came
    | some n=>exact (k.ent n e).1)))
  have e3:(zs.map fun z=>V.int ((z.2.entered.getD S.time - z.2.came:Nat):Int)) = ((S.persons.map fun (p:Lf.Person)=>(p.entered.getD S.time) - p.came).map fun (n:Nat)=>(n:Int)).map V.int:=by
    rw [← e2,List.map_map,List.map_map,List.map_map]
    rfl
  rw [e3] at n2
  refine xY (H0:=H1) (pu_sum n2) (zG.refl _) fun H2 s2=>?_
  rw [sum_cast]
  have A2:=A1.same s2
  obtain ⟨da,ea⟩:=A2.b.obj
  have hl2:=s2 _ _ hl1
  have n3:=nw_lcA (K:=K) (tl:=tFld K (zD4 0) "persons") (te:=zC6 (zAY K t) [] E0 (yW (zD4 2) (yW (tFld K (zD4 0) "now") zAG))) (σ:=[some (.ref a),some (.ref l1),none,some (.int (((S.persons.map fun (p:Lf.Person)=>(p.entered.getD S.time) - p.came).foldr (fun (a b:Nat)=>a + b) 0:Nat):Int)),none]) (H0:=H2) (j:=2) (as:=zs) (xv:=fun z=>V.ref z.1) (g:=fun z=>V.int ((zBG z.2 S.time:Nat):Int)) (zI (zA rfl) (by assumption) T.C.k_House.c T.C.n_House_persons (yU _ _ _ _ _)) hl2 zl (fun z h=>xE (zD (zA rfl) (zD (zI (zA rfl) (by assumption) T.C.k_House.c T.C.n_House_now (xB _ _ _ _ _)) zN)) (zIX ((hz z h).same (s1.trans s2)) (fun m hm=>by
    have k:=po z h
    cases e:z.2.left with
    | none=>exact (k.ent m hm).2
    | some n =>
      obtain ⟨m',h1,h2,_⟩:=k.lf n e
      rw [hm] at h1
      cases h1
      exact h2)))
  have e4:(zs.map fun z=>V.int ((zBG z.2 S.time:Nat):Int)) = ((S.persons.map fun (p:Lf.Person)=>zBG p S.time).map fun (n:Nat)=>(n:Int)).map V.int:=by
    rw [← e2,List.map_map,List.map_map,List.map_map]
    rfl
  rw [e4] at n3
  refine xY (H0:=H2) (pu_sum n3) (zG.refl _) fun H3 s3=>?_
  rw [sum_cast]
  have S3:=(s1.trans s2).trans s3
  have A3:=A.same S3
  obtain ⟨da,ea⟩:=A3.b.obj
  have l3:H3 l1 = _:=s3 _ _ (s2 _ _ h1)
  have el:((zs.filter fun z=>decide (stOf z.2 = 2)).map fun z=>V.ref z.1).length = (S.persons.filter fun (p:Lf.Person)=>p.left.isSome).length:=by
    rw [List.length_map,← e2,List.filter_map,List.length_map]
    congr 1
    refine List.filter_congr fun z _=>?_
    show decide (stOf z.2 = 2) = z.2.left.isSome
    unfold stOf
    cases z.2.left with
    | none=>cases z.2.entered <;> rfl
    | some n=>rfl
  refine wE (H0:=H3) (zI (zA rfl) (by assumption) T.C.k_House.c T.C.n_House_now (xB _ _ _ _ _)) (zDP (zD (wR (fun _ _ _ h=>h) (zD (zA rfl) zN) l3 el) (zD (wR (fun _ _ _ h=>h) (zD (zI (zA rfl) (by assumption) T.C.k_House.c T.C.n_House_persons (yU _ _ _ _ _)) zN) (S3 _ _ hl) (by rw [List.length_map]; exact lz)) (zD (zA rfl) (zD (zA rfl) zN)))) (by show 4 ≤ sizeLine; decide)) (zG.refl _) fun H4 p e s4 hp he=>q.yes A (S3.trans s4) hp he
structure Made (K:PySem.W.Frag) (t:Adr) (H H':Hp) (D:Addr) (n:Nat) (cs:List (Addr × CL)) (tag:Addr→Nat):Prop where
  lst:H' D = some (.lst (cs.map fun z=>V.ref z.1))
  len:cs.length = n
  car:∀ i z,cs[i]? = some z→zX K t H' z.1 z.2 Lf.Car.first∧zHC tag i z∧H z.1 = none
  old:∀ b o,H b = some o→H' b = some o∧tag b = 7
  tD:tag D = 0
theorem Made.snoc {H H3 H4:Hp} {D x:Addr} {n:Nat} {cs:List (Addr × CL)} {tag:Addr→Nat} {L:CL} (M:Made K t H H3 D n cs tag) (nD:H D = none) (s:zG H3 H4) (nx:H3 x = none) (C:zX K t H4 x L Lf.Car.first) (n1:H3 L.li = none) (n2:H3 L.lp = none) (n3:H3 L.lc = none) (m1:L.li ≠ L.lp) (m2:L.li ≠ L.lc) (m3:L.lp ≠ L.lc) :
    ∃ tag',Made K t H (upd H4 D (.lst ((cs.map fun z=>V.ref z.1) ++ [.ref x]))) D (n + 1) (cs ++ [(x,L)]) tag':=by
  obtain ⟨dx,ex⟩:=C.obj
  have lc4:∃ ys,H4 L.lc = some (.lst ys):=let ⟨ys,h,_⟩:=C.cls.len; ⟨ys,h⟩
  obtain ⟨yc,elc⟩:=lc4
  have x1:x ≠ L.li:=jC ex C.ins (by intro z; cases z)
  have x2:x ≠ L.lp:=jC ex C.prs (by intro z; cases z)
  have x3:x ≠ L.lc:=jC ex elc (by intro z; cases z)
  have ht:∀ b u,H3 b = some u→retag (retag (retag (retag tag x (4 * n + 10)) L.li (4 * n + 11)) L.lp (4 * n + 12)) L.lc (4 * n + 13) b = tag b:=fun b u e=>by
    rw [yN n3 b u e,yN n2 b u e,yN n1 b u e,yN nx b u e]
  have tx:zHC (retag (retag (retag (retag tag x (4 * n + 10)) L.li (4 * n + 11)) L.lp (4 * n + 12)) L.lc (4 * n + 13)) n (x,L):=by
    refine ⟨?_,?_,?_,yO⟩
    · rw [xI x3,xI x2,xI x1]; exact yO
    · rw [xI m2,xI m1]; exact yO
    · rw [xI m3]; exact yO
  have hD4:=s _ _ M.lst
  have xu:But D H4 (upd H4 D (.lst ((cs.map fun z=>V.ref z.1) ++ [.ref x]))):=But.up (zG.refl _)
  generalize hT:retag (retag (retag (retag tag x (4 * n + 10)) L.li (4 * n + 11)) L.lp (4 * n + 12)) L.lc (4 * n + 13) = tag' at ht tx
  have tD':tag' D = 0:=Eq.trans (ht _ _ M.lst) M.tD
  have car:∀ i z,(cs ++ [(x,L)])[i]? = some z→zX K t H4 z.1 z.2 Lf.Car.first∧zHC tag' i z∧H z.1 = none:=fun i z hz=>by
    by_cases e:i < cs.length
    · rw [List.getElem?_append_left e] at hz
      obtain ⟨Ci,⟨u0,u1,u2,u3⟩,nz⟩:=M.car i z hz
      obtain ⟨di,ei⟩:=Ci.obj
      obtain ⟨yi,li,_⟩:=Ci.cls.len
      exact ⟨Ci.same s,⟨Eq.trans (ht _ _ ei) u0,Eq.trans (ht _ _ Ci.ins) u1,Eq.trans (ht _ _ Ci.prs) u2,Eq.trans (ht _ _ li) u3⟩,nz⟩
    · have hl:i < (cs ++ [(x,L)]).length:=(List.getElem?_eq_some_iff.mp hz).1
      rw [List.length_append,List.length_singleton] at hl
      have e1:i = cs.length:=by omega
      subst e1
      rw [List.getElem?_concat_length] at hz
      cases hz
      rw [M.len]
      refine ⟨C,tx,?_⟩
      cases e:H x with
      | none=>rfl
      | some o =>
        rw [(M.old x o e).1] at nx
        cases nx
  refine ⟨tag',⟨?_,by rw [List.length_append,M.len]; rfl,fun i z hz=>?_,fun b o e=>⟨?_,?_⟩,tD'⟩⟩
  · rw [zF,List.map_append]
    rfl
  · obtain ⟨Ci,ct,nz⟩:=car i z hz
    obtain ⟨u0,u1,u2,u3⟩:=id ct
    exact ⟨Ci.butN xu hD4 jA (xC u0 tD' (by omega)) (xC u1 tD' (by omega)) (xC u2 tD' (by omega)) (xC u3 tD' (by omega)),ct,nz⟩
  · exact xu _ _ (zM e nD) (s _ _ (M.old b o e).1)
  · exact Eq.trans (ht _ _ (M.old b o e).1) (M.old b o e).2
theorem Made.same {H H3 H4:Hp} {D:Addr} {n:Nat} {cs:List (Addr × CL)} {tag:Addr→Nat} (M:Made K t H H3 D n cs tag) (s:zG H3 H4):Made K t H H4 D n cs tag :=
  ⟨s _ _ M.lst,M.len,fun i z h=>let ⟨a,b,c⟩:=M.car i z h; ⟨a.same s,b,c⟩,fun b o e=>⟨s _ _ (M.old b o e).1,(M.old b o e).2⟩,M.tD⟩
theorem st_fldG {σ:L2.St} {H:Hp} {ta tb:TE} {r:TS} {D:zC4} {f:Str} {a C dx:Addr} {fs:List (Str × V)} (Post:V→Hp→Prop) (hv:∀ Q:VK,(∀ v H',Post v H'→Q v H')→tb σ H Q) (ha:∀ v H',Post v H'→PuE ta σ H' (.ref a)∧H' a = some (.ins C dx fs)) (hc:Cls K C) (hn:yP K C f) (hl:fs.length < 1000)
    (q:∀ v H' H'',Post v H'→zG H' H''→r D σ (upd H'' a (.ins C dx (wV f v fs)))):zBW (sFld K ta tb f) r D σ H :=
  hv _ fun v H1 p=>(ha v H1 p).1 H1 _ (zG.refl _) fun H2 s2=>⟨a,C,dx,fs,rfl,s2 _ _ (ha v H1 p).2,hc,hn,hl,q v H1 H2 p s2⟩
theorem lc_cars {σ:L2.St} {ts:TA} {j n:Nat} (ht:PuA ts σ H0 [.int (n:Int)]) (hn:n ≤ 1000) (H:Hp) (Q:VK) (s:zG H0 H) (q:∀ (H' H1:Hp) (D:Addr) (cs:List (Addr × CL)) (tag:Addr→Nat),zG H H1→H1 D = none→Made K t H1 H' D n cs tag→Q (.ref D) H') :
    tLc (iRng1 ts) (zA7 j) tYes (tMake t.Car (zH4 K t) [] E0 zAG) [j] σ H Q:=by
  refine ht H _ s fun H1 s1=>⟨(n:Int),rfl,by omega,by omega,fun D hD=>?_⟩
  refine lc_range (lo:=0) (n:=((n:Int)).toNat) (fun i H'=>∃ cs tag,Made K t H1 H' D i cs tag) ?_ ?_ ?_
  · refine ⟨[],retag (fun _=>7) D 0,zF,rfl,fun i z h=>by simp at h,fun b o e=>⟨zG.new hD _ _ e,xI (zM e hD)⟩,yO⟩
  · rintro i H2 hi ⟨cs,tag,M⟩
    rw [Int.toNat_natCast] at hi
    refine ⟨?_,?_⟩
    · show (((σ.set j none).set j _).set j none) = σ.set j none
      rw [List.set_set,List.set_set]
    · refine (iteT (B:=∃ cs tag,Made K t H1 H2 D (i + 1) cs tag) ?_:if true = true then _ else _)
      intro x dx nx nd ne
      refine ⟨x,dx,rfl,zF,fun H4 L C4 n4 b4=>⟨rfl,cs.map (fun z=>V.ref z.1),?_,?_,?_⟩⟩
      · exact ((zG.two nx nd).but b4 nx) _ _ M.lst
      · rw [List.length_map,M.len,sizeLine_eq]
        omega
      · have s4:zG H2 H4:=(zG.two nx nd).but b4 nx
        have fr:=(zG.two (H:=H2) (o:=.ins t.Car dx []) (u:=.own x) nx nd)
        obtain ⟨tag',M'⟩:=M.snoc hD s4 nx C4 (fr.free n4.1) (fr.free n4.2.1) (fr.free n4.2.2.1) n4.2.2.2.1 n4.2.2.2.2.1 n4.2.2.2.2.2
        exact ⟨_,tag',M'⟩
  · rintro H2 ⟨cs,tag,M⟩
    rw [Int.toNat_natCast] at M
    exact q H2 H1 D cs tag s1 hD M
def sp_House_init (K:PySem.W.Frag) (t:Adr):Sp:=fun vs H Q _=>∃ (a dx pl:Addr) (h:Lf.House),vs = [.ref a,.ref pl]∧H a = some (.ins t.House dx [])∧xO t H pl h∧LM.yE h∧a ≠ pl∧∀ (H':Hp) (G:HG),zW K t H' a G (Lf.begun h)→(∀ b o,H b = some o→b ≠ a→H' b = some o∧G.tag b = 7)→Q .non H'
theorem ok_House_init (T:Txt K mg t):qL P w K mg base CX0 3 t.f_House_init t.d_House_init ["self", "plan"] (sp_House_init K t):=by
  refine T.C.k_House.F.ok zCB (fun vs H Q E h=>by obtain ⟨_,_,_,_,rfl,_⟩:=h; rfl) (fun cdv A outer s H vs Q E hr h=>?_)
  obtain ⟨a,dx,pl,h,rfl,ha,Pn,hh,npl,q⟩:=h
  have hk:=T.C.k_House.c
  have cr:=hh.crm
  refine ⟨_,zC (yI (pv 0) (pv 1) rfl) (zC (yI (pv 0) yC rfl) (zC (yI (pv 0) (pe_lc rfl zCB.nd (pi_range1 rfl T.G.z_range (zB (zJ (pv 1) rfl) zE)) (own:=[("number", 2)]) (wW (N:=["self", "plan", "number"]) (sc:=zK zBC) (by decide +kernel)) (fun _ _ _ _ _=>jZ (i:=2) zCB.nd rfl (Or.inl rfl)) (fun _ _ _ _ _=>zEX) (fun _ _ _ _ _=>(pe_make0 T.C.k_Car.mm (zIO T) (hr.mono (by decide)) rfl T.C.k_Car.g T.C.k_Car.b .nil yD))) rfl) (zC (yI (pv 0) (xH zE) rfl) (zH (yI (pv 0) pe_dnewT rfl))))),?_⟩
  refine jV (zA rfl) (zA rfl) (zG.refl _) ha hk T.C.n_House_plan (by show 0 < 1000; decide) fun H1 s1=>?_
  have b1:But a H (upd H1 a (.ins t.House dx [("plan", .ref pl)])):=But.up s1
  refine jV yH (zA rfl) (zG.refl _) zF hk T.C.n_House_now (by show 1 < 1000; decide) fun H2 s2=>?_
  have b2:But a H (upd H2 a (.ins t.House dx [("plan", .ref pl),("now", .int 0)])):=b1.trans (But.up s2)
  have g2:(upd H2 a (.ins t.House dx [("plan", .ref pl),("now", .int 0)])) a = some (.ins t.House dx [("plan", .ref pl),("now", .int 0)]):=zF
  have P2:xO t (upd H2 a (.ins t.House dx [("plan", .ref pl),("now", .int 0)])) pl h:=let ⟨d,e⟩:=Pn; ⟨d,b2 _ _ npl.symm e⟩
  show zBW (sFld _ _ _ _) _ _ _ (upd H2 a (.ins t.House dx [("plan", .ref pl),("now", .int 0)]))
  generalize (upd H2 a (.ins t.House dx [("plan", .ref pl),("now", .int 0)])) = B2 at b2 g2 P2 ⊢
  obtain ⟨dp,ep⟩:=id P2
  refine st_fldG (C:=t.House) (dx:=dx) (fs:=[("plan", .ref pl),("now", .int 0)]) (fun v H3=>∃ D H3' cs tag,v = .ref D∧zG B2 H3'∧H3' D = none∧Made K t H3' H3 D h.cars cs tag) (fun Q k=>lc_cars (H0:=B2) (n:=h.cars) (zD (zI (zA rfl) (by assumption) T.C.k_Plan.c T.C.n_Plan_car_count (zIF _ _ _ _ _ _ _)) zN) (by omega) B2 _ (zG.refl _) fun H3 H3' D cs tag s3 nD M=>k _ _ ⟨D,H3',cs,tag,rfl,s3,nD,M⟩) (fun v H3 ⟨D,H3',cs,tag,_,s3,_,M⟩=>⟨zA rfl,(M.old a _ (s3 _ _ g2)).1⟩) hk T.C.n_House_cars (by show 2 < 1000; decide) ?_
  rintro v H3a H3 ⟨D,H3',cs,tag,rfl,s3,nD,M0⟩ s3a
  have M:=M0.same s3a
  have g3:=(M.old a _ (s3 _ _ g2)).1
  show zBW (sFld _ _ _ _) _ _ _ (upd H3 a (.ins t.House dx [("plan", .ref pl),("now", .int 0),("cars", .ref D)]))
  have b4:But a H3 (upd H3 a (.ins t.House dx [("plan", .ref pl),("now", .int 0),("cars", .ref D)])):=But.up (zG.refl _)
  refine zC7 (H0:=upd H3 a (.ins t.House dx [("plan", .ref pl),("now", .int 0),("cars", .ref D)])) qB (zA rfl) (zG.refl _) zF hk T.C.n_House_persons (by show 3 < 1000; decide) fun H5 lP s5 n5 hlP=>?_
  have m5:H5 a = some (.ins t.House dx [("plan", .ref pl),("now", .int 0),("cars", .ref D)]):=s5 _ _ zF
  have xP:lP ≠ a:=jC hlP m5 (by intro z; cases z)
  have nP3:H3 lP = none:=b4.free zF n5
  have b6:But a H5 (upd H5 a (.ins t.House dx [("plan", .ref pl),("now", .int 0),("cars", .ref D),("persons", .ref lP)])):=But.up (zG.refl _)
  show sFld _ _ _ _ _ _ (upd H5 a (.ins t.House dx [("plan", .ref pl),("now", .int 0),("cars", .ref D),("persons", .ref lP)]))
  have b36:But a H3 (upd H5 a (.ins t.House dx [("plan", .ref pl),("now", .int 0),("cars", .ref D),("persons", .ref lP)])):=b4.trans ((But.of s5).trans b6)
  have g6:(upd H5 a (.ins t.House dx [("plan", .ref pl),("now", .int 0),("cars", .ref D),("persons", .ref lP)])) a = some (.ins t.House dx [("plan", .ref pl),("now", .int 0),("cars", .ref D),("persons", .ref lP)]):=zF
  have hlP6:(upd H5 a (.ins t.House dx [("plan", .ref pl),("now", .int 0),("cars", .ref D),("persons", .ref lP)])) lP = some (.lst []):=b6 _ _ xP hlP
  generalize (upd H5 a (.ins t.House dx [("plan", .ref pl),("now", .int 0),("cars", .ref D),("persons", .ref lP)])) = B6 at b36 g6 hlP6 ⊢
  intro dW nW
  refine ⟨_,rfl,a,t.House,dx,_,rfl,by rw [zV (zM g6 nW)]; exact g6,hk,T.C.n_House_waiting,by show 4 < 1000; decide,?_⟩
  have b8:But a B6 (upd (upd B6 dW (.dT [])) a (.ins t.House dx [("plan", .ref pl),("now", .int 0),("cars", .ref D),("persons", .ref lP),("waiting", .ref dW)])):=But.up (zG.new nW)
  have b38:=b36.trans b8
  have xW:dW ≠ a:=fun z=>by rw [z,g6] at nW; cases nW
  have nW3:H3 dW = none:=b36.free g6 nW
  have nWP:lP ≠ dW:=zM hlP6 nW
  have fin:(upd (upd B6 dW (.dT [])) a (.ins t.House dx [("plan", .ref pl),("now", .int 0),("cars", .ref D),("persons", .ref lP),("waiting", .ref dW)])) = (upd (upd B6 dW (.dT [])) a (.ins t.House dx (jO (.ref pl) (.int 0) (.ref D) (.ref lP) (.ref dW)))):=rfl
  have w8:(upd (upd B6 dW (.dT [])) a (.ins t.House dx [("plan", .ref pl),("now", .int 0),("cars", .ref D),("persons", .ref lP),("waiting", .ref dW)])) dW = some (.dT []):=by rw [zV xW,zF]
  have p8:(upd (upd B6 dW (.dT [])) a (.ins t.House dx [("plan", .ref pl),("now", .int 0),("cars", .ref D),("persons", .ref lP),("waiting", .ref dW)])) lP = some (.lst []):=b8 _ _ xP hlP6
  have a8:(upd (upd B6 dW (.dT [])) a (.ins t.House dx [("plan", .ref pl),("now", .int 0),("cars", .ref D),("persons", .ref lP),("waiting", .ref dW)])) a = some (.ins t.House dx (jO (.ref pl) (.int 0) (.ref D) (.ref lP) (.ref dW))):=by rw [fin]; exact zF
  show Q .non (upd (upd B6 dW (.dT [])) a (.ins t.House dx [("plan", .ref pl),("now", .int 0),("cars", .ref D),("persons", .ref lP),("waiting", .ref dW)]))
  generalize (upd (upd B6 dW (.dT [])) a (.ins t.House dx [("plan", .ref pl),("now", .int 0),("cars", .ref D),("persons", .ref lP),("waiting", .ref dW)])) = B8 at b38 w8 p8 a8 ⊢
  have tga:∀ b,b ≠ a→b ≠ dW→b ≠ lP→retag (retag (retag tag lP 1) dW 4) a 3 b = tag b:=fun b h1 h2 h3=>by rw [xI h1,xI h2,xI h3]
  have old3:∀ b u,H3 b = some u→b ≠ a→retag (retag (retag tag lP 1) dW 4) a 3 b = tag b:=fun b u e h=>tga b h (zM e nW3) (zM e nP3)
  have nDa:D ≠ a:=jC M.lst g3 (by intro z; cases z)
  refine q B8 ⟨pl,D,lP,dW,cs,[],retag (retag (retag tag lP 1) dW 4) a 3⟩ ⟨⟨⟨dx,a8⟩,yO,?_,?_,?_,?_,?_,?_,?_,?_,p8,rfl,fun k z p h1=>by simp at h1⟩,⟨[],w8,List.nodup_nil,fun k hk=>(by cases hk),fun f d=>⟨fun v hv=>(by simp [zEB] at hv),fun _=>?_⟩⟩⟩ fun b o e h=>?_
  · show retag (retag (retag tag lP 1) dW 4) a 3 D = 0
    rw [old3 D _ M.lst nDa]
    exact M.tD
  · show retag (retag (retag tag lP 1) dW 4) a 3 lP = 1
    rw [xI xP,xI nWP]
    exact yO
  · show retag (retag (retag tag lP 1) dW 4) a 3 dW = 4
    rw [xI xW]
    exact yO
  · obtain ⟨d,e⟩:=P2
    exact ⟨d,b38 _ _ npl.symm (M.old pl _ (s3 _ _ e)).1⟩
  · exact b38 _ _ nDa M.lst
  · show cs.length = (List.replicate h.cars Lf.Car.first).length
    rw [M.len,List.length_replicate]
  · show (List.replicate h.cars Lf.Car.first).length ≤ 6
    rw [List.length_replicate]
    exact cr
  · intro i z c h1 h2
    have h2:(List.replicate h.cars Lf.Car.first)[i]? = some c:=h2
    have ec:c = Lf.Car.first:=List.eq_of_mem_replicate (List.mem_of_getElem? h2)
    subst ec
    obtain ⟨Ci,⟨u0,u1,u2,u3⟩,nz⟩:=M.car i z h1
    obtain ⟨di,ei⟩:=Ci.obj
    obtain ⟨yi,li,_⟩:=Ci.cls.len
    have za:z.1 ≠ a:=fun w=>by
      rw [w] at nz
      rw [s3 _ _ g2] at nz
      cases nz
    refine ⟨Ci.but b38 g3 za,?_,?_,?_,?_⟩
    · exact Eq.trans (old3 _ _ ei za) u0
    · exact Eq.trans (old3 _ _ Ci.ins (jC Ci.ins g3 (by intro z; cases z))) u1
    · exact Eq.trans (old3 _ _ Ci.prs (jC Ci.prs g3 (by intro z; cases z))) u2
    · exact Eq.trans (old3 _ _ li (jC li g3 (by intro z; cases z))) u3
  · rfl
  · have e2:=b2 _ _ h e
    obtain ⟨o3,t3⟩:=M.old b o (s3 _ _ e2)
    exact ⟨b38 _ _ h o3,Eq.trans (old3 _ _ o3 h) t3⟩
def sp_Desk_init (K:PySem.W.Frag) (t:Adr):Sp:=fun vs H Q _=>∃ (p dx:Addr),vs = [.ref p]∧H p = some (.ins t.Desk dx [])∧∀ H',H' p = some (.ins t.Desk dx (zE4 .non))→But p H H'→Q .non H'
theorem ok_Desk_init (T:Txt K mg t):qL P w K mg base CX0 1 t.f_Desk_init t.d_Desk_init ["self"] (sp_Desk_init K t):=by
  refine T.C.k_Desk.F.ok sc_Desk_init (fun vs H Q E h=>by obtain ⟨_,_,rfl,_⟩:=h; rfl) (fun cdv A outer s H vs Q E hr h=>?_)
  obtain ⟨p,dx,rfl,hp,q⟩:=h
  refine ⟨_,zH (yI (pv 0) pe_non rfl),?_⟩
  exact zEC yH (zA rfl) (zG.refl _) hp T.C.k_Desk.c T.C.n_Desk_house (by show 0 < 1000; decide) fun H1 s1=>q _ zF (But.up s1)
def cOf:Nat→List Nat→Option Lf.Call
  | 1,[f,c,p,o,t,e,r]=>some (.open_ f c p o t e r)
  | 2,[f,g]=>some (.come f g)
  | 3,[n]=>some (.run n)
  | 4,[i]=>some (.car i)
  | 5,[f,d]=>some (.wait f d)
  | 6,[k]=>some (.person k)
  | 7,[f,d]=>some (.guess f d)
  | 8,[]=>some .sums
  | _,_=>none
def zBT (l:List Nat):List Int:=l.map fun (n:Nat)=>(n:Int)
def sp_reply_of (K:PySem.W.Frag) (t:Adr):Sp:=fun vs H Q _=>∃ (ho l:Addr) (G:HG) (S:Lf.Hall) (k:Nat) (nums:List Nat) (c:Lf.Call),vs = [.ref ho,.int k,.ref l]∧zW K t H ho G S∧LM.Good S∧H l = some (.lst (nI nums))∧k ≠ 1∧cOf k nums = some c ∧
  ∀ S' z ls,Lf.step (some S) c = (some S',⟨z,zBT ls,[]⟩)→jU K t H ho G S' z ls Q
theorem jU.same {H H1:Hp} {a:Addr} {G:HG} {S:Lf.Hall} {z:Int} {l:List Nat} {Q:VK} (q:jU K t H a G S z l Q) (s:zG H H1):jU K t H1 a G S z l Q:=fun H' G' p e h1 h2 h3 h4=>q H' G' p e h1 ((Kp.of s).trans h2) h3 h4
theorem cOf_2 {nums:List Nat} {c:Lf.Call} (h:cOf 2 nums = some c):∃ f g,nums = [f,g]∧c = .come f g:=by
  match nums,h with
  | [f,g],h=>exact ⟨f,g,rfl,(Option.some.inj h).symm⟩
theorem cOf_3 {nums:List Nat} {c:Lf.Call} (h:cOf 3 nums = some c):∃ n,nums = [n]∧c = .run n:=by
  match nums,h with
  | [n],h=>exact ⟨n,rfl,(Option.some.inj h).symm⟩
theorem cOf_4 {nums:List Nat} {c:Lf.Call} (h:cOf 4 nums = some c):∃ n,nums = [n]∧c = .car n:=by
  match nums,h with
  | [n],h=>exact ⟨n,rfl,(Option.some.inj h).symm⟩
theorem cOf_5 {nums:List Nat} {c:Lf.Call} (h:cOf 5 nums = some c):∃ f g,nums = [f,g]∧c = .wait f g:=by
  match nums,h with
  | [f,g],h=>exact ⟨f,g,rfl,(Option.some.inj h).symm⟩
theorem cOf_6 {nums:List Nat} {c:Lf.Call} (h:cOf 6 nums = some c):∃ n,nums = [n]∧c = .person n:=by
  match nums,h with
  | [n],h=>exact ⟨n,rfl,(Option.some.inj h).symm⟩
theorem cOf_7 {nums:List Nat} {c:Lf.Call} (h:cOf 7 nums = some c):∃ f g,nums = [f,g]∧c = .guess f g:=by
  match nums,h with
  | [f,g],h=>exact ⟨f,g,rfl,(Option.some.inj h).symm⟩
theorem cOf_8 {k:Nat} {nums:List Nat} {c:Lf.Call} (h:cOf k nums = some c) (n1:k ≠ 1) (n2:k ≠ 2) (n3:k ≠ 3) (n4:k ≠ 4) (n5:k ≠ 5) (n6:k ≠ 6) (n7:k ≠ 7):k = 8∧nums = []∧c = .sums:=by
  unfold cOf at h
  split at h <;> first | contradiction | exact ⟨rfl,rfl,(Option.some.inj h).symm⟩
theorem pu_n {σ:L2.St} {ta:TE} {l:Addr} {nums:List Nat} {i n:Nat} (ha:PuE ta σ H0 (.ref l)) (h:H0 l = some (.lst (nI nums))) (hn:nums[i]? = some n):PuE (tOp (rIxL K) ta (tC (.int (i:Int)))) σ H0 (.int (n:Int)) :=
  zC2 (n:=i) ha yH h rfl (by unfold nI; rw [List.getElem?_map,hn]; rfl)
theorem ok_reply_of (T:Txt K mg t):qL P w K mg base CX0 14 t.f_reply_of t.d_reply_of ["house", "call", "numbers"] (sp_reply_of K t):=by
  refine T.D.reply_of.F.ok sc_reply_of (fun vs H Q E h=>by obtain ⟨_,_,_,_,_,_,_,rfl,_⟩:=h; rfl) (fun cdv A outer s H vs Q E hr h=>?_)
  obtain ⟨ho,l,G,S,k,nums,c,rfl,A,gd,hl,k1,hc,q⟩:=h
  obtain ⟨da,ea⟩:=A.b.obj
  refine ⟨_,zC (yX (zQ qJ (pv 1) (yB rfl T.G.i_COME) (zY _)) (zH (zO (xT (pv 0) T.C.k_House.c T.M.House_come.m (ok_House_come T) (hr.mono (by decide)) T.M.House_come.b .nil yD (zB (qA xF (pv 2) yC (fun _ _=>rfl)) (zB (qA xF (pv 2) yC (fun _ _=>rfl)) zE))))) (zU)) (zC (yX (zQ qJ (pv 1) (yB rfl T.G.i_RUN) (zY _)) (zH (zO (xT (pv 0) T.C.k_House.c T.M.House_run.m (ok_House_run T) (hr.mono (by decide)) T.M.House_run.b .nil yD (zB (qA xF (pv 2) yC (fun _ _=>rfl)) zE)))) (zU)) (zC (yX (zQ qJ (pv 1) (yB rfl T.G.i_CAR) (zY _)) (zH (zO (xT (pv 0) T.C.k_House.c T.M.House_tell_car.m (zGP T) (hr.mono (by decide)) T.M.House_tell_car.b .nil yD (zB (qA xF (pv 2) yC (fun _ _=>rfl)) zE)))) (zU)) (zC (yX (zQ qJ (pv 1) (yB rfl T.G.i_WAIT) (zY _)) (zH (zO (xT (pv 0) T.C.k_House.c T.M.House_tell_waiting.m (zDN T) (hr.mono (by decide)) T.M.House_tell_waiting.b .nil yD (zB (qA xF (pv 2) yC (fun _ _=>rfl)) (zB (qA xF (pv 2) yC (fun _ _=>rfl)) zE))))) (zU)) (zC (yX (zQ qJ (pv 1) (yB rfl T.G.i_PERSON) (zY _)) (zH (zO (xT (pv 0) T.C.k_House.c T.M.House_tell_person.m (zD8 T) (hr.mono (by decide)) T.M.House_tell_person.b .nil yD (zB (qA xF (pv 2) yC (fun _ _=>rfl)) zE)))) (zU)) (zC (yX (zQ qJ (pv 1) (yB rfl T.G.i_GUESS) (zY _)) (zH (zO (xT (pv 0) T.C.k_House.c T.M.House_guess.m (ok_House_guess T) (hr.mono (by decide)) T.M.House_guess.b .nil yD (zB (qA xF (pv 2) yC (fun _ _=>rfl)) (zB (qA xF (pv 2) yC (fun _ _=>rfl)) zE))))) (zU)) (zH (zO (pe_meth0 (pv 0) T.C.k_House.c T.M.House_tell_sums.m (zFP T) (hr.mono (by decide)) T.M.House_tell_sums.b .nil yD)))))))),?_⟩
  refine yK (zP (zCT (n:=2) (zA rfl) yH)) (zG.refl _) (fun H1 s1 e=>?_) (fun H1 s1 e2=>?_)
  · have e1:=of_decide_eq_true e
    subst e1
    obtain ⟨f,g,rfl,rfl⟩:=cOf_2 hc
    refine zAM (zA rfl) ea rfl (zD (pu_n (i:=0) (zA rfl) hl rfl) (zD (pu_n (i:=1) (zA rfl) hl rfl) zN)) s1 fun H2 s2=>⟨ho,G,S,f,g,rfl,A.same s2,gd,?_⟩
    by_cases c1:S.house.floors ≤ f∨S.house.floors ≤ g∨f = g
    · rw [if_pos c1]
      refine jU.same (q S (-1) [] ?_) s2
      show (if S.house.floors ≤ f∨S.house.floors ≤ g∨f = g then _ else _) = _
      rw [if_pos c1]
      rfl
    · rw [if_neg c1]
      by_cases c2:200 ≤ S.persons.length
      · rw [if_pos c2]
        refine jU.same (q S (-2) [] ?_) s2
        show (if S.house.floors ≤ f∨S.house.floors ≤ g∨f = g then _ else if Lf.PERSONS ≤ S.persons.length then _ else _) = _
        rw [if_neg c1,if_pos (show Lf.PERSONS ≤ S.persons.length from c2)]
        rfl
      · rw [if_neg c2]
        refine jU.same (q _ _ _ ?_) s2
        show (if S.house.floors ≤ f∨S.house.floors ≤ g∨f = g then _ else if Lf.PERSONS ≤ S.persons.length then _ else _) = _
        rw [if_neg c1,if_neg (show ¬ Lf.PERSONS ≤ S.persons.length from c2)]
        rfl
  refine yK (zP (zCT (n:=3) (zA rfl) yH)) s1 (fun H1 s1 e=>?_) (fun H1 s1 e3=>?_)
  · have e1:=of_decide_eq_true e
    subst e1
    obtain ⟨n,rfl,rfl⟩:=cOf_3 hc
    refine zAM (zA rfl) ea rfl (zD (pu_n (i:=0) (zA rfl) hl rfl) zN) s1 fun H2 s2=>⟨ho,G,S,n,rfl,A.same s2,gd,?_⟩
    by_cases c1:2000 < n
    · rw [if_pos c1]
      refine jU.same (q S (-1) [] ?_) s2
      show (if Lf.MOST < n then _ else _) = _
      rw [if_pos (show Lf.MOST < n from c1)]
      rfl
    · rw [if_neg c1]
      refine jU.same (q _ _ _ ?_) s2
      show (if Lf.MOST < n then _ else _) = _
      rw [if_neg (show ¬ Lf.MOST < n from c1)]
      rfl
  refine yK (zP (zCT (n:=4) (zA rfl) yH)) s1 (fun H1 s1 e=>?_) (fun H1 s1 e4=>?_)
  · have e1:=of_decide_eq_true e
    subst e1
    obtain ⟨n,rfl,rfl⟩:=cOf_4 hc
    refine zAM (zA rfl) ea rfl (zD (pu_n (i:=0) (zA rfl) hl rfl) zN) s1 fun H2 s2=>⟨ho,G,S,n,rfl,A.same s2,?_⟩
    by_cases c1:S.cars.length ≤ n
    · rw [if_pos c1]
      refine jU.same (q S (-1) [] ?_) s2
      show (some S,if S.cars.length ≤ n then _ else _) = _
      rw [if_pos c1]
      rfl
    · rw [if_neg c1]
      refine jU.same (q S _ _ ?_) s2
      show (some S,if S.cars.length ≤ n then _ else _) = _
      rw [if_neg c1]
      rfl
  refine yK (zP (zCT (n:=5) (zA rfl) yH)) s1 (fun H1 s1 e=>?_) (fun H1 s1 e5=>?_)
  · have e1:=of_decide_eq_true e
    subst e1
    obtain ⟨f,g,rfl,rfl⟩:=cOf_5 hc
    refine zAM (zA rfl) ea rfl (zD (pu_n (i:=0) (zA rfl) hl rfl) (zD (pu_n (i:=1) (zA rfl) hl rfl) zN)) s1 fun H2 s2=>⟨ho,G,S,f,g,rfl,A.same s2,gd.ok,?_⟩
    by_cases c1:Lf.isCall S f g = false
    · rw [if_pos c1]
      refine jU.same (q S (-1) [] ?_) s2
      show (some S,if Lf.isCall S f g = false then _ else _) = _
      rw [if_pos c1]
      rfl
    · rw [if_neg c1]
      refine jU.same (q S _ _ ?_) s2
      show (some S,if Lf.isCall S f g = false then _ else _) = _
      rw [if_neg c1]
      rfl
  refine yK (zP (zCT (n:=6) (zA rfl) yH)) s1 (fun H1 s1 e=>?_) (fun H1 s1 e6=>?_)
  · have e1:=of_decide_eq_true e
    subst e1
    obtain ⟨n,rfl,rfl⟩:=cOf_6 hc
    refine zAM (zA rfl) ea rfl (zD (pu_n (i:=0) (zA rfl) hl rfl) zN) s1 fun H2 s2=>⟨ho,G,S,n,rfl,A.same s2,gd.ok,?_⟩
    by_cases c1:S.persons.length ≤ n
    · rw [if_pos c1]
      refine jU.same (q S (-1) [] ?_) s2
      show (some S,if S.persons.length ≤ n then _ else _) = _
      rw [if_pos c1]
      rfl
    · rw [if_neg c1]
      refine jU.same (q S _ _ ?_) s2
      show (some S,if S.persons.length ≤ n then _ else _) = _
      rw [if_neg c1]
      show (some S,Lf.tells _ _) = _
      unfold Lf.tells stOf zBT
      congr 2
      split
      · rfl
      · split <;> rfl
  refine yK (zP (zCT (n:=7) (zA rfl) yH)) s1 (fun H1 s1 e=>?_) (fun H1 s1 e7=>?_)
  · have e1:=of_decide_eq_true e
    subst e1
    obtain ⟨f,g,rfl,rfl⟩:=cOf_7 hc
    refine zAM (zA rfl) ea rfl (zD (pu_n (i:=0) (zA rfl) hl rfl) (zD (pu_n (i:=1) (zA rfl) hl rfl) zN)) s1 fun H2 s2=>⟨ho,G,S,f,g,rfl,A.same s2,gd.ok,?_⟩
    by_cases c1:Lf.isCall S f g = false
    · rw [if_pos c1]
      refine jU.same (q S (-1) [] ?_) s2
      show (some S,if Lf.isCall S f g = false then _ else _) = _
      rw [if_pos c1]
      rfl
    · rw [if_neg c1]
      by_cases c2:S.given (f,g) = true
      · rw [if_pos c2]
        refine jU.same (q S (-3) [] ?_) s2
        show (some S,if Lf.isCall S f g = false then _ else if S.given (f,g) = true then _ else _) = _
        rw [if_neg c1,if_pos c2]
        rfl
      · rw [if_neg c2]
        refine jU.same (q S _ _ ?_) s2
        show (some S,if Lf.isCall S f g = false then _ else if S.given (f,g) = true then _ else _) = _
        rw [if_neg c1,if_neg c2]
        rfl
  have f2:=of_decide_eq_false e2
  have f3:=of_decide_eq_false e3
  have f4:=of_decide_eq_false e4
  have f5:=of_decide_eq_false e5
  have f6:=of_decide_eq_false e6
  have f7:=of_decide_eq_false e7
  obtain ⟨rfl,rfl,rfl⟩:=cOf_8 hc k1 f2 f3 f4 f5 f6 f7
  exact zAM (zA rfl) ea rfl zN s1 fun H2 s2=>⟨ho,G,S,rfl,A.same s2,gd.ok,jU.same (q S _ _ rfl) s2⟩
def toldV (z:Int) (l:List Nat):List V:=if l.length = 0 then [.int 1,.int z] else [.int ((l.length:Int) + 3),.int z,.int (l.length:Int)] ++ nI l ++ [.int 0]
def sp_told_of (K:PySem.W.Frag) (t:Adr):Sp:=fun vs H Q _=>∃ (p e:Addr) (z:Int) (l:List Nat),vs = [.ref p]∧H p = some (.tup [.int z,.ref e])∧H e = some (.lst (nI l))∧l.length ≤ 8000000∧∀ H' r,zG H H'→H r = none→H' r = some (.lst (toldV z l))→Q (.ref r) H'
theorem nw_cat2 {σ:L2.St} {ta tb:TE} {xs ys:List V} {b:Addr} (ha:NwE ta σ H0 xs) (hb:PuE tb σ H0 (.ref b)) (h:H0 b = some (.lst ys)) (hz:xs.length + ys.length ≤ sizeLine):NwE (tOp rCat ta tb) σ H0 (xs ++ ys):=fun H Q s q =>
  ha H _ s fun H1 p s1 n1 hp=>hb H1 _ (s.trans s1) fun H2 s2=>⟨p,b,xs,ys,rfl,rfl,s2 _ _ hp,s2 _ _ (s1 _ _ (s _ _ h)),hz,fun m hm=>q _ m ((s1.trans s2).trans (zG.new hm)) ((s1.trans s2).free hm) zF⟩
theorem nw_cat3 {σ:L2.St} {ta tb:TE} {xs ys:List V} (ha:NwE ta σ H0 xs) (hb:NwE tb σ H0 ys) (hz:xs.length + ys.length ≤ sizeLine):NwE (tOp rCat ta tb) σ H0 (xs ++ ys):=fun H Q s q =>
  ha H _ s fun H1 p s1 n1 hp=>hb H1 _ (s.trans s1) fun H2 p2 s2 n2 hp2=>⟨p,p2,xs,ys,rfl,rfl,s2 _ _ hp,hp2,hz,fun m hm=>q _ m ((s1.trans s2).trans (zG.new hm)) ((s1.trans s2).free hm) zF⟩
theorem ok_told_of (T:Txt K mg t):qL P w K mg base CX0 1 t.f_told_of t.d_told_of ["reply"] (sp_told_of K t):=by
  refine T.D.told_of.F.ok zGB (fun vs H Q E h=>by obtain ⟨_,_,_,_,rfl,_⟩:=h; rfl) (fun cdv A outer s H vs Q E hr h=>?_)
  obtain ⟨p,e,z,l,rfl,hp,he,hl,q⟩:=h
  have tp:SqT K H p [.int z,.ref e]:=SqT.of hp
  refine ⟨_,zC (yG (i:=1) zGB.nd rfl (by first | exact Or.inl rfl | exact Or.inr rfl) (qA zG8 (pv 0) yC (fun _ _=>rfl))) (zC (yG (i:=2) zGB.nd rfl (by first | exact Or.inl rfl | exact Or.inr rfl) (qA zG8 (pv 0) yC (fun _ _=>rfl))) (zC (yX (zQ qJ (yJ zZ rfl T.G.z_len PySem.boot_len (zB (pv 2) zE)) yC (zY _)) (zH (zO (xH (zB yC (zB (pv 1) zE))))) (zU)) (zH (zO (qX op_cat (qX op_cat (xH (zB (qX zCV (yJ zZ rfl T.G.z_len PySem.boot_len (zB (pv 2) zE)) yC) (zB (pv 1) (zB (yJ zZ rfl T.G.z_len PySem.boot_len (zB (pv 2) zE)) zE)))) (pv 2)) (xH (zB yC zE))))))),?_⟩
  refine xY (zG0 (n:=0) (zA rfl) yH tp rfl rfl) (zG.refl _) fun H1 s1=>?_
  refine xY (zG0 (n:=1) (zA rfl) yH tp rfl rfl) s1 fun H1 s1=>?_
  refine yK (zP (zCT (n:=0) (wR (fun _ _ _ h=>h) (zD (zA rfl) zN) he (zR l)) yH)) s1 (fun H1 s1 e1=>?_) (fun H1 s1 e1=>?_)
  · have l0:=of_decide_eq_true e1
    refine zF6 (zDP (zD yH (zD (zA rfl) zN)) (by show 2 ≤ sizeLine; decide)) s1 fun H2 r s2 n2 hr2=>q H2 r s2 n2 ?_
    rw [hr2]
    unfold toldV
    rw [if_pos l0]
  · have l0:=of_decide_eq_false e1
    refine zF6 (nw_cat3 (nw_cat2 (zDP (zD (jN (wR (n:=l.length) (fun _ _ _ h=>h) (zD (zA rfl) zN) he (zR l)) yH) (zD (zA rfl) (zD (wR (n:=l.length) (fun _ _ _ h=>h) (zD (zA rfl) zN) he (zR l)) zN))) (by show 3 ≤ sizeLine; decide)) (zA rfl) he (by rw [zR,sizeLine_eq]; show 3 + l.length ≤ _; omega)) (zDP (zD yH zN) (by show 1 ≤ sizeLine; decide)) (by rw [List.length_append,zR,sizeLine_eq]; show 3 + l.length + 1 ≤ _; omega)) s1 fun H2 r s2 n2 hr2=>q H2 r s2 n2 ?_
    rw [hr2]
    unfold toldV
    rw [if_neg l0]
theorem for_zipT {a b:Addr} {xs ys:List V} {g:TG} {tb:TS} {D:zC4} {σ:L2.St} {H:Hp} (hlen:xs.length ≤ ys.length) (Pv:Nat→L2.St→Hp→Prop) (h0:Pv 0 σ H) (hl:∀ i σ H,i ≤ xs.length→Pv i σ H→SqL K H a xs∧SqT K H b ys)
    (hs:∀ i x y T σ H,xs[i]? = some x→ys[i]? = some y→H T = none→Pv i σ H→g (.ref T) σ (upd H T (.tup [x,y])) fun σ2 H2=>tb { D with nx:=Pv (i + 1),ct:=Pv (i + 1),bk:=D.nx } σ2 H2) (hd:∀ σ H,Pv xs.length σ H→D.nx σ H) :
    ∃ W:Nat→Nat→L2.St→Hp→Prop,(∃ m,W 0 m σ H)∧∀ i m σ H,W i m σ H →
      ((ItzT K a b).stop i H∧D.nx σ H)∨((ItzT K a b).go i H∧∃ N:L2.St→Hp→Prop,(∀ σ' H',N σ' H'→∃ m',m' < m∧W (i + 1) m' σ' H')∧∀ x H',(ItzT K a b).yld i H x H'→g x σ H' fun σ2 H2=>tb { D with nx:=N,ct:=N,bk:=D.nx } σ2 H2):=by
  refine ⟨fun i m σ H=>m = xs.length - i∧i ≤ xs.length∧Pv i σ H,⟨xs.length,by simp,Nat.zero_le _,h0⟩,?_⟩
  rintro i m σ H ⟨rfl,hi,p⟩
  obtain ⟨qa,qb⟩:=hl i σ H hi p
  by_cases hlt:i < xs.length
  · have hlt2:i < ys.length:=by omega
    refine .inr ⟨⟨xs,ys,xs[i],ys[i],qa,qb,by simp [hlt],by simp [hlt2]⟩,Pv (i + 1),fun σ' H' p'=>⟨xs.length - (i + 1),by omega,rfl,hlt,p'⟩,fun x H' y=>?_⟩
    obtain ⟨T,u,v,rfl,hT,rfl,y1,y2⟩:=y
    exact hs i u v T σ H (y1 xs qa) (y2 ys qb) hT p
  · have e:i = xs.length:=by omega
    subst e
    exact .inl ⟨⟨xs,qa,Nat.le_refl _⟩,hd σ H p⟩
theorem st_forZ {a b:Addr} {xs ys:List V} {ta tb:TE} {bd r:TS} {D:zC4} {σ:L2.St} {H:Hp} {i2 i3:Nat} (ha:PuE ta σ H0 (.ref a)) (hb:PuE tb σ H0 (.ref b)) (s:zG H0 H) (hx:H0 a = some (.lst xs)) (hy:SqT K H0 b ys) (hlen:xs.length ≤ ys.length) (Pv:Nat→L2.St→Hp→Prop) (h0:∀ H',zG H0 H'→Pv 0 σ H')
    (hl:∀ i σ H,i ≤ xs.length→Pv i σ H→zG H0 H)
    (hs:∀ i x y σ H,xs[i]? = some x→ys[i]? = some y→zG H0 H→(∀ H',zG H H'→Pv i σ H')→bd { D with nx:=Pv (i + 1),ct:=Pv (i + 1),bk:=r D } ((σ.set i2 (some x)).set i3 (some y)) H) (hp:∀ i σ H H',Pv i σ H→zG H H'→Pv i σ H') (hd:∀ σ H,Pv xs.length σ H→r D σ H) :
    zBW (tFor (iZipT K (yW ta (yW tb zAG))) (gTup K 2 (gCons (zA7 i2) (gCons (zA7 i3) gNil))) bd) r D σ H :=
  ha H _ s fun H1 s1=>hb H1 _ (s.trans s1) fun H2 s2=>⟨a,b,xs,ys,rfl,SqL.of (s2 _ _ (s1 _ _ (s _ _ hx))),zG.tup ((s.trans s1).trans s2) hy,for_zipT (D:={ D with nx:=r D }) hlen Pv (h0 H2 ((s.trans s1).trans s2)) (fun i σ' H' hi p=>⟨SqL.of (hl i σ' H' hi p _ _ hx),zG.tup (hl i σ' H' hi p) hy⟩) (fun i x y T σ' H' h1 h2 hT p=>⟨T,[x,y],rfl,SqT.of zF,rfl,x,[y],rfl,y,[],rfl,rfl,hs i x y σ' _ h1 h2 ((hl i σ' H' (Nat.le_of_lt (List.getElem?_eq_some_iff.mp h1).1) p).trans (zG.new hT)) fun H'' s''=>hp i σ' H' H'' p ((zG.new hT).trans s'')⟩) hd⟩
def edge:Nat→Nat × Nat
  | 0=>(2,32) | 1=>(1,6) | 2=>(1,60) | 3=>(1,60) | 4=>(1,60) | 5=>(1,60) | _=>(1,40)
def tE (t:Adr):Nat→Addr
  | 0=>t.t_PLAN_EDGES_0 | 1=>t.t_PLAN_EDGES_1 | 2=>t.t_PLAN_EDGES_2 | 3=>t.t_PLAN_EDGES_3 | 4=>t.t_PLAN_EDGES_4 | 5=>t.t_PLAN_EDGES_5 | _=>t.t_PLAN_EDGES_6
def esV (t:Adr):List V:=[.ref t.t_PLAN_EDGES_0,.ref t.t_PLAN_EDGES_1,.ref t.t_PLAN_EDGES_2,.ref t.t_PLAN_EDGES_3,.ref t.t_PLAN_EDGES_4,.ref t.t_PLAN_EDGES_5,.ref t.t_PLAN_EDGES_6]
theorem TupK.sq {H:Hp} {a:Addr} {xs:List V} (h:TupK K a xs):SqT K H a xs:=.inr h
theorem esV_at {y:V} {i:Nat} (T:TxtG K mg t) (h:(esV t)[i]? = some y):y = .ref (tE t i)∧TupK K (tE t i) [.int ((edge i).1:Nat),.int ((edge i).2:Nat)]:=by
  match i,h with
  | 0,h=>exact ⟨(Option.some.inj h).symm,T.q_PLAN_EDGES_0⟩
  | 1,h=>exact ⟨(Option.some.inj h).symm,T.q_PLAN_EDGES_1⟩
  | 2,h=>exact ⟨(Option.some.inj h).symm,T.q_PLAN_EDGES_2⟩
  | 3,h=>exact ⟨(Option.some.inj h).symm,T.q_PLAN_EDGES_3⟩
  | 4,h=>exact ⟨(Option.some.inj h).symm,T.q_PLAN_EDGES_4⟩
  | 5,h=>exact ⟨(Option.some.inj h).symm,T.q_PLAN_EDGES_5⟩
  | 6,h=>exact ⟨(Option.some.inj h).symm,T.q_PLAN_EDGES_6⟩
  | n + 7,h=>simp [esV] at h
def hOf (n:Nat→Nat):Lf.House:=⟨n 0,n 1,n 2,n 3,n 4,n 5,n 6⟩
theorem right_iff (n:Nat→Nat):(hOf n).right = true↔∀ i,i < 7→(edge i).1 ≤ n i∧n i ≤ (edge i).2:=by
  constructor
  · intro h
    have e:=h
    unfold Lf.House.right Lf.FLOORS Lf.CARS hOf at e
    simp only [List.all_cons,List.all_nil,Bool.and_true,Bool.and_eq_true,decide_eq_true_eq] at e
    obtain ⟨a,b,c,d,⟨⟨x1,x2⟩,⟨y1,y2⟩,⟨z1,z2⟩,u1,u2⟩,f,g⟩:=e
    intro i hi
    match i,hi with
    | 0,_=>exact ⟨a,b⟩
    | 1,_=>exact ⟨c,d⟩
    | 2,_=>exact ⟨x1,x2⟩
    | 3,_=>exact ⟨y1,y2⟩
    | 4,_=>exact ⟨z1,z2⟩
    | 5,_=>exact ⟨u1,u2⟩
    | 6,_=>exact ⟨f,g⟩
    | n + 7,h=>exact absurd h (by omega)
  · intro h
    unfold Lf.House.right Lf.FLOORS Lf.CARS hOf
    simp only [List.all_cons,List.all_nil,Bool.and_true,Bool.and_eq_true,decide_eq_true_eq]
    exact ⟨(h 0 (by decide)).1,(h 0 (by decide)).2,(h 1 (by decide)).1,(h 1 (by decide)).2,⟨⟨(h 2 (by decide)).1,(h 2 (by decide)).2⟩,⟨(h 3 (by decide)).1,(h 3 (by decide)).2⟩,⟨(h 4 (by decide)).1,(h 4 (by decide)).2⟩,(h 5 (by decide)).1,(h 5 (by decide)).2⟩,(h 6 (by decide)).1,(h 6 (by decide)).2⟩
theorem plan_desk {x0 x1 x2 x3 x4 x5 x6 y0:V}:zDL x0 x1 x2 x3 x4 x5 x6 ≠ zE4 y0:=by
  intro e
  unfold zDL zE4 at e
  injection e with e1 e2
  injection e1 with e3 e4
  exact absurd e3 (by decide +kernel)
theorem zW.desk {H H1:Hp} {a d dx:Addr} {G:HG} {S:Lf.Hall} {v:V} (A:zW K t H a G S) (x:But d H H1) (hd:H d = some (.ins t.Desk dx (zE4 v))) (t7:G.tag d = 7):zW K t H1 a G S:=by
  have np:G.pl ≠ d:=let ⟨_,e⟩:=A.b.plan; jC e hd (by intro z; injection z with z1 z2 z3; exact plan_desk z3)
  obtain ⟨r1,r2,r3,r4,r5⟩:=A.b.rest x hd jB np
  have B:=A.b
  refine ⟨⟨r1 (by omega),B.ta,B.tC,B.tP,B.tW,r2,r3 (by omega),B.clen,B.c6,fun i z c h1 h2=>⟨B.carOf x hd jB h1 h2 (by omega),(B.car i z c h1 h2).2⟩,r4 (by omega),B.plen,fun k z p h1 h2=>⟨r5 k z p h1 h2 (by omega),(B.per k z p h1 h2).2⟩⟩,?_⟩
  exact A.w.but x hd (xC B.tW t7 (by omega)) (by omega) (fun _ _ _=>rfl)
def nums7 (n:Nat→Nat):List Nat:=[n 0,n 1,n 2,n 3,n 4,n 5,n 6]
theorem nums7_at {n:Nat→Nat} {i:Nat} {x:V} (h:(nI (nums7 n))[i]? = some x):i < 7∧x = .int (n i:Nat):=by
  match i,h with
  | 0,h=>exact ⟨by decide,(Option.some.inj h).symm⟩
  | 1,h=>exact ⟨by decide,(Option.some.inj h).symm⟩
  | 2,h=>exact ⟨by decide,(Option.some.inj h).symm⟩
  | 3,h=>exact ⟨by decide,(Option.some.inj h).symm⟩
  | 4,h=>exact ⟨by decide,(Option.some.inj h).symm⟩
  | 5,h=>exact ⟨by decide,(Option.some.inj h).symm⟩
  | 6,h=>exact ⟨by decide,(Option.some.inj h).symm⟩
  | n + 7,h=>simp [nI,nums7] at h
def sp_Desk_build (K:PySem.W.Frag) (t:Adr):Sp:=fun vs H Q _=>∃ (d l dx:Addr) (v0:V) (n:Nat→Nat),vs = [.ref d,.ref l]∧H d = some (.ins t.Desk dx (zE4 v0))∧H l = some (.lst (nI (nums7 n))) ∧
  ((hOf n).right = true→∀ (H':Hp) (a:Addr) (G:HG) (p e:Addr),H' d = some (.ins t.Desk dx (zE4 (.ref a)))→zW K t H' a G (Lf.begun (hOf n))→(∀ b o,H b = some o→G.tag b = 7)→(∀ b o,H b = some o→b ≠ d→H' b = some o)→H' p = some (.tup [.int 0,.ref e])→H' e = some (.lst (nI []))→Q (.ref p) H') ∧
  ((hOf n).right = false→∀ (H':Hp) (p e:Addr),zG H H'→H' p = some (.tup [.int (-1),.ref e])→H' e = some (.lst (nI []))→Q (.ref p) H')
theorem ok_Desk_build (T:Txt K mg t):qL P w K mg base CX0 5 t.f_Desk_build t.d_Desk_build ["self", "numbers"] (sp_Desk_build K t):=by
  refine T.M.Desk_build.F.ok zCC (fun vs H Q E h=>by obtain ⟨_,_,_,_,_,rfl,_⟩:=h; rfl) (fun cdv A outer s H vs Q E hr h=>?_)
  obtain ⟨d,l,dx,v0,n,rfl,hd,hl,q1,q2⟩:=h
  refine ⟨_,zC (ps_for PassesOwn.never rfl (pi_zipLT rfl T.G.z_zip (zB (pv 1) (zB (pe_glob (v:=.ref t.t_PLAN_EDGES) rfl T.G.t_PLAN_EDGES rfl) zE))) (pg_tup rfl (pgs_cons (jZ (i:=2) zCC.nd rfl (Or.inl rfl)) (pgs_cons (jZ (i:=3) zCC.nd rfl (Or.inl rfl)) pgs_nil))) (zH (yX (PW.pt (pw_or (zQ op_lt (pv 2) (qA zG8 (pv 3) yC (fun _ _=>rfl)) (zY _)) (pw_or1 (zQ op_gt (pv 2) (qA zG8 (pv 3) yC (fun _ _=>rfl)) (zY _))))) (zH (zO (xN (zB (yB rfl T.G.i_WRONG_NUMBER) (zB (xH zE) zE))))) (zU)))) (zC (yI (pv 0) (pe_make T.C.k_House.mm (ok_House_init T) (hr.mono (by decide)) rfl T.C.k_House.g T.C.k_House.b .nil yD (zB (pe_make T.C.k_Plan.mm (ok_Plan_init T) (hr.mono (by decide)) rfl T.C.k_Plan.g T.C.k_Plan.b .nil yD (zB (pv 1) zE)) zE)) rfl) (zH (zO (xN (zB yC (zB (xH zE) zE)))))),?_⟩
  refine st_forZ (K:=K) (ys:=esV t) (zA rfl) yH (zG.refl _) hl (TupK.sq T.G.q_PLAN_EDGES) (Nat.le_refl 7) (fun i σ H'=>∃ v2 v3,σ = [some (.ref d),some (.ref l),v2,v3]∧zG H H'∧∀ j,j < i→(edge j).1 ≤ n j∧n j ≤ (edge j).2) ?_ ?_ ?_ ?_ ?_
  · exact fun H1 s1=>⟨none,none,rfl,s1,fun j hj=>absurd hj (Nat.not_lt_zero _)⟩
  · rintro i σ H1 hi ⟨v2,v3,rfl,s1,_⟩
    exact s1
  · intro i x y σ H1 hx hy s1 hP
    obtain ⟨v2,v3,rfl,_,hj⟩:=hP H1 (zG.refl _)
    obtain ⟨i7,rfl⟩:=nums7_at hx
    obtain ⟨rfl,hte⟩:=esV_at T.G hy
    have te:SqT K H1 (tE t i) [.int ((edge i).1:Nat),.int ((edge i).2:Nat)]:=TupK.sq hte
    refine st_if (H0:=H1) (u:=tNext) (pu_or (zP (jN (zA rfl) (zG0 (n:=0) (zA rfl) yH te rfl rfl))) fun _=>zP (jN (zA rfl) (zG0 (n:=1) (zA rfl) yH te rfl rfl))) (zG.refl _) (fun H2 s2 e=>?_) (fun H2 s2 e=>?_)
    · refine wE (H0:=H2) yH qB (zG.refl _) fun H3 p e3 s3 hp he=>q2 ?_ H3 p e3 ((s1.trans s2).trans s3) hp he
      cases hr:(hOf n).right with
      | false=>rfl
      | true =>
        have:=(right_iff n).mp hr i i7
        rw [Bool.or_eq_true,decide_eq_true_eq,decide_eq_true_eq] at e
        omega
    · refine ⟨_,_,rfl,s1.trans s2,fun j hji=>?_⟩
      by_cases ej:j = i
      · subst ej
        rw [Bool.or_eq_false_iff,decide_eq_false_iff_not,decide_eq_false_iff_not] at e
        omega
      · exact hj j (by omega)
  · rintro i σ H1 H2 ⟨v2,v3,rfl,s1,hj⟩ s2
    exact ⟨v2,v3,rfl,s1.trans s2,hj⟩
  · rintro σ H1 ⟨v2,v3,rfl,s1,hj⟩
    have hr:(hOf n).right = true:=(right_iff n).mpr fun i hi=>hj i hi
    have hh:=LM.houseOk_of hr
    have hd1:=s1 _ _ hd
    refine st_fldG (a:=d) (C:=t.Desk) (dx:=dx) (fs:=zE4 v0) (fun v H'=>∃ a G,v = .ref a∧zW K t H' a G (Lf.begun (hOf n))∧∀ b o,H1 b = some o→H' b = some o∧G.tag b = 7) (fun Q1 k=>?_) ?_ T.C.k_Desk.c T.C.n_Desk_house (by show 1 < 1000; decide) ?_
    · refine ⟨.ref l,rfl,fun x dx2 nx nd ne=>⟨x,dx2,l,(n 0:Nat),(n 1:Nat),(n 2:Nat),(n 3:Nat),(n 4:Nat),(n 5:Nat),(n 6:Nat),rfl,zF,zG.two nx nd _ _ (s1 _ _ hl),fun H2 hx2 b2=>⟨rfl,fun a da na nda nea=>?_⟩⟩⟩
      have s2:zG H1 H2:=(zG.two nx nd).but b2 nx
      have ax:a ≠ x:=fun z=>by rw [z,hx2] at na; cases na
      have s3:=zG.two (H:=H2) (o:=.ins t.House da []) (u:=.own a) na nda
      refine ⟨a,da,x,hOf n,rfl,zF,⟨dx2,s3 _ _ hx2⟩,hh,ax,fun H3 G A3 fr=>⟨rfl,k _ _ ⟨a,G,rfl,A3,fun b o e=>?_⟩⟩⟩
      exact fr b o (s3 _ _ (s2 _ _ e)) (zM (s2 _ _ e) na)
    · rintro v H2 ⟨a,G,rfl,A2,fr⟩
      exact ⟨zA rfl,(fr d _ hd1).1⟩
    · rintro v H2 H3 ⟨a,G,rfl,A2,fr⟩ s3
      have hd3:=s3 _ _ (fr d _ hd1).1
      have x3:But d H3 (upd H3 d (.ins t.Desk dx (zE4 (.ref a)))):=But.up (zG.refl _)
      have A3:=(A2.same s3).desk x3 hd3 (fr d _ hd1).2
      show tRet _ _ _ (upd H3 d (.ins t.Desk dx (zE4 (.ref a))))
      refine wE (H0:=upd H3 d (.ins t.Desk dx (zE4 (.ref a)))) yH qB (zG.refl _) fun H4 p e s4 hp he=>?_
      exact q1 hr H4 a G p e (s4 _ _ zF) (A3.same s4) (fun b o h=>(fr b o (s1 _ _ h)).2) (fun b o h ne=>s4 _ _ (x3 _ _ ne (s3 _ _ (fr b o (s1 _ _ h)).1))) hp he
def zDV (K:PySem.W.Frag) (t:Adr) (H:Hp) (d:Addr) (Pr:Addr→Prop):Lf.State→Prop
  | none=>∃ dx,H d = some (.ins t.Desk dx (zE4 .non))
  | some S=>∃ dx a G,H d = some (.ins t.Desk dx (zE4 (.ref a)))∧zW K t H a G S∧LM.Good S∧∀ b o,H b = some o→Pr b→G.tag b = 7
theorem zDV.same {H H1:Hp} {d:Addr} {Pr:Addr→Prop} {s:Lf.State} (D:zDV K t H d Pr s) (e:zG H H1) (fr:∀ b,Pr b→∃ o,H b = some o):zDV K t H1 d Pr s:=by
  cases s with
  | none =>
    obtain ⟨dx,h⟩:=D
    exact ⟨dx,e _ _ h⟩
  | some S =>
    obtain ⟨dx,a,G,h,A,gd,tg⟩:=D
    exact ⟨dx,a,G,e _ _ h,A.same e,gd,fun b o hb pb=>by
      obtain ⟨o',h'⟩:=fr b pb
      exact tg b o' h' pb⟩
def sp_Desk_reply (K:PySem.W.Frag) (t:Adr):Sp:=fun vs H Q _=>∃ (d l:Addr) (k:Nat) (nums:List Nat) (s:Lf.State) (Pr:Addr→Prop) (c:Lf.Call),vs = [.ref d,.int k,.ref l]∧zDV K t H d Pr s∧Pr d∧(∀ b,Pr b→∃ o,H b = some o)∧H l = some (.lst (nI nums))∧cOf k nums = some c ∧
  ∀ (H':Hp) (p e:Addr) (z:Int) (ls:List Nat),(Lf.step s c).2 = ⟨z,zBT ls,[]⟩→zDV K t H' d Pr (Lf.step s c).1→(∀ b o,H b = some o→Pr b→b ≠ d→H' b = some o)→H' p = some (.tup [.int z,.ref e])→H' e = some (.lst (nI ls))→Q (.ref p) H'
theorem cOf_1 {nums:List Nat} {c:Lf.Call} (h:cOf 1 nums = some c):∃ n:Nat→Nat,nums = nums7 n∧c = .open_ (n 0) (n 1) (n 2) (n 3) (n 4) (n 5) (n 6):=by
  match nums,h with
  | [a0,a1,a2,a3,a4,a5,a6],h=>exact ⟨fun i=>[a0,a1,a2,a3,a4,a5,a6].getD i 0,rfl,(Option.some.inj h).symm⟩
theorem step_some {S:Lf.Hall} {c:Lf.Call} {k:Nat} {nums:List Nat} (h:cOf k nums = some c) (n1:k ≠ 1) (gd:LM.Good S):∃ S' z ls,Lf.step (some S) c = (some S',⟨z,zBT ls,[]⟩)∧LM.Good S':=by
  unfold cOf at h
  split at h
  · exact absurd rfl n1
  · cases h
    rename_i f g
    by_cases c1:S.house.floors ≤ f∨S.house.floors ≤ g∨f = g
    · refine ⟨S,-1,[],?_,gd⟩
      show (if S.house.floors ≤ f∨S.house.floors ≤ g∨f = g then _ else _) = _
      rw [if_pos c1]
      rfl
    · by_cases c2:Lf.PERSONS ≤ S.persons.length
      · refine ⟨S,-2,[],?_,gd⟩
        show (if S.house.floors ≤ f∨S.house.floors ≤ g∨f = g then _ else if Lf.PERSONS ≤ S.persons.length then _ else _) = _
        rw [if_neg c1,if_pos c2]
        rfl
      · refine ⟨(S.come f g).1,(S.persons.length:Nat),evN (S.come f g).2,?_,LM.come_good gd (by omega) (by omega) (by omega) (by have:¬ 200 ≤ S.persons.length:=c2; omega)⟩
        show (if S.house.floors ≤ f∨S.house.floors ≤ g∨f = g then _ else if Lf.PERSONS ≤ S.persons.length then _ else _) = _
        rw [if_neg c1,if_neg c2]
        rfl
  · cases h
    rename_i n
    by_cases c1:Lf.MOST < n
    · refine ⟨S,-1,[],?_,gd⟩
      show (if Lf.MOST < n then _ else _) = _
      rw [if_pos c1]
      rfl
    · refine ⟨(Lf.Hall.ticks n S).1,((Lf.Hall.ticks n S).2.length:Nat),evN (Lf.Hall.ticks n S).2,?_,LM.zF5 n gd⟩
      show (if Lf.MOST < n then _ else _) = _
      rw [if_neg c1]
      rfl
  · cases h
    rename_i n
    by_cases c1:S.cars.length ≤ n
    · refine ⟨S,-1,[],?_,gd⟩
      show (some S,if S.cars.length ≤ n then _ else _) = _
      rw [if_pos c1]
      rfl
    · refine ⟨S,((S.car n).inside.length:Nat),carN (S.car n),?_,gd⟩
      show (some S,if S.cars.length ≤ n then _ else _) = _
      rw [if_neg c1]
      rfl
  · cases h
    rename_i f g
    by_cases c1:Lf.isCall S f g = false
    · refine ⟨S,-1,[],?_,gd⟩
      show (some S,if Lf.isCall S f g = false then _ else _) = _
      rw [if_pos c1]
      rfl
    · refine ⟨S,((S.waiting f g).length:Nat),S.waiting f g,?_,gd⟩
      show (some S,if Lf.isCall S f g = false then _ else _) = _
      rw [if_neg c1]
      rfl
  · cases h
    rename_i n
    by_cases c1:S.persons.length ≤ n
    · refine ⟨S,-1,[],?_,gd⟩
      show (some S,if S.persons.length ≤ n then _ else _) = _
      rw [if_pos c1]
      rfl
    · refine ⟨S,(if (S.person n).left.isSome = true then 2 else if (S.person n).entered.isSome = true then 1 else 0),[(S.person n).from_,(S.person n).to_] ++ Lf.times (S.person n),?_,gd⟩
      show (some S,if S.persons.length ≤ n then _ else _) = _
      rw [if_neg c1]
      rfl
  · cases h
    rename_i f g
    by_cases c1:Lf.isCall S f g = false
    · refine ⟨S,-1,[],?_,gd⟩
      show (some S,if Lf.isCall S f g = false then _ else _) = _
      rw [if_pos c1]
      rfl
    · by_cases c2:S.given (f,g) = true
      · refine ⟨S,-3,[],?_,gd⟩
        show (some S,if Lf.isCall S f g = false then _ else if S.given (f,g) = true then _ else _) = _
        rw [if_neg c1,if_pos c2]
        rfl
      · refine ⟨S,(S.best (f,g):Nat),(List.range S.cars.length).map fun (i:Nat)=>(S.car i).comes S.house (f,g),?_,gd⟩
        show (some S,if Lf.isCall S f g = false then _ else if S.given (f,g) = true then _ else _) = _
        rw [if_neg c1,if_neg c2]
        rfl
  · cases h
    exact ⟨S,(S.time:Nat),sumsN S,rfl,gd⟩
  · cases h
theorem ok_Desk_reply (T:Txt K mg t):qL P w K mg base CX0 15 t.f_Desk_reply t.d_Desk_reply ["self", "call", "numbers"] (sp_Desk_reply K t):=by
  refine T.M.Desk_reply.F.ok sc_Desk_reply (fun vs H Q E h=>by obtain ⟨_,_,_,_,_,_,_,rfl,_⟩:=h; rfl) (fun cdv A outer s H vs Q E hr h=>?_)
  obtain ⟨d,l,k,nums,s,Pr,c,rfl,DA,pd,fr,hl,hc,q⟩:=h
  refine ⟨_,zC (yX (zQ qJ (pv 1) (yB rfl T.G.i_BUILD) (zY _)) (zH (zO (xT (pv 0) T.C.k_Desk.c T.M.Desk_build.m (ok_Desk_build T) (hr.mono (by decide)) T.M.Desk_build.b .nil yD (zB (pv 2) zE)))) (zU)) (zC (yX (zQ op_isN (zJ (pv 0) rfl) pe_non (zY _)) (zH (zO (xN (zB (yB rfl T.G.i_NO_HOUSE) (zB (xH zE) zE))))) (zU)) (zH (zO (yA (ok_reply_of T) (hr.mono (by decide)) rfl T.D.reply_of.m T.D.reply_of.F.kp T.D.reply_of.b .nil yD (zB (zJ (pv 0) rfl) (zB (pv 1) (zB (pv 2) zE))))))),?_⟩
  refine yK (zP (zCT (n:=1) (zA rfl) yH)) (zG.refl _) (fun H1 s1 e=>?_) (fun H1 s1 e1=>?_)
  · have ek:=of_decide_eq_true e
    subst ek
    obtain ⟨n,rfl,rfl⟩:=cOf_1 hc
    obtain ⟨dx,v0,hd⟩:∃ dx v0,H d = some (.ins t.Desk dx (zE4 v0)):=by
      cases s with
      | none=>obtain ⟨dx,h⟩:=DA; exact ⟨dx,_,h⟩
      | some S=>obtain ⟨dx,a,G,h,_⟩:=DA; exact ⟨dx,_,h⟩
    refine zAM (zA rfl) hd rfl (zD (zA rfl) zN) s1 fun H2 s2=>⟨d,l,dx,v0,n,rfl,s2 _ _ hd,s2 _ _ hl,fun hr H' a G p e h1 h2 h3 h4 h5 h6=>?_,fun hr H' p e h1 h2 h3=>?_⟩
    · have es:Lf.step s (.open_ (n 0) (n 1) (n 2) (n 3) (n 4) (n 5) (n 6)) = (some (Lf.begun (hOf n)),Lf.says 0):=by
        show (if (hOf n).right = true then _ else _) = _
        rw [if_pos hr]
        rfl
      refine q H' p e 0 [] (by rw [es]; rfl) ?_ (fun b o h pb ne=>h4 b o (s2 _ _ h) ne) h5 h6
      rw [es]
      exact ⟨dx,a,G,h1,h2,LM.begun_good (LM.houseOk_of hr),fun b o h pb=>by
        obtain ⟨o',h'⟩:=fr b pb
        exact h3 b o' (s2 _ _ h')⟩
    · have es:Lf.step s (.open_ (n 0) (n 1) (n 2) (n 3) (n 4) (n 5) (n 6)) = (s,Lf.says (-1)):=by
        show (if (hOf n).right = true then _ else _) = _
        rw [if_neg (by rw [hr]; exact Bool.false_ne_true)]
      refine q H' p e (-1) [] (by rw [es]; rfl) ?_ (fun b o h pb ne=>h1 _ _ (s2 _ _ h)) h2 h3
      rw [es]
      exact DA.same (s2.trans h1) fr
  have k1:=of_decide_eq_false e1
  cases s with
  | none =>
    obtain ⟨dx,hd⟩:=id DA
    have es:Lf.step none c = (none,Lf.says (-8)):=by
      unfold cOf at hc
      split at hc
      · exact absurd rfl k1
      all_goals first | (cases hc; rfl) | cases hc
    refine yK (b:=true) (zP (pu_isN (x:=.non) (fun _ _ _ _ h=>h) (zI (zA rfl) (by assumption) T.C.k_Desk.c T.C.n_Desk_house (zE3 _)) yH)) s1 (fun H1 s1 e=>?_) (fun H1 s1 e=>absurd e (by decide))
    refine wE (H0:=H) yH qB s1 fun H2 p e2 s2 hp he=>q H2 p e2 (-8) [] (by rw [es]; rfl) ?_ (fun b o h _ _=>s2 _ _ h) hp he
    rw [es]
    exact ⟨dx,s2 _ _ hd⟩
  | some S =>
    obtain ⟨dx,a,G,hd,A,gd,tg⟩:=id DA
    refine yK (b:=false) (zP (pu_isN (x:=.ref a) (fun _ _ _ _ h=>h) (zI (zA rfl) (by assumption) T.C.k_Desk.c T.C.n_Desk_house (zE3 _)) yH)) s1 (fun H1 s1 e=>absurd e (by decide)) (fun H1 s1 e=>?_)
    refine st_callR (zD (zI (zA rfl) (by assumption) T.C.k_Desk.c T.C.n_Desk_house (zE3 _)) (zD (zA rfl) (zD (zA rfl) zN))) s1 fun H2 s2=>⟨a,l,G,S,k,nums,c,rfl,A.same s2,gd,s2 _ _ hl,k1,hc,fun S' z ls es H' G' p e h1 h2 h3 h4=>?_⟩
    obtain ⟨S2,z2,ls2,es2,gd2⟩:=step_some hc k1 gd
    have eS:S' = S2:=by
      rw [es] at es2
      injection es2 with x1 _
      injection x1
    subst eS
    refine q H' p e z ls (by rw [es]) ?_ (fun b o h pb ne=>h2.1 b o (s2 _ _ h) (.inl (tg b o h pb))) h3 h4
    rw [es]
    exact ⟨dx,a,G',h2.1 d _ (s2 _ _ hd) (.inl (tg d _ hd pd)),h1,gd2,fun b o h pb=>by
      obtain ⟨o',h'⟩:=fr b pb
      exact h2.2 b o' (s2 _ _ h') (tg b o' h' pb)⟩
theorem whole_id (c:List (List Int)):PyWqazcp.whole c = c:=by
  unfold PyWqazcp.whole
  split <;> rfl
def cnt (k:Nat):Nat:=match k with
  | 1=>7 | 2=>2 | 3=>1 | 4=>1 | 5=>2 | 6=>1 | 7=>2 | _=>0
theorem shape_of {p:Int} {x:Nat × Nat} (h:PyWqazcp.shape p = some x):∃ k:Nat,p = (k:Int)∧1 ≤ k∧k ≤ 8∧x = (cnt k,0):=by
  unfold PyWqazcp.shape at h
  split at h
  · rename_i e; cases h; exact ⟨1,e,by decide,by decide,rfl⟩
  split at h
  · rename_i e; cases h; exact ⟨2,e,by decide,by decide,rfl⟩
  split at h
  · rename_i e; cases h; exact ⟨3,e,by decide,by decide,rfl⟩
  split at h
  · rename_i e; cases h; exact ⟨4,e,by decide,by decide,rfl⟩
  split at h
  · rename_i e; cases h; exact ⟨5,e,by decide,by decide,rfl⟩
  split at h
  · rename_i e; cases h; exact ⟨6,e,by decide,by decide,rfl⟩
  split at h
  · rename_i e; cases h; exact ⟨7,e,by decide,by decide,rfl⟩
  split at h
  · rename_i e; cases h; exact ⟨8,e,by decide,by decide,rfl⟩
  · cases h
theorem calls_cons {f:Nat} {p:Int} {r:List Int} {cs:List (List (List Int))} (h:PyFlat.calls PyWqazcp.shape f (p :: r) = some cs) :
    ∃ (k f':Nat) (cs':List (List (List Int))),p = (k:Int)∧1 ≤ k∧k ≤ 8∧cnt k ≤ r.length∧cs = [p :: r.take (cnt k)] :: cs'∧PyFlat.calls PyWqazcp.shape f' (r.drop (cnt k)) = some cs':=by
  cases f with
  | zero=>cases h
  | succ f =>
    unfold PyFlat.calls at h
    split at h
    · cases h
    · rename_i c u hc
      have hc2:(match PyWqazcp.shape p with
        | none=>none
        | some (n,k)=>if r.length < n then none else match PyFlat.rows k (r.drop n) with
          | none=>none
          | some (xs,t)=>some ((p :: r.take n) :: xs,t)) = some (c,u):=hc
      clear hc
      have hc:=hc2
      clear hc2
      split at hc
      · cases hc
      · rename_i n k0 hs
        obtain ⟨k,rfl,k1,k8,e⟩:=shape_of hs
        cases e
        split at hc
        · cases hc
        · rename_i hl
          have e2:PyFlat.rows 0 (r.drop (cnt k)) = some ([],r.drop (cnt k)):=rfl
          rw [e2] at hc
          cases hc
          split at h
          · cases h
          · rename_i cs' hcs
            cases h
            exact ⟨k,f,cs',rfl,k1,k8,by omega,rfl,hcs⟩
theorem w32 {z:Int} (h:LfNeutral.whole32 z = true):z = ((z.toNat:Nat):Int):=by
  unfold LfNeutral.whole32 at h
  rw [Bool.and_eq_true,decide_eq_true_eq,decide_eq_true_eq] at h
  omega
theorem asked_num {k:Nat} {xs:List Int} (h:LfNeutral.asked1 [(k:Int) :: xs] = true):∃ (nums:List Nat) (c:Lf.Call),xs = zBT nums∧cOf k nums = some c∧LfNeutral.callOf [(k:Int) :: xs] = some c:=by
  unfold LfNeutral.asked1 at h
  split at h
  · rename_i f c p o t e r heq
    injection heq with heq _
    injection heq with e1 e2
    have ek:k = 1:=by omega
    subst ek
    subst e2
    simp only [Bool.and_eq_true] at h
    obtain ⟨⟨⟨⟨⟨⟨h1,h2⟩,h3⟩,h4⟩,h5⟩,h6⟩,h7⟩:=h
    exact ⟨[f.toNat,c.toNat,p.toNat,o.toNat,t.toNat,e.toNat,r.toNat],_,by unfold zBT; simp only [List.map_cons,List.map_nil]; rw [← w32 h1,← w32 h2,← w32 h3,← w32 h4,← w32 h5,← w32 h6,← w32 h7],rfl,rfl⟩
  · rename_i f g heq
    injection heq with heq _
    injection heq with e1 e2
    have ek:k = 2:=by omega
    subst ek
    subst e2
    simp only [Bool.and_eq_true] at h
    exact ⟨[f.toNat,g.toNat],_,by unfold zBT; simp only [List.map_cons,List.map_nil]; rw [← w32 h.1,← w32 h.2],rfl,rfl⟩
  · rename_i f heq
    injection heq with heq _
    injection heq with e1 e2
    have ek:k = 3:=by omega
    subst ek
    subst e2
    exact ⟨[f.toNat],_,by unfold zBT; simp only [List.map_cons,List.map_nil]; rw [← w32 h],rfl,rfl⟩
  · rename_i f heq
    injection heq with heq _
    injection heq with e1 e2
    have ek:k = 4:=by omega
    subst ek
    subst e2
    exact ⟨[f.toNat],_,by unfold zBT; simp only [List.map_cons,List.map_nil]; rw [← w32 h],rfl,rfl⟩
  · rename_i f g heq
    injection heq with heq _
    injection heq with e1 e2
    have ek:k = 5:=by omega
    subst ek
    subst e2
    simp only [Bool.and_eq_true] at h
    exact ⟨[f.toNat,g.toNat],_,by unfold zBT; simp only [List.map_cons,List.map_nil]; rw [← w32 h.1,← w32 h.2],rfl,rfl⟩
  · rename_i f heq
    injection heq with heq _
    injection heq with e1 e2
    have ek:k = 6:=by omega
    subst ek
    subst e2
    exact ⟨[f.toNat],_,by unfold zBT; simp only [List.map_cons,List.map_nil]; rw [← w32 h],rfl,rfl⟩
  · rename_i f g heq
    injection heq with heq _
    injection heq with e1 e2
    have ek:k = 7:=by omega
    subst ek
    subst e2
    simp only [Bool.and_eq_true] at h
    exact ⟨[f.toNat,g.toNat],_,by unfold zBT; simp only [List.map_cons,List.map_nil]; rw [← w32 h.1,← w32 h.2],rfl,rfl⟩
  · rename_i heq
    injection heq with heq _
    injection heq with e1 e2
    have ek:k = 8:=by omega
    subst ek
    subst e2
    exact ⟨[],_,rfl,rfl,rfl⟩
  · cases h
theorem play_eq:∀ (cs:List (List (List Int))) (s:Lf.State),LfNeutral.play s cs = PyFlat.played LfNeutral.step s cs
  | [],s=>rfl
  | c :: r,s=>by
    show _ :: LfNeutral.play (LfNeutral.step s c).1 r = _ :: PyFlat.played LfNeutral.step (LfNeutral.step s c).1 r
    rw [play_eq r]
theorem told_len:∀ (l:List (List Int)) (n:Nat),(PyFlat.told l).length + n ≤ l.foldl (fun (n:Nat) (a:List Int)=>n + LfNeutral.sizeOf a) n + 3 * l.length
  | [],n=>by show 0 + n ≤ n + 0; omega
  | a :: l,n=>by
    have ih:=told_len l (n + LfNeutral.sizeOf a)
    show (((a.length:Int) :: a) ++ PyFlat.told l).length + n ≤ List.foldl _ (n + LfNeutral.sizeOf a) l + 3 * (l.length + 1)
    rw [List.length_append,List.length_cons]
    have:a.length ≤ LfNeutral.sizeOf a + 2:=by
      unfold LfNeutral.sizeOf
      split <;> omega
    omega
theorem asked_of {ns:List Int} (h:PyWqazcp.answers_asked ns = true):∃ cs,PyFlat.calls PyWqazcp.shape ns.length ns = some cs∧(∀ c ∈ cs,LfNeutral.asked1 c = true)∧PyWqazcp.answers ns = PyFlat.told (PyFlat.played LfNeutral.step Lf.start cs)∧(PyWqazcp.answers ns).length ≤ 1100000:=by
  unfold PyWqazcp.answers_asked PyWqazcp.calls at h
  cases e:PyFlat.calls PyWqazcp.shape ns.length ns with
  | none =>
    rw [e] at h
    cases h
  | some cs =>
    rw [e] at h
    have ew:cs.map PyWqazcp.whole = cs:=by
      have:(PyWqazcp.whole:List (List Int)→List (List Int)) = id:=funext whole_id
      rw [this,List.map_id]
    simp only [ew] at h
    rw [Bool.and_eq_true] at h
    have h2:=h.2
    unfold LfNeutral.asked at h2
    simp only [Bool.and_eq_true,decide_eq_true_eq,List.all_eq_true] at h2
    have ea:PyWqazcp.answers ns = PyFlat.told (PyFlat.played LfNeutral.step Lf.start cs):=by
      unfold PyWqazcp.answers PyWqazcp.calls
      rw [e]
      simp only [ew]
      rfl
    refine ⟨cs,rfl,h2.1.1.1,ea,?_⟩
    rw [ea]
    have hp:=h2.2
    rw [play_eq] at hp
    have hl:=told_len (PyFlat.played LfNeutral.step LfNeutral.start cs) 0
    have hn:∀ (cs:List (List (List Int))) (s:Lf.State),(PyFlat.played LfNeutral.step s cs).length = cs.length:=by
      intro cs
      induction cs with
      | nil=>intro s; rfl
      | cons c r ih=>intro s; show (PyFlat.played LfNeutral.step _ r).length + 1 = r.length + 1; rw [ih]
    rw [hn] at hl
    have h4:=h2.1.2
    show (PyFlat.told (PyFlat.played LfNeutral.step LfNeutral.start cs)).length ≤ _
    omega
theorem flat_told {s s':Lf.State} {k:Nat} {xs:List Int} {c:Lf.Call} {z:Int} {ls:List Nat} (hc:LfNeutral.callOf [(k:Int) :: xs] = some c) (hs:(Lf.step s c).2 = ⟨z,zBT ls,[]⟩) :
    (LfNeutral.step s [(k:Int) :: xs]).1 = (Lf.step s c).1∧(((LfNeutral.step s [(k:Int) :: xs]).2.length:Int) :: (LfNeutral.step s [(k:Int) :: xs]).2).map V.int = toldV z ls:=by
  have e:LfNeutral.step s [(k:Int) :: xs] = ((Lf.step s c).1,NLines.flat z (zBT ls) []):=by
    unfold LfNeutral.step
    rw [hc]
    show ((Lf.step s c).1,NLines.flat (Lf.step s c).2.ret (Lf.step s c).2.nums _) = _
    rw [hs]
    rfl
  rw [e]
  refine ⟨rfl,?_⟩
  show (((NLines.flat z (zBT ls) []).length:Int) :: NLines.flat z (zBT ls) []).map V.int = toldV z ls
  cases ls with
  | nil=>rfl
  | cons n ls =>
    have e1:NLines.flat z (zBT (n :: ls)) [] = z :: ((zBT (n :: ls)).length:Int) :: (zBT (n :: ls) ++ [(0:Int)]):=by
      unfold NLines.flat
      rw [if_neg (fun h=>by cases h.1)]
      rfl
    have e2:toldV z (n :: ls) = [.int (((n :: ls).length:Int) + 3),.int z,.int ((n :: ls).length:Int)] ++ nI (n :: ls) ++ [.int 0]:=rfl
    have e3:(zBT (n :: ls)).length = (n :: ls).length:=List.length_map _
    have e4:(zBT (n :: ls)).map V.int = nI (n :: ls):=(zE0 _).symm
    rw [e1,e2]
    simp only [List.map_cons,List.map_append,List.length_cons,List.length_append,e3,e4,List.map_nil,List.length_nil]
    simp only [List.cons_append,List.nil_append,List.cons.injEq,V.int.injEq,and_true,true_and]
    omega
section
variable {K:PySem.W.Frag} {σ:L2.St} {H0 H:Hp} {te tl th ta tb tc tsl:TE} {r:TS} {D:zC4}
theorem pu_lenS {rr:List V→Hp→VK→Prop} {t:TA} {p:Addr} {ys:List V} {n:Nat} (hr:∀ xs H Q,(∃ p ys,xs = [V.ref p]∧(SqL K H p ys∨SqT K H p ys)∧Q (.int ys.length) H)→rr xs H Q) (ha:PuA t σ H0 [.ref p]) (h:SqL K H0 p ys) (e:ys.length = n):PuE (tCB rr t) σ H0 (.int (n:Int)):=fun H Q s q =>
  ha H _ s fun H1 s1=>hr _ _ _ ⟨p,ys,rfl,.inl (zG.seq s1 (zG.seq s h)),by rw [e]; exact q H1 s1⟩
theorem pu_ixS {p:Addr} {xs:List V} {n:Nat} {v:V} (ha:PuE ta σ H0 (.ref p)) (hb:PuE tb σ H0 (.int (n:Int))) (h:SqL K H0 p xs) (hx:xs[n]? = some v):PuE (tOp (rIxL K) ta tb) σ H0 v:=fun H Q s q =>
  ha H _ s fun H1 s1=>hb H1 _ (s.trans s1) fun H2 s2=>⟨p,xs,_,v,rfl,rfl,zG.seq ((s.trans s1).trans s2) h,at_of rfl hx,q H2 (s1.trans s2)⟩
theorem nw_cutS {q:Addr} {xs:List V} {lo hi:Int} (h:PuE te σ H0 (.ref q)) (hl:PuE tl σ H0 (.int lo)) (hh:PuE th σ H0 (.int hi)) (hq:SqL K H0 q xs):NwE (tSl (rSlL K) te (tPart tl) (tPart th)) σ H0 (cutV xs (some lo) (some hi)):=fun H Q s k =>
  h H _ s fun H1 s1=>hl H1 _ (s.trans s1) fun H2 s2=>⟨lo,rfl,hh H2 _ ((s.trans s1).trans s2) fun H3 s3=>⟨hi,rfl,q,xs,rfl,zG.seq (((s.trans s1).trans s2).trans s3) hq,fun p hp=>k _ p (((s1.trans s2).trans s3).trans (zG.new hp)) (((s1.trans s2).trans s3).free hp) zF⟩⟩
theorem cut_mid (xs:List V) (n m:Nat) (h:n + m ≤ xs.length):cutV xs (some (n:Int)) (some ((n + m:Nat):Int)) = (xs.drop n).take m:=by
  unfold cutV
  rw [HT.sIx_nat,HT.sIx_nat,Nat.min_eq_left h,Nat.min_eq_left (by omega),Nat.add_sub_cancel_left]
theorem PuE.to {v v':V} (h:PuE ta σ H0 v) (e:v = v'):PuE ta σ H0 v':=e ▸ h
theorem st_setE {i:Nat} {v:V} (h:PuE ta σ H0 v) (s:zG H0 H) (q:∀ H',zG H0 H'→D.nx (σ.set i (some v)) H'):tAsg ta (zA7 i) D σ H:=h H _ s fun H1 s1=>q H1 (s.trans s1)
theorem st_tell {l d C dx:Addr} {fs:List (Str × V)} {m:Str} {spR spT:Sp} {xs ys:List V} {v:V} (hl:PuE te σ H0 (.ref l)) (hx:H0 l = some (.lst xs)) (ho:PuE ta σ H0 (.ref d)) (hi:H0 d = some (.ins C dx fs)) (hm:fs.lookup m = none) (hc:PuE tc σ H0 v) (hs:NwE tsl σ H0 ys) (s:zG H0 H)
    (h:∀ H' p,zG H0 H'→H' p = some (.lst ys)→spR [.ref d,v,.ref p] H' (fun v2 H2=>spT [v2] H2 (fun v3 H3=>zDI (.ref l) [v3] H3 fun _ H4=>r D σ H4) E0) E0) :
    zBW (zC0 (tBM K "list" zDI te (yW (zC6 spT [] E0 (yW (zEN C m spR [] E0 ta (yW tc (yW tsl zAG))) zAG)) zAG))) r D σ H :=
  hl H _ s fun H1 s1=>⟨.inl ⟨rfl,_,SqL.of (s1 _ _ (s _ _ hx))⟩,ho H1 _ (s.trans s1) fun H2 s2=>⟨d,dx,fs,rfl,s2 _ _ (s1 _ _ (s _ _ hi)),hm,hc H2 _ ((s.trans s1).trans s2) fun H3 s3=>hs H3 _ (((s.trans s1).trans s2).trans s3) fun H4 p s4 n4 hp=>h H4 p ((((s.trans s1).trans s2).trans s3).trans s4) hp⟩⟩
end
theorem zDV.put {H:Hp} {d l:Addr} {Pr:Addr→Prop} {s:Lf.State} {xs ys:List V} (A:zDV K t H d Pr s) (hl:H l = some (.lst xs)) (pl:Pr l) (fr:∀ b,Pr b→∃ o,H b = some o):zDV K t (upd H l (.lst ys)) d Pr s:=by
  cases s with
  | none =>
    obtain ⟨dx,h⟩:=A
    exact ⟨dx,by rw [zV (jC h hl (by intro z; cases z))]; exact h⟩
  | some S =>
    obtain ⟨dx,a,G,h,B,gd,tg⟩:=A
    refine ⟨dx,a,G,by rw [zV (jC h hl (by intro z; cases z))]; exact h,(B.hw.lst hl (zG.refl _) (.inl (tg l _ hl pl))).at rfl,gd,fun b o hb pb=>?_⟩
    obtain ⟨o',h'⟩:=fr b pb
    exact tg b o' h' pb
theorem zDV.obj {H:Hp} {d:Addr} {Pr:Addr→Prop} {s:Lf.State} (A:zDV K t H d Pr s):∃ dx v,H d = some (.ins t.Desk dx (zE4 v)):=by
  cases s with
  | none=>obtain ⟨dx,h⟩:=A; exact ⟨dx,_,h⟩
  | some S=>obtain ⟨dx,a,G,h,_⟩:=A; exact ⟨dx,_,h⟩
def cntV:List V:=[.int 0,.int 7,.int 2,.int 1,.int 1,.int 2,.int 1,.int 2,.int 0]
theorem cnt_at {k:Nat} (h1:1 ≤ k) (h8:k ≤ 8):cntV[k]? = some (.int (cnt k:Nat)):=by
  match k,h1,h8 with
  | 1,_,_=>rfl
  | 2,_,_=>rfl
  | 3,_,_=>rfl
  | 4,_,_=>rfl
  | 5,_,_=>rfl
  | 6,_,_=>rfl
  | 7,_,_=>rfl
  | 8,_,_=>rfl
def sp_answers (K:PySem.W.Frag) (t:Adr):Sp:=fun vs H Q _=>∃ (a:Addr) (ns:List Int),vs = [.ref a]∧SqL K H a (ns.map V.int)∧PyWqazcp.answers_asked ns = true∧∀ (H':Hp) (p:Addr),H' p = some (.lst ((PyWqazcp.answers ns).map V.int))→Q (.ref p) H'
theorem ok_answers (T:Txt K mg t):qL P w K mg base CX0 16 t.f_answers t.d_answers ["calls"] (sp_answers K t):=by
  refine T.D.answers.F.ok wM (fun vs H Q E h=>by obtain ⟨_,_,rfl,_⟩:=h; rfl) (fun cdv A outer s H vs Q E hr h=>?_)
  obtain ⟨a,ns,rfl,hS,ask,q⟩:=h
  obtain ⟨cs0,hcs,hall,ea,hlen⟩:=asked_of ask
  refine ⟨_,zC (yG (i:=1) wM.nd rfl (by first | exact Or.inl rfl | exact Or.inr rfl) (pe_make0 T.C.k_Desk.mm (ok_Desk_init T) (hr.mono (by decide)) rfl T.C.k_Desk.g T.C.k_Desk.b .nil yD)) (zC (yG (i:=2) wM.nd rfl (by first | exact Or.inl rfl | exact Or.inr rfl) (xH zE)) (zC (yG (i:=3) wM.nd rfl (by first | exact Or.inl rfl | exact Or.inr rfl) yC) (zC (ps_while PassesOwn.never (zQ op_lt (pv 3) (yJ zZ rfl T.G.z_len PySem.boot_len (zB (pv 0) zE)) (zY _)) (zC (yG (i:=4) wM.nd rfl (by first | exact Or.inl rfl | exact Or.inr rfl) (qA xF (pv 0) (pv 3) (fun _ _=>rfl))) (zC (yG (i:=5) wM.nd rfl (by first | exact Or.inl rfl | exact Or.inr rfl) (qX zCV (qX zCV (pv 3) yC) (qA zG8 (pe_glob (v:=.ref t.t_ARGUMENT_COUNTS) rfl T.G.t_ARGUMENT_COUNTS rfl) (pv 4) (fun _ _=>rfl)))) (zC (xL (zD6 PySem.F.plainAttrs_list PySem.F.slot_list_extend PySem.F.type_list_extend wY (pv 2) (zB (yA (ok_told_of T) (hr.mono (by decide)) rfl T.D.told_of.m T.D.told_of.F.kp T.D.told_of.b .nil yD (zB (xT (pv 1) T.C.k_Desk.c T.M.Desk_reply.m (ok_Desk_reply T) (hr.mono (by decide)) T.M.Desk_reply.b .nil yD (zB (pv 4) (zB (pe_slice sl_list (pv 0) (po_some (qX zCV (pv 3) yC)) (po_some (pv 5))) zE))) zE)) zE))) (zH (yG (i:=3) wM.nd rfl (by first | exact Or.inl rfl | exact Or.inr rfl) (pv 5))))))) (zH (zO (pv 2)))))),?_⟩
  refine st_makeV zN (zG.refl _) fun H1 d dx s1 nd ndx ne=>⟨d,dx,rfl,zF,fun H2 hd2 b2=>⟨rfl,?_⟩⟩
  have s2:zG H H2:=s1.trans ((zG.two nd ndx).but b2 nd)
  have nd0:H d = none:=s1.free nd
  refine zBJ (H0:=H2) qB (zG.refl _) fun H3 l s3 nl hl3=>?_
  refine xY (H0:=H3) yH (zG.refl _) fun H4 s4=>?_
  have nl0:H l = none:=s2.free nl
  have sH:zG H H4:=(s2.trans s3).trans s4
  refine st_whileM (fun m σ H'=>∃ (i:Nat) (s:Lf.State) (tl:List Int) (f:Nat) (cs:List (List (List Int))) (v4 v5:Option V),m = ns.length - i∧i ≤ ns.length∧σ = [some (.ref a),some (.ref d),some (.ref l),some (.int (i:Nat)),v4,v5]∧zG H H'∧H' l = some (.lst (tl.map V.int))∧zDV K t H' d (fun b=>b = d∨b = l∨H b ≠ none) s∧PyFlat.calls PyWqazcp.shape f (ns.drop i) = some cs∧(∀ c ∈ cs,LfNeutral.asked1 c = true)∧tl ++ PyFlat.told (PyFlat.played LfNeutral.step s cs) = PyWqazcp.answers ns) ?_ ?_ ?_
  · exact ⟨_,0,none,[],ns.length,cs0,none,none,rfl,Nat.zero_le _,rfl,sH,s4 _ _ hl3,⟨dx,s4 _ _ (s3 _ _ hd2)⟩,hcs,hall,ea.symm⟩
  · rintro m σ B ⟨i,s,tl,f,cs,v4,v5,rfl,hi,rfl,sB,hl,DA,hc,ha,hq⟩
    refine zP (b:=decide ((i:Int) < (ns.length:Int))) (jN (zA rfl) (pu_lenS (n:=ns.length) (fun _ _ _ h=>h) (zD (zA rfl) zN) (zG.seq sB hS) (List.length_map _))) B _ (zG.refl _) fun B1 s1=>?_
    refine ite2 (fun e1=>?_) (fun e1=>?_)
    · have lt:i < ns.length:=by have:=of_decide_eq_true e1; omega
      have ed:ns.drop i = ns[i] :: ns.drop (i + 1):=List.drop_eq_getElem_cons lt
      rw [ed] at hc
      obtain ⟨k,f',cs',ek,k1,k8,hn,rfl,hc'⟩:=calls_cons hc
      obtain ⟨nums,c,exs,hcOf,hcall⟩:=asked_num (k:=k) (xs:=(ns.drop (i + 1)).take (cnt k)) (by rw [← ek]; exact ha _ List.mem_cons_self)
      rw [List.length_drop] at hn
      have hS1:SqL K B1 a (ns.map V.int):=zG.seq s1 (zG.seq sB hS)
      refine xY (H0:=B1) (v:=.int (k:Nat)) (pu_ixS (n:=i) (zA rfl) (zA rfl) hS1 (by rw [List.getElem?_map,List.getElem?_eq_getElem lt,ek]; rfl)) (zG.refl _) fun B2 s2=>?_
      refine xY (H0:=B2) (v:=.int ((i + 1 + cnt k:Nat):Int)) ?_ (zG.refl _) fun B3 s3=>?_
      · refine PuE.to (v:=.int ((i:Int) + 1 + (cnt k:Nat))) ?_ (congrArg V.int (by omega))
        exact jN (jN (zA rfl) yH) (zG0 (n:=k) yH (zA rfl) (TupK.sq T.G.q_ARGUMENT_COUNTS) rfl (cnt_at k1 k8))
      have s03:zG B B3:=(s1.trans s2).trans s3
      have fr3:∀ b,(b = d∨b = l∨H b ≠ none)→∃ o,B3 b = some o:=by
        rintro b (rfl | rfl | hb)
        · obtain ⟨dx,v,h⟩:=DA.obj
          exact ⟨_,s03 _ _ h⟩
        · exact ⟨_,s03 _ _ hl⟩
        · cases e:H b with
          | none=>exact absurd e hb
          | some o=>exact ⟨o,s03 _ _ (sB _ _ e)⟩
      have frB:∀ b,(b = d∨b = l∨H b ≠ none)→∃ o,B b = some o:=by
        rintro b (rfl | rfl | hb)
        · obtain ⟨dx,v,h⟩:=DA.obj
          exact ⟨_,h⟩
        · exact ⟨_,hl⟩
        · cases e:H b with
          | none=>exact absurd e hb
          | some o=>exact ⟨o,sB _ _ e⟩
      have DA3:=DA.same s03 frB
      obtain ⟨dx3,v3,hd3⟩:=DA3.obj
      have hl3:=s03 _ _ hl
      have ecut:cutV (ns.map V.int) (some ((i + 1:Nat):Int)) (some ((i + 1 + cnt k:Nat):Int)) = nI nums:=by
        rw [cut_mid _ _ _ (by rw [List.length_map]; omega),← List.map_drop,← List.map_take,exs,zE0]
        rfl
      have nw:NwE (tSl (rSlL K) (zD4 0) (tPart (tOp (rI0 fun i j=>V.int (i + j)) (zD4 3) (tC (V.int 1)))) (tPart (zD4 5))) [some (V.ref a),some (.ref d),some (.ref l),some (.int (i:Nat)),some (.int (k:Nat)),some (.int ((i + 1 + cnt k:Nat):Int))] B3 (nI nums):=by
        rw [← ecut]
        exact nw_cutS (zA rfl) (PuE.to (v:=.int ((i:Int) + 1)) (jN (zA rfl) yH) (congrArg V.int (by omega))) (zA rfl) (zG.seq s03 (zG.seq sB hS))
      refine st_tell (H0:=B3) (zA rfl) hl3 (zA rfl) hd3 rfl (zA rfl) nw (zG.refl _) fun B4 p s4 hp=>⟨d,p,k,nums,s,fun b=>b = d∨b = l∨H b ≠ none,c,rfl,DA3.same s4 fr3,.inl rfl,fun b pb=>?_,hp,hcOf,fun B5 p5 e5 z ls hz D5 k5 hp5 he5=>?_⟩
      · obtain ⟨o,h⟩:=fr3 b pb
        exact ⟨o,s4 _ _ h⟩
      obtain ⟨es,et⟩:=flat_told (s:=s) (s':=s) hcall hz
      have hq2:tl ++ (((LfNeutral.step s [(k:Int) :: (ns.drop (i + 1)).take (cnt k)]).2.length:Int) :: (LfNeutral.step s [(k:Int) :: (ns.drop (i + 1)).take (cnt k)]).2 ++ PyFlat.told (PyFlat.played LfNeutral.step (Lf.step s c).1 cs')) = PyWqazcp.answers ns:=by
        rw [← es,← hq,ek]
        rfl
      generalize LfNeutral.step s [(k:Int) :: (ns.drop (i + 1)).take (cnt k)] = R at es et hq2
      have ln:=congrArg List.length hq2
      have lt2:=congrArg List.length et
      rw [List.length_append,List.length_append] at ln
      rw [List.length_map] at lt2
      have tv:ls.length ≤ (toldV z ls).length:=by
        unfold toldV
        split
        · omega
        · rw [List.length_append,List.length_append,zR]
          omega
      refine ⟨p5,e5,z,ls,rfl,hp5,he5,by omega,fun B6 r6 s6 n6 hr6=>?_⟩
      have hdl:l ≠ d:=by
        intro z
        rw [z,hd3] at hl3
        cases hl3
      have hl5:B5 l = some (.lst (tl.map V.int)):=k5 l _ (s4 _ _ hl3) (.inr (.inl rfl)) hdl
      have hl6:=s6 _ _ hl5
      have fr5:∀ b,(b = d∨b = l∨H b ≠ none)→∃ o,B5 b = some o:=by
        intro b pb
        by_cases e:b = d
        · subst e
          obtain ⟨dx,v,h⟩:=D5.obj
          exact ⟨_,h⟩
        · obtain ⟨o,h⟩:=fr3 b pb
          exact ⟨o,k5 b o (s4 _ _ h) pb e⟩
      have fr6:∀ b,(b = d∨b = l∨H b ≠ none)→∃ o,B6 b = some o:=fun b pb=>by
        obtain ⟨o,h⟩:=fr5 b pb
        exact ⟨o,s6 _ _ h⟩
      refine ⟨l,r6,_,_,rfl,rfl,hl6,hr6,?_,?_⟩
      · rw [sizeLine_eq,List.length_map]
        omega
      refine st_setE (H0:=upd B6 l (.lst (tl.map V.int ++ toldV z ls))) (zA rfl) (zG.refl _) fun B7 s7=>?_
      refine ⟨ns.length - (i + 1 + cnt k),by omega,i + 1 + cnt k,(Lf.step s c).1,tl ++ ((R.2.length:Int) :: R.2),f',cs',_,_,rfl,by omega,rfl,?_,?_,?_,?_,fun c' hc'=>ha c' (List.mem_cons_of_mem _ hc'),?_⟩
      · intro b o e
        refine s7 _ _ ?_
        have bl:b ≠ l:=zM e nl0
        rw [zV bl]
        exact s6 _ _ (k5 b o (s4 _ _ (s03 _ _ (sB _ _ e))) (.inr (.inr (by rw [e]; exact fun z=>by cases z))) (zM e nd0))
      · rw [s7 _ _ zF,List.map_append,et]
      · refine ((D5.same s6 fr5).put hl6 (.inr (.inl rfl)) fr6).same s7 ?_
        intro b pb
        by_cases e:b = l
        · exact ⟨_,by rw [e]; exact zF⟩
        · obtain ⟨o,h⟩:=fr6 b pb
          exact ⟨o,by rw [zV e]; exact h⟩
      · rw [List.drop_drop] at hc'
        exact hc'
      · rw [← hq2,List.append_assoc]
    · have ge:i = ns.length:=by
        have:¬ ((i:Int) < (ns.length:Int)):=fun z=>e1 (decide_eq_true z)
        omega
      subst ge
      rw [List.drop_length] at hc
      have ec:cs = []:=by
        cases f <;> (cases hc; rfl)
      subst ec
      have eq:tl = PyWqazcp.answers ns:=by
        rw [← hq]
        exact (List.append_nil _).symm
      subst eq
      exact yF (H0:=B1) (zA rfl) (zG.refl _) fun B2 s2=>q B2 l (s2 _ _ (s1 _ _ hl))
  · rintro σ B Q1 Q2 hQ ⟨v,h1,v2,h2,p,ys,h3,h4,i,j,h5,h6,kk,h7,h8⟩
    exact ⟨v,h1,v2,h2,p,ys,h3,h4,i,j,h5,h6,kk,h7,hQ _ _ h8⟩
section
variable {K:PySem.W.Frag} {h:Heap} {mg:Str→Option Value} {x qual:Str} {st:Stmt} {ps:List Str} {f C a c T:Addr} {oc kV doc pm cdv ct:Value} {od an:Option Addr} {osl:Array (Option Value)}
theorem def_mk (KX:K.In h) (G:h.Ns mainGlobals mg) (ha:PySem.W.nsIn K mainGlobals x = some (some (.ref f))) (hl:K.lookup f = some ⟨oc,od,.func (PySem.W.fnOf x x (qC st) (jR st) (zK st) .none kV doc pm an cdv ct),osl⟩) (hc:PySem.W.codeIn K cdv x = true) (hk:PySem.W.keepIn K (.ref f) = true)
    (hb:∀ (kV doc pm:Value) (an:Option Addr) (cdv ct:Value) (us:List Value),us.length = ps.length→bindArgs (PySem.W.fnOf x x (qC st) (jR st) (zK st) .none kV doc pm an cdv ct) ⟨us,[]⟩ = pure (ps.zip us)):∃ f fd,qF K mg x st ps f fd :=
  ⟨f,_,zEJ hl hc hk,PySem.W.mg_of KX G ha,(zEJ (st:=st) hl hc hk).binds hb⟩
theorem def_mkA (KX:K.In h) (G:h.Ns mainGlobals mg) (ha:PySem.W.nsIn K mainGlobals x = some (some (.ref f))) (hl:K.lookup f = some ⟨oc,od,.func (PySem.W.fnOf x x (qC st) (jR st) (zK st) .none kV doc pm an cdv ct),osl⟩) (hc:PySem.W.codeIn K cdv x = true) (hk:PySem.W.keepIn K (.ref f) = true)
    (hb:∀ (kV doc pm:Value) (an:Option Addr) (cdv ct:Value) (us:List Value),us.length = ps.length→bindArgs (PySem.W.fnOf x x (qC st) (jR st) (zK st) .none kV doc pm an cdv ct) ⟨us,[]⟩ = pure (ps.zip us)) :
    ∃ f fd,qF K mg x st ps f fd∧∀ (s:Shared) (us:List Value),us.length = ps.length→BindsTo s fd ⟨us,[]⟩ (ps.zip us) :=
  ⟨f,_,⟨zEJ hl hc hk,PySem.W.mg_of KX G ha,(zEJ (st:=st) hl hc hk).binds hb⟩,fun s us hu=>.of_eq (hb _ _ _ _ _ _ us hu)⟩
theorem def_mkC (KX:K.In h) (G:h.Ns mainGlobals mg) (ha:PySem.W.nsIn K mainGlobals x = some (some (.ref f))) (hl:K.lookup f = some ⟨oc,od,.func (PySem.W.fnOf x x (qC st) (jR st) (zK st) .none kV doc pm an (.ref c) ct),osl⟩) (hc:PySem.W.codeIn K (.ref c) x = true) (hk:PySem.W.keepIn K (.ref f) = true) (he:PySem.W.codeHdIn K c T = true) (hn:K.lookup T = none)
    (hb:∀ (kV doc pm:Value) (an:Option Addr) (cdv ct:Value) (us:List Value),us.length = ps.length→bindArgs (PySem.W.fnOf x x (qC st) (jR st) (zK st) .none kV doc pm an cdv ct) ⟨us,[]⟩ = pure (ps.zip us)) :
    ∃ f fd c,qF K mg x st ps f fd∧fd.code = .ref c∧PySem.W.codeHdIn K c T = true∧K.lookup T = none∧∃ o,K.lookup f = some o∧o.data = .func fd :=
  ⟨f,_,c,⟨zEJ hl hc hk,PySem.W.mg_of KX G ha,(zEJ (st:=st) hl hc hk).binds hb⟩,rfl,he,hn,_,hl,rfl⟩
theorem kls_mk (KX:K.In h) (G:h.Ns mainGlobals mg) (ha:PySem.W.nsIn K mainGlobals x = some (some (.ref C))) (pg:PySem.W.plainGet K C Str.empty = true) (hd:PySem.W.hasDictIn K C = true) (po:PySem.W.plainOver K C = true) (sa:PySem.W.findIn K (.ref C) "__setattr__" = some (some (.builtin "object.__setattr__"))) (mk:PySem.W.makesIn K C = true)
    (hi:PySem.W.findIn K (.ref C) "__init__" = some (some (.ref f))) (fn:PySem.W.isFn K (.ref f) = true) (kc:PySem.W.keepIn K (.ref C) = true) (hl:K.lookup f = some ⟨oc,od,.func (PySem.W.fnOf "__init__" qual (qC st) (jR st) (zK st) .none kV doc pm an cdv ct),osl⟩) (hc:PySem.W.codeIn K cdv qual = true) (hk:PySem.W.keepIn K (.ref f) = true)
    (hb:∀ (kV doc pm:Value) (an:Option Addr) (cdv ct:Value) (us:List Value),us.length = ps.length→bindArgs (PySem.W.fnOf "__init__" qual (qC st) (jR st) (zK st) .none kV doc pm an cdv ct) ⟨us,[]⟩ = pure (ps.zip us)):∃ f fd,KlsAt K mg x C f st ps fd qual :=
  ⟨f,_,⟨pg,hd,po,sa⟩,PySem.W.mg_of KX G ha,⟨mk,hi,fn,kc⟩,zEJ hl hc hk,(zEJ (st:=st) hl hc hk).binds hb⟩
theorem meth_mk (KX:K.In h) (ha:PySem.W.findIn K (.ref C) x = some (some (.ref f))) (fn:PySem.W.isFn K (.ref f) = true) (hl:K.lookup f = some ⟨oc,od,.func (PySem.W.fnOf x qual (qC st) (jR st) (zK st) .none kV doc pm an cdv ct),osl⟩) (hc:PySem.W.codeIn K cdv qual = true) (hk:PySem.W.keepIn K (.ref f) = true)
    (hb:∀ (kV doc pm:Value) (an:Option Addr) (cdv ct:Value) (us:List Value),us.length = ps.length→bindArgs (PySem.W.fnOf x qual (qC st) (jR st) (zK st) .none kV doc pm an cdv ct) ⟨us,[]⟩ = pure (ps.zip us)):∃ f fd,qM K C x qual st ps f fd :=
  ⟨f,_,zEJ hl hc hk,⟨ha,fn,hk⟩,(zEJ (st:=st) hl hc hk).binds hb⟩
theorem int_mk {i:Int} {k:Tok} (KX:K.In h) (G:h.Ns mainGlobals mg) (ha:PySem.W.nsIn K mainGlobals x = some (some (.int i k))):∃ k,mg x = some (.int i k):=⟨k,PySem.W.mg_of KX G ha⟩
theorem ref_mk (KX:K.In h) (G:h.Ns mainGlobals mg) (ha:PySem.W.nsIn K mainGlobals x = some (some (.ref a))):mg x = some (.ref a):=PySem.W.mg_of KX G ha
theorem zCL (KX:K.In h) (G:h.Ns mainGlobals mg) (ha:PySem.W.nsIn K mainGlobals x = some none):mg x = none:=PySem.W.mg_none_of KX G ha
theorem zFB {its:Array Value} {n:Nat} {xs:List V} (KX:K.In h) (hl:K.lookup a = some ⟨.type "tuple", od,.seq its n,osl⟩) (hz:its.size ≤ sizeLine) (hv:jS xs its.toList):TupK K a xs:=⟨_,its,n,hl,rfl,rfl,hz,hv⟩
end
def spA (K:PySem.W.Frag):Sp:=fun vs H Q _=>∃ (a:Addr) (ns:List Int),vs = [.ref a]∧SqL K H a (ns.map V.int)∧PyWqazcp.answers_asked ns = true∧∀ (H':Hp) (p:Addr),H' p = some (.lst ((PyWqazcp.answers ns).map V.int))→Q (.ref p) H'
theorem ok_spA {P:Program} {w:World} {K:PySem.W.Frag} {mg:Str→Option Value} {base:Heap} {t:Adr} (T:Txt K mg t):qL P w K mg base CX0 16 t.f_answers t.d_answers ["calls"] (spA K):=ok_answers T
end LL
set_option maxHeartbeats 2000000
namespace LL
open PySem PySem.Spec PyProof.Rows L2 LX
def kf (s:PySem.W.SharedT) (as:List Addr):PySem.W.Frag:=as.filterMap fun a=>match Nat.blt a s.n with
  | true=>(match s.tree.get a with
    | some o=>(PySem.W.alive o).map (a,·)
    | none=>none)
  | false=>none
theorem kf_in {s:PySem.W.SharedT} {a:Addr} {o:Obj}:∀ {as:List Addr},(kf s as).lookup a = some o→s.abs.heap.get? a = some o
  | [],h=>by cases h
  | b :: as,h=>by
    unfold kf at h
    rw [List.filterMap_cons] at h
    cases e1:Nat.blt b s.n with
    | false=>rw [e1] at h; exact kf_in h
    | true =>
      rw [e1] at h
      cases e2:s.tree.get b with
      | none=>rw [e2] at h; exact kf_in h
      | some u =>
        rw [e2] at h
        dsimp only at h
        cases e3:PySem.W.alive u with
        | none=>rw [e3] at h; exact kf_in h
        | some v =>
          rw [e3] at h
          simp only [Option.map_some,List.lookup] at h
          split at h
          · rename_i q
            cases h
            rw [beq_iff_eq.mp q]
            exact (PySem.W.abs_get (Nat.le_of_ble_eq_true e1) e2).trans e3
          · exact kf_in h
def adr (v:Option (Option Value)):Addr:=match v with | some (some (.ref f))=>f | _=>0
def fK (o:Obj):FuncData:=match o.data with | .func d=>d | _=>default
def vK (K:PySem.W.Frag) (C:Option Addr) (x:Str):Option (Option Value):=match C with | none=>PySem.W.nsIn K mainGlobals x | some C=>PySem.W.findIn K (.ref C) x
abbrev FnL:=List (Option Addr × Str × Str × Stmt)
def seeF (K:PySem.W.Frag) (e:Option Addr × Str × Str × Stmt):Option (Option Value) × Option Obj × Bool × Bool × Bool :=
  (vK K e.1 e.2.1,K.lookup (adr (vK K e.1 e.2.1)),PySem.W.isFn K (.ref (adr (vK K e.1 e.2.1))),PySem.W.codeIn K (fK ((K.lookup (adr (vK K e.1 e.2.1))).getD default)).code e.2.2.1,PySem.W.keepIn K (.ref (adr (vK K e.1 e.2.1))))
def fnE (o:Obj) (x qual:Str) (st:Stmt):Obj:=⟨o.cls,o.dict,.func (PySem.W.fnOf x qual (qC st) (jR st) (zK st) .none (fK o).kwdefaults (fK o).doc (fK o).pyModule (fK o).annotations (fK o).code (fK o).closureTuple),o.slots⟩
def expF (K:PySem.W.Frag) (e:Option Addr × Str × Str × Stmt):Option (Option Value) × Option Obj × Bool × Bool × Bool :=
  (some (some (.ref (adr (vK K e.1 e.2.1)))),some (fnE ((K.lookup (adr (vK K e.1 e.2.1))).getD default) e.2.1 e.2.2.1 e.2.2.2),true,true,true)
def Sees (K:PySem.W.Frag) (e:Option Addr × Str × Str × Stmt):Prop:=seeF K e = expF K e
theorem zL {α β:Type} {l:List α} {f g:α→β} (h:l.map f = l.map g) (i:Nat) {x:α} (e:l[i]? = some x):f x = g x:=by
  have:=congrArg (fun l=>l[i]?) h
  simpa [e] using this
section
variable {K:PySem.W.Frag} {h:Heap} {mg:Str→Option Value} {x qual:Str} {st:Stmt} {ps:List Str} {C:Addr}
abbrev BindX (x qual:Str) (st:Stmt) (ps:List Str):Prop:=∀ (kV doc pm:Value) (an:Option Addr) (cdv ct:Value) (us:List Value),us.length = ps.length→bindArgs (PySem.W.fnOf x qual (qC st) (jR st) (zK st) .none kV doc pm an cdv ct) ⟨us,[]⟩ = pure (ps.zip us)
theorem Sees.all {c:Option Addr} (s:Sees K (c,x,qual,st)):vK K c x = some (some (.ref (adr (vK K c x))))∧K.lookup (adr (vK K c x)) = some (fnE ((K.lookup (adr (vK K c x))).getD default) x qual st)∧PySem.W.isFn K (.ref (adr (vK K c x))) = true∧PySem.W.codeIn K (fK ((K.lookup (adr (vK K c x))).getD default)).code qual = true∧PySem.W.keepIn K (.ref (adr (vK K c x))) = true:=by
  have s':seeF K (c,x,qual,st) = expF K (c,x,qual,st):=s
  unfold seeF expF at s'
  simpa only [Prod.mk.injEq] using s'
theorem dfE (KX:K.In h) (G:h.Ns mainGlobals mg) (s:Sees K (none,x,x,st)) (hb:BindX x x st ps):∃ f fd,qF K mg x st ps f fd :=
  let ⟨a,l,_,c,k⟩:=s.all; def_mk KX G a l c k hb
theorem dfA (KX:K.In h) (G:h.Ns mainGlobals mg) (s:Sees K (none,x,x,st)) (hb:BindX x x st ps):∃ f fd,qF K mg x st ps f fd∧∀ (s:Shared) (us:List Value),us.length = ps.length→BindsTo s fd ⟨us,[]⟩ (ps.zip us) :=
  let ⟨a,l,_,c,k⟩:=s.all; def_mkA KX G a l c k hb
theorem dfC {c T:Addr} (KX:K.In h) (G:h.Ns mainGlobals mg) (s:Sees K (none,x,x,st)) (e:(fK ((K.lookup (adr (vK K none x))).getD default)).code = .ref c) (he:PySem.W.codeHdIn K c T = true) (hn:K.lookup T = none) (hb:BindX x x st ps) :
    ∃ f fd c,qF K mg x st ps f fd∧fd.code = .ref c∧PySem.W.codeHdIn K c T = true∧K.lookup T = none∧∃ o,K.lookup f = some o∧o.data = .func fd:=by
  obtain ⟨a,l,_,c',k⟩:=s.all
  unfold fnE at l
  rw [e] at l c'
  exact def_mkC KX G a l c' k he hn hb
theorem mtE (KX:K.In h) (s:Sees K (some C,x,qual,st)) (hb:BindX x qual st ps):∃ f fd,qM K C x qual st ps f fd :=
  let ⟨a,l,i,c,k⟩:=s.all; meth_mk KX a i l c k hb
def seeK (K:PySem.W.Frag) (e:Addr × Str):Option (Option Value) × Bool × Bool × Bool × Option (Option Value) × Bool × Bool :=
  (PySem.W.nsIn K mainGlobals e.2,PySem.W.plainGet K e.1 Str.empty,PySem.W.hasDictIn K e.1,PySem.W.plainOver K e.1,PySem.W.findIn K (.ref e.1) "__setattr__", PySem.W.makesIn K e.1,PySem.W.keepIn K (.ref e.1))
def expK (e:Addr × Str):Option (Option Value) × Bool × Bool × Bool × Option (Option Value) × Bool × Bool:=(some (some (.ref e.1)),true,true,true,some (some (.builtin "object.__setattr__")),true,true)
theorem klE (KX:K.In h) (G:h.Ns mainGlobals mg) (k:seeK K (C,x) = expK (C,x)) (s:Sees K (some C, "__init__", qual,st)) (hb:BindX "__init__" qual st ps):∃ f fd,KlsAt K mg x C f st ps fd qual:=by
  obtain ⟨a,l,i,c,kk⟩:=s.all
  unfold seeK expK at k
  simp only [Prod.mk.injEq] at k
  obtain ⟨k1,k2,k3,k4,k5,k6,k7⟩:=k
  exact kls_mk KX G k1 k2 k3 k4 k5 k6 a i k7 l c kk hb
def tok (v:Option (Option Value)):Tok:=match v with | some (some (.int _ k))=>k | _=>default
theorem inE {i:Int} (KX:K.In h) (G:h.Ns mainGlobals mg) (e:PySem.W.nsIn K mainGlobals x = some (some (.int i (tok (PySem.W.nsIn K mainGlobals x))))):∃ k,mg x = some (.int i k):=int_mk KX G e
end
end LL
namespace L2
open PySem PySem.Spec PyProof.Rows
open PySem.W (WData Codec OpenSpec Well WellAll ReadsW ReadsAllW)
theorem walk_specE {r:OpenSpec} {k:Nat} {q:Program} {loose:List Str} {XP:(Str→Option Value)→Heap→Prop} {YP:World→Heap→Prop} {d:DefRec} {CX:CXT} {ps:List Str} {sp:PySem.W.Frag→Sp}
    (hwell:r.wellSaid = true) (hlen:r.args.length = ps.length) (hr:zB7 k callerA) (hrec:((recsOf q).any fun d=>d.name == ("towards_nearest" : Str)) = true)
    (F:∀ (w:World) (mg:Str→Option Value) (fa:Addr) (h:Heap),YP w h→h.Ns mainGlobals mg→mg d.name = some (.ref fa) →
      ∃ (K:PySem.W.Frag) (fd:FuncData),K.In h∧(∀ (s:Shared) (us:List Value),us.length = ps.length→BindsTo s fd ⟨us,[]⟩ (ps.zip us)) ∧
        (∃ T,tabAt K mg T∧K.lookup T = none)∧∀ base:Heap,K.In base→base.Ns mainGlobals mg→qL r.prog w K mg base CX k fa fd ps (sp K))
    (hsp:∀ (K:PySem.W.Frag) (H:Hp) (xs:List V) (a:Codec.denoteAll r.args),Codec.withinAll r.args a = true→Codec.app r.args r.asked a = true→zC3 K H xs (Codec.encAll r.args a) →
      sp K xs H (fun v H'=>Dw K H' v (r.ret.enc (Codec.app r.args r.f a))) fun _ _ _=>False)
    (hCX:∀ (H:Hp) (s:Shared) (e:Value) (s':Shared),CX [] H s (fun _ _ _=>False) e s'→False) :
    PySem.W.WalkOS q loose XP YP r d [] (fun f vs=>PySem.call f vs):=by
  intro w s_0 s₁ mg mb G Y fa o pm cd doc dV kV ho hd hcd hD hmg hg args vals as hpre hlay hrd hwl hlo
  obtain ⟨a,e1,e2⟩:=PySem.W.os_pre_some hpre
  obtain ⟨e3,hwi⟩:=Codec.encAll_of_decAll r.args args a e1
  subst e3
  obtain ⟨K,fd,KX,hb,hkt,hF⟩:=F w mg fa _ Y G.T.g hmg
  refine PySem.W.enter_call (codeAny_mono (spec_call (R:=[]) (cl:=classAt s_0.heap) (d0:=r.ret.enc (Codec.app r.args r.f a)) KX G.T.g G.T.b G.T.builtins G.T.nolimit hg G.T.bmain (let ⟨x,hx,e⟩:=List.any_eq_true.mp hrec; beq_iff_eq.mp e ▸ G.T.tab x hx) hkt hwl (pl_encAll _ _) (layable_weight hlay) hr hF hb (by rw [encAll_len]; exact hlen)
    (fun H xs hS=>hsp K H xs a hwi e2 hS) fun H e s'=>hCX H s₁ e s') fun r' s' hq=>?_)
  obtain ⟨u,as',rfl,h1,h2,h3,h4⟩:=hq
  exact ⟨.inl ⟨u,_,as',rfl,fun _=>rfl,h1,(OpenSpec.post_iff hwell hwi _ _).mpr rfl,fun z=>Bool.noConfusion (show false = true from z)⟩,h2,h3,h4⟩
end L2
namespace LL
open PySem PySem.Spec PyProof.Rows L2 LX
def fnL:FnL:=(none, "twin_of", "twin_of", zH7) :: (none, "opposite", "opposite", zGG) :: (none, "is_full", "is_full", zH9) :: (none, "has_stops", "has_stops", zES) :: (none, "stops_of", "stops_of", zDY) :: (none, "has_stop_beyond", "has_stop_beyond", wN) :: (none, "opens_at", "opens_at", zGH) :: (none, "served_on_its_way", "served_on_its_way", qV) :: (none, "served_at_rest", "served_at_rest", wZ) :: (none, "begin_opening", "begin_opening", jY) :: (none, "towards_nearest", "towards_nearest", yQ) :: (none, "way_on", "way_on", s_way_on) :: (none, "go_on", "go_on", s_go_on) :: (none, "tick_closed", "tick_closed", zCD) :: (none, "tick_doors", "tick_doors", zDC) :: (none, "tick_car", "tick_car", zGD) :: (none, "quiet_ticks", "quiet_ticks", zCE) :: (none, "pass_quietly", "pass_quietly", zBP) :: (none, "note_entering", "note_entering", zA0) :: (none, "note_leaving", "note_leaving", zBQ) :: (none, "state_of", "state_of", zGE) :: (none, "ticks_waited", "ticks_waited", zBN) :: (none, "ticks_inside", "ticks_inside", zBO) :: (none, "reckoned_ticks", "reckoned_ticks", zAA) :: (none, "reckoned_of_all", "reckoned_of_all", qI) :: (none, "first_of", "first_of", zGI) :: (none, "reply_of", "reply_of", zGF) :: (none, "told_of", "told_of", zH8) :: (none, "answers", "answers", zIA) :: (some 31, "__init__", "Plan.__init__", zET) :: (some 52, "__init__", "Car.__init__", zGJ) :: (some 195, "__init__", "Person.__init__", zCF) :: (some 388, "__init__", "House.__init__", zBC) :: (some 388, "come", "House.come", zDF) :: (some 388, "run", "House.run", zEU) :: (some 388, "tell_car", "House.tell_car", zAC) :: (some 388, "tell_waiting", "House.tell_waiting", qO) :: (some 388, "tell_person", "House.tell_person", qW) :: (some 388, "guess", "House.guess", zCH) :: (some 388, "tell_sums", "House.tell_sums", xR) :: (some 388, "is_call", "House.is_call", zA1) :: (some 388, "who_waits", "House.who_waits", wO) :: (some 388, "is_had", "House.is_had", wU) :: (some 388, "press", "House.press", zCG) :: (some 388, "quiet_ticks_of_all", "House.quiet_ticks_of_all", xD) :: (some 388, "pass_quietly_all", "House.pass_quietly_all", jJ) :: (some 388, "tick", "House.tick", zDD) :: (some 388, "tick_one", "House.tick_one", zAB) :: (some 388, "let_leave", "House.let_leave", wP) :: (some 388, "let_enter", "House.let_enter", wQ) :: (some 388, "shut", "House.shut", zDE) :: (some 432, "__init__", "Desk.__init__", zEV) :: (some 432, "build", "Desk.build", zDH) :: (some 432, "reply", "Desk.reply", zDG) :: []
def klL:List (Addr × Str):=[(31, "Plan"),(52, "Car"),(195, "Person"),(388, "House"),(432, "Desk")]
def naL:List (Addr × Str):=(31, "floors") :: (31, "car_count") :: (31, "speed") :: (31, "opening") :: (31, "standing") :: (31, "closing") :: (31, "room") :: (52, "place") :: (52, "direction") :: (52, "doing") :: (52, "yet") :: (52, "inside") :: (52, "pressed") :: (52, "calls") :: (195, "origin") :: (195, "goal") :: (195, "came") :: (195, "entered") :: (195, "left") :: (388, "plan") :: (388, "now") :: (388, "cars") :: (388, "persons") :: (388, "waiting") :: (432, "house") :: []
def inL:List (Str × Int):=("NONE", 0) :: ("UP", 1) :: ("DOWN", 2) :: ("CLOSED", 0) :: ("MOVING", 1) :: ("OPENING", 2) :: ("OPENED", 3) :: ("CLOSING", 4) :: ("NOTHING", 0) :: ("DOORS_BEGIN", 1) :: ("DOORS_STAND", 2) :: ("DOORS_SHUT", 3) :: ("FOREVER", 1000000) :: ("WAITING", 0) :: ("INSIDE", 1) :: ("LEFT", 2) :: ("NOT_YET", 0) :: ("LONGEST", 20000) :: ("WRONG_NUMBER", (-1)) :: ("TOO_MANY_PERSONS", (-2)) :: ("CALL_IS_HAD", (-3)) :: ("MOST_PERSONS", 200) :: ("MOST_TICKS", 2000) :: ("CALL_GIVEN", 1) :: ("DOORS_BEGAN", 2) :: ("SOMEBODY_LEFT", 3) :: ("SOMEBODY_ENTERED", 4) :: ("DOORS_CLOSED", 5) :: ("EVENT_SIZE", 5) :: ("NO_HOUSE", (-8)) :: ("BUILD", 1) :: ("COME", 2) :: ("RUN", 3) :: ("CAR", 4) :: ("WAIT", 5) :: ("PERSON", 6) :: ("GUESS", 7) :: []
def noL:List Str:=["len", "list", "max", "min", "abs", "range", "zip", "any", "sum"]
def tpL:List (Addr × Array Value):=[(393,#[.int 0 802,.int 7 803,.int 2 804,.int 1 805,.int 1 806,.int 2 807,.int 1 808,.int 2 809,.int 0 810]),(401,#[.ref 394,.ref 395,.ref 396,.ref 397,.ref 398,.ref 399,.ref 400]),(394,#[.int 2 812,.int 32 813]),(395,#[.int 1 814,.int 6 815]),(396,#[.int 1 816,.int 60 817]),(397,#[.int 1 818,.int 60 819]),(398,#[.int 1 820,.int 60 821]),(399,#[.int 1 822,.int 60 823]),(400,#[.int 1 824,.int 40 825])]
def rfL:List (Str × Addr):=[("ARGUMENT_COUNTS", 393),("PLAN_EDGES", 401)]
abbrev gK (K:PySem.W.Frag) (x:Str):=PySem.W.nsIn K mainGlobals x
structure Fc (K:PySem.W.Frag):Prop where
  f:fnL.map (seeF K) = fnL.map (expF K)
  k:klL.map (seeK K) = klL.map expK
  n:naL.map (fun e=>PySem.W.findIn K (.ref e.1) e.2) = naL.map fun _=>some none
  i:inL.map (fun e=>gK K e.1) = inL.map fun e=>some (some (.int e.2 (tok (gK K e.1))))
  o:noL.map (gK K) = noL.map fun _=>some none
  t:tpL.map (fun e=>K.lookup e.1) = tpL.map fun e=>some { cls:=.type "tuple", data:=.seq e.2 }
  r:rfL.map (fun e=>gK K e.1) = rfL.map fun e=>some (some (.ref e.2))
  c:(fK ((K.lookup (adr (vK K none "towards_nearest"))).getD default)).code = .ref 128
  h:PySem.W.codeHdIn K 128 124 = true
  z:K.lookup 124 = none
set_option maxHeartbeats 0 in
theorem fin_of {P:Program} {w:World} {K:PySem.W.Frag} {h:Heap} {mg:Str→Option Value} {fa:Addr} (KX:K.In h) (G:h.Ns mainGlobals mg) (hmg:mg "answers" = some (.ref fa)) (fc:Fc K) :
    ∃ fd:FuncData,(∀ (s:Shared) (us:List Value),us.length = ([("calls" : Str)]).length→BindsTo s fd ⟨us,[]⟩ ([("calls" : Str)].zip us))∧(∃ T,tabAt K mg T∧K.lookup T = none)∧∀ base:Heap,K.In base→base.Ns mainGlobals mg→qL P w K mg base CX0 16 fa fd [("calls" : Str)] (spA K):=by
  obtain ⟨f_twin_of,d_twin_of,D_twin_of⟩:=dfE (ps:=["car"]) KX G (zL fc.f 0 rfl) (fun _ _ _ _ _ _ us hl=>match us,hl with | [_],_=>rfl)
  obtain ⟨f_opposite,d_opposite,D_opposite⟩:=dfE (ps:=["direction"]) KX G (zL fc.f 1 rfl) (fun _ _ _ _ _ _ us hl=>match us,hl with | [_],_=>rfl)
  obtain ⟨f_is_full,d_is_full,D_is_full⟩:=dfE (ps:=["car", "plan"]) KX G (zL fc.f 2 rfl) (fun _ _ _ _ _ _ us hl=>match us,hl with | [_,_],_=>rfl)
  obtain ⟨f_has_stops,d_has_stops,D_has_stops⟩:=dfE (ps:=["car"]) KX G (zL fc.f 3 rfl) (fun _ _ _ _ _ _ us hl=>match us,hl with | [_],_=>rfl)
  obtain ⟨f_stops_of,d_stops_of,D_stops_of⟩:=dfE (ps:=["car"]) KX G (zL fc.f 4 rfl) (fun _ _ _ _ _ _ us hl=>match us,hl with | [_],_=>rfl)
  obtain ⟨f_has_stop_beyond,d_has_stop_beyond,D_has_stop_beyond⟩:=dfE (ps:=["car", "floor", "direction"]) KX G (zL fc.f 5 rfl) (fun _ _ _ _ _ _ us hl=>match us,hl with | [_,_,_],_=>rfl)
  obtain ⟨f_opens_at,d_opens_at,D_opens_at⟩:=dfE (ps:=["car", "plan", "floor"]) KX G (zL fc.f 6 rfl) (fun _ _ _ _ _ _ us hl=>match us,hl with | [_,_,_],_=>rfl)
  obtain ⟨f_served_on_its_way,d_served_on_its_way,D_served_on_its_way⟩:=dfE (ps:=["car", "floor"]) KX G (zL fc.f 7 rfl) (fun _ _ _ _ _ _ us hl=>match us,hl with | [_,_],_=>rfl)
  obtain ⟨f_served_at_rest,d_served_at_rest,D_served_at_rest⟩:=dfE (ps:=["car", "floor"]) KX G (zL fc.f 8 rfl) (fun _ _ _ _ _ _ us hl=>match us,hl with | [_,_],_=>rfl)
  obtain ⟨f_begin_opening,d_begin_opening,D_begin_opening⟩:=dfE (ps:=["car", "plan", "floor"]) KX G (zL fc.f 9 rfl) (fun _ _ _ _ _ _ us hl=>match us,hl with | [_,_,_],_=>rfl)
  obtain ⟨f_towards_nearest,d_towards_nearest,cb,D_towards_nearest,hcode,hhd,hnone,hlk⟩:=dfC (ps:=["car", "floor"]) KX G (zL fc.f 10 rfl) fc.c fc.h fc.z (fun _ _ _ _ _ _ us hl=>match us,hl with | [_,_],_=>rfl)
  obtain ⟨f_way_on,d_way_on,D_way_on⟩:=dfE (ps:=["car", "floor"]) KX G (zL fc.f 11 rfl) (fun _ _ _ _ _ _ us hl=>match us,hl with | [_,_],_=>rfl)
  obtain ⟨f_go_on,d_go_on,D_go_on⟩:=dfE (ps:=["car", "ticks"]) KX G (zL fc.f 12 rfl) (fun _ _ _ _ _ _ us hl=>match us,hl with | [_,_],_=>rfl)
  obtain ⟨f_tick_closed,d_tick_closed,D_tick_closed⟩:=dfE (ps:=["car", "plan"]) KX G (zL fc.f 13 rfl) (fun _ _ _ _ _ _ us hl=>match us,hl with | [_,_],_=>rfl)
  obtain ⟨f_tick_doors,d_tick_doors,D_tick_doors⟩:=dfE (ps:=["car", "plan"]) KX G (zL fc.f 14 rfl) (fun _ _ _ _ _ _ us hl=>match us,hl with | [_,_],_=>rfl)
  obtain ⟨f_tick_car,d_tick_car,D_tick_car⟩:=dfE (ps:=["car", "plan"]) KX G (zL fc.f 15 rfl) (fun _ _ _ _ _ _ us hl=>match us,hl with | [_,_],_=>rfl)
  obtain ⟨f_quiet_ticks,d_quiet_ticks,D_quiet_ticks⟩:=dfE (ps:=["car", "plan"]) KX G (zL fc.f 16 rfl) (fun _ _ _ _ _ _ us hl=>match us,hl with | [_,_],_=>rfl)
  obtain ⟨f_pass_quietly,d_pass_quietly,D_pass_quietly⟩:=dfE (ps:=["car", "plan", "ticks"]) KX G (zL fc.f 17 rfl) (fun _ _ _ _ _ _ us hl=>match us,hl with | [_,_,_],_=>rfl)
  obtain ⟨f_note_entering,d_note_entering,D_note_entering⟩:=dfE (ps:=["person", "now"]) KX G (zL fc.f 18 rfl) (fun _ _ _ _ _ _ us hl=>match us,hl with | [_,_],_=>rfl)
  obtain ⟨f_note_leaving,d_note_leaving,D_note_leaving⟩:=dfE (ps:=["person", "now"]) KX G (zL fc.f 19 rfl) (fun _ _ _ _ _ _ us hl=>match us,hl with | [_,_],_=>rfl)
  obtain ⟨f_state_of,d_state_of,D_state_of⟩:=dfE (ps:=["person"]) KX G (zL fc.f 20 rfl) (fun _ _ _ _ _ _ us hl=>match us,hl with | [_],_=>rfl)
  obtain ⟨f_ticks_waited,d_ticks_waited,D_ticks_waited⟩:=dfE (ps:=["person", "now"]) KX G (zL fc.f 21 rfl) (fun _ _ _ _ _ _ us hl=>match us,hl with | [_,_],_=>rfl)
  obtain ⟨f_ticks_inside,d_ticks_inside,D_ticks_inside⟩:=dfE (ps:=["person", "now"]) KX G (zL fc.f 22 rfl) (fun _ _ _ _ _ _ us hl=>match us,hl with | [_,_],_=>rfl)
  obtain ⟨f_reckoned_ticks,d_reckoned_ticks,D_reckoned_ticks⟩:=dfE (ps:=["car", "plan", "call"]) KX G (zL fc.f 23 rfl) (fun _ _ _ _ _ _ us hl=>match us,hl with | [_,_,_],_=>rfl)
  obtain ⟨f_reckoned_of_all,d_reckoned_of_all,D_reckoned_of_all⟩:=dfE (ps:=["cars", "plan", "call"]) KX G (zL fc.f 24 rfl) (fun _ _ _ _ _ _ us hl=>match us,hl with | [_,_,_],_=>rfl)
  obtain ⟨f_first_of,d_first_of,D_first_of⟩:=dfE (ps:=["reckoned"]) KX G (zL fc.f 25 rfl) (fun _ _ _ _ _ _ us hl=>match us,hl with | [_],_=>rfl)
  obtain ⟨f_reply_of,d_reply_of,D_reply_of⟩:=dfE (ps:=["house", "call", "numbers"]) KX G (zL fc.f 26 rfl) (fun _ _ _ _ _ _ us hl=>match us,hl with | [_,_,_],_=>rfl)
  obtain ⟨f_told_of,d_told_of,D_told_of⟩:=dfE (ps:=["reply"]) KX G (zL fc.f 27 rfl) (fun _ _ _ _ _ _ us hl=>match us,hl with | [_],_=>rfl)
  obtain ⟨f_answers,d_answers,D_answers,hbind⟩:=dfA (ps:=["calls"]) KX G (zL fc.f 28 rfl) (fun _ _ _ _ _ _ us hl=>match us,hl with | [_],_=>rfl)
  obtain ⟨f_Plan_init,d_Plan_init,k_Plan⟩:=klE (ps:=["self", "numbers"]) KX G (zL fc.k 0 rfl) (zL fc.f 29 rfl) (fun _ _ _ _ _ _ us hl=>match us,hl with | [_,_],_=>rfl)
  obtain ⟨f_Car_init,d_Car_init,k_Car⟩:=klE (ps:=["self"]) KX G (zL fc.k 1 rfl) (zL fc.f 30 rfl) (fun _ _ _ _ _ _ us hl=>match us,hl with | [_],_=>rfl)
  obtain ⟨f_Person_init,d_Person_init,k_Person⟩:=klE (ps:=["self", "origin", "goal", "now"]) KX G (zL fc.k 2 rfl) (zL fc.f 31 rfl) (fun _ _ _ _ _ _ us hl=>match us,hl with | [_,_,_,_],_=>rfl)
  obtain ⟨f_House_init,d_House_init,k_House⟩:=klE (ps:=["self", "plan"]) KX G (zL fc.k 3 rfl) (zL fc.f 32 rfl) (fun _ _ _ _ _ _ us hl=>match us,hl with | [_,_],_=>rfl)
  obtain ⟨f_House_come,d_House_come,M_House_come⟩:=mtE (ps:=["self", "floor", "goal"]) KX (zL fc.f 33 rfl) (fun _ _ _ _ _ _ us hl=>match us,hl with | [_,_,_],_=>rfl)
  obtain ⟨f_House_run,d_House_run,M_House_run⟩:=mtE (ps:=["self", "ticks"]) KX (zL fc.f 34 rfl) (fun _ _ _ _ _ _ us hl=>match us,hl with | [_,_],_=>rfl)
  obtain ⟨f_House_tell_car,d_House_tell_car,M_House_tell_car⟩:=mtE (ps:=["self", "number"]) KX (zL fc.f 35 rfl) (fun _ _ _ _ _ _ us hl=>match us,hl with | [_,_],_=>rfl)
  obtain ⟨f_House_tell_waiting,d_House_tell_waiting,M_House_tell_waiting⟩:=mtE (ps:=["self", "floor", "direction"]) KX (zL fc.f 36 rfl) (fun _ _ _ _ _ _ us hl=>match us,hl with | [_,_,_],_=>rfl)
  obtain ⟨f_House_tell_person,d_House_tell_person,M_House_tell_person⟩:=mtE (ps:=["self", "who"]) KX (zL fc.f 37 rfl) (fun _ _ _ _ _ _ us hl=>match us,hl with | [_,_],_=>rfl)
  obtain ⟨f_House_guess,d_House_guess,M_House_guess⟩:=mtE (ps:=["self", "floor", "direction"]) KX (zL fc.f 38 rfl) (fun _ _ _ _ _ _ us hl=>match us,hl with | [_,_,_],_=>rfl)
  obtain ⟨f_House_tell_sums,d_House_tell_sums,M_House_tell_sums⟩:=mtE (ps:=["self"]) KX (zL fc.f 39 rfl) (fun _ _ _ _ _ _ us hl=>match us,hl with | [_],_=>rfl)
  obtain ⟨f_House_is_call,d_House_is_call,M_House_is_call⟩:=mtE (ps:=["self", "floor", "direction"]) KX (zL fc.f 40 rfl) (fun _ _ _ _ _ _ us hl=>match us,hl with | [_,_,_],_=>rfl)
  obtain ⟨f_House_who_waits,d_House_who_waits,M_House_who_waits⟩:=mtE (ps:=["self", "call"]) KX (zL fc.f 41 rfl) (fun _ _ _ _ _ _ us hl=>match us,hl with | [_,_],_=>rfl)
  obtain ⟨f_House_is_had,d_House_is_had,M_House_is_had⟩:=mtE (ps:=["self", "call"]) KX (zL fc.f 42 rfl) (fun _ _ _ _ _ _ us hl=>match us,hl with | [_,_],_=>rfl)
  obtain ⟨f_House_press,d_House_press,M_House_press⟩:=mtE (ps:=["self", "call"]) KX (zL fc.f 43 rfl) (fun _ _ _ _ _ _ us hl=>match us,hl with | [_,_],_=>rfl)
  obtain ⟨f_House_quiet_ticks_of_all,d_House_quiet_ticks_of_all,M_House_quiet_ticks_of_all⟩:=mtE (ps:=["self"]) KX (zL fc.f 44 rfl) (fun _ _ _ _ _ _ us hl=>match us,hl with | [_],_=>rfl)
  obtain ⟨f_House_pass_quietly_all,d_House_pass_quietly_all,M_House_pass_quietly_all⟩:=mtE (ps:=["self", "ticks"]) KX (zL fc.f 45 rfl) (fun _ _ _ _ _ _ us hl=>match us,hl with | [_,_],_=>rfl)
  obtain ⟨f_House_tick,d_House_tick,M_House_tick⟩:=mtE (ps:=["self"]) KX (zL fc.f 46 rfl) (fun _ _ _ _ _ _ us hl=>match us,hl with | [_],_=>rfl)
  obtain ⟨f_House_tick_one,d_House_tick_one,M_House_tick_one⟩:=mtE (ps:=["self", "number"]) KX (zL fc.f 47 rfl) (fun _ _ _ _ _ _ us hl=>match us,hl with | [_,_],_=>rfl)
  obtain ⟨f_House_let_leave,d_House_let_leave,M_House_let_leave⟩:=mtE (ps:=["self", "number", "floor"]) KX (zL fc.f 48 rfl) (fun _ _ _ _ _ _ us hl=>match us,hl with | [_,_,_],_=>rfl)
  obtain ⟨f_House_let_enter,d_House_let_enter,M_House_let_enter⟩:=mtE (ps:=["self", "number", "floor"]) KX (zL fc.f 49 rfl) (fun _ _ _ _ _ _ us hl=>match us,hl with | [_,_,_],_=>rfl)
  obtain ⟨f_House_shut,d_House_shut,M_House_shut⟩:=mtE (ps:=["self", "number", "floor"]) KX (zL fc.f 50 rfl) (fun _ _ _ _ _ _ us hl=>match us,hl with | [_,_,_],_=>rfl)
  obtain ⟨f_Desk_init,d_Desk_init,k_Desk⟩:=klE (ps:=["self"]) KX G (zL fc.k 4 rfl) (zL fc.f 51 rfl) (fun _ _ _ _ _ _ us hl=>match us,hl with | [_],_=>rfl)
  obtain ⟨f_Desk_build,d_Desk_build,M_Desk_build⟩:=mtE (ps:=["self", "numbers"]) KX (zL fc.f 52 rfl) (fun _ _ _ _ _ _ us hl=>match us,hl with | [_,_],_=>rfl)
  obtain ⟨f_Desk_reply,d_Desk_reply,M_Desk_reply⟩:=mtE (ps:=["self", "call", "numbers"]) KX (zL fc.f 53 rfl) (fun _ _ _ _ _ _ us hl=>match us,hl with | [_,_,_],_=>rfl)
  have T:=Txt.mk (K:=K) (mg:=mg) (t:=⟨31,52,195,388,432,393,401,394,395,396,397,398,399,400,f_twin_of,d_twin_of,f_opposite,d_opposite,f_is_full,d_is_full,f_has_stops,d_has_stops,f_stops_of,d_stops_of,f_has_stop_beyond,d_has_stop_beyond,f_opens_at,d_opens_at,f_served_on_its_way,d_served_on_its_way,f_served_at_rest,d_served_at_rest,f_begin_opening,d_begin_opening,f_towards_nearest,d_towards_nearest,f_way_on,d_way_on,f_go_on,d_go_on,f_tick_closed,d_tick_closed,f_tick_doors,d_tick_doors,f_tick_car,d_tick_car,f_quiet_ticks,d_quiet_ticks,f_pass_quietly,d_pass_quietly,f_note_entering,d_note_entering,f_note_leaving,d_note_leaving,f_state_of,d_state_of,f_ticks_waited,d_ticks_waited,f_ticks_inside,d_ticks_inside,f_reckoned_ticks,d_reckoned_ticks,f_reckoned_of_all,d_reckoned_of_all,f_first_of,d_first_of,f_reply_of,d_reply_of,f_told_of,d_told_of,f_answers,d_answers,f_Plan_init,d_Plan_init,f_Car_init,d_Car_init,f_Person_init,d_Person_init,f_House_init,d_House_init,f_House_come,d_House_come,f_House_run,d_House_run,f_House_tell_car,d_House_tell_car,f_House_tell_waiting,d_House_tell_waiting,f_House_tell_person,d_House_tell_person,f_House_guess,d_House_guess,f_House_tell_sums,d_House_tell_sums,f_House_is_call,d_House_is_call,f_House_who_waits,d_House_who_waits,f_House_is_had,d_House_is_had,f_House_press,d_House_press,f_House_quiet_ticks_of_all,d_House_quiet_ticks_of_all,f_House_pass_quietly_all,d_House_pass_quietly_all,f_House_tick,d_House_tick,f_House_tick_one,d_House_tick_one,f_House_let_leave,d_House_let_leave,f_House_let_enter,d_House_let_enter,f_House_shut,d_House_shut,f_Desk_init,d_Desk_init,f_Desk_build,d_Desk_build,f_Desk_reply,d_Desk_reply,cb,124⟩) ⟨k_Plan,zL fc.n 0 rfl,zL fc.n 1 rfl,zL fc.n 2 rfl,zL fc.n 3 rfl,zL fc.n 4 rfl,zL fc.n 5 rfl,zL fc.n 6 rfl,k_Car,zL fc.n 7 rfl,zL fc.n 8 rfl,zL fc.n 9 rfl,zL fc.n 10 rfl,zL fc.n 11 rfl,zL fc.n 12 rfl,zL fc.n 13 rfl,k_Person,zL fc.n 14 rfl,zL fc.n 15 rfl,zL fc.n 16 rfl,zL fc.n 17 rfl,zL fc.n 18 rfl,k_House,zL fc.n 19 rfl,zL fc.n 20 rfl,zL fc.n 21 rfl,zL fc.n 22 rfl,zL fc.n 23 rfl,k_Desk,zL fc.n 24 rfl⟩ ⟨inE KX G (zL fc.i 0 rfl),inE KX G (zL fc.i 1 rfl),inE KX G (zL fc.i 2 rfl),inE KX G (zL fc.i 3 rfl),inE KX G (zL fc.i 4 rfl),inE KX G (zL fc.i 5 rfl),inE KX G (zL fc.i 6 rfl),inE KX G (zL fc.i 7 rfl),inE KX G (zL fc.i 8 rfl),inE KX G (zL fc.i 9 rfl),inE KX G (zL fc.i 10 rfl),inE KX G (zL fc.i 11 rfl),inE KX G (zL fc.i 12 rfl),inE KX G (zL fc.i 13 rfl),inE KX G (zL fc.i 14 rfl),inE KX G (zL fc.i 15 rfl),inE KX G (zL fc.i 16 rfl),inE KX G (zL fc.i 17 rfl),inE KX G (zL fc.i 18 rfl),inE KX G (zL fc.i 19 rfl),inE KX G (zL fc.i 20 rfl),inE KX G (zL fc.i 21 rfl),inE KX G (zL fc.i 22 rfl),inE KX G (zL fc.i 23 rfl),inE KX G (zL fc.i 24 rfl),inE KX G (zL fc.i 25 rfl),inE KX G (zL fc.i 26 rfl),inE KX G (zL fc.i 27 rfl),inE KX G (zL fc.i 28 rfl),inE KX G (zL fc.i 29 rfl),inE KX G (zL fc.i 30 rfl),inE KX G (zL fc.i 31 rfl),inE KX G (zL fc.i 32 rfl),inE KX G (zL fc.i 33 rfl),inE KX G (zL fc.i 34 rfl),inE KX G (zL fc.i 35 rfl),inE KX G (zL fc.i 36 rfl),ref_mk KX G (zL fc.r 0 rfl),zFB KX (zL fc.t 0 rfl) (by decide) (.cons ⟨_,rfl⟩ (.cons ⟨_,rfl⟩ (.cons ⟨_,rfl⟩ (.cons ⟨_,rfl⟩ (.cons ⟨_,rfl⟩ (.cons ⟨_,rfl⟩ (.cons ⟨_,rfl⟩ (.cons ⟨_,rfl⟩ (.cons ⟨_,rfl⟩ .nil))))))))),ref_mk KX G (zL fc.r 1 rfl),zFB KX (zL fc.t 1 rfl) (by decide) (.cons rfl (.cons rfl (.cons rfl (.cons rfl (.cons rfl (.cons rfl (.cons rfl .nil))))))),zFB KX (zL fc.t 2 rfl) (by decide) (.cons ⟨_,rfl⟩ (.cons ⟨_,rfl⟩ .nil)),zFB KX (zL fc.t 3 rfl) (by decide) (.cons ⟨_,rfl⟩ (.cons ⟨_,rfl⟩ .nil)),zFB KX (zL fc.t 4 rfl) (by decide) (.cons ⟨_,rfl⟩ (.cons ⟨_,rfl⟩ .nil)),zFB KX (zL fc.t 5 rfl) (by decide) (.cons ⟨_,rfl⟩ (.cons ⟨_,rfl⟩ .nil)),zFB KX (zL fc.t 6 rfl) (by decide) (.cons ⟨_,rfl⟩ (.cons ⟨_,rfl⟩ .nil)),zFB KX (zL fc.t 7 rfl) (by decide) (.cons ⟨_,rfl⟩ (.cons ⟨_,rfl⟩ .nil)),zFB KX (zL fc.t 8 rfl) (by decide) (.cons ⟨_,rfl⟩ (.cons ⟨_,rfl⟩ .nil)),zCL KX G (zL fc.o 0 rfl),zCL KX G (zL fc.o 1 rfl),zCL KX G (zL fc.o 2 rfl),zCL KX G (zL fc.o 3 rfl),zCL KX G (zL fc.o 4 rfl),zCL KX G (zL fc.o 5 rfl),zCL KX G (zL fc.o 6 rfl),zCL KX G (zL fc.o 7 rfl),zCL KX G (zL fc.o 8 rfl)⟩ ⟨D_twin_of,D_opposite,D_is_full,D_has_stops,D_stops_of,D_has_stop_beyond,D_opens_at,D_served_on_its_way,D_served_at_rest,D_begin_opening,D_towards_nearest,D_way_on,D_go_on,D_tick_closed,D_tick_doors,D_tick_car,D_quiet_ticks,D_pass_quietly,D_note_entering,D_note_leaving,D_state_of,D_ticks_waited,D_ticks_inside,D_reckoned_ticks,D_reckoned_of_all,D_first_of,D_reply_of,D_told_of,D_answers⟩ ⟨M_House_come,M_House_run,M_House_tell_car,M_House_tell_waiting,M_House_tell_person,M_House_guess,M_House_tell_sums,M_House_is_call,M_House_who_waits,M_House_is_had,M_House_press,M_House_quiet_ticks_of_all,M_House_pass_quietly_all,M_House_tick,M_House_tick_one,M_House_let_leave,M_House_let_enter,M_House_shut,M_Desk_build,M_Desk_reply⟩ ⟨hcode,hhd⟩
  have e:=hmg.symm.trans D_answers.m
  cases e
  exact ⟨d_answers,hbind,⟨124,tab_of T hlk,hnone⟩,fun base _ _=>ok_spA T⟩
set_option maxHeartbeats 0
def asL:List Addr:=[3,27,28,30,31,48,49,51,52,62,63,69,70,76,77,83,84,88,89,95,96,102,103,109,110,116,117,121,122,128,129,135,136,142,143,149,150,156,157,163,164,170,171,177,178,191,192,194,195,205,206,212,213,219,220,226,227,233,234,240,241,245,246,252,253,264,265,271,272,278,279,285,286,292,293,299,300,306,307,311,312,318,319,325,326,330,331,337,338,342,343,349,350,356,357,363,364,370,371,377,378,384,385,387,388,393,394,395,396,397,398,399,400,401,414,415,421,422,428,429,431,432,442,443,449,450,456,457]
noncomputable def KK (w:World) (os:OsState):PySem.W.Frag:=kf (HD.F w os) asL
theorem fc1 (w:World) (os:OsState):fnL.map (seeF (KK w os)) = fnL.map (expF (KK w os)):=by kernel_rfl
theorem fc2 (w:World) (os:OsState):(klL.map (seeK (KK w os)),naL.map (fun e=>PySem.W.findIn (KK w os) (.ref e.1) e.2),inL.map (fun e=>gK (KK w os) e.1),noL.map (gK (KK w os)),tpL.map (fun e=>(KK w os).lookup e.1),rfL.map (fun e=>gK (KK w os) e.1),(fK (((KK w os).lookup (adr (vK (KK w os) none "towards_nearest"))).getD default)).code,PySem.W.codeHdIn (KK w os) 128 124,(KK w os).lookup 124) =
    (klL.map expK,naL.map (fun _=>some none),inL.map (fun e=>some (some (.int e.2 (tok (gK (KK w os) e.1))))),noL.map (fun _=>some none),tpL.map (fun e=>some { cls:=.type "tuple", data:=.seq e.2 }),rfL.map (fun e=>some (some (.ref e.2))),.ref 128,true,none):=by kernel_rfl
theorem fc_of {K:PySem.W.Frag} (h1:fnL.map (seeF K) = fnL.map (expF K)) (h2:(klL.map (seeK K),naL.map (fun e=>PySem.W.findIn K (.ref e.1) e.2),inL.map (fun e=>gK K e.1),noL.map (gK K),tpL.map (fun e=>K.lookup e.1),rfL.map (fun e=>gK K e.1),(fK ((K.lookup (adr (vK K none "towards_nearest"))).getD default)).code,PySem.W.codeHdIn K 128 124,K.lookup 124) =
    (klL.map expK,naL.map (fun _=>some none),inL.map (fun e=>some (some (.int e.2 (tok (gK K e.1))))),noL.map (fun _=>some none),tpL.map (fun e=>some { cls:=.type "tuple", data:=.seq e.2 }),rfL.map (fun e=>some (some (.ref e.2))),.ref 128,true,none)):Fc K:=by
  simp only [Prod.mk.injEq] at h2
  obtain ⟨a,b,c,d,e,f,g,h,i⟩:=h2
  exact ⟨h1,a,b,c,d,e,f,g,h,i⟩
theorem fcA (w:World) (os:OsState):Fc (KK w os):=fc_of (fc1 w os) (fc2 w os)
noncomputable def dA:DefRec:=((recsOf HD.Q).find? fun e=>e.name == ("answers" : Str)).get (by kernel_rfl)
theorem dA_name:dA.name = "answers" := by kernel_rfl
theorem hY (w:World) (s:Shared) (e:HD.Yf s = True):HD.YP w s.heap:=let ⟨w',os,z⟩:=of_eq_true e; ⟨w',os,fun _ _ h=>z ▸ h⟩
theorem finF {P:Program} (w:World) (mg:Str→Option Value) (fa:Addr) (h:Heap) (Y:HD.YP w h) (G:h.Ns mainGlobals mg) (hm:mg dA.name = some (.ref fa)):∃ (K:PySem.W.Frag) (fd:FuncData),K.In h∧(∀ (s:Shared) (us:List Value),us.length = ([("calls" : Str)]).length→BindsTo s fd ⟨us,[]⟩ ([("calls" : Str)].zip us)) ∧
    (∃ T,tabAt K mg T∧K.lookup T = none)∧∀ base:Heap,K.In base→base.Ns mainGlobals mg→qL P w K mg base CX0 16 fa fd [("calls" : Str)] (spA K):=by
  obtain ⟨w',os,y⟩:=Y
  have KX:(KK w' os).In h:=fun a o e=>y a o (kf_in e)
  rw [dA_name] at hm
  obtain ⟨fd,h1,h2,h3⟩:=fin_of (P:=P) (w:=w) KX G hm (fcA w' os)
  exact ⟨_,fd,KX,h1,h2,h3⟩
end LL
open PySem PySem.W PyProof.Rows
set_option maxHeartbeats 0 in
theorem PySem.Challenge.cw_lifthouse_s01_answers_holds : PySem.Challenge.rw_lifthouse_s01_answers.Holds := by
  refine holds_os (r:=PySem.Challenge.rw_lifthouse_s01_answers) (q:=HD.Q) (loose:=[]) (Xt:=HD.Xt) (XP:=XL HD.Q []) (Yf:=HD.Yf) (Ya:=fun _=>True) (YP:=HD.YP) (d:=LL.dA) (kwd:=[]) (N:=6382) HD.left LL.hY (fun w h h' ⟨w',os,y⟩ k=>⟨w',os,fun b o e=>k b o (y b o e)⟩) (fun s e=>xl_of s (Bool.and_eq_true_iff.mp e).1) XL.keeps (by kernel_rfl) (by kernel_rfl) (by kernel_rfl) (fun s e=>recFacts_of (Bool.and_eq_true_iff.mp e).2) os_shapes (by decide +kernel) (by decide +kernel) ⟨rfl,rfl,rfl,rfl,rfl,by decide +kernel⟩ ⟨[.list [.int 8]],by decide +kernel,by decide +kernel⟩ ?_
  refine L2.walk_specE (k:=16) (CX:=L2.CX0) (ps:=["calls"]) (sp:=LL.spA) (by decide +kernel) rfl ⟨rfl,by decide,by decide⟩ (by decide +kernel) LL.finF ?S (fun _ _ _ _ z=>z)
  case S =>
    intro K H xs a hwi hask hx
    cases hx with
    | cons h1 h2 =>
      cases h2
      cases h1 with
      | lst hs ha =>
        have e:=L2.ints_dw a.1 _ ha
        subst e
        exact ⟨_,a.1,rfl,hs,hask,fun H' p hp=>.lst (L2.SqL.of hp) (L2.dw_ints _)⟩
