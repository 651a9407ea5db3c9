import PyProof.Rows.All
import Wide.All
import OpenK.AllK
import Wide.FinOn
import HandS.ForMost
import HandS.Codes
import HandS.Style
import HandS.Property
import HandS.IsInst
import HandS.DictComp
import HandS.Conv
import KE.KDictKeyed
import KE.SortKeyHeap
import HandS.SortKw
import HandS.ExcValue
import HandS.OwnEq
import HandS.ClsMeth
import HandS.Strs
import HandS.TupSets
import HandS.Walk
import HandS.Flow
import HandS.Star
import KE.OsSortAny
import HandS.Deep
import HandS.SetFor
import HandS.NoneIn
import HandS.Ends
import PyProof.ReprRoads
import PyProof.CallFns
import HandS.ListItems
import HandS.Finally
import HandS.Dict
import HandS.DeepEq
import PyProof.NeKinds
import PySem.Challenge.RW_windowsteps_k10_smaller_and_greater
set_option Elab.async false
set_option linter.all false
set_option maxRecDepth 100000
/-! Windowsteps: what every law's proof begins with. Defs as bundles, heaps that change at one place, the pen that draws. -/
namespace Wnd
open PySem PySem.Spec PyProof.Rows L2

/-! ### a def of the text, bundled with its promise -/
structure DefAt (K : PySem.W.Frag) (mg : Str → Option Value) (x : Str) (st : Stmt) (ps : List Str) (f : Addr) (fd : FuncData) : Prop where
  fn : Fun K x x st f fd
  bi : Binds K fd ps []
  at_ : mg x = some (.ref f)
structure Ok (P : Program) (w : World) (K : PySem.W.Frag) (mg : Str → Option Value) (base : Heap) (k : Nat) (x : Str) (ps : List Str) (sp : Sp) : Prop where
  ex : ∃ (f : Addr) (fd : FuncData), mg x = some (.ref f) ∧ PySem.W.keepIn K (.ref f) = true ∧ Binds K fd ps [] ∧ FnOk P w K mg base CX0 k f fd ps sp
section
variable {P : Program} {w : World} {K : PySem.W.Frag} {mg : Str → Option Value} {base : Heap}
theorem DefAt.ok {x : Str} {st : Stmt} {ps : List Str} {f : Addr} {fd : FuncData} {k : Nat} {sp : Sp} (D : DefAt K mg x st ps f fd) (h : FnOk P w K mg base CX0 k f fd ps sp) : Ok P w K mg base k x ps sp :=
  ⟨⟨f, fd, D.at_, D.fn.kp, D.bi, h⟩⟩
theorem Ok.mono {x : Str} {ps : List Str} {j k : Nat} {sp : Sp} (O : Ok P w K mg base j x ps sp) (h : j ≤ k) : Ok P w K mg base k x ps sp := by
  obtain ⟨f, fd, a, b, c, d⟩ := O.ex
  exact ⟨⟨f, fd, a, b, c, d.mono h⟩⟩
end
section
variable {X : Cx} {k : Nat} {x : Str} {ps : List Str} {sp : Sp} {p pos : Pos} {e : Expr} {es : List Expr} {t : TA}
/-- a call of an own def -/
theorem pe_own (O : Ok X.prog X.w X.K X.mg X.base k x ps sp) (hr : Room k X.A) (ha : PA X (e :: es) t) (hg : Gl X x := by rfl) (hdb : (x == ("__debug__" : Str)) = false := by decide)
    (he : starEach (e :: es) X.env = (false, eval e X.env) :: starEach es X.env := by rfl) (hpl : (backTo pos (starEach es X.env)).any (·.1) = false := by rfl) :
    PE X (.Call (.Name x p) (e :: es) [] pos) (tCall sp [] E0 t) := by
  obtain ⟨f, fd, h1, h2, h3, h4⟩ := O.ex
  exact pe_call h4 hr hg h1 h2 h3 .nil pass0 ha hdb he hpl
end

/-! ### heaps that change at one place -/
def But (p : Addr) (H H' : Hp) : Prop := ∀ b o, H b = some o → b ≠ p → H' b = some o
theorem But.refl (p : Addr) (H : Hp) : But p H H := fun _ _ h _ => h
theorem But.trans {p : Addr} {H H1 H2 : Hp} (a : But p H H1) (b : But p H1 H2) : But p H H2 := fun c o h n => b c o (a c o h n) n
theorem But.of {p : Addr} {H H' : Hp} (h : Same H H') : But p H H' := fun b o e _ => h b o e
theorem But.upd {p : Addr} {H : Hp} {o : HO} : But p H (upd H p o) := fun b u e n => by
  rw [upd_ne n]
  exact e
theorem same_new {H : Hp} {p : Addr} {o : HO} (h : H p = none) : Same H (upd H p o) := fun b u e => by
  rw [upd_ne (ne_of_none e h)]
  exact e
theorem But.new {p q : Addr} {H : Hp} {o : HO} (h : H q = none) : But p H (L2.upd H q o) := But.of (same_new h)
/-- what is gone neither before nor behind -/
theorem But.free {p q : Addr} {H H' : Hp} (e : But p H H') (hp : q ≠ p) (h : H' q = none) : H q = none := by
  cases z : H q with
  | none => rfl
  | some o =>
    rw [e q o z hp] at h
    cases h
theorem But.seq {K : PySem.W.Frag} {p a : Addr} {H H' : Hp} {xs : List V} (e : But p H H') (n : ∀ o, H p = some o → a ≠ p) (hp : ∃ o, H p = some o) (h : SqL K H a xs) : SqL K H' a xs := by
  obtain ⟨o, hp⟩ := hp
  have n' := n o hp
  rcases h with (h | ⟨o, h⟩) | h
  · exact .inl (.inl (e _ _ h n'))
  · exact .inl (.inr ⟨o, e _ _ h n'⟩)
  · exact .inr h

theorem hu_of64 {A : Around} {k : Nat} (hr : Room k A) : A.units + 64 < cLine := hr.units
/-! ### the pen: a list of the script's cells, how many numbers were asked for, what is left of the last one -/
def PenAt (H : Hp) (p c : Addr) (n : Nat) : Prop := ∃ (cs : List Int) (i : Nat) (h : Int), cs.length ≤ 63 ∧ i ≤ n ∧ H c = some (.lst (cs.map V.int)) ∧ H p = some (.lst [.ref c, .int i, .int h])
theorem PenAt.ne {H : Hp} {p c : Addr} {n : Nat} (h : PenAt H p c n) : c ≠ p := by
  obtain ⟨cs, i, z, _, _, hc, hp⟩ := h
  refine ne_of hc hp fun e => ?_
  cases cs with
  | nil => cases e
  | cons x r => cases e
theorem PenAt.le {H : Hp} {p c : Addr} {m n : Nat} (h : PenAt H p c m) (l : m ≤ n) : PenAt H p c n := by
  obtain ⟨cs, i, z, a, b, hc, hp⟩ := h
  exact ⟨cs, i, z, a, Nat.le_trans b l, hc, hp⟩
theorem PenAt.same {H H' : Hp} {p c : Addr} {n : Nat} (h : PenAt H p c n) (s : Same H H') : PenAt H' p c n := by
  obtain ⟨cs, i, z, a, b, hc, hp⟩ := h
  exact ⟨cs, i, z, a, b, s _ _ hc, s _ _ hp⟩
theorem PenAt.some {H : Hp} {p c : Addr} {n : Nat} (h : PenAt H p c n) : ∃ o, H p = some o := by
  obtain ⟨cs, i, z, a, b, hc, hp⟩ := h
  exact ⟨_, hp⟩

def spPen (K : PySem.W.Frag) : Sp := fun vs H Q _ => ∃ (a : Addr) (ns : List Int), vs = [.ref a] ∧ SqL K H a (ns.map V.int) ∧ ns.length ≤ 63 ∧ ∀ p c H', Same H H' → H p = none → H c = none → PenAt H' p c 0 → Q (.ref p) H'
def spNext : Sp := fun vs H Q _ => ∃ (p c : Addr) (n : Nat), vs = [.ref p] ∧ PenAt H p c n ∧ n ≤ 1000000 ∧ ∀ (r : Int) H', But p H H' → PenAt H' p c (n + 1) → Q (.int r) H'
def spDraw : Sp := fun vs H Q _ => ∃ (p c : Addr) (n : Nat) (u : Int), vs = [.ref p, .int u] ∧ PenAt H p c n ∧ n ≤ 1000000 ∧ 0 < u ∧ u < 1000000000 ∧ ∀ (d : Int) H', 0 ≤ d → d < u → But p H H' → PenAt H' p c (n + 1) → Q (.int d) H'
end Wnd

/-! Windowsteps: rules (low, high, gap) as Python has them: tuples with None in them; dicts with such keys. -/
namespace Wnd
open PySem PySem.Spec PyProof.Rows L2

structure Rule where
  low : Option Str
  high : Option Str
  gap : Int
  deriving DecidableEq
def endV : Option Str → V
  | none => .non
  | some x => .str x
def ruleV (r : Rule) : List V := [endV r.low, endV r.high, .int r.gap]
def endK : Option Str → NestedKey
  | none => .none
  | some x => .text x
def ruleK (r : Rule) : NestedKey := .tup [endK r.low, endK r.high, .num r.gap]
theorem endK_inj : ∀ {a b : Option Str}, endK a = endK b → a = b
  | none, none, _ => rfl
  | none, some _, h => NestedKey.noConfusion h
  | some _, none, h => NestedKey.noConfusion h
  | some x, some y, h => by
    injection h with h
    rw [h]
theorem ruleK_inj {a b : Rule} (h : ruleK a = ruleK b) : a = b := by
  cases a with | mk l1 h1 g1 =>
  cases b with | mk l2 h2 g2 =>
  unfold ruleK at h
  injection h with h
  injection h with e1 h
  injection h with e2 h
  injection h with e3 h
  injection e3 with e3
  have f1 : l1 = l2 := endK_inj e1
  have f2 : h1 = h2 := endK_inj e2
  have f3 : g1 = g2 := e3
  rw [f1, f2, f3]
theorem endV_inj : ∀ {a b : Option Str}, endV a = endV b → a = b
  | none, none, _ => rfl
  | none, some _, h => V.noConfusion h
  | some _, none, h => V.noConfusion h
  | some x, some y, h => by
    injection h with h
    rw [h]
theorem endK_depth (a : Option Str) : (endK a).depth = 0 := by
  cases a <;> simp [endK, NestedKey.depth]
theorem ruleK_depth (r : Rule) : (ruleK r).depth = 1 := by
  simp [ruleK, NestedKey.depth, NestedKey.depthAll, endK_depth]
theorem endK_is {h : Heap} {a : Option Str} {u : Value} (r : RelV (endV a) u) : NestedIs h (endK a) u := by
  cases a with
  | none =>
    cases r
    exact .none
  | some x =>
    obtain ⟨t, rfl⟩ := r
    exact .text x t

section
variable {P : Program} {w : World} {H : Hp} {h : Heap}
theorem rule_is {q : Addr} {r : Rule} (ok : HOk P w H h) (e : H q = some (.tup (ruleV r))) : (nestedKind P w).is h (ruleK r) q := by
  obtain ⟨_, its, rel, o, h1, h2, n, h3⟩ := (show ObjOk P w H h q (.tup (ruleV r)) from ok q _ e)
  refine ⟨?_, by rw [ruleK_depth]; decide⟩
  refine NestedIs.tup h1 h2 h3 ?_
  rw [List.toList_toArray]
  cases rel with
  | cons r1 t1 =>
    cases t1 with
    | cons r2 t2 =>
      cases t2 with
      | cons r3 t3 =>
        cases t3
        obtain ⟨t, rfl⟩ := r3
        exact .cons (endK_is r1) (.cons (endK_is r2) (.cons (.int _ t) .nil))
end

/-! ### a dict of rules, each with True -/
def rdX (L : List (Rule × Addr)) : List (NestedKey × Addr × Value) := L.map fun p => (ruleK p.1, p.2, Value.bool true)
structure RdAt (P : Program) (w : World) (h : Heap) (d : Addr) (L : List (Rule × Addr)) : Prop where
  lo : (d == sysModules) = false
  sz : L.length ≤ sizeLine
  raw : ∃ o es ep, h.get? d = some o ∧ o.ExactDict ∧ o.data = .dict es ep ∧ es.toList = (rdX L).map (entryOfKey (nestedKind P w))
  nd : (L.map (·.1)).Nodup
def rdO (P : Program) (w : World) (d : Addr) (L : List (Rule × Addr)) : HO := .ext fun h => RdAt P w h d L
/-- the keys' own tuples -/
def KeyTups (H : Hp) (L : List (Rule × Addr)) : Prop := ∀ p, p ∈ L → H p.2 = some (.tup (ruleV p.1))
theorem KeyTups.same {H H' : Hp} {L : List (Rule × Addr)} (k : KeyTups H L) (s : ∀ b xs, H b = some (.tup xs) → H' b = some (.tup xs)) : KeyTups H' L := fun p hp => s _ _ (k p hp)
def putR (L : List (Rule × Addr)) (r : Rule) (q : Addr) : List (Rule × Addr) := if r ∈ L.map (·.1) then L else L ++ [(r, q)]
section
variable {P : Program} {w : World} {H : Hp} {h : Heap} {d : Addr} {L : List (Rule × Addr)}
theorem rdO_ok (R : RdAt P w h d L) : ObjOk P w H h d (rdO P w d L) := by
  refine ⟨R, ?_, fun h1 h2 R1 k => ?_⟩
  · obtain ⟨o, _, _, e, _⟩ := R.raw
    exact ⟨o, e⟩
  · obtain ⟨o, es, ep, e, c⟩ := R1.raw
    exact ⟨R1.lo, R1.sz, ⟨o, es, ep, k o e, c⟩, R1.nd⟩
theorem rd_at (ok : HOk P w H h) (e : H d = some (rdO P w d L)) : RdAt P w h d L := (ok d _ e).1
theorem rd_rd (ok : HOk P w H h) (e : Rd H d (rdO P w d L)) : RdAt P w h d L := (e.ok ok).1
theorem rdX_nodup (hn : (L.map (·.1)).Nodup) : ((rdX L).map (·.1)).Nodup := by
  unfold rdX
  rw [List.map_map]
  rw [show ((fun x : NestedKey × Addr × Value => x.1) ∘ fun p : Rule × Addr => (ruleK p.1, p.2, Value.bool true)) = ruleK ∘ (fun p : Rule × Addr => p.1) from rfl, ← List.map_map]
  exact List.Pairwise.map ruleK (fun a b hab e => hab (ruleK_inj e)) hn
theorem RdAt.full (ok : HOk P w H h) (R : RdAt P w h d L) (k : KeyTups H L) : h.DictOfH (nestedKind P w) d (rdX L) := by
  obtain ⟨o, es, ep, e, x, dd, en⟩ := R.raw
  refine ⟨o, es, ep, e, x, dd, en, fun y hy => ?_, rdX_nodup R.nd⟩
  obtain ⟨p, hp, rfl⟩ := List.mem_map.mp hy
  exact rule_is ok (k p hp)
theorem RdAt.of (D : h.DictOfH (nestedKind P w) d (rdX L)) (lo : (d == sysModules) = false) (sz : L.length ≤ sizeLine) (nd : (L.map (·.1)).Nodup) : RdAt P w h d L := by
  obtain ⟨o, es, ep, e, x, dd, en, _⟩ := D
  exact ⟨lo, sz, ⟨o, es, ep, e, x, dd, en⟩, nd⟩
theorem atKey_rdX (r : Rule) : ∀ L : List (Rule × Addr), (atKey (rdX L) (ruleK r)).isSome = decide (r ∈ L.map (·.1))
  | [] => by simp [rdX, atKey]
  | p :: L => by
    have ih := atKey_rdX r L
    by_cases e : p.1 = r
    · subst e
      simp [rdX, atKey]
    · have e' : ¬ ruleK p.1 = ruleK r := fun z => e (ruleK_inj z)
      have e2 : ¬ r = p.1 := fun z => e z.symm
      have h1 : atKey (rdX (p :: L)) (ruleK r) = atKey (rdX L) (ruleK r) := by
        unfold rdX atKey
        rw [List.map_cons, List.find?_cons]
        simp [e']
      rw [h1, ih]
      simp [e2]
theorem putAt_true (r : Rule) : ∀ L : List (Rule × Addr), (rdX L).map (putAt (ruleK r) (Value.bool true)) = rdX L
  | [] => rfl
  | p :: L => by
    have ih := putAt_true r L
    unfold rdX at ih ⊢
    rw [List.map_cons, List.map_cons, ih]
    unfold putAt
    split <;> rfl
theorem storedH_rdX (L : List (Rule × Addr)) (r : Rule) (q : Addr) : storedH (rdX L) (ruleK r) q (Value.bool true) = rdX (putR L r q) := by
  unfold storedH putR
  rw [atKey_rdX]
  by_cases e : r ∈ L.map (·.1)
  · rw [decide_eq_true e, if_pos rfl, if_pos e, putAt_true]
  · rw [decide_eq_false e, if_neg Bool.false_ne_true, if_neg e]
    unfold rdX
    rw [List.map_append]
    rfl
theorem putR_nodup {r : Rule} {q : Addr} (nd : (L.map (·.1)).Nodup) : ((putR L r q).map (·.1)).Nodup := by
  unfold putR
  by_cases e : r ∈ L.map (·.1)
  · rw [if_pos e]
    exact nd
  · rw [if_neg e, List.map_append]
    refine List.nodup_append.mpr ⟨nd, by simp, fun a ha b hb => ?_⟩
    have hb' : b = r := by simpa using hb
    subst hb'
    intro z
    subst z
    exact e ha
theorem putR_len {r : Rule} {q : Addr} : (putR L r q).length ≤ L.length + 1 := by
  unfold putR
  split
  · omega
  · rw [List.length_append, List.length_singleton]
    omega
theorem KeyTups.put {r : Rule} {q : Addr} (k : KeyTups H L) (hq : H q = some (.tup (ruleV r))) : KeyTups H (putR L r q) := by
  unfold putR
  split
  · exact k
  · intro p hp
    rcases List.mem_append.mp hp with hp | hp
    · exact k p hp
    · have e : p = (r, q) := by simpa using hp
      subst e
      exact hq
end
section
variable {X : Cx} {pins : List (Addr × Obj)} {σ : L2.St} {H : Hp} {s : Shared} {E : Value → Shared → Prop}
theorem rdO_ne_tup {P : Program} {w : World} {d : Addr} {L : List (Rule × Addr)} {xs : List V} : rdO P w d L ≠ .tup xs := fun z => nomatch z
theorem rd_dictSet {A : Around} {d q : Addr} {L : List (Rule × Addr)} {r : Rule} {Q : Unit → Shared → Prop} (hu : A.units + 8 < cLine) (I : Inv X pins σ H s) (hd : H d = some (rdO X.prog X.w d L)) (k : KeyTups H L) (hq : H q = some (.tup (ruleV r)))
    (hz : L.length < sizeLine) (hQ : ∀ s', Inv X pins σ (upd H d (rdO X.prog X.w d (putR L r q))) s' → Q () s') :
    wpAny (model X.prog X.w) A (dictSet d (.ref q) (.bool true)) Q E s := by
  have R := rd_at I.hok hd
  have hl : (rdX L).length = L.length := by unfold rdX; rw [List.length_map]
  refine wpAny_dictSet_heap (hsz := by rw [hl]; exact R.sz) (knd := nestedKind X.prog X.w) hu (rule_is I.hok hq) (R.full I.hok k) fun h' D' sb => hQ _ ?_
  rw [storedH_rdX] at D'
  have he : ∃ z, h'.get? d = some z := let ⟨z, _, _, e, _⟩ := D'; ⟨z, e⟩
  exact d_write I (by rw [hd]; exact True.intro) sb he (rdO_ok (RdAt.of D' R.lo (Nat.le_trans putR_len hz) (putR_nodup R.nd)))
end
end Wnd

/-! Windowsteps: {rule: True for rule in rules}. -/
namespace Wnd
open PySem PySem.Spec PyProof.Rows L2
section
variable {X : Cx}
/-- what the comprehension asks: D is the new dict of rules -/
def tDcR (P : Program) (w : World) (wi : TI) (g : TG) (tk : TE) (vs : List Nat) : TE := fun σ H Q => wi σ H fun J H1 =>
  ∀ D, H1 D = none → ∃ W : Nat → Nat → Hp → Prop, (∃ m, W 0 m (upd H1 D (rdO P w D []))) ∧ ∀ i m Hi, W i m Hi →
    (J.stop i Hi ∧ Q (.ref D) Hi) ∨ (J.go i Hi ∧ ∃ Nx : Hp → Prop, (∀ Hn, Nx Hn → ∃ m', m' < m ∧ W (i + 1) m' Hn) ∧
      ∀ x Hx, J.yld i Hi x Hx → g x (wipe σ vs) Hx fun σ2 H2 => wipe σ2 vs = wipe σ vs ∧
        tk σ2 H2 fun y H3 => ∃ (q : Addr) (r : Rule) (L : List (Rule × Addr)), y = .ref q ∧ H3 D = some (rdO P w D L) ∧ KeyTups H3 L ∧ H3 q = some (.tup (ruleV r)) ∧ L.length < sizeLine ∧ Nx (upd H3 D (rdO P w D (putR L r q))))
theorem rd_empty {P : Program} {w : World} {H : Hp} (h : Heap) (big : sysModules < h.objs.size) :
    ObjOk P w H (h.push { cls := .type "dict", data := .dict #[] }) h.objs.size (rdO P w h.objs.size []) :=
  rdO_ok (RdAt.of (Heap.DictOfH.new (knd := nestedKind P w) h) (beq_eq_false_iff_ne.mpr (Nat.ne_of_gt big)) (Nat.zero_le _) List.nodup_nil)
/-- the block's keys may be laid down while D stands -/
theorem dcR_core {pins : List (Addr × Obj)} {s : Shared} {σ : L2.St} {H : Hp} {Q : VK} {kx tg iter : Expr} {c : Nat} {cp : Pos} {scope : Scope} {own : List (Str × Nat)} {pos pos' : Pos} {wi : TI} {g : TG} {tk : TE}
    {use : Option (Value → Sem Unit)} {Qf : Value → Shared → Prop} (room : X.A.units + 8 < cLine) (calm : X.calm = true) (nd : X.N.Nodup) (I : Inv X pins σ H s) (hi : PI X tg iter wi) (ok : BlkOk X.N X.env.scope scope own)
    (hg : ∀ (s : Shared) (H : Hp) (C : Addr) (cl : List (Str × Addr)) (fp : List Addr), PG (X.blk s H scope (compEnvC scope cl C X.env) fp) tg g)
    (hk : ∀ (s : Shared) (H : Hp) (C : Addr) (cl : List (Str × Addr)) (fp : List Addr), PE (X.blk s H scope (compEnvC scope cl C X.env) fp) kx tk)
    (plain : ∀ x, foldedSetIterable iter X.env x = pure x) (ask : tDcR X.prog X.w wi g tk (own.map (·.2)) σ H Q)
    (last : ∀ D C s' m H', Inv X pins σ H' s' → Q (.ref D) H' → s'.heap.Ns C m → FpOk X pins H' C → compPost (model X.prog X.w) X.A X.xe use Qf (.ref D) C (.ok .next) s') :
    wpAny (model X.prog X.w) X.A (comprehension (.DictComp kx (.Constant (.bool true) c cp) [⟨tg, iter, [], 0⟩] scope pos) scope X.env pos' newDict false (eval iter X.env) use) Qf X.xe s := by
  have cells : ∀ y ∈ scope.names, y.2 = .free → ∃ c, X.env.cells.lookup y.1 = some c := by
    intro y hy e
    rcases ok.free y hy e with k | k
    · exact I.ok.has _ (.inl k)
    · exact I.ok.has _ (.inr k)
  refine wpAny_comprehension_free (use := use) rfl plain (closure_ok cells) ok.kind (fun y hy e => by rw [ok.uniq y hy, e]) (thn (hi.run pins s σ H _ I ask) ?_)
  intro xv s1 hx
  refine thn hx ?_
  rintro itv s2 ⟨it, fp, tn, J, Ha, rfl, I2, T, t0, fz, asks⟩
  refine wpAny_newObj_type (newEnv_comp ?_)
  generalize eD : s2.heap.objs.size = D
  have dNew : Ha D = none := I2.hok.fresh (Nat.le_of_eq eD)
  obtain ⟨W, ⟨m0, w0⟩, turn⟩ := asks D dNew
  -- the new dict is laid down
  generalize e3 : ({ s2 with heap := s2.heap.push { cls := .type "dict", data := .dict #[] } } : Shared) = s3
  have I3 : Inv X pins σ (upd Ha D (rdO X.prog X.w D [])) s3 := by
    rw [← e3]
    refine I2.laid (t' := s2.toks) (fun b o e => Heap.get?_push_of_some _ e) (Nat.le_of_eq eD) ?_
    rw [← eD]
    exact rd_empty s2.heap I2.big
  have h3 : s3.heap = s2.heap.push { cls := .type "dict", data := .dict #[] } := by rw [← e3]
  have below : ∀ b ∈ fp, b < s2.heap.objs.size := by
    intro b hb
    obtain ⟨o, e, _⟩ := T.obj _ _ t0 b hb
    exact Heap.lt_size e
  have away : ∀ b ∈ fp, FpOk X pins (upd Ha D (rdO X.prog X.w D [])) b ∧ b < s3.heap.objs.size := by
    intro b hb
    have lt := below b hb
    refine ⟨⟨?_, (fz b hb).2⟩, ?_⟩
    · rw [upd_ne (by rw [← eD]; exact Nat.ne_of_lt lt)]
      exact (fz b hb).1
    · rw [h3, Heap.size_push]
      exact Nat.lt_succ_of_lt lt
  have t3 : tn 0 s3.heap := T.keep _ _ _ t0 fun b _ o e => by
    rw [h3]
    exact Heap.get?_push_of_some _ e
  have I4 := block_start I3 ok nd away
  generalize eH : upd Ha D (rdO X.prog X.w D []) = Hb at I3 I4 w0 away
  have pg := hg s3 Hb s3.heap.objs.size (cellsFrom (s3.heap.objs.size + 1) scope.names (cloFrom X.env.cells scope.names [])) fp
  have pk := hk s3 Hb s3.heap.objs.size (cellsFrom (s3.heap.objs.size + 1) scope.names (cloFrom X.env.cells scope.names [])) fp
  generalize eE : compEnvC scope (cellsFrom (s3.heap.objs.size + 1) scope.names (cloFrom X.env.cells scope.names [])) s3.heap.objs.size X.env = be at I4 pg pk
  show codeAny _ _ (.compStart (.DictComp kx (.Constant (.bool true) c cp) [⟨tg, iter, [], 0⟩] scope pos) 0 (.ref it) (.ref D)
    (compEnvC scope (cellsFrom (s3.heap.objs.size + 1) scope.names (cloFrom X.env.cells scope.names [])) s3.heap.objs.size X.env))
    (compPost (model X.prog X.w) X.A X.xe use Qf (.ref D) s3.heap.objs.size) { s3 with heap := pushCells (s3.heap.push { cls := .type "dict", data := .dict #[] }) scope.names }
  rw [eE]
  have locs : be.locals = s3.heap.objs.size := by
    subst eE
    rfl
  have none0 : ∀ b ∈ fp, Hb b = none := fun b hb => (away b hb).1.1
  generalize e4 : ({ s3 with heap := pushCells (s3.heap.push { cls := .type "dict", data := .dict #[] }) scope.names } : Shared) = s4 at I4 ⊢
  have t4 : tn 0 s4.heap := T.keep _ _ _ t3 fun b _ o e => by
    rw [← e4]
    exact pushCells_keeps _ _ _ _ (Heap.get?_push_of_some _ e)
  have stat : ∀ {σ' : L2.St} {Hc : Hp} {s' : Shared}, Inv (X.blk s3 Hb scope be fp) [] σ' Hc s' → (∀ b ∈ fp, Hc b = none) → ∀ b ∈ fp, FpOk (X.blk s3 Hb scope be fp) [] Hc b := by
    intro σ' Hc s' J' hn b hb
    exact ⟨hn b hb, (J'.ok.exf b hb).1, J'.ok.exfs b hb, .inl hb, fun x c e => (J'.ok.exf b hb).2 x c e, fun p hp => absurd (show p ∈ ([] : List (Addr × Obj)) ++ [] from hp) (by simp)⟩
  have loop : codeAny (model X.prog X.w) X.A (.compLoop (.DictComp kx (.Constant (.bool true) c cp) [⟨tg, iter, [], 0⟩] scope pos) 0 (.ref it) (.ref D) be) (compPost (model X.prog X.w) X.A X.xe use Qf (.ref D) s3.heap.objs.size) s4 := by
    refine compLoop_anyD (fun n s' => ∃ i Hc, Inv (X.blk s3 Hb scope be fp) [] (wipe σ (own.map (·.2))) Hc s' ∧ tn i s'.heap ∧ (∀ b ∈ fp, Hc b = none) ∧ W i n Hc) ?_ m0 ⟨0, Hb, I4, t4, none0, w0⟩
    rintro n s5 ⟨i, Hc, I5, t5, n5, w5⟩
    rcases turn i n Hc w5 with ⟨stop, fin⟩ | ⟨go, Nx, less, step⟩
    · refine thnF (T.done (X.blk s3 Hb scope be fp) rfl rfl rfl calm i [] s5 _ Hc (fun _ _ => False) I5 (stat I5 n5) t5 stop) ?_
      rintro r s6 ⟨rfl, I6⟩
      have I7 : Inv X pins σ Hc s6 := I3.call' (ch := fp) I6.os I6.base I6.hok I6.bare fun b hb => ⟨(away b hb).1.2.2.2.1, (away b hb).1.2.1, (away b hb).1.2.2.2.2.1, (away b hb).1.2.2.2.2.2⟩
      have nC : Hc s3.heap.objs.size = none := by
        have z : Hc be.locals = none := I6.free
        rw [locs] at z
        exact z
      obtain ⟨m, hn, _⟩ := I6.loc
      have hn : s6.heap.Ns be.locals m := hn
      rw [locs] at hn
      exact last D s3.heap.objs.size s6 m Hc I7 fin hn (I3.fpOk (Nat.le_refl _) nC)
    · refine thnF (T.item (X.blk s3 Hb scope be fp) rfl rfl rfl calm i [] s5 _ Hc (fun _ _ => False) I5 (stat I5 n5) t5 go) ?_
      rintro r s6 ⟨u, rfl, h6⟩
      refine thnF h6 ?_
      rintro _ s7 ⟨x, Hx, I7, r7, y7, t7, n7⟩
      have I7' := I7.pinned (stat I7 n7) (T.obj _ _ t7)
      refine thnF (pg.run _ s7 _ Hx x u _ I7' r7 (step x Hx y7)) ?_
      rintro _ s8 ⟨σ8, H8, I8, hw8, q8⟩
      refine thnF (wpAny_tests_nil (Q := fun b s9 => b = true ∧ s9 = s8) ⟨rfl, rfl⟩) ?_
      rintro b s9 ⟨rfl, rfl⟩
      rw [if_pos rfl]
      refine thnF (pk.run _ s9 σ8 H8 _ I8 q8) ?_
      rintro z s10 ⟨y, H9, I9, ry, q, rr, L, rfl, hD9, kt, hq, hz, nx⟩
      cases ry
      have pb : PE (X.blk s3 Hb scope be fp) (.Constant (.bool true) c cp) (tC (.bl true)) := pe_bl
      refine thnF (pb.run _ s10 σ8 H9 (fun v H' => v = .bl true ∧ H' = H9) I9 ⟨rfl, rfl⟩) ?_
      rintro z2 s11 ⟨yv, H11, I11, rv, rfl, rfl⟩
      cases rv
      refine rd_dictSet (X := X.blk s3 Hb scope be fp) room I11 hD9 kt hq hz fun s12 I12 => ?_
      obtain ⟨m', hm, w'⟩ := less _ nx
      have pinned : ∀ b ∈ fp, ∀ o, s7.heap.get? b = some o → s12.heap.get? b = some o ∧ (upd H11 D (rdO X.prog X.w D (putR L rr q))) b = none := by
        intro b hb o e
        have z := I12.pin (b, o) (List.mem_append_right _ (List.mem_append_right _ (mem_pinsAt hb e)))
        exact ⟨z.1, z.2.1⟩
      have len : (wipe σ (own.map (·.2))).length = σ8.length := by rw [← hw8, wipe_length]
      refine ⟨m', hm, i + 1, _, (I12.unpinned (pins := [])).weak len (fun j v e => ?_), T.keep _ _ _ t7 fun b hb o e => (pinned b hb o e).1, fun b hb => ?_, w'⟩
      · rw [← hw8] at e
        exact (wipe_some e).1
      · obtain ⟨o, e, _⟩ := T.obj _ _ t7 b hb
        exact (pinned b hb o e).2
  exact codeAny_compStart_dict loop (T.self X.A 0 _ _ _ t4 loop)
/-- d = {rule: True for rule in rules} on one line, d a local -/
theorem ps_setDcR {i : Nat} {y : Str} {py : Pos} {kx tg iter : Expr} {c : Nat} {cp : Pos} {scope : Scope} {own : List (Str × Nat)} {pos spos : Pos} {wi : TI} {g : TG} {tk : TE} (room : X.A.units + 8 < cLine) (calm : X.calm = true) (nd : X.N.Nodup)
    (hy : X.N[i]? = some y) (hyl : X.env.scope.names.lookup y = some .local) (sw : swapsWith (.DictComp kx (.Constant (.bool true) c cp) [⟨tg, iter, [], 0⟩] scope pos) (some (.Name y py)) spos.line X.env = pure true)
    (hi : PI X tg iter wi) (ok : BlkOk X.N X.env.scope scope own)
    (hg : ∀ (s : Shared) (H : Hp) (C : Addr) (cl : List (Str × Addr)) (fp : List Addr), PG (X.blk s H scope (compEnvC scope cl C X.env) fp) tg g)
    (hk : ∀ (s : Shared) (H : Hp) (C : Addr) (cl : List (Str × Addr)) (fp : List Addr), PE (X.blk s H scope (compEnvC scope cl C X.env) fp) kx tk)
    (plain : ∀ x, foldedSetIterable iter X.env x = pure x := by intro _; rfl) :
    PS X (.Assign [.Name y py] (.DictComp kx (.Constant (.bool true) c cp) [⟨tg, iter, [], 0⟩] scope pos) spos) (tAsg (tDcR X.prog X.w wi g tk (own.map (·.2))) (gName i)) := by
  refine ⟨fun pins s σ H D I h => ?_⟩
  rw [exec_Assign_Name_used _ _ _ _ sw]
  refine wpAny_bind (wpAny_standAt (wpAny_bind ?_))
  show wpAny _ X.A (do
    let _ ← comprehension (.DictComp kx (.Constant (.bool true) c cp) [⟨tg, iter, [], 0⟩] scope pos) scope X.env (firstIterPos [⟨tg, iter, [], 0⟩] pos) newDict false (eval iter X.env) (some (assign (.Name y py) X.env))) _ _ s
  have h' : tDcR X.prog X.w wi g tk (own.map (·.2)) σ H (fun x H1 => gName i x σ H1 D.nx) := h
  refine wpAny_bind (thn (dcR_core (Qf := fun _ s' => SP X pins D .next s') room calm nd I hi ok hg hk plain h' ?_) fun _ s' hq => wpAny_pure (wpAny_pure hq))
  intro L C s' m H' I' q hn fo
  show wpAny _ _ (assign (.Name y py) X.env (.ref L)) _ _ _
  obtain ⟨f0, f1, f2, f3, f4, f5⟩ := fo
  refine wpAny_assign_Name (store_ok2 (v := V.ref L) I' nd hy (.inl hyl) rfl (fun s2 I2 => ?_) (.inr hyl))
  rintro ⟨a, sb, ha⟩
  have apart : C ≠ a := by
    rcases ha with z | z
    · rw [z]
      exact f1
    · exact fun e => f4 y a z e.symm
  refine ⟨m, hn.sameBut sb apart, fun h3 sb3 => ⟨_, H', ?_, q⟩⟩
  exact I2.turned (t' := s2.toks) (fun b o hb e => (sb3.2 b hb).trans e) f0 f1 f3 f4 f5
theorem sw_dict {kx vx : Expr} {gs : List Comprehension} {scope : Scope} {pos py : Pos} {y : Str} {l : Nat} {env : Env} (hk : env.scope.kind = .function) (hy : env.scope.names.lookup y = some .local) (hl : (py.line == pos.line) = true)
    (ha : (scope.names.any fun (n, k) => n == y && (k == .local || k == .cell)) = false) : swapsWith (.DictComp kx vx gs scope pos) (some (.Name y py)) l env = pure true := by
  have ky : env.kindOf y = some .local := hy
  have kb : env.blockKind = .function := by
    unfold Env.blockKind
    rw [hk]
    rfl
  unfold swapsWith
  simp only [kb, ky, ha, Expr.pos, hl]
  rfl
/-- over a list of rules that stays: in the end D holds each of them once, in the order of their first coming -/
def putAll (rs : List (Rule × Addr)) (L : List (Rule × Addr)) : List (Rule × Addr) := rs.foldl (fun L p => putR L p.1 p.2) L
theorem dcR_list {P : Program} {w : World} {K : PySem.W.Frag} {a : Addr} {rs : List (Rule × Addr)} {i : Nat} {σ : L2.St} {vs : List Nat} {H1 : Hp} {D : Addr} {Qd : Hp → Prop} (hD : H1 D = none) (hl : SqL K H1 a (rs.map fun p => V.ref p.2)) (hk : KeyTups H1 rs) (hz : rs.length < sizeLine)
    (hi : i < (wipe σ vs).length) (hv : ∀ v, wipe ((wipe σ vs).set i (some v)) vs = wipe σ vs) (hd : Qd (upd H1 D (rdO P w D (putAll rs [])))) :
    ∃ W : Nat → Nat → Hp → Prop, (∃ m, W 0 m (upd H1 D (rdO P w D []))) ∧ ∀ j m Hj, W j m Hj →
      ((Itl K a).stop j Hj ∧ Qd Hj) ∨ ((Itl K a).go j Hj ∧ ∃ Nx : Hp → Prop, (∀ Hn, Nx Hn → ∃ m', m' < m ∧ W (j + 1) m' Hn) ∧
        ∀ x Hx, (Itl K a).yld j Hj x Hx → gName i x (wipe σ vs) Hx fun σ2 H2 => wipe σ2 vs = wipe σ vs ∧
          tVar i σ2 H2 fun y H3 => ∃ (q : Addr) (r : Rule) (L : List (Rule × Addr)), y = .ref q ∧ H3 D = some (rdO P w D L) ∧ KeyTups H3 L ∧ H3 q = some (.tup (ruleV r)) ∧ L.length < sizeLine ∧ Nx (upd H3 D (rdO P w D (putR L r q)))) := by
  have keepT : ∀ L : List (Rule × Addr), ∀ b xs, H1 b = some (.tup xs) → upd H1 D (rdO P w D L) b = some (.tup xs) := fun L b xs e => by
    rw [upd_ne (ne_of_none e hD)]
    exact e
  have keepL : ∀ L : List (Rule × Addr), SqL K (upd H1 D (rdO P w D L)) a (rs.map fun p => V.ref p.2) := fun L => by
    have sm : Same H1 (upd H1 D (rdO P w D L)) := same_new hD
    exact sm.seq hl
  have memP : ∀ (rs' L : List (Rule × Addr)), (∀ p ∈ rs', H1 p.2 = some (.tup (ruleV p.1))) → KeyTups H1 L → KeyTups H1 (putAll rs' L) := by
    intro rs'
    induction rs' with
    | nil => exact fun L _ k => k
    | cons p r ih => exact fun L h k => ih _ (fun z hz => h z (List.mem_cons_of_mem _ hz)) (k.put (h p (List.mem_cons_self ..)))
  have lenP : ∀ (rs' L : List (Rule × Addr)), (putAll rs' L).length ≤ L.length + rs'.length := by
    intro rs'
    induction rs' with
    | nil => exact fun L => Nat.le_refl _
    | cons p r ih =>
      intro L
      have h1 := ih (putR L p.1 p.2)
      have h2 := @putR_len L p.1 p.2
      show (putAll r (putR L p.1 p.2)).length ≤ L.length + (r.length + 1)
      omega
  refine ⟨fun j m Hj => m = rs.length - j ∧ j ≤ rs.length ∧ Hj = upd H1 D (rdO P w D (putAll (rs.take j) [])), ⟨rs.length, by simp, Nat.zero_le _, rfl⟩, ?_⟩
  rintro j m Hj ⟨rfl, hj, rfl⟩
  by_cases lt : j < rs.length
  · refine .inr ⟨⟨_, .ref rs[j].2, keepL _, by rw [List.getElem?_map, List.getElem?_eq_getElem lt]; rfl⟩, fun Hn => Hn = upd H1 D (rdO P w D (putAll (rs.take (j + 1)) [])), fun Hn e => ⟨rs.length - (j + 1), by omega, rfl, lt, e⟩, ?_⟩
    rintro x Hx ⟨rfl, y⟩
    have ex := y _ (keepL _)
    rw [List.getElem?_map, List.getElem?_eq_getElem lt] at ex
    have ex' : V.ref rs[j].2 = x := Option.some.inj ex
    subst ex'
    refine ⟨hv _, .ref rs[j].2, ?_, rs[j].2, rs[j].1, putAll (rs.take j) [], rfl, upd_same, ?_, ?_, ?_, ?_⟩
    · rw [List.getElem?_set_self hi]
    · exact (memP _ _ (fun p hp => hk p (List.mem_of_mem_take hp)) (fun p hp => absurd hp (List.not_mem_nil))).same (keepT _)
    · exact keepT _ _ _ (hk _ (List.getElem_mem lt))
    · have h1 := lenP (rs.take j) []
      have h2 : (rs.take j).length ≤ rs.length := by
        rw [List.length_take]
        omega
      simp only [List.length_nil] at h1
      omega
    · have e1 : rs.take (j + 1) = rs.take j ++ [rs[j]] := by
        rw [List.take_add_one, List.getElem?_eq_getElem lt]
        rfl
      rw [upd_upd, e1]
      unfold putAll
      rw [List.foldl_append]
      rfl
  · have e : j = rs.length := by omega
    subst e
    refine .inl ⟨⟨_, keepL _, by rw [List.length_map]; exact Nat.le_refl _⟩, ?_⟩
    rw [List.take_length]
    exact hd
end
end Wnd

/-! Windowsteps: sorted(rules, key=f), f a def of the text; sorted of pairs of a key and a rule. -/
namespace Wnd
open PySem PySem.Spec PyProof.Rows L2

def endS (e : Option Str) : Str := e.getD ⟨#[]⟩
/-- the key that orders rules: None ahead of all names -/
def rankV (r : Rule) : List V := [.str (endS r.low), .str (endS r.high), .int r.gap]
def rankD (r : Rule) : PyData := .tuple [.str (endS r.low), .str (endS r.high), .int r.gap]
/-- its texts are no longer than a line of the store -/
def Short (r : Rule) : Prop := (∀ t : Str, r.low = some t → t.length ≤ sizeLine) ∧ ∀ t : Str, r.high = some t → t.length ≤ sizeLine
def spRank : Sp := fun vs H Q _ => ∃ (q : Addr) (r : Rule), vs = [.ref q] ∧ H q = some (.tup (ruleV r)) ∧ Short r ∧ ∀ t, H t = none → Q (.ref t) (upd H t (.tup (rankV r)))
/-- the rules in ascending order (each with its address) -/
def inOrder (L : List (Rule × Addr)) : List (Rule × Addr) := L.mergeSort (W.dataLe false fun p => rankD p.1)

section
variable {P : Program} {w : World} {H : Hp} {h : Heap}
theorem rank_reads {t : Addr} {r : Rule} (ok : HOk P w H h) (e : H t = some (.tup (rankV r))) : Reads h (.ref t) (rankD r) [] := by
  obtain ⟨_, its, rel, o, h1, h2, n, h3⟩ := (show ObjOk P w H h t (.tup (rankV r)) from ok t _ e)
  cases rel with
  | cons r1 t1 =>
    cases t1 with
    | cons r2 t2 =>
      cases t2 with
      | cons r3 t3 =>
        cases t3
        obtain ⟨a, rfl⟩ := r1
        obtain ⟨b, rfl⟩ := r2
        obtain ⟨c, rfl⟩ := r3
        refine Reads.tuple (as := []) h1 h2 h3 ?_
        rw [List.toList_toArray]
        exact ReadsAll.cons (.str _ _) (ReadsAll.cons (.str _ _) (ReadsAll.cons (.int _ _) .nil))
end
theorem rank_alike (L : List (Rule × Addr)) : W.AllAlike (L.map fun p => rankD p.1) := W.AllAlike.of fun _ _ => by simp [W.alike, W.alikeAll, rankD]
theorem rank_sortable (L : List (Rule × Addr)) : W.Sortable (L.map fun p => rankD p.1) := W.Sortable.tuples fun _ => ⟨_, _, rfl⟩
theorem rank_depth (r : Rule) : (rankD r).depth = 1 := by simp [rankD, PyData.depth, PyData.depthAll]

section
variable {X : Cx}
/-- sorted(d, key=f): d a dict of rules -/
def rSortRank (P : Program) (w : World) (f : Addr) : List V → List V → Hp → VK → Prop := fun vs zs H Q => ∃ (d : Addr) (L : List (Rule × Addr)), vs = [.ref d] ∧ zs = [.ref f] ∧ H d = some (rdO P w d L) ∧ KeyTups H L ∧ (∀ p ∈ L, Short p.1) ∧ L.length < 1000000 ∧
  ∀ p H', Same H H' → H p = none → H' p = some (.lst ((inOrder L).map fun x => V.ref x.2)) → Q (.ref p) H'
/-- what stands while the keys are asked for -/
structure Asked (X : Cx) (pins : List (Addr × Obj)) (σ : L2.St) (H : Hp) (L : List (Rule × Addr)) (a kS : Addr) (e1 j : Nat) (s : Shared) : Prop where
  ex : ∃ (Hc : Hp) (kA : Array Value) (e : Nat), Inv X pins σ Hc s ∧ Same H Hc ∧ FpOk X pins Hc a ∧ FpOk X pins Hc kS ∧ s.heap.get? a = some (seqObj "list" #[] e1) ∧ s.heap.get? kS = some (seqObj "list" kA e) ∧
    W.EachIs (fun v (x : Rule × Addr) => ∃ t, v = Value.ref t ∧ Hc t = some (.tup (rankV x.1))) kA.toList (L.take j)

theorem ask_key {pins : List (Addr × Obj)} {σ : L2.St} {H : Hp} {s : Shared} {A : Around} {f a kS : Addr} {fd : FuncData} {k e1 j : Nat} {L : List (Rule × Addr)} {E : Value → Shared → Prop} (F : FnOk X.prog X.w X.K X.mg X.base CX0 k f fd ["rule"] spRank) (hb : Binds X.K fd ["rule"] []) (hr : Room k A) (fr : A.frames = X.A.frames)
    (kt : KeyTups H L) (sh : ∀ p ∈ L, Short p.1) (ne : kS ≠ a) (lt : j < L.length) (st : Asked X pins σ H L a kS e1 j s) :
    wpAny (model X.prog X.w) A (call (.ref f) [.ref L[j].2]) (fun u s' => ∃ (Hc : Hp) (kA : Array Value) (e : Nat) (t : Addr), u = .ref t ∧ Inv X pins σ Hc s' ∧ Same H Hc ∧ FpOk X pins Hc a ∧ FpOk X pins Hc kS ∧ s'.heap.get? a = some (seqObj "list" #[] e1) ∧
      s'.heap.get? kS = some (seqObj "list" kA e) ∧ Hc t = some (.tup (rankV L[j].1)) ∧ W.EachIs (fun v (x : Rule × Addr) => ∃ t, v = Value.ref t ∧ Hc t = some (.tup (rankV x.1))) kA.toList (L.take j)) E s := by
  obtain ⟨Hc, kA, e, I, sm, fa, fk, ha, hk, ks⟩ := st.ex
  have hq : Hc L[j].2 = some (.tup (ruleV L[j].1)) := sm _ _ (kt _ (List.getElem_mem lt))
  have both : ∀ b ∈ [a, kS], FpOk X pins Hc b := by
    intro b hb
    rcases List.mem_cons.mp hb with z | hb
    · rw [z]
      exact fa
    · rw [List.mem_singleton.mp hb]
      exact fk
  have stand : ∀ b ∈ [a, kS], ∃ o, s.heap.get? b = some o ∧ ∀ v, o.data ≠ .cell v := by
    intro b hb
    rcases List.mem_cons.mp hb with z | hb
    · rw [z]
      exact ⟨_, ha, fun v z => nomatch z⟩
    · rw [List.mem_singleton.mp hb]
      exact ⟨_, hk, fun v z => nomatch z⟩
  have Ip := I.pinned both stand
  have env : Env0 X.prog X.w X.K X.mg X.base A X.stack s Hc := by
    have z := I.env0
    exact ⟨fr.trans z.frames, z.mod, z.bs, z.bsz, z.funs, z.frf, z.hok, z.bare⟩
  refine wpAny_call (codeAny_mono (F.run A X.stack s Hc ⟨[.ref L[j].2], []⟩ [.ref L[j].2] [.ref L[j].2] (fun v H' => ∃ t, v = .ref t ∧ Hc t = none ∧ H' = upd Hc t (.tup (rankV L[j].1))) (fun _ _ _ => False) hr env
    (by have z := hb s [.ref L[j].2] I.kIn rfl; rwa [List.append_nil] at z) (.cons rfl .nil) ⟨_, _, rfl, hq, sh _ (List.getElem_mem lt), fun t ht => ⟨t, rfl, ht, rfl⟩⟩) fun r s' hr' => ?_)
  cases r with
  | error e => exact hr'.elim
  | ok fl =>
    cases fl with
    | next => exact False.elim hr'
    | brk => exact False.elim hr'
    | cont => exact False.elim hr'
    | ret u =>
      obtain ⟨v, H', I', rv, t, rfl, ht, rfl⟩ := Ip.after hr'
      cases rv
      have pa := I'.pin (a, seqObj "list" #[] e1) (List.mem_append_right _ (List.mem_append_right _ (mem_pinsAt (by simp) ha)))
      have pk := I'.pin (kS, seqObj "list" kA e) (List.mem_append_right _ (List.mem_append_right _ (mem_pinsAt (by simp) hk)))
      have s2 : Same Hc (upd Hc t (.tup (rankV L[j].1))) := same_new ht
      refine ⟨_, kA, e, t, rfl, I'.unpinned, sm.trans s2, ⟨pa.2.1, fa.2⟩, ⟨pk.2.1, fk.2⟩, pa.1, pk.1, upd_same, ks.mono fun v x => ?_⟩
      rintro ⟨t', rfl, ht'⟩
      exact ⟨t', rfl, s2 _ _ ht'⟩
theorem each_refs : ∀ L : List (Rule × Addr), W.EachIs (fun v (x : Rule × Addr) => v = Value.ref x.2) (L.map fun x => Value.ref x.2) L
  | [] => .nil
  | _ :: r => .cons rfl (each_refs r)
theorem each_refs_eq : ∀ {vs : List Value} {L : List (Rule × Addr)}, W.EachIs (fun v (x : Rule × Addr) => v = Value.ref x.2) vs L → vs = L.map fun x => Value.ref x.2
  | _, _, .nil => rfl
  | _, _, .cons h t => by
    rw [List.map_cons, h, each_refs_eq t]
theorem vals_addrs : ∀ L : List (Rule × Addr), Vals (L.map fun x => V.ref x.2) (L.map fun x => Value.ref x.2)
  | [] => .nil
  | _ :: r => .cons rfl (vals_addrs r)
theorem ask_keys {pins : List (Addr × Obj)} {σ : L2.St} {H : Hp} {s : Shared} {A : Around} {f a kS : Addr} {fd : FuncData} {k e1 : Nat} {L : List (Rule × Addr)} {E : Value → Shared → Prop} {R : PySem.Fin → Shared → Prop}
    (F : FnOk X.prog X.w X.K X.mg X.base CX0 k f fd ["rule"] spRank) (hb : Binds X.K fd ["rule"] []) (hr : Room k A) (fr : A.frames = X.A.frames)
    (kt : KeyTups H L) (sh : ∀ p ∈ L, Short p.1) (ne : kS ≠ a) (sz : L.length < 1000000) (st : Asked X pins σ H L a kS e1 0 s) (hu : A.units + 8 < cLine)
    (h : ∀ s' Hc (vs : List Value), Inv X pins σ Hc s' → Same H Hc → Hc a = none → vs.length = L.length → W.EachIs (fun v (x : Rule × Addr) => v = Value.ref x.2) vs (inOrder L) → (∃ c, s'.heap.get? a = some (seqObj "list" vs.toArray c)) → FpOk X pins Hc a → R (.done (.ret .none)) s') :
    wpAny (model X.prog X.w) A (ksk_rest a (.ref f) false (L.map fun x => Value.ref x.2).toArray e1 (.ref kS)) R E s := by
  unfold ksk_rest
  refine wpAny_bind (wpAny_rule ?_)
  rw [List.forIn_toArray]
  refine wpAny_bind (ksk_fold (fun j s' => Asked X pins σ H L a kS e1 j s') (L.map fun x => Value.ref x.2) 0 s st ?turn ?last)
  case turn =>
    intro j x s' hx st'
    rw [Nat.zero_add] at st' ⊢
    have lt : j < L.length := by
      have q := (List.getElem?_eq_some_iff.mp hx).1
      rwa [List.length_map] at q
    have ex : x = Value.ref L[j].2 := by
      rw [List.getElem?_map, List.getElem?_eq_getElem lt] at hx
      exact (Option.some.inj hx).symm
    subst ex
    refine wpAny_bind (wpAny_attempt (wpAny_mono (ask_key F hb hr fr kt sh ne lt st') ?_ fun _ _ z => z))
    rintro u s2 ⟨Hc, kA, e, t, rfl, I, sm, fa, fk, ha, hk, ht, ks⟩
    have len : kA.size ≤ 1000000 := by
      have q := ks.length
      rw [Array.length_toList, List.length_take] at q
      omega
    have sb := Heap.SameBut.update s2.heap kS (Obj.mapSeq (·.push (Value.ref t)))
    obtain ⟨c2, hc2⟩ : ∃ c2, (s2.heap.update kS (Obj.mapSeq (·.push (Value.ref t)))).get? kS = some (seqObj "list" (kA.push (Value.ref t)) c2) := ⟨_, get?_update_seq hk (·.push (Value.ref t))⟩
    refine wpAny_bind (listUpdate_at hk rfl ?_ (by rw [sizeLine_eq]; omega) (by rw [Array.size_push, sizeLine_eq]; omega))
    refine wpAny_pure ⟨rfl, ⟨Hc, kA.push (Value.ref t), c2, ?_, sm, fa, fk, (sb.2 a ne.symm).trans ha, hc2, ?_⟩⟩
    · obtain ⟨f0, f1, f2, f3, f4, f5⟩ := fk
      exact I.turned (t' := s2.toks) (fun b o hb e => (sb.2 b hb).trans e) f0 f1 f3 f4 f5
    · have e1 : L.take (j + 1) = L.take j ++ [L[j]] := by
        rw [List.take_add_one, List.getElem?_eq_getElem lt]
        rfl
      have e2 : (kA.push (Value.ref t)).toList = kA.toList ++ [Value.ref t] := by simp
      rw [e1, e2]
      exact W.each_snoc ⟨t, rfl, ht⟩ ks
  case last =>
    intro s' st'
    rw [Nat.zero_add, List.length_map] at st'
    obtain ⟨Hc, kA, e, I, sm, fa, fk, ha, hk, ks⟩ := st'.ex
    rw [List.take_length] at ks
    have sz1 : kA.size = L.length := by
      have q := ks.length
      rwa [Array.length_toList] at q
    refine wpAny_bind (listItems_at hk rfl ?_)
    obtain ⟨G, g1, g2⟩ := restrict s'.heap fun b => decide (b ≠ kS)
    have gk : G.get? kS = none := g2 kS (decide_eq_false fun z => z rfl)
    have kp : W.KeepsBut a G s'.heap := fun b o _ e => by
      by_cases hb : b = kS
      · rw [hb, gk] at e
        cases e
      · rw [← g1 b (decide_eq_true hb)]
        exact e
    have rd : W.EachIs (fun v (x : Rule × Addr) => ∃ as, Reads s'.heap v (rankD x.1) as) kA.toList L := ks.mono fun v x => by
      rintro ⟨t, rfl, ht⟩
      exact ⟨[], rank_reads I.hok ht⟩
    have rd' : W.EachIs (fun v d => ∃ as, Reads s'.heap v d as) kA.toList (L.map fun p => rankD p.1) := W.each_map (R := fun v d => ∃ as, Reads s'.heap v d as) (fun p : Rule × Addr => rankD p.1) rd
    have so : W.SortsAt X.prog X.w A s' (W.dataKind s'.heap (L.map fun p => rankD p.1)) kA.toList := W.SortsAt.data rd' (rank_alike L) (rank_sortable L) (by
      intro d hd
      obtain ⟨p, _, rfl⟩ := List.mem_map.mp hd
      rw [rank_depth]
      omega)
    have vl : (L.map fun x => Value.ref x.2).length = L.length := List.length_map ..
    refine W.keyH_end (vs := L.map fun x => Value.ref x.2) kp gk hk ha ne so (by rw [sz1, vl]) (by rw [vl, sizeLine_eq]; omega) fun h' tk c kh hn => ?_
    have ko : W.KeyedOut false (L.map fun p => rankD p.1) (L.map fun x => Value.ref x.2) (W.sortVals (W.dataKind s'.heap (L.map fun p => rankD p.1)) false kA.toList (L.map fun x => Value.ref x.2)) := ⟨_, _, rank_alike L, rfl, rd'⟩
    have e0 : W.EachIs (fun v (x : Rule × Addr) => v = Value.ref x.2) (L.map fun x => Value.ref x.2) L := each_refs L
    have I2 : Inv X pins σ Hc { s' with heap := h', toks := tk } := by
      refine I.turnedL (ch := [a, kS]) (fun b o hb e => ?_) (fun b hb => ?_)
      · have n1 : b ≠ a := fun z => hb (by rw [z]; simp)
        have n2 : b ≠ kS := fun z => hb (by rw [z]; simp)
        exact kh b o n1 ((g1 b (decide_eq_true n2)).trans e)
      · rcases List.mem_cons.mp hb with z | hb
        · rw [z]
          exact fa
        · rw [List.mem_singleton.mp hb]
          exact fk
    exact h _ Hc _ I2 sm fa.1 (by rw [ko.length (by rw [List.length_map, vl]), vl]) (W.keyedOut_each (fun p : Rule × Addr => rankD p.1) ko e0) ⟨c, hn⟩ fa
theorem inOrder_len (L : List (Rule × Addr)) : (inOrder L).length = L.length := List.length_mergeSort _
/-- sorted(d, key=f), d a dict of rules, f a def of the text that gives the ranks -/
theorem cr_sortedRank {f : Addr} {fd : FuncData} {k : Nat} (F : FnOk X.prog X.w X.K X.mg X.base CX0 k f fd ["rule"] spRank) (hb : Binds X.K fd ["rule"] []) (hr : Room (k + 2) X.A) (calm : X.calm = true) :
    CallRK X (.builtin "sorted") [Str.ofString "key"] (rSortRank X.prog X.w f) := by
  intro pins s σ H xs zs us ws Q I rx rz h
  obtain ⟨d, L, rfl, rfl, hd, kt, sh, sz, q⟩ := h
  obtain ⟨u, rfl, ru⟩ := rx.one
  cases ru
  obtain ⟨z, rfl, rw'⟩ := rz.one
  cases rw'
  have R := rd_at I.hok hd
  obtain ⟨o, es, ep, ho, hx, hdt, hes⟩ := R.raw
  have len : es.size = L.length := by
    rw [size_of_entries hes]
    unfold rdX
    rw [List.length_map]
  have r1 : Room (k + 1) X.A.in1 := hr.in1
  have r2 : Room k X.A.in1.in1 := r1.in1
  show wpAny _ _ (call (.builtin "sorted") [.ref d] [(Str.ofString "key", .ref f)]) _ _ s
  refine PyProof.Rows.call_function_entry_kw PyProof.Rows.kind_sorted PyProof.Rows.plain_sorted PyProof.Rows.entry_sorted (PyProof.Rows.ksk_s1 _ _) ?_
  unfold Builtin.«sorted»
  refine wpAny_bind (m := checkCount "sorted" 1 1 _) (wpAny_pure ?_)
  refine wpAny_bind (W.kdu_collect (A := X.A.in1) (KdlSrc.rawDict (es := es) (ep := ep) R.lo) (I.ok.hd calm) ⟨o, ho, hx, hdt⟩ (by rw [len, sizeLine_eq]; omega) ?_)
  intro h1 tk1 acc kp1 it
  have eacc : acc.toList = L.map fun x => Value.ref x.2 := by
    apply List.ext_getElem?
    intro j
    have l1 : acc.toList.length = L.length := by rw [Array.length_toList, it.1, len]
    by_cases hj : j < L.length
    · have hv : acc.toList[j]? = some acc.toList[j] := List.getElem?_eq_getElem (by omega)
      obtain ⟨hi, e⟩ := it.2 j acc.toList[j] (by rw [← Array.getElem?_toList]; exact hv)
      have q1 := entry_at hes j
      rw [Array.getElem?_eq_getElem hi] at q1
      unfold rdX at q1
      rw [List.getElem?_map, List.getElem?_eq_getElem hj] at q1
      have q2 : es[j] = entryOfKey (nestedKind X.prog X.w) (ruleK L[j].1, L[j].2, Value.bool true) := Option.some.inj q1
      rw [hv, e, q2, List.getElem?_map, List.getElem?_eq_getElem hj]
      rfl
    · rw [List.getElem?_eq_none (by omega), List.getElem?_eq_none (by rw [List.length_map]; omega)]
  rw [eacc]
  have vl : (L.map fun x => Value.ref x.2).length = L.length := List.length_map ..
  refine wpAny_bind (wpAny_newList ?_ (by rw [vl, sizeLine_eq]; omega))
  generalize ea : h1.objs.size = a
  have I1 : Inv X pins σ H { s with heap := h1, toks := tk1 } := I.kept kp1
  have ha0 : (h1.push (seqObj "list" (L.map fun x => Value.ref x.2).toArray 0)).get? a = some (seqObj "list" (L.map fun x => Value.ref x.2).toArray 0) := by
    rw [← ea]
    exact Heap.get?_push_size _ rfl
  refine wpAny_bind (wpAny_holding (PyProof.Rows.wpAny_call_entry_kw PyProof.Rows.slot_list_sort ⟨_, ha0, rfl⟩ PyProof.Rows.entry_list_sort ?_ (PyProof.Rows.ksk_l1 _ _)))
  rw [ksk_t1]
  unfold ksk_tree
  obtain ⟨e1, ha1⟩ : ∃ e1, ((h1.push (seqObj "list" (L.map fun x => Value.ref x.2).toArray 0)).update a (Obj.mapSeq fun _ => (#[] : Array Value))).get? a = some (seqObj "list" #[] e1) := ⟨_, get?_update_seq ha0 fun _ => #[]⟩
  have sb := Heap.SameBut.update (h1.push (seqObj "list" (L.map fun x => Value.ref x.2).toArray 0)) a (Obj.mapSeq fun _ => (#[] : Array Value))
  generalize eh2 : ((h1.push (seqObj "list" (L.map fun x => Value.ref x.2).toArray 0)).update a (Obj.mapSeq fun _ => (#[] : Array Value))) = h2 at ha1 sb
  have kp2 : ∀ b u, s.heap.get? b = some u → h2.get? b = some u := by
    intro b u e
    have lt := Heap.lt_size (kp1 b u e)
    exact (sb.2 b (Nat.ne_of_lt (by rw [← ea]; exact lt))).trans (Heap.get?_push_of_some _ (kp1 b u e))
  refine wpAny_bind (listItems_at ha0 rfl ?_)
  refine wpAny_bind (listUpdate_at ha0 rfl ?_ (by rw [List.size_toArray, vl, sizeLine_eq]; omega) (Nat.zero_le _))
  simp only [eh2]
  refine wpAny_bind (seqEpoch_at ha1 rfl ?_)
  refine wpAny_bind (wpAny_newTuple ?_ (by show (L.map fun x => Value.ref x.2).length ≤ _; rw [vl, sizeLine_eq]; omega))
  refine wpAny_bind (wpAny_newList ?_ (Nat.zero_le _))
  refine wpAny_holding ?_
  have kp4 : ∀ b u, s.heap.get? b = some u → ((h2.push (seqObj "tuple" (L.map fun x => Value.ref x.2).toArray 0)).push (seqObj "list" #[] 0)).get? b = some u := fun b u e =>
    Heap.get?_push_of_some _ (Heap.get?_push_of_some _ (kp2 b u e))
  have I4 : Inv X pins σ H { s with heap := (h2.push (seqObj "tuple" (L.map fun x => Value.ref x.2).toArray 0)).push (seqObj "list" #[] 0), toks := tk1 } := I.kept kp4
  have lt2 : a < h2.objs.size := Heap.lt_size ha1
  have s2 : (h2.push (seqObj "tuple" (L.map fun x => Value.ref x.2).toArray 0)).objs.size = h2.objs.size + 1 := size_push' ..
  have nH : H a = none := I1.hok.fresh (Nat.le_of_eq ea)
  have fa : FpOk X pins H a := I1.fpOk (Nat.le_of_eq ea) nH
  have I3 : Inv X pins σ H { s with heap := h2.push (seqObj "tuple" (L.map fun x => Value.ref x.2).toArray 0), toks := tk1 } := I.kept fun b u e => Heap.get?_push_of_some _ (kp2 b u e)
  have fk : FpOk X pins H (h2.push (seqObj "tuple" (L.map fun x => Value.ref x.2).toArray 0)).objs.size := I3.fpOk (Nat.le_refl _) (I3.hok.fresh (Nat.le_refl _))
  refine ask_keys (H := H) (L := L) (k := k) (σ := σ) (pins := pins) F hb r2 rfl kt sh (Nat.ne_of_gt (by rw [s2]; exact Nat.lt_succ_of_lt lt2)) sz ⟨⟨H, #[], 0, I4, Same.refl H, fa, fk, Heap.get?_push_of_some _ (Heap.get?_push_of_some _ ha1), Heap.get?_push_size _ rfl, .nil⟩⟩ (by have := r2.units; omega) ?_
  intro s' Hc vs Ic sm na vlen ev ⟨c, hac⟩ fac
  refine ⟨.none, rfl, wpAny_pure ⟨_, rfl, ?_⟩⟩
  have evs : vs = (inOrder L).map fun x => Value.ref x.2 := each_refs_eq ev
  subst evs
  -- the list is tracked from here on
  obtain ⟨G, g1, g2⟩ := restrict s'.heap fun b => decide (b ≠ a)
  have ga : G.get? a = none := g2 a (decide_eq_false fun z => z rfl)
  have gk : ∀ b u, G.get? b = some u → s'.heap.get? b = some u := by
    intro b u e
    by_cases hb : b = a
    · rw [hb, ga] at e
      cases e
    · rw [← g1 b (decide_eq_true hb)]
      exact e
  have Ig : Inv X pins σ Hc { s' with heap := G } := by
    obtain ⟨f0, f1, f2, f3, f4, f5⟩ := fac
    exact Ic.turned (t' := s'.toks) (fun b o hb e => (g1 b (decide_eq_true hb)).trans e) f0 f1 f3 f4 f5
  have Il : Inv X pins σ (upd Hc a (.lst ((inOrder L).map fun x => V.ref x.2))) s' := by
    refine Ig.laidN (h' := s'.heap) (t' := s'.toks) gk ga na ⟨?_, _, c, vals_addrs _, hac⟩
    rw [List.length_map, inOrder_len, sizeLine_eq]
    omega
  exact ⟨.ref a, _, Il, rfl, q a _ (fun b u e => by rw [upd_ne (fun z => by rw [z, nH] at e; cases e)]; exact sm b u e) nH upd_same⟩
end
end Wnd

/-! Windowsteps: sorted of pairs (rank, rule). -/
namespace Wnd
open PySem PySem.Spec PyProof.Rows L2

/-- a pair (rank, rule): its address, the rule, the rule's own address -/
abbrev Pr := Addr × Rule × Addr
def PairAt' (H : Hp) (x : Pr) : Prop := ∃ k, H x.1 = some (.tup [.ref k, .ref x.2.2]) ∧ H k = some (.tup (rankV x.2.1)) ∧ H x.2.2 = some (.tup (ruleV x.2.1))
theorem PairAt'.same {H H' : Hp} {x : Pr} (p : PairAt' H x) (s : ∀ b xs, H b = some (.tup xs) → H' b = some (.tup xs)) : PairAt' H' x := by
  obtain ⟨k, a, b, c⟩ := p
  exact ⟨k, s _ _ a, s _ _ b, s _ _ c⟩
/-- no name is the empty text -/
def Named (r : Rule) : Prop := r.low ≠ some ⟨#[]⟩ ∧ r.high ≠ some ⟨#[]⟩
theorem endS_inj : ∀ {a b : Option Str}, a ≠ some ⟨#[]⟩ → b ≠ some ⟨#[]⟩ → endS a = endS b → a = b
  | none, none, _, _, _ => rfl
  | none, some y, _, h, e => absurd (congrArg some (show y = ⟨#[]⟩ from e.symm)) h
  | some x, none, h, _, e => absurd (congrArg some (show x = ⟨#[]⟩ from e)) h
  | some x, some y, _, _, e => congrArg some e
theorem eqv_rank (a b : Rule) : PyData.eqv (rankD a) (rankD b) = (endS a.low == endS b.low && (endS a.high == endS b.high && (a.gap == b.gap && true))) := by
  simp [rankD, PyData.eqv, PyData.eqvAll]
theorem rank_inj {a b : Rule} (ha : Named a) (hb : Named b) (e : PyData.eqv (rankD a) (rankD b) = true) : a = b := by
  rw [eqv_rank] at e
  simp only [Bool.and_eq_true, beq_iff_eq] at e
  obtain ⟨e1, e2, e3, _⟩ := e
  cases a with | mk l1 h1 g1 =>
  cases b with | mk l2 h2 g2 =>
  have f1 : l1 = l2 := endS_inj ha.1 hb.1 e1
  have f2 : h1 = h2 := endS_inj ha.2 hb.2 e2
  have f3 : g1 = g2 := e3
  rw [f1, f2, f3]
theorem eqv_rank_self (a : Rule) : PyData.eqv (rankD a) (rankD a) = true := by
  rw [eqv_rank]
  simp
theorem alike_rank (a b : Rule) : W.alike (rankD a) (rankD b) = true := by simp [W.alike, W.alikeAll, rankD]

noncomputable def pairKind (L : List Pr) : PyProof.Rows.KeyKind where
  toKeyOrd := listOrd itemOrd
  keyOf v := open Classical in if q : ∃ x, x ∈ L ∧ v = Value.ref x.1 then some (W.keyToks (rankD q.choose.2.1)) else none
  dflt := ([] : List (Int ⊕ List Nat))
section
variable {P : Program} {w : World} {H : Hp} {h : Heap} {L : List Pr}
theorem pair_same {x y : Pr} (hx : PairAt' H x) (hy : PairAt' H y) (nx : Named x.2.1) (ny : Named y.2.1) (e : x.1 = y.1) : x.2.1 = y.2.1 := by
  obtain ⟨k, a, b, c⟩ := hx
  obtain ⟨k', a', b', c'⟩ := hy
  rw [e, a'] at a
  injection a with a
  injection a with a
  injection a with a1 a2
  injection a2 with a2 a3
  injection a2 with a2
  rw [← a2, c'] at c
  injection c with c
  injection c with c
  unfold ruleV at c
  injection c with c1 c
  injection c with c2 c
  injection c with c3 _
  injection c3 with c3
  cases hx : x.2.1 with | mk l1 h1 g1 =>
  cases hy : y.2.1 with | mk l2 h2 g2 =>
  rw [hx, hy] at c1 c2 c3
  have f1 : l2 = l1 := endV_inj c1
  have f2 : h2 = h1 := endV_inj c2
  have f3 : g2 = g1 := c3
  rw [f1, f2, f3]
theorem pairKind_some (hp : ∀ x ∈ L, PairAt' H x) (hn : ∀ x ∈ L, Named x.2.1) {x : Pr} (hx : x ∈ L) : (pairKind L).keyOf (Value.ref x.1) = some (W.keyToks (rankD x.2.1)) := by
  have q : ∃ y, y ∈ L ∧ Value.ref x.1 = Value.ref y.1 := ⟨x, hx, rfl⟩
  have e : (pairKind L).keyOf (Value.ref x.1) = some (W.keyToks (rankD q.choose.2.1)) := by
    show (open Classical in if q : ∃ y, y ∈ L ∧ Value.ref x.1 = Value.ref y.1 then some (W.keyToks (rankD q.choose.2.1)) else none) = _
    rw [dif_pos q]
  obtain ⟨h1, h2⟩ := q.choose_spec
  injection h2 with h2
  rw [e, pair_same (hp _ h1) (hp _ hx) (hn _ h1) (hn _ hx) h2.symm]
theorem pairKind_inv {v : Value} {k : List (Int ⊕ List Nat)} (e : (pairKind L).keyOf v = some k) : ∃ x, x ∈ L ∧ v = Value.ref x.1 ∧ k = W.keyToks (rankD x.2.1) := by
  by_cases q : ∃ y, y ∈ L ∧ v = Value.ref y.1
  · have e' : (pairKind L).keyOf v = some (W.keyToks (rankD q.choose.2.1)) := by
      show (open Classical in if q : ∃ y, y ∈ L ∧ v = Value.ref y.1 then some (W.keyToks (rankD q.choose.2.1)) else none) = _
      rw [dif_pos q]
    obtain ⟨h1, h2⟩ := q.choose_spec
    rw [e'] at e
    exact ⟨_, h1, h2, (Option.some.inj e).symm⟩
  · have e' : (pairKind L).keyOf v = none := by
      show (open Classical in if q : ∃ y, y ∈ L ∧ v = Value.ref y.1 then some (W.keyToks (rankD q.choose.2.1)) else none) = _
      rw [dif_neg q]
      rfl
    rw [e'] at e
    cases e
end
section
variable {X : Cx} {pins : List (Addr × Obj)} {σ : L2.St} {H : Hp} {s : Shared} {L : List Pr} {A : Around}
theorem tup_at {P : Program} {w : World} {h : Heap} {a : Addr} {xs : List V} (ok : HOk P w H h) (e : H a = some (.tup xs)) : ∃ o its n, h.get? a = some o ∧ o.cls = .type "tuple" ∧ o.data = .seq its n ∧ Vals xs its.toList := by
  obtain ⟨_, its, rel, o, h1, h2, n, h3⟩ := (show ObjOk P w H h a (.tup xs) from ok a _ e)
  exact ⟨o, its.toArray, n, h1, h2, h3, by rw [List.toList_toArray]; exact rel⟩
theorem pair_tups {P : Program} {w : World} {h : Heap} (ok : HOk P w H h) : ∀ {L : List Pr}, (∀ x ∈ L, PairAt' H x) → ∃ fs, W.KatTups h (L.map fun x => Value.ref x.1) fs ∧ fs.length = L.length ∧ ∀ f ∈ fs, ∃ k xs, f = Value.ref k ∧ H k = some (.tup xs)
  | [], _ => ⟨[], .nil, rfl, fun f hf => nomatch hf⟩
  | x :: r, hp => by
    obtain ⟨fs, h1, h2, h3⟩ := pair_tups ok (L := r) fun y hy => hp y (List.mem_cons_of_mem _ hy)
    obtain ⟨k, a, b, c⟩ := hp x (List.mem_cons_self ..)
    obtain ⟨o, its, n, q1, q2, q3, rel⟩ := tup_at ok a
    cases hl : its.toList with
    | nil =>
      rw [hl] at rel
      cases rel
    | cons u t =>
      rw [hl] at rel
      cases rel with
      | cons r1 t1 =>
        cases r1
        refine ⟨_ :: fs, .cons q1 q2 q3 (by rw [← Array.getElem?_toList, hl]; rfl) h1, by rw [List.length_cons, List.length_cons, h2], fun f hf => ?_⟩
        rcases List.mem_cons.mp hf with rfl | hf
        · exact ⟨k, _, rfl, b⟩
        · exact h3 f hf
theorem pair_lt (ok : HOk X.prog X.w H s.heap) (hu : A.units + 8 < cLine) {x y : Pr} (hx : PairAt' H x) (hy : PairAt' H y) (nx : Named x.2.1) (ny : Named y.2.1) {E : Value → Shared → Prop} {Q : Bool → Shared → Prop} {b : Bool} (hb : b = false)
    (q : Q (PyProof.Rows.lexLt itemOrd (W.keyToks (rankD x.2.1)) (W.keyToks (rankD y.2.1))) s) : wpAny (model X.prog X.w) A (keyLt' (tuples' b) (.ref x.1) (.ref y.1)) Q E s := by
  subst hb
  obtain ⟨k, a, c, d⟩ := hx
  obtain ⟨k', a', c', d'⟩ := hy
  obtain ⟨o, its, n, q1, q2, q3, rel⟩ := tup_at ok a
  obtain ⟨o', its', n', q1', q2', q3', rel'⟩ := tup_at ok a'
  have sz : its.size = 2 := by rw [← Array.length_toList, ← rel.length]; rfl
  have sz' : its'.size = 2 := by rw [← Array.length_toList, ← rel'.length]; rfl
  refine W.kat_lt q1 q3 q1' q3' ?_
  rw [sz, sz']
  have dx := rank_depth x.2.1
  have rk := rank_reads ok c
  have rk' := rank_reads ok c'
  cases hl : its.toList with
  | nil => rw [hl] at rel; cases rel
  | cons u t =>
    rw [hl] at rel
    cases rel with
    | cons r1 t1 =>
      cases r1
      cases t1 with
      | cons r2 t2 =>
        cases r2
        cases t2
        cases hl' : its'.toList with
        | nil => rw [hl'] at rel'; cases rel'
        | cons u' t' =>
          rw [hl'] at rel'
          cases rel' with
          | cons r1' t1' =>
            cases r1'
            cases t1' with
            | cons r2' t2' =>
              cases r2'
              cases t2'
              rw [List.zip_cons_cons]
              have room : A.units + min (rankD x.2.1).depth (rankD y.2.1).depth < cLine := by rw [rank_depth, rank_depth]; show A.units + 1 < _; omega
              refine W.kat_cons (W.eqAt_alike (rankD x.2.1) (rankD y.2.1) A s _ _ _ _ rk rk' (alike_rank _ _) room X.prog X.w _ _ ?_)
              cases he : PyData.eqv (rankD x.2.1) (rankD y.2.1) with
              | true =>
                have er := rank_inj nx ny he
                refine W.kat_yes ?_
                rw [List.zip_cons_cons]
                refine W.kat_cons ?_
                have k1 : NestedIs s.heap (ruleK x.2.1) (.ref x.2.2) := (rule_is ok d).1
                have k2 : NestedIs s.heap (ruleK y.2.1) (.ref y.2.2) := (rule_is ok d').1
                have ke := eqAt_key (ruleK x.2.1) (ruleK y.2.1) A s _ _ k1 k2 (by rw [ruleK_depth, ruleK_depth]; show A.units + 1 < _; omega) X.prog X.w
                  (fun _ _ => False) (W.KatGo X.prog X.w A false (decide (2 < 2)) Q (.ref x.2.2) (.ref y.2.2) ([].zip []) (0 + 1)) ?_
                · exact ke
                · rw [er, NestedKey.beq_self]
                  refine W.kat_yes ?_
                  refine W.kat_nil ?_
                  rw [er, PyProof.Rows.lex_irrefl] at q
                  exact q
              | false =>
                refine W.kat_no (W.oneLt_alike (fun hbi t => ?_) rk rk' (alike_rank _ _) (fun z => nomatch z) room q)
                rw [Bool.and_eq_true] at hbi
                exact absurd hbi.1 Bool.false_ne_true
/-- the pairs in ascending order -/
def pairsInOrder (L : List Pr) : List Pr := L.mergeSort (W.dataLe false fun x => rankD x.2.1)
theorem pairs_sort (ok : HOk X.prog X.w H s.heap) (hu : A.units + 8 < cLine) (hp : ∀ x ∈ L, PairAt' H x) (hn : ∀ x ∈ L, Named x.2.1) : W.SortsAt X.prog X.w A s (pairKind L) (L.map fun x => Value.ref x.1) := by
  refine ⟨fun v hv => ?_, tuples' (Value.type "tuple" != Value.type "tuple"), fun E x y a b Q ha hb q => ?_, fun h2 E Q q => ?_⟩
  · obtain ⟨x, hx, rfl⟩ := List.mem_map.mp hv
    exact ⟨_, pairKind_some hp hn hx⟩
  · obtain ⟨x', hx, rfl, rfl⟩ := pairKind_inv ha
    obtain ⟨y', hy, rfl, rfl⟩ := pairKind_inv hb
    exact pair_lt ok hu (hp _ hx) (hp _ hy) (hn _ hx) (hn _ hy) (by decide) q
  · obtain ⟨fs, t1, t2, t3⟩ := pair_tups ok hp
    rw [List.length_map] at h2
    refine W.kat_kind (T := .type "tuple") t1 (by omega) (fun f hf => ?_) (beq_self_eq_true _) q
    obtain ⟨k, xs, rfl, e⟩ := t3 f hf
    obtain ⟨o, its, n, q1, q2, _⟩ := tup_at ok e
    show W.Looks _ _ (typeOf (Value.ref k)) (Value.type "tuple")
    exact q2 ▸ (W.Looks.ld q1).andThen .now
def rSortPairs (K : PySem.W.Frag) : List V → Hp → VK → Prop := fun vs H Q => ∃ (a : Addr) (L : List Pr), vs = [.ref a] ∧ SqL K H a (L.map fun x => V.ref x.1) ∧ (∀ x ∈ L, PairAt' H x) ∧ (∀ x ∈ L, Named x.2.1) ∧ L.length < 1000000 ∧
  ∀ p, H p = none → Q (.ref p) (upd H p (.lst ((pairsInOrder L).map fun x => V.ref x.1)))
theorem pairs_refs : ∀ L : List Pr, Vals (L.map fun x => V.ref x.1) (L.map fun x => Value.ref x.1)
  | [] => .nil
  | _ :: r => .cons rfl (pairs_refs r)
theorem pairs_refs_eq : ∀ {L : List Pr} {us : List Value}, Vals (L.map fun x => V.ref x.1) us → us = L.map fun x => Value.ref x.1
  | [], _, .nil => rfl
  | x :: r, _, .cons h t => by
    cases h
    rw [List.map_cons, pairs_refs_eq t]
theorem each_prs : ∀ L : List Pr, W.EachIs (fun v (x : Pr) => v = Value.ref x.1) (L.map fun x => Value.ref x.1) L
  | [] => .nil
  | _ :: r => .cons rfl (each_prs r)
theorem each_prs_eq : ∀ {vs : List Value} {L : List Pr}, W.EachIs (fun v (x : Pr) => v = Value.ref x.1) vs L → vs = L.map fun x => Value.ref x.1
  | _, _, .nil => rfl
  | _, _, .cons h t => by
    rw [List.map_cons, h, each_prs_eq t]
theorem each_keys' {L0 : List Pr} (hp : ∀ x ∈ L0, PairAt' H x) (hn : ∀ x ∈ L0, Named x.2.1) : ∀ {L : List Pr}, (∀ x ∈ L, x ∈ L0) → W.EachIs (fun v (x : Pr) => (pairKind L0).keyOf v = some (W.keyToks (rankD x.2.1))) (L.map fun x => Value.ref x.1) L
  | [], _ => .nil
  | x :: r, h => .cons (pairKind_some hp hn (h x (List.mem_cons_self ..))) (each_keys' hp hn fun y hy => h y (List.mem_cons_of_mem _ hy))
/-- sorted(ps), ps pairs of a rank and a rule -/
theorem cr_sortedPairs {k : Nat} (hr : Room k X.A) : CallR X (.builtin "sorted") (rSortPairs X.K) := by
  intro pins s σ H xs us Q I rx h
  obtain ⟨a, L, rfl, hs, hp, hn, sz, q⟩ := h
  obtain ⟨u, rfl, ru⟩ := rx.one
  cases ru
  obtain ⟨its, rel, pl, hz⟩ := I.list hs
  have hl := pl.isList
  have ei := pairs_refs_eq rel
  subst ei
  have vl : (L.map fun x => Value.ref x.1).length = L.length := List.length_map ..
  have big : ∀ b u, s.heap.get? b = some u → (W.sortingHeap (W.copyHeap s.heap (L.map fun x => Value.ref x.1)) (s.heap.objs.size + 1) (L.map fun x => Value.ref x.1)).get? b = some u := fun b u e => W.sorting_copy_old e
  have ok2 : HOk X.prog X.w H (W.sortingHeap (W.copyHeap s.heap (L.map fun x => Value.ref x.1)) (s.heap.objs.size + 1) (L.map fun x => Value.ref x.1)) := I.hok.kept big
  refine W.sorted_vals hl (pairs_sort (s := { s with heap := _ }) ok2 (by have := hr.un; show X.A.units + 1 + 1 + 8 < _; omega) hp hn) (by rw [vl, sizeLine_eq]; omega) ?_
  have e2 : W.EachIs (fun v (x : Pr) => v = Value.ref x.1) (W.sortVals (pairKind L) false (L.map fun x => Value.ref x.1) (L.map fun x => Value.ref x.1)) (pairsInOrder L) :=
    W.sortVals_each (κ := pairKind L) (fun x : Pr => W.keyToks (rankD x.2.1)) (each_prs L) (each_keys' hp hn fun y hy => hy)
  have e3 := each_prs_eq e2
  rw [e3]
  obtain ⟨ep, he⟩ := PyProof.Rows.sortedAll_at s.heap (L.map fun x => Value.ref x.1) ((pairsInOrder L).map fun x => Value.ref x.1).toArray
  have nH : H (s.heap.objs.size + 1) = none := I.hok.fresh (Nat.le_succ _)
  refine ⟨.ref _, upd H (s.heap.objs.size + 1) (.lst ((pairsInOrder L).map fun x => V.ref x.1)), I.laid (t' := s.toks) (fun _ _ => PyProof.Rows.sortedAll_old) (Nat.le_succ _) ⟨?_, _, ep, pairs_refs _, he⟩, rfl, q _ nH⟩
  have l1 : (pairsInOrder L).length = L.length := List.length_mergeSort _
  rw [List.length_map, l1, sizeLine_eq]
  omega
end
end Wnd

/-! Windowsteps: dict([(rule, True) for ..]); walks over a dict of rules. -/
namespace Wnd
open PySem PySem.Spec PyProof.Rows L2
theorem putAll_nodup : ∀ (rs L : List (Rule × Addr)), (L.map (·.1)).Nodup → ((putAll rs L).map (·.1)).Nodup
  | [], _, h => h
  | _ :: r, _, h => putAll_nodup r _ (putR_nodup h)
theorem putAll_len : ∀ (rs L : List (Rule × Addr)), (putAll rs L).length ≤ L.length + rs.length
  | [], L => Nat.le_refl _
  | p :: r, L => by
    have h1 := putAll_len r (putR L p.1 p.2)
    have h2 := @putR_len L p.1 p.2
    show (putAll r (putR L p.1 p.2)).length ≤ L.length + (r.length + 1)
    omega
theorem putAll_tups {H : Hp} : ∀ (rs L : List (Rule × Addr)), KeyTups H rs → KeyTups H L → KeyTups H (putAll rs L)
  | [], _, _, h => h
  | p :: r, _, k, h => putAll_tups r _ (fun z hz => k z (List.mem_cons_of_mem _ hz)) (h.put (k p (List.mem_cons_self ..)))
theorem storedAll_rdX : ∀ (rs L : List (Rule × Addr)), storedAllH (rdX L) (rdX rs) = rdX (putAll rs L)
  | [], L => rfl
  | p :: r, L => by
    show storedAllH (storedH (rdX L) (ruleK p.1) p.2 (Value.bool true)) (rdX r) = rdX (putAll r (putR L p.1 p.2))
    rw [storedH_rdX, storedAll_rdX r]
/-- a pair (rule, True): its address, the rule, the rule's own address -/
def TrueAt (H : Hp) (x : Pr) : Prop := H x.1 = some (.tup [.ref x.2.2, .bl true]) ∧ H x.2.2 = some (.tup (ruleV x.2.1))
def rDictT (P : Program) (w : World) (K : PySem.W.Frag) : List V → Hp → VK → Prop := fun vs H Q => ∃ (a : Addr) (L : List Pr), vs = [.ref a] ∧ SqL K H a (L.map fun x => V.ref x.1) ∧ (∀ x ∈ L, TrueAt H x) ∧ L.length < 1000000 ∧
  ∀ p, H p = none → Q (.ref p) (upd H p (rdO P w p (putAll (L.map (·.2)) [])))
section
variable {X : Cx}
theorem cr_dictT {k : Nat} (hr : Room k X.A) (calm : X.calm = true) : CallR X (.type "dict") (rDictT X.prog X.w X.K) := by
  intro pins s σ H xs us Q I rx h
  obtain ⟨a, L, rfl, hs, hp, sz, q⟩ := h
  obtain ⟨u, rfl, ru⟩ := rx.one
  cases ru
  obtain ⟨its, rel, pl, hz⟩ := I.list hs
  have ei := pairs_refs_eq rel
  subst ei
  have kt : KeyTups H (L.map (·.2)) := by
    intro p hp'
    obtain ⟨x, hx, rfl⟩ := List.mem_map.mp hp'
    exact (hp x hx).2
  have ok : PlainSeq "list" s.heap a (L.map fun x => Value.ref x.1).toArray ∧ PairItems s.heap (L.map fun x => Value.ref x.1).toArray (fun j => (L.map (·.1)).getD j 0) (L.map fun x => (Value.ref x.2.2, Value.bool true)) := by
    refine ⟨?_, by simp, fun j k v hj => ?_⟩
    · exact pl
    · rw [List.getElem?_map] at hj
      cases hx : L[j]? with
      | none =>
        rw [hx] at hj
        cases hj
      | some x =>
        rw [hx] at hj
        have e := Option.some.inj hj
        have e1 : Value.ref x.2.2 = k := congrArg Prod.fst e
        have e2 : Value.bool true = v := congrArg Prod.snd e
        subst e1 e2
        have g : (L.map (·.1)).getD j 0 = x.1 := by
          rw [List.getD_eq_getElem?_getD, List.getElem?_map, hx]
          rfl
        refine ⟨?_, .inl ?_⟩
        · show (L.map fun x => Value.ref x.1).toArray[j]? = _
          rw [List.getElem?_toArray, List.getElem?_map, hx]
          exact congrArg (fun z => some (Value.ref z)) g.symm
        · show s.heap.IsTuple ((L.map (·.1)).getD j 0) _
          rw [g]
          obtain ⟨o, its, n, q1, q2, q3, rel'⟩ := tup_at I.hok (hp x (List.mem_of_getElem? hx)).1
          have ea : its = #[.ref x.2.2, .bool true] := by
            apply Array.toList_inj.mp
            cases hl : its.toList with
            | nil => rw [hl] at rel'; cases rel'
            | cons u t =>
              rw [hl] at rel'
              cases rel' with
              | cons r1 t1 =>
                cases r1
                cases t1 with
                | cons r2 t2 =>
                  cases r2
                  cases t2
                  rfl
          subst ea
          exact ⟨o, q1, q2, n, q3⟩
  have P := PairArg.list (prog := X.prog) (w := X.w) a (L.map fun x => Value.ref x.1).toArray (fun j => (L.map (·.1)).getD j 0) (L.map fun x => (Value.ref x.2.2, Value.bool true))
  refine call_dict_pairsH (knd := nestedKind X.prog X.w) (ps := rdX (L.map (·.2))) P (I.ok.hd calm) (by have := hr.un; show X.A.units + 1 + 1 + 8 < _; omega) ok ?_ ?_ ?_ ?_
  · refine ⟨by unfold rdX; rw [List.length_map, List.length_map, List.length_map], fun i key v hr' => ?_⟩
    have hr2 : (L.map fun x => (Value.ref x.2.2, Value.bool true))[i]? = some (key, v) := hr'
    rw [List.getElem?_map] at hr2
    cases hx : L[i]? with
    | none =>
      rw [hx] at hr2
      cases hr2
    | some x =>
      rw [hx] at hr2
      have e := Option.some.inj hr2
      have e1 : Value.ref x.2.2 = key := congrArg Prod.fst e
      have e2 : Value.bool true = v := congrArg Prod.snd e
      subst e1 e2
      refine ⟨ruleK x.2.1, x.2.2, ?_, rfl⟩
      unfold rdX
      rw [List.getElem?_map, List.getElem?_map, hx]
      rfl
  · intro h' hk x hx
    obtain ⟨p, hp', rfl⟩ := List.mem_map.mp hx
    have r0 := rule_is I.hok (kt p hp')
    refine (nestedKind_stays (prog := X.prog) (w := X.w)).stays (h := s.heap) (fun b o vs n e d => hk b o (Nat.ne_of_lt (Heap.lt_size e)) (List.not_mem_nil) e) r0
  · rw [List.length_map, sizeLine_eq]
    omega
  · intro h' tk D kp
    have D2 : h'.DictOfH (nestedKind X.prog X.w) s.heap.objs.size (rdX (putAll (L.map (·.2)) [])) := by
      have e := storedAll_rdX (L.map (·.2)) []
      rw [← e]
      exact D
    have big : (s.heap.objs.size == sysModules) = false := beq_eq_false_iff_ne.mpr (Nat.ne_of_gt I.big)
    have len := putAll_len (L.map (·.2)) []
    rw [List.length_map] at len
    have len' : (putAll (L.map (·.2)) []).length ≤ L.length := by
      simpa using len
    have R : RdAt X.prog X.w h' s.heap.objs.size (putAll (L.map (·.2)) []) := RdAt.of D2 big (by rw [sizeLine_eq]; omega) (putAll_nodup _ _ List.nodup_nil)
    refine ⟨.ref _, _, I.laid (t' := tk) (fun b u e => kp b u (List.not_mem_nil) e) (Nat.le_refl _) (rdO_ok R), rfl, q _ (I.hok.fresh (Nat.le_refl _))⟩
/-- the keys of a locked dict of rules -/
def Itr' (P : Program) (w : World) (d : Addr) (o : Obj) (L : List (Rule × Addr)) : It :=
  ⟨fun i H => H d = some (.frz o (rdO P w d L)) ∧ i < L.length, fun i H x H' => H' = H ∧ ∃ p, L[i]? = some p ∧ x = .ref p.2, fun i H => H d = some (.frz o (rdO P w d L)) ∧ L.length ≤ i⟩
theorem frz_rd {pins : List (Addr × Obj)} {σ : L2.St} {H : Hp} {s : Shared} {d : Addr} {o : Obj} {L : List (Rule × Addr)} (I : Inv X pins σ H s) (h : H d = some (.frz o (rdO X.prog X.w d L))) :
    (d == sysModules) = false ∧ s.heap.get? d = some o ∧ o.ExactDict ∧ ∃ (es : Array DictEntry) (ep : Nat), o.data = .dict es ep ∧ es.size = L.length ∧ ∀ (i : Nat) (p : Rule × Addr), L[i]? = some p → ∃ en : DictEntry, es[i]? = some en ∧ en.key = .ref p.2 := by
  obtain ⟨hd, R, _⟩ := I.hok d _ h
  obtain ⟨o', es, ep, ho, hx, hdt, he⟩ := R.raw
  rw [hd] at ho
  cases ho
  refine ⟨R.lo, hd, hx, es, ep, hdt, ?_, fun i p e => ?_⟩
  · rw [size_of_entries he]
    unfold rdX
    rw [List.length_map]
  · have q := entry_at he i
    unfold rdX at q
    rw [List.getElem?_map, e] at q
    exact ⟨_, q, rfl⟩
theorem turn_rd {P : Program} {w : World} {K : PySem.W.Frag} {tg : Expr} {d : Addr} {o : Obj} {es : Array DictEntry} {ep : Nat} {L : List (Rule × Addr)} (it : Addr) (hod : o.data = .dict es ep) :
    Turn P w K tg (Itr' P w d o L) [it] it (fun i h => h.IsKeyIter it d i L.length ep) where
  mem := List.mem_cons_self ..
  obj := fun i h st b hb => by
    rw [List.mem_singleton.mp hb]
    obtain ⟨oi, e, c, dd⟩ := st
    refine ⟨oi, e, fun v z => ?_⟩
    rw [dd] at z
    cases z
  keep := fun i h h' st k => by
    obtain ⟨oi, e, r⟩ := st
    exact ⟨oi, k it (List.mem_cons_self ..) oi e, r⟩
  item := by
    intro X' hP hw hK calm i pins s σ H E I hf st go
    subst hP hw hK
    obtain ⟨f0, f1, f2, f3, f4, f5⟩ := hf it (List.mem_cons_self ..)
    obtain ⟨lo, hg, hx, es', ep', hdt, sz, ent⟩ := frz_rd I go.1
    obtain ⟨rfl, rfl⟩ := dict_ep hod hdt
    have lt : i < L.length := go.2
    obtain ⟨en, hen, hkey⟩ := ent i L[i] (List.getElem?_eq_getElem lt)
    refine next_key_item st hg hdt sz hen fun h' st' sb => ?_
    have I1 : Inv X' pins σ H { s with heap := h' } := I.turned (t' := s.toks) (fun b ob nb e => (sb.2 b nb).trans e) f0 f1 f3 f4 f5
    obtain ⟨oi, e, c, dd⟩ := id st'
    refine ⟨en.key, rfl, go_of (s := { s with heap := h' }) e c dd (by decide) ⟨.ref L[i].2, H, I1, hkey, ⟨rfl, _, List.getElem?_eq_getElem lt, rfl⟩, st', fun b hb => (hf b hb).1⟩⟩
  done := by
    intro X' hP hw hK calm i pins s σ H E I hf st stop
    subst hP hw hK
    obtain ⟨f0, f1, f2, f3, f4, f5⟩ := hf it (List.mem_cons_self ..)
    obtain ⟨lo, hg, hx, es', ep', hdt, sz, ent⟩ := frz_rd I stop.1
    obtain ⟨rfl, rfl⟩ := dict_ep hod hdt
    exact next_key_end (I.ok.hd calm) st hg hdt sz stop.2 fun h' eb => ⟨rfl, I.turned (t' := s.toks) (fun b ob nb e => eb b ob nb e) f0 f1 f3 f4 f5⟩
  self := fun A i s Q E st h => by
    refine wpAny_pyIter_slot st.typeIs F.slot_dict_keyiterator_iter (wpAny_call_entry F.slot_dict_keyiterator_iter st.typeIs F.entry_dict_keyiterator_iter ?_ (F.args_dict_keyiterator_iter_1 _))
    exact wpAny_pure ⟨_, rfl, "dict_keyiterator", _, st.typeIs, F.slot_dict_keyiterator_next.lookup, h⟩
def iRd (P : Program) (w : World) (td : TE) : TI := fun σ H R => td σ H fun x H1 => ∃ (d : Addr) (o : Obj) (L : List (Rule × Addr)), x = .ref d ∧ H1 d = some (.frz o (rdO P w d L)) ∧ R (Itr' P w d o L) H1
theorem pi_rd {tg e : Expr} {td : TE} (he : PE X e td) : PI X tg e (iRd X.prog X.w td) := by
  refine ⟨fun pins s σ H R I h => thn (he.run pins s σ H _ I h) ?_⟩
  rintro u s1 ⟨x, H1, I1, rx, d, o, L, rfl, hd, q⟩
  cases rx
  obtain ⟨lo, hg, hx, es, ep, hdt, sz, ent⟩ := frz_rd I1 hd
  refine iter_keys lo hg hx hdt (pi_one (tk := s1.toks) I1 _ (turn_rd _ hdt) ⟨_, Heap.get?_push_size _ rfl, rfl, ?_⟩ q)
  rw [sz]
  rfl
/-- a list comprehension over a dict of rules that stays locked -/
theorem lc_rd {P : Program} {w : World} {d : Addr} {o : Obj} {L : List (Rule × Addr)} {g : TG} {tt : TT} {te : TE} {vs : List Nat} {σ : L2.St} {H1 : Hp} {D : Addr} {Qd : Hp → Prop} (Pv : Nat → Hp → Prop) (h0 : Pv 0 (upd H1 D (.lst [])))
    (hl : ∀ i H, i ≤ L.length → Pv i H → H d = some (.frz o (rdO P w d L)))
    (hs : ∀ i (hi : i < L.length) H, Pv i H → g (.ref L[i].2) (wipe σ vs) H fun σ2 H2 => wipe σ2 vs = wipe σ vs ∧ tt σ2 H2 fun b H3 =>
      if b = true then te σ2 H3 fun y H4 => ∃ acc, H4 D = some (.lst acc) ∧ acc.length < sizeLine ∧ Pv (i + 1) (upd H4 D (.lst (acc ++ [y]))) else Pv (i + 1) H3) (hd : ∀ H, Pv L.length H → Qd H) :
    ∃ W : Nat → Nat → Hp → Prop, (∃ m, W 0 m (upd H1 D (.lst []))) ∧ ∀ i m H, W i m H →
      ((Itr' P w d o L).stop i H ∧ Qd H) ∨ ((Itr' P w d o L).go i H ∧ ∃ Nx : Hp → Prop, (∀ H', Nx H' → ∃ m', m' < m ∧ W (i + 1) m' H') ∧ ∀ x H', (Itr' P w d o L).yld i H x H' → g x (wipe σ vs) H' fun σ2 H2 => wipe σ2 vs = wipe σ vs ∧ tt σ2 H2 fun b H3 =>
        if b = true then te σ2 H3 fun y H4 => ∃ acc, H4 D = some (.lst acc) ∧ acc.length < sizeLine ∧ Nx (upd H4 D (.lst (acc ++ [y]))) else Nx H3) := by
  refine ⟨fun i m H => m = L.length - i ∧ i ≤ L.length ∧ Pv i H, ⟨L.length, by simp, Nat.zero_le _, h0⟩, ?_⟩
  rintro i m H ⟨rfl, hi, p⟩
  have fz := hl i H hi p
  by_cases lt : i < L.length
  · refine .inr ⟨⟨fz, lt⟩, Pv (i + 1), fun H' p' => ⟨L.length - (i + 1), by omega, rfl, lt, p'⟩, ?_⟩
    rintro x H' ⟨rfl, z, hz, rfl⟩
    rw [List.getElem?_eq_getElem lt] at hz
    cases hz
    exact hs i lt _ p
  · have e : i = L.length := by omega
    subst e
    exact .inl ⟨⟨fz, Nat.le_refl _⟩, hd H p⟩
end
end Wnd

/-! Windowsteps: a == b and a != b, a an instance of an own class that says __eq__ and no __ne__. -/
namespace Wnd
open PySem PySem.Spec PyProof.Rows L2

section
variable {prog : Program} {w : World} {A : Around} {E : Value → Shared → Prop} {s : Shared} {K : W.Frag} {x C L f : Addr} {h₀ : Heap} {m : Str → Option Value} {ox : Obj} {od : Option Obj} {b tb : Value}
/-- the slot that object gives, called on an instance of an own class -/
theorem obj_ne {Q : Value → Shared → Prop} (hu : A.units + 1 < cLine) (X : K.In s.heap) (I : W.InstAt s.heap x ox C od) (ho : W.subIn K (.ref C) (.type "object") = some true)
    (hs : W.findIn K (.ref C) "__eq__" = some (some (.ref f))) (hf : W.isFn K (.ref f) = true)
    (h : wpAny (model prog w) A.in1 (call (.ref f) [.ref x, b]) (fun v s' => ∃ k, v = .bool k ∧ Q (.bool (!k)) s') E s) :
    wpAny (model prog w) A (call (.builtin "object.__ne__") [.ref x, b]) Q E s := by
  refine wpAny_call (codeAny_call_builtin F.cmp_object.ne.plain F.cmpEntry_ne ?_)
  have body : ∀ {R : Result → Shared → Prop}, (∀ v s', Q v s' → R (.ok (.ret v)) s') → (∀ e s', E e s' → R (.error e) s') → wpAny (model prog w) A.in1 (Builtin.«object.__ne__» ⟨[.ref x, b], []⟩)
      (fun fin s' => match fin with | .done f => R (.ok f) s' | .again c' => c'.quiet = true ∧ codeAny (model prog w) A c' R s') (fun e s' => R (.error e) s') s := by
    intro R hR hE
    unfold Builtin.«object.__ne__»
    have ask : wpAny (model prog w) A.in1 (callSpecialIfBound? (.ref x) (Str.ofString "__eq__") [b]) (fun r s' => ∃ k, r = some (.bool k) ∧ Q (.bool (!k)) s') (fun e s' => R (.error e) s') s :=
      W.ifBound_K X I hs hf (wpAny_mono h (fun v s' ⟨k, e, q⟩ => ⟨k, by rw [e], q⟩) hE)
    repeat (first
      | with_reducible refine wpAny_cRoomFor hu ?_
      | (refine wpAny_bind (m := callSpecialIfBound? (.ref x) (Str.ofString "__eq__") [b]) (wpAny_mono ask (fun r s' hr => by
          obtain ⟨k, rfl, q⟩ := hr
          refine wpAny_bind (m := truthy (.bool _)) (wpAny_truthy_bool ?_)
          first
            | exact wpAny_pure (hR _ _ q)
            | exact wpAny_pure (wpAny_pure (hR _ _ q))
            | exact wpAny_bind (wpAny_pure (wpAny_pure (hR _ _ q)))) fun _ _ e => e))
      | wp_step)
  have chk : ∀ {Q' : Unit → Shared → Prop} {E' : Value → Shared → Prop}, Q' () s → wpAny (model prog w) A.in1 (checkBuiltinCall "object.__ne__" ⟨[.ref x, b], []⟩) Q' E' s := by
    intro Q' E' q
    have ha := F.cmpArgs_ne (.ref x) b
    simp only [checkBuiltinCall, F.cmpKind_ne, F.cmpSplit_ne]
    refine wpAny_bind ?_
    unfold isInstance
    refine wpAny_bind (I.type.here ((W.looks_subIn X ho).here ?_))
    show wpAny _ _ (match Manifest.signature? "object.__ne__" with | some sig => Bind.checkArgs "object.__ne__" sig ⟨[.ref x, b], []⟩ | _ => pure ()) _ _ _
    cases hsig : Manifest.signature? "object.__ne__" with
    | none => exact wpAny_pure q
    | some sig =>
      simp only [argsOk, hsig] at ha
      have h2 : Bind.checkArgs "object.__ne__" sig ⟨[.ref x, b], []⟩ = pure () := ha
      show wpAny _ _ (Bind.checkArgs "object.__ne__" sig ⟨[.ref x, b], []⟩) _ _ _
      rw [h2]
      exact wpAny_pure q
  exact chk (body (R := fun r s' => match r with | .ok (.ret v) => Q v s' | .ok _ => False | .error e => E e s') (fun v s' q => q) fun e s' z => z)
theorem ne_own {Q : Value → Shared → Prop} (hu : A.units + 1 < cLine) (F₀ : Fr h₀ L s.heap m) (X₀ : K.In h₀) (I : W.InstAt s.heap x ox C od) (hb : W.Looks (model prog w) s.heap (typeOf b) tb) (hn : W.notFirst K C tb = true)
    (ho : W.subIn K (.ref C) (.type "object") = some true) (hne : W.findIn K (.ref C) "__ne__" = some (some (.builtin "object.__ne__")))
    (hs : W.findIn K (.ref C) "__eq__" = some (some (.ref f))) (hf : W.isFn K (.ref f) = true)
    (h : wpAny (model prog w) A.in1 (call (.ref f) [.ref x, b]) (fun v s' => ∃ k, v = .bool k ∧ Q (.bool (!k)) s') E s) : wpAny (model prog w) A (richCompare .NotEq (.ref x) b) Q E s := by
  have X := X₀.keeps F₀.keep
  have c := obj_ne (E := E) (Q := fun v s' => ∃ k, v = .bool k ∧ Q (.bool k) s') hu X I ho hs hf (wpAny_mono h (fun v s' ⟨k, e, q⟩ => ⟨k, e, !k, rfl, q⟩) fun _ _ z => z)
  have one : wpAny (model prog w) A (tryCompare (.ref x) (cmpInfo .NotEq).2.1 b) (fun r s' => ∃ v, r = some v ∧ Q v s') E s := by
    unfold tryCompare
    refine wpAny_bind ?_
    simp only [callSpecialIfBound?, bindSpecialIfBound?]
    refine wpAny_holding (wpAny_bind (wpAny_bind (wpAny_bind (I.type.here ((W.looks_findIn X hne).here ?_)))))
    simp only [F.cmp_object.ne.bind]
    refine wpAny_bind (wpAny_askSetting (wpAny_ite ?_))
    have fin : wpAny (model prog w) A (call (.builtin "object.__ne__") ([.ref x] ++ [b]) >>= fun v => pure (some v)) (fun a s' => wpAny (model prog w) A (match a with
        | some .notImplemented => pure none
        | none => pure none
        | some v => pure (some v)) (fun r s' => ∃ v, r = some v ∧ Q v s') E s') E s := by
      refine wpAny_bind (wpAny_mono c ?_ fun _ _ z => z)
      rintro v s' ⟨k, rfl, q⟩
      exact wpAny_pure (wpAny_pure ⟨_, rfl, q⟩)
    split
    · exact wpAny_bind (wpAny_pure (wpAny_pure fin))
    · exact wpAny_tryCatch (wpAny_bind (wpAny_pure (wpAny_pure fin)))
  unfold richCompare
  simp only [oneThing_ref]
  refine wpAny_holding (wpAny_bind (wpAny_cRoomFor (Nat.lt_of_succ_lt hu) ?_))
  refine wpAny_bind (I.type.here (wpAny_bind (hb.here ?_)))
  have rest : wpAny (model prog w) A (tryCompare (.ref x) (cmpInfo .NotEq).2.1 b) (fun r s' => ∃ v, r = some v ∧ Q v s') E s := one
  split
  · rename_i q
    have e : W.subIn K tb (.ref C) = some false := by
      rcases Bool.or_eq_true_iff.mp hn with e | e
      · rw [beq_iff_eq.mp e] at q
        simp at q
      · exact beq_iff_eq.mp e
    refine wpAny_bind ((W.looks_subIn X e).here ?_)
    simp only [Bool.false_eq_true, if_false]
    refine wpAny_bind (wpAny_mono rest ?_ fun _ _ z => z)
    rintro r s' ⟨v, rfl, hq⟩
    exact wpAny_pure hq
  · refine wpAny_bind (wpAny_pure ?_)
    simp only [Bool.false_eq_true, if_false]
    refine wpAny_bind (wpAny_mono rest ?_ fun _ _ z => z)
    rintro r s' ⟨v, rfl, hq⟩
    exact wpAny_pure hq
end
/-- what the text has of a class with its own == -/
structure EqC (K : PySem.W.Frag) (C f : Addr) : Prop where
  eq : W.findIn K (.ref C) "__eq__" = some (some (.ref f))
  fn : W.isFn K (.ref f) = true
  ne : W.findIn K (.ref C) "__ne__" = some (some (.builtin "object.__ne__"))
  ob : W.subIn K (.ref C) (.type "object") = some true
/-- a value whose type isn't a subtype of C's own below it -/
def Plain2 (K : PySem.W.Frag) (C : Addr) (H : Hp) (y : V) : Prop := ∃ t, TyX K H y t ∧ W.notFirst K C t = true
def rOwnEq (K : PySem.W.Frag) (C : Addr) (sp : Sp) : R2 := fun x y H Q => ∃ (a dx : Addr) (fs : List (Str × V)), x = .ref a ∧ H a = some (.ins C dx fs) ∧ Plain2 K C H y ∧ sp [.ref a, y] H (fun v H' => ∃ k, v = .bl k ∧ Q (.bl k) H') (fun _ _ _ => False)
def rOwnNe (K : PySem.W.Frag) (C : Addr) (sp : Sp) : R2 := fun x y H Q => ∃ (a dx : Addr) (fs : List (Str × V)), x = .ref a ∧ H a = some (.ins C dx fs) ∧ Plain2 K C H y ∧ sp [.ref a, y] H (fun v H' => ∃ k, v = .bl k ∧ Q (.bl (!k)) H') (fun _ _ _ => False)
section
variable {X : Cx} {C f : Addr} {fd : FuncData} {k : Nat} {ps : List Str} {sp : Sp}
theorem run_eq {A : Around} (F : FnOk X.prog X.w X.K X.mg X.base CX0 k f fd ps sp) (hb : Binds X.K fd ps []) (hr : Room k A) (fr : A.frames = X.A.frames) {pins : List (Addr × Obj)} {σ : L2.St} {H : Hp} {s : Shared} (I : Inv X pins σ H s)
    {vs : List V} {us : List Value} (r : Vals vs us) {Q : VK} {E : Value → Shared → Prop} (h : sp vs H Q (fun _ _ _ => False)) : wpAny (model X.prog X.w) A (call (.ref f) us) (EP X pins σ Q) E s := by
  have env : Env0 X.prog X.w X.K X.mg X.base A X.stack s H := by
    have z := I.env0
    exact ⟨fr.trans z.frames, z.mod, z.bs, z.bsz, z.funs, z.frf, z.hok, z.bare⟩
  have hl := F.len _ _ _ _ h
  refine wpAny_call (codeAny_mono (F.run A X.stack s H ⟨us, []⟩ us vs Q (fun _ _ _ => False) hr env (by
    have z := hb s us I.kIn (by rw [List.append_nil, ← r.length]; exact hl)
    rwa [List.append_nil] at z) r h) fun r s' hq => ?_)
  cases r with
  | error e => exact hq.elim
  | ok fl =>
    cases fl with
    | ret u => exact I.after hq
    | next => exact False.elim hq
    | brk => exact False.elim hq
    | cont => exact False.elim hq
theorem op_ownEq (F : FnOk X.prog X.w X.K X.mg X.base CX0 k f fd ps sp) (hb : Binds X.K fd ps []) (hr : Room k X.A) (T : EqC X.K C f) : OpR X (compareOp .Eq) (rOwnEq X.K C sp) := by
  intro pins s σ H x y v u Q I rx ry h
  obtain ⟨a, dx, fs, rfl, ha, ⟨t, ty, nf⟩, q⟩ := h
  cases rx
  obtain ⟨mA, J, _⟩ := ins_get I.hok ha
  obtain ⟨od, J, _⟩ := J.look
  obtain ⟨m, hF⟩ := I.fr
  obtain ⟨P, Z, p, _⟩ := kit_of I ry ty
  show wpAny _ _ (richCompare .Eq (.ref a) u) _ _ s
  refine PySem.W.cmp_K (op := .Eq) (tb := t) hr.units0 hF I.ok.mod.kin J (Z.ty _ _ I.kIn p) nf T.eq T.fn ?_
  refine wpAny_mono (run_eq F hb hr rfl I (show Vals [V.ref a, y] [Value.ref a, u] from .cons rfl (.cons ry .nil)) q) ?_ fun _ _ z => z
  rintro w s' ⟨z, H', I', rz, k, rfl, q'⟩
  cases rz
  exact ⟨.bl k, H', I', rfl, q'⟩
theorem op_ownNe (F : FnOk X.prog X.w X.K X.mg X.base CX0 k f fd ps sp) (hb : Binds X.K fd ps []) (hr : Room (k + 1) X.A) (T : EqC X.K C f) : OpR X (compareOp .NotEq) (rOwnNe X.K C sp) := by
  intro pins s σ H x y v u Q I rx ry h
  obtain ⟨a, dx, fs, rfl, ha, ⟨t, ty, nf⟩, q⟩ := h
  cases rx
  obtain ⟨mA, J, _⟩ := ins_get I.hok ha
  obtain ⟨od, J, _⟩ := J.look
  obtain ⟨m, hF⟩ := I.fr
  obtain ⟨P, Z, p, _⟩ := kit_of I ry ty
  show wpAny _ _ (richCompare .NotEq (.ref a) u) _ _ s
  refine ne_own (hu_of hr) hF I.ok.mod.kin J (Z.ty _ _ I.kIn p) nf T.ob T.ne T.eq T.fn ?_
  refine wpAny_mono (run_eq F hb hr.in1 rfl I (show Vals [V.ref a, y] [Value.ref a, u] from .cons rfl (.cons ry .nil)) q) ?_ fun _ _ z => z
  rintro w s' ⟨z, H', I', rz, k, rfl, q'⟩
  cases rz
  exact ⟨k, rfl, .bl (!k), H', I', rfl, q'⟩
end
end Wnd

/-! Windowsteps: C.m(..), m a static method. -/
namespace Wnd
open PySem PySem.Spec PyProof.Rows L2
/-- C.m is a static method: its record at p, its def at g -/
structure SMet (K : PySem.W.Frag) (C : Addr) (mc : Value) (m : Str) (p g : Addr) : Prop where
  at_ : W.findCls K (.ref C) mc m = some (.get (.builtin "staticmethod.__get__") (.ref p) .none (.ref C))
  rc : ∃ rest, W.recIn K p "staticmethod" = some (.ref g :: rest)
  kp : W.keepIn K (.ref g) = true
section
variable {X : Cx} {k : Nat} {C p g : Addr} {mc : Value} {sp : Sp} {fd : FuncData} {ps : List Str} {o e : Expr} {es : List Expr} {m : Str} {pos apos : Pos} {ta : TE} {t : TA} {pl : Sem Bool}
theorem getstat_ok {A : Around} {E : Value → Shared → Prop} {pins : List (Addr × Obj)} {σ : L2.St} {H : Hp} {s : Shared} {b : Bool} {Q : Value → Shared → Prop} (I : Inv X pins σ H s) (r : ClX.CRead X.K C mc) (c : SMet X.K C mc m p g)
    (h : ∀ s', Inv X pins σ H s' → Q (.ref g) s') : wpAny (model X.prog X.w) A (getAttr (.ref C) m b) Q E s := by
  obtain ⟨rest, hp⟩ := c.rc
  refine PySem.W.cls_bind I.kIn r.rd c.at_ ?_
  exact wpAny_call (PySem.W.sm_get (s := { s with toks := s.toks + 1 }) I.kIn hp (PySem.W.handed_on rfl (h _ (I.tok _))))
def tStat (C : Addr) (sp : Sp) (ta : TE) (t : TA) : TE := fun σ H Q => ta σ H fun x H1 => x = .ref C ∧ t σ H1 fun vs H2 => sp vs H2 Q E0
theorem pe_stat (he : PE X o ta) (r : ClX.CRead X.K C mc) (c : SMet X.K C mc m p g) (F : FnOk X.prog X.w X.K X.mg X.base CX0 k g fd ps sp) (hb : Binds X.K fd ps []) (hr : Room k X.A) (ha : PA X (e :: es) t)
    (hst : starEach (e :: es) X.env = (false, eval e X.env) :: starEach es X.env := by rfl) (hpl : (backTo pos (starEach es X.env)).any (·.1) = false := by rfl)
    (ht : eval (.Call (.Attribute o m apos) (e :: es) [] pos) X.env = (do
      let ov ← eval o X.env
      standAt apos.atName
      let (f, first) ← holding [ov] (getMethod ov m pl)
      callWith pos f first (backTo pos (starEach (e :: es) X.env)) (backToKw pos (keywordEach [] X.env))) := by rfl) :
    PE X (.Call (.Attribute o m apos) (e :: es) [] pos) (tStat C sp ta t) := by
  refine ⟨fun pins s σ H Q I h => ?_⟩
  refine PySem.W.methodCall_KW (pl := pl) (thn (he.run pins s σ H _ I h) ?_) ht
  rintro u s1 ⟨x, H1, I1, rx, rfl, q⟩
  cases rx
  refine PySem.W.method_cls I1.kIn r.ga (getstat_ok I1 r c fun s2 I2 => ?_)
  refine PySem.W.callWith_K (h₀ := X.base) (first := []) I2.ok.mod.kin c.kp (thn (ha.run pos _ s2 σ H1 _ I2 q) ?_) hst hpl
  rintro us s3 ⟨vs, H2, I3, rv, q2⟩
  refine ⟨I3.kIn, ?_⟩
  exact run_fn F hr hb .nil (pass0 (X := X)) I3 rv (by rw [List.append_nil]; exact q2)
end
end Wnd

/-! Windowsteps: len(set(names)), names all different. -/
namespace Wnd
open PySem PySem.Spec PyProof.Rows L2

/-- what set() has taken of different texts: they, and no more -/
def setOfTexts (xs : List Str) (i : Nat) : Str → Bool := fun y => (xs.take i).any (· == y)
theorem setOfTexts_more {xs : List Str} {i : Nat} (hi : i < xs.length) (y : Str) : (setOfTexts xs i y || decide (y = xs.getD i Str.empty)) = setOfTexts xs (i + 1) y := by
  unfold setOfTexts
  rw [List.take_add_one, List.any_append, List.getElem?_eq_getElem hi, List.getD_eq_getElem?_getD, List.getElem?_eq_getElem hi]
  show (_ || decide (y = xs[i])) = (_ || [xs[i]].any (· == y))
  congr 1
  simp only [List.any_cons, List.any_nil, Bool.or_false]
  by_cases e : y = xs[i]
  · subst e
    simp
  · rw [decide_eq_false e]
    exact (beq_eq_false_iff_ne.mpr fun z => e z.symm).symm
theorem setOfTexts_new {xs : List Str} (nd : xs.Nodup) {i : Nat} (hi : i < xs.length) : setOfTexts xs i (xs.getD i Str.empty) = false := by
  unfold setOfTexts
  rw [List.getD_eq_getElem?_getD, List.getElem?_eq_getElem hi]
  show (xs.take i).any (· == xs[i]) = false
  rw [List.any_eq_false]
  intro z hz e
  have ez : z = xs[i] := by simpa using e
  subst ez
  obtain ⟨j, hj, ej⟩ := List.getElem_of_mem hz
  rw [List.length_take] at hj
  rw [List.getElem_take] at ej
  have := (List.getElem_inj (h₀ := by omega) (h₁ := hi) nd).mp ej
  omega
section
variable {prog : Program} {w : World} {A : Around} {R : Result → Shared → Prop} {I : Addr} {fp wr : List Addr} {G : Array GenState → Array GenState → Prop} {n : Nat} {Pv : Nat → Value → Prop} {St' : Nat → Shared → Prop}
/-- the loop that fills the set: its turns by induction on how many are left -/
theorem fill_texts (W : WalksS prog w A.in1 I fp wr G n Pv St') (D : Addr) (out : D ∉ fp) (xs : List Str) (len : xs.length = n) (nd : xs.Nodup) (few : n < 1000) (val : ∀ i v, Pv i v → ∃ t, v = .str (xs.getD i Str.empty) t) :
    ∀ (left i : Nat) (s : Shared), n - i = left → i ≤ n → St' i s → s.heap.SetOf (PySem.strKind prog w) D (setOfTexts xs i) i →
      (∀ s', Moved (D :: wr) G s s' → s'.heap.SetOf (PySem.strKind prog w) D (setOfTexts xs n) n → R (.ok (.ret .none)) s') →
      codeAny (model prog w) A (.builtin "set.update.loop" ⟨[.ref D, .ref I], []⟩) R s := by
  have outw : D ∉ wr := fun h => out (W.sub _ h)
  have sub : ∀ b ∈ wr, b ∈ D :: wr := fun b hb => List.mem_cons_of_mem _ hb
  intro left
  induction left with
  | zero =>
    intro i s eq le st so done
    obtain rfl : i = n := by omega
    refine codeAny_builtin PyProof.Rows.F.entry_set_update_loop ?_
    rw [Around.under_plainId PyProof.Rows.F.plain_set_update_loop _]
    refine wpAny_bind (W.done s _ _ st fun s' mv => ?_)
    refine wpAny_pure (done s' (mv.mono sub) ?_)
    obtain ⟨o, es, ep, t, ho, more⟩ := so
    exact ⟨o, es, ep, t, mv.heap D _ outw ho, more⟩
  | succ left ih =>
    intro i s eq le st so done
    have lt : i < n := by omega
    refine codeAny_builtin PyProof.Rows.F.entry_set_update_loop ?_
    rw [Around.under_plainId PyProof.Rows.F.plain_set_update_loop _]
    refine wpAny_bind (W.item i s _ _ lt st fun v s' pv st' mv => ?_)
    obtain ⟨t, rfl⟩ := val i v pv
    have so' : s'.heap.SetOf (PySem.strKind prog w) D (setOfTexts xs i) i := by
      obtain ⟨o, es, ep, tb, ho, more⟩ := so
      exact ⟨o, es, ep, tb, mv.heap D _ outw ho, more⟩
    show wpAny _ A.in1 (holding [Value.str (xs.getD i Str.empty) t] (setAdd D (.str (xs.getD i Str.empty) t)) >>= _) _ _ s'
    refine wpAny_bind (wpAny_holding ?_)
    unfold setAdd
    refine wpAny_holding (wpAny_bind ((PySem.strKind prog w).pyHash (k := xs.getD i Str.empty) (strKind_is _ _ _ _) ?_))
    refine wpAny_setAddHashed_of (knd := PySem.strKind prog w) (s := { s' with toks := s'.toks + 1 }) (strKind_is _ _ _ _) rfl so' (by unfold scanBound; omega) fun h' sb s2 => ?_
    have s3 : h'.SetOf (PySem.strKind prog w) D (setOfTexts xs (i + 1)) (i + 1) := by
      refine PyProof.Rows.SetOf_congr s2 (fun y => setOfTexts_more (by omega) y) ?_
      rw [setOfTexts_new nd (by omega)]
      rfl
    refine wpAny_pure ⟨plainId_quiet PyProof.Rows.F.plain_set_update_loop _, ih (i + 1) _ (by omega) lt (W.frame _ s' _ _ st' (Nat.le_succ _) fun b hb o e => ?_) s3 fun s'' mv2 so2 => ?_⟩
    · rw [sb.2 b fun z => out (by rw [← z]; exact hb)]
      exact e
    · refine done s'' (Moved.trans W.gtrans ((mv.mono sub).then_heap (Nat.le_succ _) fun b o hb e => ?_) mv2) so2
      rw [sb.2 b fun z => hb (by rw [z]; exact List.mem_cons_self)]
      exact e
end
section
variable {prog : Program} {w : World} {A : Around} {E : Value → Shared → Prop} {s : Shared}
set_option maxHeartbeats 3200000 in
theorem set_of_texts {l : Addr} {items : Array Value} {xs : List Str} {Q : Value → Shared → Prop} (free : A.handled = none) (isl : s.heap.IsList l items) (are : PyProof.Rows.StrsAre items.toList xs) (nd : xs.Nodup) (few : xs.length < 1000)
    (hq : ∀ (h' : Heap) (tk : Nat), h'.SetOf (PySem.strKind prog w) s.heap.objs.size (setOfTexts xs xs.length) xs.length → (∀ b o, s.heap.get? b = some o → h'.get? b = some o) → Q (.ref s.heap.objs.size) { s with heap := h', toks := tk }) :
    wpAny (model prog w) A (call (.type "set") [.ref l]) Q E s := by
  have len : items.size = xs.length := by
    rw [← Array.length_toList]
    exact StrsAre.len_eq are
  obtain ⟨c, tl, mro⟩ := PySem.F.called_set.mro
  have k1 := PySem.F.called_set.made
  have k2 := PySem.F.called_set.sub
  have k3 := PySem.F.called_set.notType
  have k4 := PySem.F.called_set.canCreate
  have k5 := PySem.F.typeCall_set_1 (.ref l)
  refine wpAny_call (codeAny_of_tree (show wpAny _ _ (callAny (.type "set") _) _ _ _ from wpAny_pure ⟨Code.quiet_builtin _ (by decide +kernel), codeAny_builtin PySem.F.entry_type_call ?_⟩))
  rw [Around.under_plain (weight_type_call_type "set" [.ref l] []) rfl]
  repeat (any_goals (first | assumption | wp_step))
  refine codeAny_mono (code_set_new_1 (.ref l) (E := E)
    (Q₁ := fun obj s₁ => ∃ led : Bool, obj = .ref s.heap.objs.size ∧ s₁ = { s with heap := s.heap.push { cls := .type "set", dict := none, data := .set #[] 0 (.fresh 0 0 led) } })
    fun led => ⟨led, rfl, rfl⟩) ?_
  intro r s₁ hr
  cases r with
  | error e => exact hr
  | ok fl =>
    cases fl with
    | ret obj =>
      obtain ⟨led, rfl, rfl⟩ := hr
      have atS : (s.heap.push { cls := .type "set", dict := none, data := .set #[] 0 (.fresh 0 0 led) }).get? s.heap.objs.size = some { cls := .type "set", dict := none, data := .set #[] 0 (.fresh 0 0 led) } := Heap.get?_push_size _ rfl
      have tyS : Shared.TypeIs { s with heap := s.heap.push { cls := .type "set", dict := none, data := .set #[] 0 (.fresh 0 0 led) } } (.ref s.heap.objs.size) "set" := ⟨_, atS, rfl⟩
      have i1 := PySem.F.called_set.init.lookup
      have i2 := PySem.F.called_set.init.bind (.ref s.heap.objs.size)
      repeat (any_goals (first | assumption | wp_step))
      refine codeAny_mono (codeAny_call_builtin (R := wants (fun r s₂ => r = .none ∧ ∃ h' tk, s₂ = { s with heap := h', toks := tk } ∧
        h'.SetOf (PySem.strKind prog w) s.heap.objs.size (setOfTexts xs xs.length) xs.length ∧
        ∀ b o, s.heap.get? b = some o → h'.get? b = some o) E) PySem.F.called_set.init.plain PySem.F.entry_set_init (check_set_init_1 tyS ?_)) ?_
      · obtain ⟨ol, gl, cl, nl, dl⟩ := isl
        obtain ⟨ocls, odict, odata, oslots⟩ := ol
        simp only at cl dl
        subst cl
        subst dl
        have gl' : (s.heap.push { cls := .type "set", dict := none, data := .set #[] 0 (.fresh 0 0 led) }).get? l = some { cls := .type "list", dict := odict, data := .seq items nl, slots := oslots } := Heap.get?_push_of_some _ gl
        have n1 := PySem.F.sub_list_set
        have n2 := PySem.F.sub_list_frozenset
        have n3 : (Value.type "list" == Value.type "dict") = false := by decide
        have isl' : (s.heap.push { cls := .type "set", dict := none, data := .set #[] 0 (.fresh 0 0 led) }).IsList l items := ⟨_, gl', rfl, nl, rfl⟩
        unfold Builtin.«set.__init__» noKeywords Builtin.Frozenset.updateFrom
        generalize eIt : pyIter = It0
        wp_walk
        subst eIt
        refine wpAny_pyIter_list isl' (wpAny_bind (wpAny_runValue ?_))
        have ltl : l < s.heap.objs.size := Heap.lt_size gl
        have fr3 : A.in1.in1.in1.handled = none := by simp [free]
        have sz1 : (s.heap.push { cls := .type "set", dict := none, data := .set #[] 0 (.fresh 0 0 led) }).objs.size = s.heap.objs.size + 1 := Heap.size_push ..
        have nl1 : l ≠ (s.heap.push { cls := .type "set", dict := none, data := .set #[] 0 (.fresh 0 0 led) }).objs.size := by
          rw [sz1]
          exact Nat.ne_of_lt (Nat.lt_succ_of_lt ltl)
        have outS : s.heap.objs.size ∉ [(s.heap.push { cls := .type "set", dict := none, data := .set #[] 0 (.fresh 0 0 led) }).objs.size, l] := by
          rw [sz1]
          simp only [List.mem_cons, List.not_mem_nil, or_false, not_or]
          exact ⟨Nat.ne_of_lt (Nat.lt_succ_self _), Nat.ne_of_gt ltl⟩
        refine fill_texts ((Walks.list fr3 _ l nl1 items).toS) s.heap.objs.size outS xs len.symm nd (by omega) (fun i v hv => SS.strs_at are i v (by rw [Array.getElem?_toList]; exact hv)) (items.size - 0) 0 _ (by omega) (Nat.zero_le _)
          ⟨⟨_, Heap.get?_push_size _ rfl, rfl, rfl⟩, isl'.push _⟩ ?first ?after
        case first =>
          have g2 : ((s.heap.push { cls := .type "set", dict := none, data := .set #[] 0 (.fresh 0 0 led) }).push { cls := .type "list_iterator", data := .fields #[.ref l, .int 0 0] }).get? s.heap.objs.size
              = some { cls := .type "set", dict := none, data := .set #[] 0 (.fresh 0 0 led) } := Heap.get?_push_of_some _ atS
          exact PyProof.Rows.SetOf_congr ((PyProof.Rows.setObjOf_fresh (knd := PySem.strKind prog w) led).setOf g2 (by unfold scanBound; omega)) (fun _ => rfl) rfl
        case after =>
          intro s' mv so
          obtain ⟨h', g', d', tk', os'⟩ := s'
          obtain rfl : g' = s.gens := mv.gens
          obtain rfl : d' = s.drawn := mv.drawn
          obtain rfl : os' = s.os := mv.os
          refine wpAny_pure (wpAny_pure ⟨rfl, h', tk', rfl, by rw [← len]; exact so, fun b o e => ?_⟩)
          have lt := Heap.lt_size e
          refine mv.heap b o ?_ (Heap.get?_push_of_some _ (Heap.get?_push_of_some _ e))
          simp only [List.mem_cons, List.not_mem_nil, or_false, not_or]
          refine ⟨Nat.ne_of_lt lt, ?_⟩
          rw [sz1]
          exact Nat.ne_of_lt (Nat.lt_succ_of_lt lt)
      · intro r₂ s₂ hr₂
        cases r₂ with
        | error e => exact hr₂
        | ok fl₂ =>
          cases fl₂ with
          | ret r =>
            obtain ⟨rfl, h', tk, rfl, so, kp⟩ := hr₂
            repeat (any_goals (first | assumption | wp_step))
            exact hq _ _ so kp
          | _ => exact hr₂.elim
    | _ => exact hr.elim
end
section
variable {X : Cx}
/-- len(set(names)), different names -/
def tLenSetT (K : PySem.W.Frag) (ta : TE) : TE := fun σ H Q => ta σ H fun x H1 => ∃ (l : Addr) (xs : List Str), x = V.ref l ∧ SqL K H1 l (xs.map V.str) ∧ xs.length < 1000 ∧ xs.Nodup ∧ Q (.int xs.length) H1
theorem pe_lenSetT {a : Expr} {ta : TE} {p p2 q pos : Pos} (calm : X.calm = true) (hm : X.mg "len" = none) (hm2 : X.mg "set" = none) (ha : PE X a ta) (hg : Gl X "len" := by rfl) (hg2 : Gl X "set" := by rfl)
    (na : starEach [a] X.env = (false, eval a X.env) :: starEach [] X.env := by rfl) : PE X (.Call (.Name "len" p) [.Call (.Name "set" p2) [a] [] q] [] pos) (tLenSetT X.K ta) := by
  refine ⟨fun pins s σ H Q I h => Call_ (ld_blt I hg hm PySem.boot_len (PyProof.Rows.callWith_builtin1 (PyProof.Rows.args_cons (Call_ (ld_blt I hg2 hm2 PyProof.Rows.boot_set ?_)) rfl) rfl rfl))⟩
  refine PyProof.Rows.callWith_type1 (PyProof.Rows.args_cons (thn (ha.run pins s σ H _ I h) ?_) na) na rfl
  rintro v s1 ⟨x, H1, I1, r1, l, xs, rfl, hs, few, nd, q1⟩
  refine PyProof.Rows.args_nil ?_
  cases r1
  obtain ⟨its, r, pl, hz⟩ := I1.list hs
  refine set_of_texts (I1.ok.hd calm) pl.isList (xs := xs) (by simpa using r.strs) nd few fun h' tk so kp => ?_
  refine PyProof.Rows.args_nil ?_
  obtain ⟨o, es, ep, t, ho, hex, hd, _, _, _, hf, hn⟩ := so
  have I2 : Inv X pins σ H1 { s1 with heap := h', toks := tk } := I1.kept kp
  exact call_len_set ho hex hd hf (by rw [hn]; omega) ⟨.int xs.length, H1, I2.tok _, ⟨_, by rw [hn]⟩, q1⟩
end
end Wnd

/-! Windowsteps: comprehensions that change nothing that was there. -/
namespace Wnd
open PySem PySem.Spec PyProof.Rows L2
variable {J : It} {n : Nat} {G : Hp → Prop} {Y : Nat → Hp → V → Hp → Prop}
/-- what the list holds is said turn by turn by F; what was there stays -/
theorem lc_acc (w : Walk J n G Y) {g : TG} {tt : TT} {te : TE} {vs : List Nat} {σ : L2.St} {H1 : Hp} {D : Addr} {Qd : Hp → Prop} (hD : H1 D = none) (F : Nat → List V) (h0 : F 0 = []) (hz : n < sizeLine) (hl : ∀ i, (F i).length ≤ i)
    (hG : ∀ H, Same H1 H → G H)
    (hs : ∀ i x H H' (R : V → Hp → Prop) (L : Hp → Prop), i < n → Same H1 H → Y i H x H' → (∀ y H4, F (i + 1) = F i ++ [y] → Same H H4 → R y H4) → (∀ H4, F (i + 1) = F i → Same H H4 → L H4) →
      g x (wipe σ vs) H' fun σ2 H2 => wipe σ2 vs = wipe σ vs ∧ tt σ2 H2 fun b H3 => if b = true then te σ2 H3 R else L H3) (hd : ∀ H, Same H1 H → H D = some (.lst (F n)) → Qd H) :
    ∃ W : Nat → Nat → Hp → Prop, (∃ m, W 0 m (upd H1 D (.lst []))) ∧ ∀ i m H, W i m H →
      (J.stop i H ∧ Qd H) ∨ (J.go i H ∧ ∃ Nx : Hp → Prop, (∀ H', Nx H' → ∃ m', m' < m ∧ W (i + 1) m' H') ∧ ∀ x H', J.yld i H x H' → g x (wipe σ vs) H' fun σ2 H2 => wipe σ2 vs = wipe σ vs ∧ tt σ2 H2 fun b H3 =>
        if b = true then te σ2 H3 fun y H4 => ∃ acc, H4 D = some (.lst acc) ∧ acc.length < sizeLine ∧ Nx (upd H4 D (.lst (acc ++ [y]))) else Nx H3) := by
  refine lc_it w (fun i H => Same H1 H ∧ H D = some (.lst (F i))) ⟨same_new hD, by rw [h0]; exact upd_same⟩ (fun i H _ p => hG H p.1) ?_ (fun H p => hd H p.1 p.2)
  rintro i x H H' hi ⟨s, hd⟩ y
  refine hs i x H H' _ _ hi s y (fun v H4 e s4 => ⟨F i, s4 _ _ hd, by have := hl i; omega, ?_, ?_⟩) fun H4 e s4 => ⟨s.trans s4, by rw [e]; exact s4 _ _ hd⟩
  · intro b o hb
    rw [upd_ne (ne_of_none hb hD)]
    exact s4 _ _ (s _ _ hb)
  · rw [e]
    exact upd_same
/-- one item for each turn -/
theorem lc_map (w : Walk J n G Y) {g : TG} {tt : TT} {te : TE} {vs : List Nat} {σ : L2.St} {H1 : Hp} {D : Addr} {Qd : Hp → Prop} (hD : H1 D = none) (ys : List V) (hn : ys.length = n) (hz : n < sizeLine)
    (hG : ∀ H, Same H1 H → G H)
    (hs : ∀ i x H H' (hi : i < ys.length) (R : V → Hp → Prop) (L : Hp → Prop), Same H1 H → Y i H x H' → (∀ H4, Same H H4 → R ys[i] H4) →
      g x (wipe σ vs) H' fun σ2 H2 => wipe σ2 vs = wipe σ vs ∧ tt σ2 H2 fun b H3 => if b = true then te σ2 H3 R else L H3) (hd : ∀ H, Same H1 H → H D = some (.lst ys) → Qd H) :
    ∃ W : Nat → Nat → Hp → Prop, (∃ m, W 0 m (upd H1 D (.lst []))) ∧ ∀ i m H, W i m H →
      (J.stop i H ∧ Qd H) ∨ (J.go i H ∧ ∃ Nx : Hp → Prop, (∀ H', Nx H' → ∃ m', m' < m ∧ W (i + 1) m' H') ∧ ∀ x H', J.yld i H x H' → g x (wipe σ vs) H' fun σ2 H2 => wipe σ2 vs = wipe σ vs ∧ tt σ2 H2 fun b H3 =>
        if b = true then te σ2 H3 fun y H4 => ∃ acc, H4 D = some (.lst acc) ∧ acc.length < sizeLine ∧ Nx (upd H4 D (.lst (acc ++ [y]))) else Nx H3) := by
  refine lc_acc w hD (fun i => ys.take i) rfl hz (fun i => by rw [List.length_take]; omega) hG ?_ (fun H s h => hd H s (by rw [h, ← hn, List.take_length]))
  intro i x H H' R L hi s y hR hL
  have hi' : i < ys.length := by omega
  exact hs i x H H' hi' R L s y fun H4 s4 => hR _ H4 (by rw [List.take_add_one, List.getElem?_eq_getElem hi']; rfl) s4
/-- in a block: the class's frame said -/
theorem op_inK {X : Cx} (K : PySem.W.Frag) (h : X.K = K := by rfl) : OpR X (compareOp .In) (rIn K false) := by
  subst h
  exact op_in_seq
theorem pg_tupK {X : Cx} {pos : Pos} {es : List Expr} {k : Nat} {t : TGs} (K : PySem.W.Frag) (n : Nat) (hc : X.calm = true) (h : PGs X es t) (hK : X.K = K := by rfl)
    (hn : (assignEach es X.env).length = n := by rfl) (hst : (assignEach es X.env).findIdx? (·.1) = none := by rfl) : PG X (.Tuple es k pos) (gTup K n t) := by
  subst hK
  exact pg_tup hc h hn hst
def rLenSeq (K : PySem.W.Frag) : List V → Hp → VK → Prop := fun xs H Q => ∃ p ys, xs = [.ref p] ∧ (SqL K H p ys ∨ SqT K H p ys) ∧ Q (.int ys.length) H
theorem call_lenK {X : Cx} (K : PySem.W.Frag) (h : X.K = K := by rfl) : CallR X (.builtin "len") (rLenSeq K) := by
  subst h
  exact call_len_seq
theorem op_neDK {X : Cx} (K : PySem.W.Frag) (hu : X.A.units + 64 < cLine) (h : X.K = K := by rfl) : OpR X (compareOp .NotEq) (rNeD K) := by
  subst h
  exact op_neD hu
theorem op_eqDK {X : Cx} (K : PySem.W.Frag) (hu : X.A.units + 64 < cLine) (h : X.K = K := by rfl) : OpR X (compareOp .Eq) (rEqD K) := by
  subst h
  exact op_eqD hu
theorem ix_listK {X : Cx} (K : PySem.W.Frag) (h : X.K = K := by rfl) : IxR X (rIxL K) := by
  subst h
  exact ix_list
theorem ix_tupK {X : Cx} (K : PySem.W.Frag) (h : X.K = K := by rfl) : IxR X (rIxT K) := by
  subst h
  exact ix_tup
theorem cons_erase {α : Type} : ∀ (l : List α) (k : Nat) (h : k < l.length), (l[k] :: l.eraseIdx k).Perm l
  | x :: l, 0, _ => List.Perm.refl _
  | x :: l, k + 1, h => (List.Perm.swap ..).trans ((cons_erase l k (Nat.lt_of_succ_lt_succ h)).cons x)
theorem pe_bmB {X : Cx} {o e : Expr} {es : List Expr} {to : TE} {t : TA} {name : Str} {apos cpos : Pos} {T id : String} {r : V → List V → Hp → VK → Prop} (K : PySem.W.Frag) (pa : PlainAttrs T) (slot : Slot T name id) (hty : typeOf (.builtin id) = pure (.type "method_descriptor")) (hm : MtR X id r) (ho : PE X o to) (ha : PA X (e :: es) t) (hK : X.K = K := by rfl)
    (hbase : attributeBase o name X.env (eval o X.env) = eval o X.env := by rfl)
    (hfew : ((backTo cpos (starEach (e :: es) X.env)).all (fun x => !x.1) && (backToKw cpos (keywordEach [] X.env)).all (fun x => x.1.isSome)
      && decide ((e :: es).length + ([] : List Keyword).length + (if ([] : List Keyword).isEmpty then 0 else 1) < 30)) = true := by rfl)
    (hline : (apos.endLine == cpos.line) = true := by rfl) (hs : starEach (e :: es) X.env = (false, eval e X.env) :: starEach es X.env := by rfl) (hplain : (backTo cpos (starEach es X.env)).any (·.1) = false := by rfl) :
    PE X (.Call (.Attribute o name apos) (e :: es) [] cpos) (tBM K T r to t) := by
  subst hK
  exact pe_bm pa slot hty hm ho ha hbase hfew hline hs hplain
theorem same_back {H H' : Hp} {p : Addr} (s : Same H H') (h : H' p = none) : H p = none := s.free h
end Wnd

/-! Windowsteps: the order of the rules, one answer for each set of them. -/
namespace Wnd
open PySem PySem.Spec PyProof.Rows L2
/-- a comes no later than b -/
def leR (a b : Rule) : Bool := W.dataLe false rankD a b
theorem leR_not (a b : Rule) : leR a b = !W.dataLt (rankD b) (rankD a) := rfl
theorem leR_total (a b : Rule) : (leR a b || leR b a) = true := by
  rw [leR_not, leR_not]
  cases h1 : W.dataLt (rankD b) (rankD a) with
  | false => rfl
  | true =>
    cases h2 : W.dataLt (rankD a) (rankD b) with
    | false => rfl
    | true =>
      have h := PyProof.Rows.lex_trans _ _ _ h1 h2
      rw [PyProof.Rows.lex_irrefl] at h
      cases h
theorem leR_trans (a b c : Rule) (h1 : leR a b = true) (h2 : leR b c = true) : leR a c = true := by
  rw [leR_not, Bool.not_eq_true'] at h1 h2 ⊢
  cases h : W.dataLt (rankD c) (rankD a) with
  | false => rfl
  | true =>
    rcases PyProof.Rows.lex_negTrans _ (W.keyToks (rankD b)) _ h with h | h
    · rw [show W.dataLt (rankD c) (rankD b) = true from h] at h2
      cases h2
    · rw [show W.dataLt (rankD b) (rankD a) = true from h] at h1
      cases h1
theorem leR_anti {a b : Rule} (ha : Named a) (hb : Named b) (h1 : leR a b = true) (h2 : leR b a = true) : a = b := by
  rw [leR_not, Bool.not_eq_true'] at h1 h2
  have h := PyProof.Rows.lex_total _ _ h2 h1
  refine rank_inj ha hb ?_
  cases e : PyData.eqv (rankD a) (rankD b) with
  | true => rfl
  | false =>
    rw [eqv_rank] at e
    simp [W.keyToks, W.keyToksAll, rankD] at h
    obtain ⟨x1, x2, x3⟩ := h
    have sx : ∀ {a b : Str}, a.cps = b.cps → a = b := fun {a b} z => by
      cases a
      cases b
      exact congrArg Str.mk z
    rw [sx x1, sx x2, x3] at e
    simp at e
/-- the rules in ascending order -/
def sortR (rs : List Rule) : List Rule := rs.mergeSort leR
theorem sortR_perm (rs : List Rule) : (sortR rs).Perm rs := List.mergeSort_perm _ _
theorem sortR_pair (rs : List Rule) : (sortR rs).Pairwise fun a b => leR a b = true := List.pairwise_mergeSort leR_trans leR_total rs
theorem sortR_one {a b : List Rule} (ha : ∀ r ∈ a, Named r) (hp : a.Perm b) : sortR a = sortR b := by
  have q : (sortR a).Perm (sortR b) := (sortR_perm a).trans (hp.trans (sortR_perm b).symm)
  refine List.Perm.eq_of_pairwise (fun x y hx hy => leR_anti (ha x ((sortR_perm a).mem_iff.mp hx)) (ha y (hp.mem_iff.mpr ((sortR_perm b).mem_iff.mp hy)))) (sortR_pair a) (sortR_pair b) q
theorem sortR_of {a : List Rule} (h : a.Pairwise fun a b => leR a b = true) : sortR a = a := List.mergeSort_of_pairwise h
theorem inOrder_map (L : List (Rule × Addr)) : (inOrder L).map (·.1) = sortR (L.map (·.1)) := List.map_mergeSort fun _ _ _ _ => rfl
theorem pairs_map (L : List Pr) : (pairsInOrder L).map (·.2.1) = sortR (L.map (·.2.1)) := List.map_mergeSort fun _ _ _ _ => rfl
/-- each rule once -/
def nubR (rs : List Rule) : List Rule := (putAll (rs.map fun r => (r, 0)) []).map (·.1)
theorem putR_map {r : Rule} {q q' : Addr} {L L' : List (Rule × Addr)} (h : L.map (·.1) = L'.map (·.1)) : (putR L r q).map (·.1) = (putR L' r q').map (·.1) := by
  unfold putR
  rw [h]
  split
  · exact h
  · rw [List.map_append, List.map_append, h]
    rfl
theorem putAll_map : ∀ {rs rs' L L' : List (Rule × Addr)}, rs.map (·.1) = rs'.map (·.1) → L.map (·.1) = L'.map (·.1) → (putAll rs L).map (·.1) = (putAll rs' L').map (·.1)
  | [], [], _, _, _, h => h
  | [], _ :: _, _, _, h, _ => nomatch h
  | _ :: _, [], _, _, h, _ => nomatch h
  | r :: rs, r' :: rs', L, L', h, h2 => by
    injection h with h1 h3
    show (putAll rs (putR L r.1 r.2)).map (·.1) = (putAll rs' (putR L' r'.1 r'.2)).map (·.1)
    refine putAll_map h3 ?_
    rw [show r'.1 = r.1 from h1.symm]
    exact putR_map h2
theorem nub_put (rs : List (Rule × Addr)) : (putAll rs []).map (·.1) = nubR (rs.map (·.1)) := by
  refine putAll_map ?_ rfl
  rw [List.map_map, List.map_map]
  rfl
theorem nubR_nodup (rs : List Rule) : (nubR rs).Nodup := putAll_nodup _ _ List.nodup_nil
theorem putR_mem {L : List (Rule × Addr)} {r x : Rule} {q : Addr} : x ∈ (putR L r q).map (·.1) ↔ x ∈ L.map (·.1) ∨ x = r := by
  unfold putR
  split
  · rename_i h
    exact ⟨.inl, fun z => z.elim id fun e => e ▸ h⟩
  · rw [List.map_append, List.mem_append]
    simp
theorem putAll_mem1 : ∀ (rs L : List (Rule × Addr)) (x : Rule), x ∈ (putAll rs L).map (·.1) ↔ x ∈ L.map (·.1) ∨ x ∈ rs.map (·.1)
  | [], L, x => by simp [putAll]
  | r :: rs, L, x => by
    show x ∈ (putAll rs (putR L r.1 r.2)).map (·.1) ↔ _
    rw [putAll_mem1 rs, putR_mem, List.map_cons, List.mem_cons]
    constructor
    · rintro ((h | h) | h)
      · exact .inl h
      · exact .inr (.inl h)
      · exact .inr (.inr h)
    · rintro (h | h | h)
      · exact .inl (.inl h)
      · exact .inl (.inr h)
      · exact .inr h
theorem nubR_mem (rs : List Rule) (x : Rule) : x ∈ nubR rs ↔ x ∈ rs := by
  unfold nubR
  rw [putAll_mem1, List.map_map]
  simp
theorem nubR_of {rs : List Rule} (h : rs.Nodup) : (nubR rs).Perm rs := (List.perm_ext_iff_of_nodup (nubR_nodup rs) h).mpr fun x => nubR_mem rs x
/-- the different rules in ascending order -/
def canon (rs : List Rule) : List Rule := sortR (nubR rs)
theorem canon_mem (rs : List Rule) (x : Rule) : x ∈ canon rs ↔ x ∈ rs := (sortR_perm _).mem_iff.trans (nubR_mem rs x)
theorem canon_nodup (rs : List Rule) : (canon rs).Nodup := (sortR_perm _).nodup_iff.mpr (nubR_nodup rs)
theorem canon_len (rs : List Rule) : (canon rs).length ≤ rs.length := by
  unfold canon
  rw [(sortR_perm _).length_eq, nubR, List.length_map]
  have := putAll_len (rs.map fun r => (r, 0)) []
  rw [List.length_map, List.length_nil] at this
  omega
theorem canon_same {a b : List Rule} (ha : ∀ r ∈ a, Named r) (h : ∀ x, x ∈ a ↔ x ∈ b) : canon a = canon b := by
  refine sortR_one (fun r hr => ha r ((nubR_mem a r).mp hr)) ((List.perm_ext_iff_of_nodup (nubR_nodup a) (nubR_nodup b)).mpr fun x => ?_)
  rw [nubR_mem, nubR_mem, h]
theorem canon_of {a : List Rule} (ha : ∀ r ∈ a, Named r) (nd : a.Nodup) (h : a.Pairwise fun a b => leR a b = true) : canon a = a := by
  have : sortR (nubR a) = sortR a := sortR_one (fun r hr => ha r ((nubR_mem a r).mp hr)) (nubR_of nd)
  rw [canon, this, sortR_of h]
theorem canon_canon {a : List Rule} (ha : ∀ r ∈ a, Named r) : canon (canon a) = canon a := canon_same (fun r hr => ha r ((canon_mem a r).mp hr)) (canon_mem a)
theorem canon_pair (a : List Rule) : (canon a).Pairwise fun a b => leR a b = true := sortR_pair _
theorem inOrder_canon (rs : List (Rule × Addr)) : (inOrder (putAll rs [])).map (·.1) = canon (rs.map (·.1)) := by
  rw [inOrder_map, nub_put]
  rfl

/-! ### names in ascending order -/
def leS (a b : Str) : Bool := !decide (b.cps.toList < a.cps.toList)
theorem leS_iff (a b : Str) : leS a b = true ↔ a.cps.toList ≤ b.cps.toList := by
  unfold leS
  rw [Bool.not_eq_true', decide_eq_false_iff_not]
  exact List.not_lt
theorem leS_total (a b : Str) : (leS a b || leS b a) = true := by
  rw [Bool.or_eq_true, leS_iff, leS_iff]
  exact List.le_total _ _
theorem leS_trans (a b c : Str) (h1 : leS a b = true) (h2 : leS b c = true) : leS a c = true := by
  rw [leS_iff] at h1 h2 ⊢
  exact List.le_trans h1 h2
theorem leS_anti {a b : Str} (h1 : leS a b = true) (h2 : leS b a = true) : a = b := by
  rw [leS_iff] at h1 h2
  have := List.le_antisymm h1 h2
  obtain ⟨⟨x⟩⟩ := a
  obtain ⟨⟨y⟩⟩ := b
  exact congrArg (fun l => Str.mk (Array.mk l)) this
theorem rising_pair : ∀ (p : Str) (l : List Str), PyProof.Rows.risingS p l = true → (p :: l).Pairwise fun a b => leS a b = true
  | p, [], _ => List.pairwise_singleton _ _
  | p, x :: r, h => by
    unfold PyProof.Rows.risingS at h
    rw [Bool.and_eq_true] at h
    have ih := rising_pair x r h.2
    have px : leS p x = true := by
      have h1 := h.1
      rw [PyProof.Rows.ltCps_eq] at h1
      exact h1
    refine List.pairwise_cons.mpr ⟨fun y hy => ?_, ih⟩
    rcases List.mem_cons.mp hy with rfl | hy
    · exact px
    · exact leS_trans p x y px ((List.pairwise_cons.mp ih).1 y hy)
theorem sorted_pair {l : List Str} (h : PyProof.Rows.sortedS l = true) : l.Pairwise fun a b => leS a b = true := by
  cases l with
  | nil => exact List.Pairwise.nil
  | cons x r => exact rising_pair x r h
def sortN (ts : List Str) : List Str := ts.mergeSort leS
theorem sortN_perm (ts : List Str) : (sortN ts).Perm ts := List.mergeSort_perm _ _
theorem sortN_of {ys ts : List Str} (hp : ys.Perm ts) (h : PyProof.Rows.sortedS ys = true) : ys = sortN ts :=
  List.Perm.eq_of_pairwise (fun x y _ _ => leS_anti) (sorted_pair h) (List.pairwise_mergeSort leS_trans leS_total ts) (hp.trans (sortN_perm ts).symm)
theorem sortN_one {a b : List Str} (h : a.Perm b) : sortN a = sortN b :=
  List.Perm.eq_of_pairwise (fun x y _ _ => leS_anti) (List.pairwise_mergeSort leS_trans leS_total a) (List.pairwise_mergeSort leS_trans leS_total b) ((sortN_perm a).trans (h.trans (sortN_perm b).symm))
theorem sortN_sortN (a : List Str) : sortN (sortN a) = sortN a := sortN_one (sortN_perm a)
end Wnd

/-! Windowsteps: l.count(x), items and x data of any depth. -/
namespace Wnd
open PySem PySem.Spec PyProof.Rows L2
variable {X : Cx}
def rCountD (K : PySem.W.Frag) : V → List V → Hp → VK → Prop := fun x xs H Q => ∃ (a : Addr) (y : V) (d : PyData) (ds : List PyData), x = V.ref a ∧ xs = [y] ∧ Dp K H (V.ref a) (.list ds) ∧ Dp K H y d ∧
  SeqAt.shaped (.list ds) = true ∧ SeqAt.shaped d = true ∧ Q (.int (ds.countP fun z => PyData.eqv z d : Nat)) H
theorem mt_countD (hu : X.A.units + 65 < cLine) : MtR X "list.count" (rCountD X.K) := by
  intro pins s σ H x xs v us Q I rx rxs h
  obtain ⟨a, y, d, ds, rfl, rfl, hl, hy, sl, sd, q⟩ := h
  cases rx
  obtain ⟨uy, rfl, ry⟩ := rxs.one
  obtain ⟨bs, r1⟩ := Dp.reads I d y uy hy ry
  have hxs : PyData.canLayAll0 ds = true := SeqAt.canLay_of_shaped sl
  have hroom : X.A.units + 1 + min (PyData.depthAll ds) d.depth < cLine := room_in_shaped sd hu
  cases hl with
  | lst hs ha =>
    obtain ⟨its, rv, ⟨⟨cls, dd, data, sls⟩, n, ho, hc, hdn, hdt⟩, hlen⟩ := I.list hs
    simp only at hc hdt
    subst hc hdt
    obtain ⟨as, h4⟩ := Dp.readsAll I ds _ its ha rv
    have hmap : its.map (SeqAt.readOf s.heap) = ds := SeqAt.readsAll_map ds its as hxs h4
    refine call_meets PySem.F.slot_list_count ⟨_, ho, rfl⟩ PySem.F.entry_list_count (PySem.F.args_list_count_2 _ _)
      (SeqAt.list_countAt a its.toArray n dd sls uy (fun u => PyData.eqv (SeqAt.readOf s.heap u) d)) ⟨ho, SeqAt.items_eqAt (vs := its.toArray) (show ReadsAll s.heap its.toArray.toList ds as from h4) r1 hxs (SeqAt.canLay_of_shaped sd) hroom, ?_⟩
    have ec : its.toArray.toList.countP (fun u => PyData.eqv (SeqAt.readOf s.heap u) d) = ds.countP fun z => PyData.eqv z d := by
      rw [← hmap, List.countP_map]
      rfl
    refine ⟨.int (ds.countP fun z => PyData.eqv z d : Nat), H, I.tok _, ⟨s.toks, ?_⟩, q⟩
    show Value.int ((its.toArray.toList.countP (fun u => PyData.eqv (SeqAt.readOf s.heap u) d) : Nat) : Int) s.toks = Value.int ((ds.countP fun z => PyData.eqv z d : Nat) : Int) s.toks
    rw [ec]
end Wnd

/-! Windowsteps: what the head of a law's proof finds of defs, methods, constants. -/
namespace Wnd
open PySem PySem.Spec PyProof.Rows L2
section
variable {K : PySem.W.Frag} {mg : Str → Option Value} {h : Heap}
/-- a def of the text, where the top has put it -/
def DefRaw (K : PySem.W.Frag) (x : Str) (st : Stmt) : Prop := ∃ (f : Addr) (oc : Value) (od an : Option Addr) (kV dc pm cd ct : Value) (sl : Array (Option Value)), PySem.W.nsIn K mainGlobals x = some (some (.ref f)) ∧
  K.lookup f = some ⟨oc, od, .func (PySem.W.fnOf x x (defArgs st) (defBody st) (defScope st) .none kV dc pm an cd ct), sl⟩ ∧ PySem.W.codeIn K cd x = true ∧ PySem.W.keepIn K (.ref f) = true
theorem defRaw_mk {x : Str} {st : Stmt} {f : Addr} {oc : Value} {od an : Option Addr} {kV dc pm cd ct : Value} {sl : Array (Option Value)} (a : PySem.W.nsIn K mainGlobals x = some (some (.ref f)))
    (b : K.lookup f = some ⟨oc, od, .func (PySem.W.fnOf x x (defArgs st) (defBody st) (defScope st) .none kV dc pm an cd ct), sl⟩) (c : PySem.W.codeIn K cd x = true) (d : PySem.W.keepIn K (.ref f) = true) : DefRaw K x st := ⟨f, oc, od, an, kV, dc, pm, cd, ct, sl, a, b, c, d⟩
theorem DefRaw.at {x : Str} {st : Stmt} {ps : List Str} (R : DefRaw K x st) (X : K.In h) (G : h.Ns mainGlobals mg)
    (hb : ∀ (kV doc pm : Value) (an : Option Addr) (cdv ct : Value) (us : List Value), us.length = ps.length → bindArgs (PySem.W.fnOf x x (defArgs st) (defBody st) (defScope st) .none kV doc pm an cdv ct) ⟨us, []⟩ = pure (ps.zip us)) :
    ∃ (f : Addr) (fd : FuncData), DefAt K mg x st ps f fd := by
  obtain ⟨f, oc, od, an, kV, dc, pm, cd, ct, sl, h1, h2, h3, h4⟩ := R
  have F := fun_mk (st := st) h2 h3 h4
  exact ⟨f, _, F, F.binds hb, PySem.W.mg_of X G h1⟩
/-- a method of a class -/
def MetRaw (K : PySem.W.Frag) (C : Addr) (x q : Str) (st : Stmt) : Prop := ∃ (f : Addr) (oc : Value) (od an : Option Addr) (kV dc pm cd ct : Value) (sl : Array (Option Value)), PySem.W.findIn K (.ref C) x = some (some (.ref f)) ∧ PySem.W.isFn K (.ref f) = true ∧
  K.lookup f = some ⟨oc, od, .func (PySem.W.fnOf x q (defArgs st) (defBody st) (defScope st) .none kV dc pm an cd ct), sl⟩ ∧ PySem.W.codeIn K cd q = true ∧ PySem.W.keepIn K (.ref f) = true
theorem metRaw_mk {C : Addr} {x q : Str} {st : Stmt} {f : Addr} {oc : Value} {od an : Option Addr} {kV dc pm cd ct : Value} {sl : Array (Option Value)} (a : PySem.W.findIn K (.ref C) x = some (some (.ref f))) (b : PySem.W.isFn K (.ref f) = true)
    (c : K.lookup f = some ⟨oc, od, .func (PySem.W.fnOf x q (defArgs st) (defBody st) (defScope st) .none kV dc pm an cd ct), sl⟩) (d : PySem.W.codeIn K cd q = true) (e : PySem.W.keepIn K (.ref f) = true) : MetRaw K C x q st := ⟨f, oc, od, an, kV, dc, pm, cd, ct, sl, a, b, c, d, e⟩
theorem MetRaw.at {C : Addr} {x q : Str} {st : Stmt} {ps : List Str} (R : MetRaw K C x q st)
    (hb : ∀ (kV doc pm : Value) (an : Option Addr) (cdv ct : Value) (us : List Value), us.length = ps.length → bindArgs (PySem.W.fnOf x q (defArgs st) (defBody st) (defScope st) .none kV doc pm an cdv ct) ⟨us, []⟩ = pure (ps.zip us)) :
    ∃ (f : Addr) (fd : FuncData), Fun K x q st f fd ∧ Binds K fd ps [] ∧ PySem.W.findIn K (.ref C) x = some (some (.ref f)) ∧ PySem.W.isFn K (.ref f) = true := by
  obtain ⟨f, oc, od, an, kV, dc, pm, cd, ct, sl, h1, h2, h3, h4, h5⟩ := R
  have F := fun_mk (st := st) h3 h4 h5
  exact ⟨f, _, F, F.binds hb, h1, h2⟩
/-- a static method of a class, as it is read off the class -/
def StatRaw (K : PySem.W.Frag) (C : Addr) (x q : Str) (st : Stmt) : Prop := ∃ (mc : Value) (p f : Addr) (oc : Value) (od an : Option Addr) (kV dc pm cd ct : Value) (sl : Array (Option Value)), PySem.W.readsIn K C mc = true ∧
  PySem.W.specialIn K (.ref C) "__getattribute__" = some (some (.builtin "type.__getattribute__")) ∧ PySem.W.findCls K (.ref C) mc x = some (.get (.builtin "staticmethod.__get__") (.ref p) .none (.ref C)) ∧ (∃ rest, PySem.W.recIn K p "staticmethod" = some (.ref f :: rest)) ∧
  K.lookup f = some ⟨oc, od, .func (PySem.W.fnOf x q (defArgs st) (defBody st) (defScope st) .none kV dc pm an cd ct), sl⟩ ∧ PySem.W.codeIn K cd q = true ∧ PySem.W.keepIn K (.ref f) = true
theorem statRaw_mk {C p : Addr} {x q : Str} {st : Stmt} {f : Addr} {oc : Value} {od an : Option Addr} {kV dc pm cd ct : Value} {sl : Array (Option Value)} {rest : List Value} (a : PySem.W.readsIn K C (.type "type") = true)
    (b : PySem.W.specialIn K (.ref C) "__getattribute__" = some (some (.builtin "type.__getattribute__"))) (c : PySem.W.findCls K (.ref C) (.type "type") x = some (.get (.builtin "staticmethod.__get__") (.ref p) .none (.ref C))) (d : PySem.W.recIn K p "staticmethod" = some (.ref f :: rest))
    (e : K.lookup f = some ⟨oc, od, .func (PySem.W.fnOf x q (defArgs st) (defBody st) (defScope st) .none kV dc pm an cd ct), sl⟩) (g : PySem.W.codeIn K cd q = true) (i : PySem.W.keepIn K (.ref f) = true) : StatRaw K C x q st :=
  ⟨.type "type", p, f, oc, od, an, kV, dc, pm, cd, ct, sl, a, b, c, ⟨rest, d⟩, e, g, i⟩
theorem StatRaw.at {C : Addr} {x q : Str} {st : Stmt} {ps : List Str} (R : StatRaw K C x q st)
    (hb : ∀ (kV doc pm : Value) (an : Option Addr) (cdv ct : Value) (us : List Value), us.length = ps.length → bindArgs (PySem.W.fnOf x q (defArgs st) (defBody st) (defScope st) .none kV doc pm an cdv ct) ⟨us, []⟩ = pure (ps.zip us)) :
    ∃ (mc : Value) (p g : Addr) (fd : FuncData), Fun K x q st g fd ∧ Binds K fd ps [] ∧ ClX.CRead K C mc ∧ SMet K C mc x p g := by
  obtain ⟨mc, p, f, oc, od, an, kV, dc, pm, cd, ct, sl, h1, h2, h3, h4, h5, h6, h7⟩ := R
  have F := fun_mk (st := st) h5 h6 h7
  exact ⟨mc, p, f, _, F, F.binds hb, ⟨h1, h2⟩, ⟨h3, h4, h7⟩⟩
/-- a property of a class: its getter's def -/
def PropRaw (K : PySem.W.Frag) (C : Addr) (x q : Str) (st : Stmt) : Prop := ∃ (p f : Addr) (oc : Value) (od an : Option Addr) (kV dc pm cd ct : Value) (sl : Array (Option Value)), PySem.W.findIn K (.ref C) x = some (some (.ref p)) ∧ PySem.W.specialIn K (.ref p) "__get__" = some (some (.builtin "property.__get__")) ∧
  PySem.W.takesIn K (.ref p) = some true ∧ (∃ rest, PySem.W.recIn K p "property" = some (.ref f :: rest)) ∧ K.lookup f = some ⟨oc, od, .func (PySem.W.fnOf x q (defArgs st) (defBody st) (defScope st) .none kV dc pm an cd ct), sl⟩ ∧ PySem.W.codeIn K cd q = true ∧ PySem.W.keepIn K (.ref f) = true
theorem propRaw_mk {C p : Addr} {x q : Str} {st : Stmt} {f : Addr} {oc : Value} {od an : Option Addr} {kV dc pm cd ct : Value} {sl : Array (Option Value)} {rest : List Value} (a : PySem.W.findIn K (.ref C) x = some (some (.ref p))) (b : PySem.W.specialIn K (.ref p) "__get__" = some (some (.builtin "property.__get__")))
    (c : PySem.W.takesIn K (.ref p) = some true) (d : PySem.W.recIn K p "property" = some (.ref f :: rest)) (e : K.lookup f = some ⟨oc, od, .func (PySem.W.fnOf x q (defArgs st) (defBody st) (defScope st) .none kV dc pm an cd ct), sl⟩) (g : PySem.W.codeIn K cd q = true) (i : PySem.W.keepIn K (.ref f) = true) : PropRaw K C x q st :=
  ⟨p, f, oc, od, an, kV, dc, pm, cd, ct, sl, a, b, c, ⟨rest, d⟩, e, g, i⟩
theorem PropRaw.at {C : Addr} {x q : Str} {st : Stmt} {ps : List Str} (R : PropRaw K C x q st)
    (hb : ∀ (kV doc pm : Value) (an : Option Addr) (cdv ct : Value) (us : List Value), us.length = ps.length → bindArgs (PySem.W.fnOf x q (defArgs st) (defBody st) (defScope st) .none kV doc pm an cdv ct) ⟨us, []⟩ = pure (ps.zip us)) :
    ∃ (p g : Addr) (fd : FuncData), Fun K x q st g fd ∧ Binds K fd ps [] ∧ PropOf K C x p g := by
  obtain ⟨p, f, oc, od, an, kV, dc, pm, cd, ct, sl, h1, h2, h3, h4, h5, h6, h7⟩ := R
  have F := fun_mk (st := st) h5 h6 h7
  exact ⟨p, f, _, F, F.binds hb, ⟨h1, h2, h3, h4⟩⟩
end
end Wnd

namespace Wnd
open PySem PySem.Spec PyProof.Rows L2
def top (i : Nat) : Stmt := PySem.Challenge.pw_windowsteps_k10_smaller_and_greater.main.body.getD i (.Pass ⟨0, 0, 0, 0⟩)
abbrev s_law_pen : Stmt := top 31
theorem sc_law_pen : FnScope ["_law_script"] ["_law_script"] (defScope s_law_pen) := ⟨rfl, rfl, rfl, by decide +kernel, rfl, by decide +kernel, by decide +kernel⟩
abbrev s_law_next : Stmt := top 32
theorem sc_law_next : FnScope ["_law_pen_here", "_law_index", "_law_cell", "_law_some_here", "_law_more", "_law_top"] ["_law_pen_here"] (defScope s_law_next) := ⟨rfl, rfl, rfl, by decide +kernel, rfl, by decide +kernel, by decide +kernel⟩
abbrev s_law_draw : Stmt := top 33
theorem sc_law_draw : FnScope ["_law_pen_here", "_law_under", "_law_digit"] ["_law_pen_here", "_law_under"] (defScope s_law_draw) := ⟨rfl, rfl, rfl, by decide +kernel, rfl, by decide +kernel, by decide +kernel⟩
structure Blt (mg : Str → Option Value) : Prop where
  len : mg "len" = none
  list : mg "list" = none
  range : mg "range" = none
  min : mg "min" = none
  max : mg "max" = none
  dict : mg "dict" = none
  sorted : mg "sorted" = none
section
variable {P : Program} {w : World} {K : PySem.W.Frag} {mg : Str → Option Value} {base : Heap}
theorem ok_pen {f : Addr} {fd : FuncData} (D : DefAt K mg "_law_pen" s_law_pen ["_law_script"] f fd) (B : Blt mg) : Ok P w K mg base 1 "_law_pen" ["_law_script"] (spPen K) := by
  refine D.ok (D.fn.ok sc_law_pen (fun vs H Q E h => ?_) (fun cdv A outer s H vs Q E hr h => ?_))
  · obtain ⟨a, ns, rfl, _⟩ := h
    rfl
  · obtain ⟨a, ns, rfl, hS, hlen, q⟩ := h
    refine ⟨_, (pss_one (ps_ret (pe_lst (pa_cons (pe_callTy call_list_of (by rfl) B.list (by decide +kernel) (pa_cons (pe_slice sl_list (pv 0) po_none (po_some pe_int)) pa_nil)) (pa_cons pe_int (pa_cons pe_int pa_nil)))))), ?_⟩
    refine ⟨_, rfl, 60, rfl, a, _, rfl, hS, fun c1 n1 => ?_⟩
    have s1 : Same H _ := same_new (o := .lst (cutV (ns.map V.int) none (some 60))) n1
    refine ⟨c1, _, rfl, .inl (SqL.of upd_same), fun c n2 => ?_⟩
    have s2 := s1.trans (same_new (o := .lst (cutV (ns.map V.int) none (some 60))) n2)
    refine ⟨by show 3 ≤ sizeLine; decide, fun p n3 => ?_⟩
    have s3 := s2.trans (same_new (o := .lst [.ref c, .int 0, .int 0]) n3)
    have ncp : c ≠ p := fun e => by
      rw [e, upd_same] at n3
      cases n3
    refine q p c _ s3 (s2.free n3) (s1.free n2) ⟨ns.take 60, 0, 0, ?_, Nat.le_refl _, ?_, upd_same⟩
    · rw [List.length_take]
      omega
    · rw [upd_ne ncp, upd_same]
      congr 2
      rw [List.map_take]
      unfold cutV
      rw [HT.sIx_none, show HT.sIx (ns.map V.int).length (ns.map V.int).length (some 60) = min 60 (ns.map V.int).length from HT.sIx_nat _ _ 60, List.drop_zero, Nat.sub_zero]
      by_cases hl : (ns.map V.int).length ≤ 60
      · rw [Nat.min_eq_right hl, List.take_length, List.take_of_length_le hl]
      · rw [Nat.min_eq_left (by omega)]
theorem dp_ints {H : Hp} : ∀ cs : List Int, DpAll K H (cs.map V.int) (cs.map PyData.int)
  | [] => .nil
  | c :: r => .cons (.int c) (dp_ints r)
theorem lay_ints : ∀ cs : List Int, PyData.canLayAll0 (cs.map PyData.int) = true ∧ PyData.depthAll (cs.map PyData.int) = 0
  | [] => ⟨by simp [PyData.canLayAll0], by simp [PyData.depthAll]⟩
  | c :: r => by
    obtain ⟨h1, h2⟩ := lay_ints r
    refine ⟨?_, ?_⟩
    · simp [PyData.canLayAll0, PyData.canLay0, h1]
    · simp [PyData.depthAll, PyData.depth, h2]
theorem shaped_ints (cs : List Int) : SeqAt.shaped (.list (cs.map PyData.int)) = true := by
  obtain ⟨h1, h2⟩ := lay_ints cs
  simp [SeqAt.shaped, PyData.canLay0, h1, PyData.depth, h2]
theorem mod_sm {a m : Int} (h0 : 0 < m) (h : m < 2 ^ 64) : -(2 ^ 64) < a % m ∧ a % m < 2 ^ 64 := by
  have h1 := Int.emod_nonneg a (show m ≠ 0 by omega)
  have h2 := Int.emod_lt_of_pos a h0
  omega
theorem ok_next {f : Addr} {fd : FuncData} (D : DefAt K mg "_law_next" s_law_next ["_law_pen_here"] f fd) (B : Blt mg) : Ok P w K mg base 1 "_law_next" ["_law_pen_here"] spNext := by
  refine D.ok (D.fn.ok sc_law_next (fun vs H Q E h => ?_) (fun cdv A outer s H vs Q E hr h => ?_))
  · obtain ⟨p, c, n, rfl, _⟩ := h
    rfl
  · obtain ⟨p, c, n, rfl, hP, hn, q⟩ := h
    have ncp := hP.ne
    obtain ⟨cs, i, z, hcs, hi, hc, hp⟩ := hP
    have nd := sc_law_next.nd
    refine ⟨_, (pss_cons (ps_set (i := 1) nd rfl (Or.inl rfl) (pe_ix ix_list (pv 0) pe_int (fun _ _ => rfl)))
      (pss_cons (ps_asg (pe_op op_add (pv 1) pe_int) (pg_sub (pv 0) pe_int set_list))
      (pss_cons (ps_set (i := 2) nd rfl (Or.inl rfl) (pe_op op_add (pe_op op_mul (pv 1) pe_int) pe_int))
      (C8.pss_cut (ps_if (pt_cmpR (op_neD (hu_of64 hr)) (pe_ix ix_list (pv 0) pe_int (fun _ _ => rfl)) (pe_lst pa_nil) (nomark _)) (pss_one (ps_set (i := 2) nd rfl (Or.inl rfl) (pe_ix ix_list (pe_ix ix_list (pv 0) pe_int (fun _ _ => rfl)) (pe_op op_mod (pv 1) (pe_callB call_len_seq (by rfl) B.len PySem.boot_len (pa_cons (pe_ix ix_list (pv 0) pe_int (fun _ _ => rfl)) pa_nil))) (fun _ _ => rfl)))) pss_nil)
      (C8.pss_cut (ps_if (PW.pt (pw_and (pt_cmpR op_lt (pv 1) (pe_callB call_len_seq (by rfl) B.len PySem.boot_len (pa_cons (pe_ix ix_list (pv 0) pe_int (fun _ _ => rfl)) pa_nil)) (nomark _)) (pw_and1 (pt_cmpR op_ge (pv 2) (pe_op op_pow pe_int pe_int) (nomark _))))) (pss_one (ps_ret (pv 2))) pss_nil)
      (pss_cons (ps_set (i := 3) nd rfl (Or.inl rfl) (pe_op op_mod (pe_op op_add (pe_op op_add (pe_op op_mod (pv 2) pe_int) (pe_op op_mul (pv 1) pe_int)) pe_int) pe_int))
      (pss_cons (ps_set (i := 4) nd rfl (Or.inl rfl) (pe_op op_mod (pe_op op_add (pe_op op_add (pe_op op_mul (pv 3) (pv 3)) (pe_op op_mul (pv 1) pe_int)) pe_int) pe_int))
      (pss_cons (ps_set (i := 5) nd rfl (Or.inl rfl) (pe_op op_mod (pe_op op_add (pe_op op_add (pe_op op_mul (pv 4) (pv 4)) (pv 3)) (pe_op op_mul (pe_op op_mul (pv 1) (pv 1)) pe_int)) pe_int))
      (pss_one (ps_ret (pe_op op_add (pe_op op_mul (pe_op op_add (pe_op op_mul (pv 5) pe_int) (pv 4)) pe_int) (pv 3)))))))))))), ?_⟩
    -- index
    refine ⟨_, rfl, p, _, 1, _, rfl, rfl, SqL.of hp, rfl, ?_⟩
    -- pen[1] = index + 1
    refine ⟨_, rfl, i, 1, rfl, rfl, _, rfl, p, _, 1, 1, rfl, rfl, hp, rfl, ?_⟩
    -- cell = index * 1061 + 37
    refine ⟨_, rfl, i, 1061, rfl, rfl, .inr ⟨by decide, by decide⟩, _, 37, rfl, rfl, ?_⟩
    have hp1 : (upd H p (.lst [.ref c, .int (i + 1), .int z])) p = some (.lst [.ref c, .int (i + 1), .int z]) := upd_same
    have hc1 : (upd H p (.lst [.ref c, .int (i + 1), .int z])) c = some (.lst (cs.map V.int)) := by
      rw [upd_ne ncp]
      exact hc
    have b1 : But p H (upd H p (.lst [.ref c, .int (i + 1), .int z])) := But.upd
    generalize hH1 : upd H p (.lst [.ref c, .int (i + 1), .int z]) = H1 at hp1 hc1 b1
    -- if pen[0] != []
    refine ⟨fun σ H2 => ∃ cell : Int, σ = [some (.ref p), some (.int i), some (.int cell), none, none, none] ∧ Same H1 H2, ?_, ?_⟩
    · rw [← hH1] at hp1 hc1 ⊢
      refine ⟨_, rfl, p, _, 0, _, rfl, rfl, SqL.of hp1, rfl, Nat.zero_le _, fun t nt => ?_⟩
      have s1 := same_new (o := .lst []) nt
      have hp2 := s1 _ _ hp1
      have hc2 := s1 _ _ hc1
      refine ⟨_, _, .lst (SqL.of hc2) (dp_ints cs), .lst (SqL.of upd_same) (dp_ints []), shaped_ints cs, shaped_ints [], _, rfl, ?_⟩
      cases cs with
      | nil =>
        refine iteF ?_
        exact ⟨_, rfl, s1⟩
      | cons x r =>
        refine iteT ?_
        refine ⟨_, rfl, p, _, 0, _, rfl, rfl, SqL.of hp2, rfl, _, rfl, _, rfl, p, _, 0, _, rfl, rfl, SqL.of hp2, rfl, c, _, rfl, .inl (SqL.of hc2), _, _, rfl, rfl, ?_, ?_⟩
        · show (0 : Int) < (((x :: r).map V.int).length : Nat)
          rw [List.length_map, List.length_cons]
          omega
        · have hm0 : 0 ≤ (i : Int) % (((x :: r).map V.int).length : Nat) := Int.emod_nonneg _ (by rw [List.length_map, List.length_cons]; omega)
          have hm1 : (i : Int) % (((x :: r).map V.int).length : Nat) < (((x :: r).map V.int).length : Nat) := Int.emod_lt_of_pos _ (by rw [List.length_map, List.length_cons]; omega)
          generalize hj : (i : Int) % (((x :: r).map V.int).length : Nat) = j at hm0 hm1
          obtain ⟨k, rfl⟩ := Int.eq_ofNat_of_zero_le hm0
          have hk : k < (x :: r).length := by
            rw [List.length_map] at hm1
            omega
          refine ⟨c, _, k, .int (x :: r)[k], rfl, congrArg V.int hj, SqL.of hc2, atI_nat (by rw [List.getElem?_map, List.getElem?_eq_getElem hk]; rfl), ?_⟩
          exact ⟨_, rfl, s1⟩
    · rintro σ H2 ⟨cell, rfl, s2⟩
      have hp2 := s2 _ _ hp1
      have hc2 := s2 _ _ hc1
      have b2 : But p H H2 := b1.trans (But.of s2)
      have fin : ∀ r : Int, Q (.int r) H2 := fun r => q r H2 b2 ⟨cs, i + 1, z, hcs, by omega, hc2, hp2⟩
      -- if index < len(pen[0]) and cell >= 10 ** 18: return cell
      refine ⟨fun σ H3 => σ = [some (.ref p), some (.int i), some (.int cell), none, none, none] ∧ H3 = H2, ?_, ?_⟩
      · refine ⟨_, rfl, _, rfl, p, _, 0, _, rfl, rfl, SqL.of hp2, rfl, c, _, rfl, .inl (SqL.of hc2), _, _, rfl, rfl, _, rfl, ?_⟩
        refine ite2 (fun _ => ?_) (fun _ => ?_)
        · refine ⟨_, rfl, 10, 18, rfl, rfl, ⟨by decide, by decide, by decide⟩, _, _, rfl, rfl, _, rfl, ?_⟩
          refine ite2 (fun _ => ?_) (fun _ => ⟨rfl, rfl⟩)
          exact ⟨_, rfl, fin _⟩
        · exact iteF ⟨rfl, rfl⟩
      · rintro σ H3 ⟨rfl, rfl⟩
        refine ⟨_, rfl, cell, 2147483587, rfl, rfl, (by show (0 : Int) < 2147483587; decide), _, rfl, i, 50069, rfl, rfl, .inr ⟨by decide, by decide⟩, _, _, rfl, rfl, _, 61, rfl, rfl, _, 2147483587, rfl, rfl, (by show (0 : Int) < 2147483587; decide), ?_⟩
        refine ⟨_, rfl, _, rfl, _, _, rfl, rfl, .inl (mod_sm (by decide) (by decide)), _, rfl, i, 40013, rfl, rfl, .inr ⟨by decide, by decide⟩, _, _, rfl, rfl, _, 43, rfl, rfl, _, 2147483563, rfl, rfl, (by show (0 : Int) < 2147483563; decide), ?_⟩
        refine ⟨_, rfl, _, rfl, _, _, rfl, rfl, .inl (mod_sm (by decide) (by decide)), _, rfl, _, _, rfl, rfl, _, rfl, _, rfl, i, i, rfl, rfl, .inl ⟨by omega, by omega⟩, _, 19, rfl, rfl, .inr ⟨by decide, by decide⟩, _, _, rfl, rfl, _, 2147483549, rfl, rfl, (by show (0 : Int) < 2147483549; decide), ?_⟩
        refine ⟨_, rfl, _, 2147483587, rfl, rfl, .inr ⟨by decide, by decide⟩, _, rfl, _, _, rfl, rfl, _, 2147483563, rfl, rfl, .inr ⟨by decide, by decide⟩, _, rfl, _, _, rfl, rfl, ?_⟩
        exact fin _
theorem ok_draw {f : Addr} {fd : FuncData} (D : DefAt K mg "_law_draw" s_law_draw ["_law_pen_here", "_law_under"] f fd) (O_law_next : Ok P w K mg base 1 "_law_next" ["_law_pen_here"] spNext) : Ok P w K mg base 2 "_law_draw" ["_law_pen_here", "_law_under"] spDraw := by
  refine D.ok (D.fn.ok sc_law_draw (fun vs H Q E h => ?_) (fun cdv A outer s H vs Q E hr h => ?_))
  · obtain ⟨p, c, n, u, rfl, _⟩ := h
    rfl
  · obtain ⟨p, c, n, u, rfl, hP, hn, hu0, hu1, q⟩ := h
    have ncp := hP.ne
    have nd := sc_law_draw.nd
    refine ⟨_, (C8.pss_cut (ps_if (pt_cmpR op_lt (pe_ix ix_list (pv 0) pe_int (fun _ _ => rfl)) (pv 1) (nomark _)) (pss_one (ps_asg (pe_own O_law_next (hr.mono (by decide)) (pa_cons (pv 0) pa_nil)) (pg_sub (pv 0) pe_int set_list))) pss_nil)
      (pss_cons (ps_set (i := 2) nd rfl (Or.inl rfl) (pe_op op_mod (pe_ix ix_list (pv 0) pe_int (fun _ _ => rfl)) (pv 1)))
      (pss_cons (ps_asg (pe_op op_fdiv (pe_ix ix_list (pv 0) pe_int (fun _ _ => rfl)) (pv 1)) (pg_sub (pv 0) pe_int set_list))
      (pss_one (ps_ret (pv 2)))))), ?_⟩
    refine ⟨fun σ H2 => σ = [some (.ref p), some (.int u), none] ∧ But p H H2 ∧ PenAt H2 p c (n + 1), ?_, ?_⟩
    · have hP' := hP
      obtain ⟨cs, i, z, hcs, hi, hc, hp⟩ := hP
      refine ⟨_, rfl, p, _, 2, _, rfl, rfl, SqL.of hp, rfl, _, rfl, _, _, rfl, rfl, _, rfl, ?_⟩
      refine ite2 (fun _ => ?_) (fun _ => ⟨rfl, But.refl _ _, hP'.le (Nat.le_succ _)⟩)
      refine ⟨_, rfl, p, c, n, rfl, hP', hn, fun r H2 b2 hP2 => ?_⟩
      obtain ⟨cs, i, z, hcs, hi, hc, hp⟩ := hP2
      refine ⟨_, rfl, p, _, 2, 2, rfl, rfl, hp, rfl, ?_⟩
      refine ⟨rfl, b2.trans But.upd, cs, i, r, hcs, hi, ?_, upd_same⟩
      rw [upd_ne ncp]
      exact hc
    · rintro σ H2 ⟨rfl, b2, cs, i, z, hcs, hi, hc, hp⟩
      refine ⟨_, rfl, p, _, 2, _, rfl, rfl, SqL.of hp, rfl, _, rfl, z, u, rfl, rfl, hu0, ?_⟩
      refine ⟨_, rfl, p, _, 2, _, rfl, rfl, SqL.of hp, rfl, _, rfl, z, u, rfl, rfl, ⟨hu0, by omega⟩, _, rfl, p, _, 2, 2, rfl, rfl, hp, rfl, ?_⟩
      refine ⟨_, rfl, q _ _ (Int.emod_nonneg _ (by omega)) (Int.emod_lt_of_pos _ hu0) (b2.trans But.upd) ⟨cs, i, z / u, hcs, hi, ?_, upd_same⟩⟩
      rw [upd_ne ncp]
      exact hc
end
end Wnd

namespace Wnd
open PySem PySem.Spec PyProof.Rows L2
abbrev s_is_integer : Stmt := top 7
theorem sc_is_integer : FnScope ["thing"] ["thing"] (defScope s_is_integer) := ⟨rfl, rfl, rfl, by decide +kernel, rfl, by decide +kernel, by decide +kernel⟩
abbrev s_is_integer_within : Stmt := top 8
theorem sc_is_integer_within : FnScope ["thing", "least", "greatest"] ["thing", "least", "greatest"] (defScope s_is_integer_within) := ⟨rfl, rfl, rfl, by decide +kernel, rfl, by decide +kernel, by decide +kernel⟩
abbrev s_is_name : Stmt := top 9
theorem sc_is_name : FnScope ["thing", "letter"] ["thing"] (defScope s_is_name) := ⟨rfl, rfl, rfl, by decide +kernel, rfl, by decide +kernel, by decide +kernel⟩
abbrev s_System___init : Stmt := inClass (top 24) 0
theorem sc_System___init : FnScope ["self", "names", "rules"] ["self", "names", "rules"] (defScope s_System___init) := ⟨rfl, rfl, rfl, by decide +kernel, rfl, by decide +kernel, by decide +kernel⟩
abbrev s_System_names : Stmt := inClass (top 24) 1
theorem sc_System_names : FnScope ["self"] ["self"] (defScope s_System_names) := ⟨rfl, rfl, rfl, by decide +kernel, rfl, by decide +kernel, by decide +kernel⟩
abbrev s_System_rules : Stmt := inClass (top 24) 2
theorem sc_System_rules : FnScope ["self"] ["self"] (defScope s_System_rules) := ⟨rfl, rfl, rfl, by decide +kernel, rfl, by decide +kernel, by decide +kernel⟩
abbrev s_System___eq : Stmt := inClass (top 24) 7
theorem sc_System___eq : FnScope ["self", "other"] ["self", "other"] (defScope s_System___eq) := ⟨rfl, rfl, rfl, by decide +kernel, rfl, by decide +kernel, by decide +kernel⟩
abbrev s_System_is_rule : Stmt := inClass (top 24) 8
theorem sc_System_is_rule : FnScope ["thing", "low", "high", "gap"] ["thing"] (defScope s_System_is_rule) := ⟨rfl, rfl, rfl, by decide +kernel, rfl, by decide +kernel, by decide +kernel⟩
abbrev s_is_end : Stmt := top 25
theorem sc_is_end : FnScope ["thing"] ["thing"] (defScope s_is_end) := ⟨rfl, rfl, rfl, by decide +kernel, rfl, by decide +kernel, by decide +kernel⟩
abbrev s_are_different_names : Stmt := top 26
theorem sc_are_different_names : FnScope ["things", "thing"] ["things"] (defScope s_are_different_names) := ⟨rfl, rfl, rfl, by decide +kernel, rfl, by decide +kernel, by decide +kernel⟩
abbrev s_are_rules_between : Stmt := top 27
theorem sc_are_rules_between : FnScope ["things", "names", "ends", "low", "high", "_", "thing"] ["things", "names"] (defScope s_are_rules_between) := ⟨rfl, rfl, rfl, by decide +kernel, rfl, by decide +kernel, by decide +kernel⟩
abbrev s_ascending : Stmt := top 28
theorem sc_ascending : FnScope ["rules", "different", "rule"] ["rules"] (defScope s_ascending) := ⟨rfl, rfl, rfl, by decide +kernel, rfl, by decide +kernel, by decide +kernel⟩
abbrev s_rank : Stmt := top 29
theorem sc_rank : FnScope ["rule", "low", "high", "gap"] ["rule"] (defScope s_rank) := ⟨rfl, rfl, rfl, by decide +kernel, rfl, by decide +kernel, by decide +kernel⟩
structure Blt2 (mg : Str → Option Value) : Prop extends Blt mg where
  isinstance : mg "isinstance" = none
  int : mg "int" = none
  bool : mg "bool" = none
  str : mg "str" = none
  tuple : mg "tuple" = none
  all : mg "all" = none
  set : mg "set" = none
section
variable {P : Program} {w : World} {K : PySem.W.Frag} {mg : Str → Option Value} {base : Heap}
/-! ### kinds -/
/-- is x an integer -/
def IntQ (K : PySem.W.Frag) (H : Hp) (x : V) (b : Bool) : Prop := (∃ i, x = .int i ∧ b = true) ∨ (∃ k, x = .bl k ∧ b = false) ∨ (∃ t, TyX K H x t ∧ PySem.W.kitOne K t (.type "int") = some false ∧ b = false)
def spIsInt (K : PySem.W.Frag) : Sp := fun vs H Q _ => ∃ x b, vs = [x] ∧ IntQ K H x b ∧ Q (.bl b) H
theorem ok_is_integer {f : Addr} {fd : FuncData} (D : DefAt K mg "is_integer" s_is_integer ["thing"] f fd) (B : Blt2 mg) : Ok P w K mg base 1 "is_integer" ["thing"] (spIsInt K) := by
  refine D.ok (D.fn.ok sc_is_integer (fun vs H Q E h => ?_) (fun cdv A outer s H vs Q E hr h => ?_))
  · obtain ⟨x, b, rfl, _⟩ := h
    rfl
  · obtain ⟨x, b, rfl, hx, q⟩ := h
    refine ⟨_, (pss_one (ps_ret (pe_and (pe_callB call_isi (by rfl) B.isinstance (by decide +kernel) (pa_cons (pv 0) (pa_cons (pe_bltn (v := .ty "int") (by rfl) B.int (by decide +kernel) rfl) pa_nil))) (pe_one (pe_not (pe_callB call_isi (by rfl) B.isinstance (by decide +kernel) (pa_cons (pv 0) (pa_cons (pe_bltn (v := .ty "bool") (by rfl) B.bool (by decide +kernel) rfl) pa_nil)))))))), ?_⟩
    rcases hx with ⟨i, rfl, rfl⟩ | ⟨k, rfl, rfl⟩ | ⟨t, ty, kt, rfl⟩
    · refine ⟨_, rfl, _, _, _, _, true, rfl, .ty _, .base (.int i), kit_ty (by decide +kernel), true, rfl, ?_⟩
      refine ⟨_, rfl, _, _, _, _, false, rfl, .ty _, .base (.int i), kit_ty (by decide +kernel), false, rfl, ?_⟩
      exact q
    · refine ⟨_, rfl, _, _, _, _, true, rfl, .ty _, .base (.bl k), kit_ty (by decide +kernel), true, rfl, ?_⟩
      refine ⟨_, rfl, _, _, _, _, true, rfl, .ty _, .base (.bl k), kit_ty (by decide +kernel), true, rfl, ?_⟩
      exact q
    · refine ⟨_, rfl, _, _, _, _, false, rfl, .ty _, ty, kt, false, rfl, ?_⟩
      exact q
/-- is x an integer from lo to hi -/
def InQ (K : PySem.W.Frag) (H : Hp) (x : V) (lo hi : Int) (b : Bool) : Prop := (∃ i, x = .int i ∧ b = (decide (lo ≤ i) && decide (i ≤ hi))) ∨ (IntQ K H x false ∧ b = false)
def spIsIn (K : PySem.W.Frag) : Sp := fun vs H Q _ => ∃ x lo hi b, vs = [x, .int lo, .int hi] ∧ InQ K H x lo hi b ∧ Q (.bl b) H
theorem ok_is_integer_within {f : Addr} {fd : FuncData} (D : DefAt K mg "is_integer_within" s_is_integer_within ["thing", "least", "greatest"] f fd) (B : Blt2 mg) (O_is_integer : Ok P w K mg base 1 "is_integer" ["thing"] (spIsInt K)) :
    Ok P w K mg base 2 "is_integer_within" ["thing", "least", "greatest"] (spIsIn K) := by
  refine D.ok (D.fn.ok sc_is_integer_within (fun vs H Q E h => ?_) (fun cdv A outer s H vs Q E hr h => ?_))
  · obtain ⟨x, lo, hi, b, rfl, _⟩ := h
    rfl
  · obtain ⟨x, lo, hi, b, rfl, hx, q⟩ := h
    refine ⟨_, (pss_one (ps_ret (pe_and (pe_own O_is_integer (hr.mono (by decide)) (pa_cons (pv 0) pa_nil)) (pe_one (pe_chain op_le op_le (pv 1) (pv 0) (pv 2)))))), ?_⟩
    rcases hx with ⟨i, rfl, rfl⟩ | ⟨hn, rfl⟩
    · refine ⟨_, rfl, _, true, rfl, .inl ⟨i, rfl, rfl⟩, true, rfl, ?_⟩
      refine ⟨_, rfl, _, rfl, lo, i, rfl, rfl, _, rfl, ?_⟩
      refine ite2 (fun e => ?_) (fun e => ?_)
      · refine ⟨_, rfl, i, hi, rfl, rfl, ?_⟩
        rw [e, Bool.true_and] at q
        exact q
      · rw [Bool.not_eq_true] at e
        rw [e, Bool.false_and] at q
        exact q
    · exact ⟨_, rfl, x, false, rfl, hn, false, rfl, q⟩

/-! ### names -/
def letterOk (c : Nat) : Bool := !decide ([c] < [97]) && !decide ([122] < [c])
def nameB (t : Str) : Bool := decide ((1 : Int) ≤ t.length) && decide ((t.length : Int) ≤ 8) && t.cps.toList.all letterOk
def NamQ (K : PySem.W.Frag) (H : Hp) (x : V) (b : Bool) : Prop := (∃ t : Str, x = .str t ∧ t.length ≤ sizeLine ∧ b = nameB t) ∨ (∃ t, TyX K H x t ∧ PySem.W.kitOne K t (.type "str") = some false ∧ b = false)
def spIsName (K : PySem.W.Frag) : Sp := fun vs H Q _ => ∃ x b, vs = [x] ∧ NamQ K H x b ∧ ∀ H', Same H H' → Q (.bl b) H'
theorem ok_is_name {f : Addr} {fd : FuncData} (D : DefAt K mg "is_name" s_is_name ["thing"] f fd) (B : Blt2 mg) (C_LONGEST_NAME : ∃ t, mg "LONGEST_NAME" = some (.int 8 t)) : Ok P w K mg base 1 "is_name" ["thing"] (spIsName K) := by
  obtain ⟨lt, C_LONGEST_NAME⟩ := C_LONGEST_NAME
  refine D.ok (D.fn.ok sc_is_name (fun vs H Q E h => ?_) (fun cdv A outer s H vs Q E hr h => ?_))
  · obtain ⟨x, b, rfl, _⟩ := h
    rfl
  · obtain ⟨x, b, rfl, hx, q⟩ := h
    have nd := sc_is_name.nd
    refine ⟨_, (pss_cons (ps_if (PW.pt (pw_or (pt_not (pt_val (pe_callB call_isi (by rfl) B.isinstance (by decide +kernel) (pa_cons (pv 0) (pa_cons (pe_bltn (v := .ty "str") (by rfl) B.str (by decide +kernel) rfl) pa_nil))))) (pw_or1 (pt_not (pt_chain op_le op_le pe_int (pe_callB call_len_str (by rfl) B.len PySem.boot_len (pa_cons (pv 0) pa_nil)) (pe_glob (v := .int 8) rfl C_LONGEST_NAME ⟨_, rfl⟩)))))) (pss_one (ps_ret pe_bl)) pss_nil)
      (pss_one (ps_ret (pe_callB (cr_all rfl) (by rfl) B.all (by decide +kernel) (pa_cons (pe_lc (own := [("letter", 1)]) (g := gName 1) (tt := tYes) (by rfl) nd (pi_str (pv 0)) (blkOk_by (own := [("letter", 1)]) (N := ["thing", "letter"]) (sc := defScope s_is_name) (by decide +kernel)) (fun _ _ _ _ _ => (pg_name (i := 1) nd rfl (Or.inl rfl))) (fun _ _ _ _ _ => pts_nil) (fun _ _ _ _ _ => (pe_chain op_le_str op_le_str pe_str (pv 1) pe_str))) pa_nil))))), ?_⟩
    rcases hx with ⟨t, rfl, hz, rfl⟩ | ⟨ty, hty, kt, rfl⟩
    · refine ⟨_, rfl, _, _, _, _, true, rfl, .ty _, .base (.str t), kit_ty (by decide +kernel), true, rfl, ?_⟩
      refine ⟨_, rfl, t, rfl, hz, 1, t.length, rfl, rfl, _, rfl, ?_⟩
      refine ite2 (fun e1 => ?_) (fun e1 => ?_)
      · refine ⟨t.length, 8, rfl, rfl, _, rfl, ?_⟩
        refine ite2 (fun e2 => ?_) (fun e2 => ?_)
        · rw [Bool.not_eq_true'] at e2
          have : nameB t = false := by unfold nameB; rw [e2]; simp
          rw [this] at q
          exact q _ (Same.refl _)
        · rw [Bool.not_eq_true, Bool.not_eq_false'] at e2
          refine ⟨_, rfl, t, rfl, fun D hD => ?_⟩
          refine lc_map walk_str hD (t.cps.toList.map fun c => V.bl (letterOk c)) (by rw [List.length_map, Array.length_toList]) (by
            have h8 := of_decide_eq_true e2
            have : t.length = t.cps.size := rfl
            have : sizeLine > 8 := by decide
            omega) (fun _ _ => True.intro) ?_ ?_
          · rintro i x H2 H' hi R L s1 ⟨rfl, c, hc, rfl⟩ hR
            have hR := hR _ (Same.refl _)
            have ec : (t.cps.toList.map fun c => V.bl (letterOk c))[i] = V.bl (letterOk c) := by
              rw [List.getElem_map]
              have h2 : t.cps.toList[i]? = some c := by rw [← hc]; simp
              obtain ⟨h3, h4⟩ := List.getElem?_eq_some_iff.mp h2
              rw [h4]
            rw [ec] at hR
            refine ⟨rfl, ?_⟩
            refine iteT (B := L H') ?_
            refine ⟨_, rfl, ?_⟩
            refine ⟨_, _, rfl, rfl, _, rfl, ?_⟩
            refine ite2 (fun e3 => ?_) (fun e3 => ?_)
            · refine ⟨_, _, rfl, rfl, ?_⟩
              unfold letterOk at hR
              rw [show (!decide ([c] < [97])) = true from e3, Bool.true_and] at hR
              exact hR
            · rw [Bool.not_eq_true] at e3
              unfold letterOk at hR
              rw [show (!decide ([c] < [97])) = false from e3, Bool.false_and] at hR
              exact hR
          · intro H2 s2 h2
            refine ⟨D, t.cps.toList.map letterOk, rfl, SqL.of (by rw [List.map_map]; exact h2), ?_⟩
            have e : nameB t = (t.cps.toList.map letterOk).all id := by
              unfold nameB
              rw [show decide ((1 : Int) ≤ t.length) = true from e1, show decide ((t.length : Int) ≤ 8) = true from e2, List.all_map]
              rfl
            rw [e] at q
            exact q _ s2
      · rw [Bool.not_eq_true] at e1
        have : nameB t = false := by unfold nameB; rw [e1]; simp
        rw [this] at q
        exact ⟨_, rfl, q _ (Same.refl _)⟩
    · refine ⟨_, rfl, _, _, _, _, false, rfl, .ty _, hty, kt, false, rfl, ?_⟩
      exact q _ (Same.refl _)

/-- is x an end of a rule -/
def EndQ (K : PySem.W.Frag) (H : Hp) (x : V) (b : Bool) : Prop := (x = .non ∧ b = true) ∨ (x ≠ .non ∧ NamQ K H x b)
def spIsEnd (K : PySem.W.Frag) : Sp := fun vs H Q _ => ∃ x b, vs = [x] ∧ EndQ K H x b ∧ ∀ H', Same H H' → Q (.bl b) H'
theorem ok_is_end {f : Addr} {fd : FuncData} (D : DefAt K mg "_is_end" s_is_end ["thing"] f fd) (O_is_name : Ok P w K mg base 1 "is_name" ["thing"] (spIsName K)) : Ok P w K mg base 2 "_is_end" ["thing"] (spIsEnd K) := by
  refine D.ok (D.fn.ok sc_is_end (fun vs H Q E h => ?_) (fun cdv A outer s H vs Q E hr h => ?_))
  · obtain ⟨x, b, rfl, _⟩ := h
    rfl
  · obtain ⟨x, b, rfl, hx, q⟩ := h
    refine ⟨_, (pss_one (ps_ret (pe_or (pe_cmpR op_isN (pv 0) pe_non (nomark _)) (pe_one (pe_own O_is_name (hr.mono (by decide)) (pa_cons (pv 0) pa_nil)))))), ?_⟩
    rcases hx with ⟨rfl, rfl⟩ | ⟨hn, hx⟩
    · exact ⟨_, rfl, rfl, _, rfl, q _ (Same.refl _)⟩
    · refine ⟨_, rfl, rfl, _, rfl, ?_⟩
      rw [if_neg (by rw [decide_eq_false hn]; exact Bool.false_ne_true)]
      exact ⟨_, rfl, x, b, rfl, hx, q⟩
/-- is x a rule between any names -/
def RulQ (K : PySem.W.Frag) (H : Hp) (x : V) (b : Bool) : Prop := (∃ t, TyX K H x t ∧ PySem.W.kitOne K t (.type "tuple") = some false ∧ b = false) ∨
  (∃ q xs, x = .ref q ∧ H q = some (.tup xs) ∧ xs.length ≠ 3 ∧ b = false) ∨
  (∃ q l h g bl bh bg, x = .ref q ∧ H q = some (.tup [l, h, g]) ∧ (∀ H', Same H H' → EndQ K H' l bl ∧ EndQ K H' h bh ∧ InQ K H' g (-999) 999 bg) ∧ b = (bl && bh && !decide (l = h) && bg))
def spIsRule (K : PySem.W.Frag) : Sp := fun vs H Q _ => ∃ x b, vs = [x] ∧ RulQ K H x b ∧ ∀ H', Same H H' → Q (.bl b) H'
theorem ends_scal {H : Hp} {l h : V} (a : EndQ K H l true) (b : EndQ K H h true) : scal l h = true := by
  rcases a with ⟨rfl, _⟩ | ⟨_, ⟨t, rfl, _⟩ | ⟨_, _, _, e⟩⟩
  · rcases b with ⟨rfl, _⟩ | ⟨_, ⟨t, rfl, _⟩ | ⟨_, _, _, e⟩⟩
    · rfl
    · rfl
    · cases e
  · rcases b with ⟨rfl, _⟩ | ⟨_, ⟨t, rfl, _⟩ | ⟨_, _, _, e⟩⟩
    · rfl
    · rfl
    · cases e
  · cases e
theorem ok_is_rule {qn : Str} {f : Addr} {fd : FuncData} (F : Fun K "is_rule" qn s_System_is_rule f fd) (B : Blt2 mg) (C_GREATEST_GAP : ∃ t, mg "GREATEST_GAP" = some (.int 999 t)) (O_is_end : Ok P w K mg base 2 "_is_end" ["thing"] (spIsEnd K))
    (O_is_integer_within : Ok P w K mg base 2 "is_integer_within" ["thing", "least", "greatest"] (spIsIn K)) : FnOk P w K mg base CX0 3 f fd ["thing"] (spIsRule K) := by
  obtain ⟨lt, C_GREATEST_GAP⟩ := C_GREATEST_GAP
  refine F.ok sc_System_is_rule (fun vs H Q E h => ?_) (fun cdv A outer s H vs Q E hr h => ?_)
  · obtain ⟨x, b, rfl, _⟩ := h
    rfl
  · obtain ⟨x, b, rfl, hx, q⟩ := h
    have nd := sc_System_is_rule.nd
    refine ⟨_, (pss_cons (ps_if (PW.pt (pw_or (pt_not (pt_val (pe_callB call_isi (by rfl) B.isinstance (by decide +kernel) (pa_cons (pv 0) (pa_cons (pe_bltn (v := .ty "tuple") (by rfl) B.tuple (by decide +kernel) rfl) pa_nil))))) (pw_or1 (pt_cmpR op_ne (pe_callB call_len_seq (by rfl) B.len PySem.boot_len (pa_cons (pv 0) pa_nil)) pe_int (nomark _))))) (pss_one (ps_ret pe_bl)) pss_nil)
      (pss_cons (ps_asg (pv 0) (pg_tup rfl (pgs_cons (pg_name (i := 1) nd rfl (Or.inl rfl)) (pgs_cons (pg_name (i := 2) nd rfl (Or.inl rfl)) (pgs_cons (pg_name (i := 3) nd rfl (Or.inl rfl)) pgs_nil)))))
      (pss_cons (ps_if (PW.pt (pw_or (pt_not (pt_val (pe_own O_is_end (hr.mono (by decide)) (pa_cons (pv 1) pa_nil)))) (pw_or (pt_not (pt_val (pe_own O_is_end (hr.mono (by decide)) (pa_cons (pv 2) pa_nil)))) (pw_or1 (pt_cmpR op_eq (pv 1) (pv 2) (nomark _)))))) (pss_one (ps_ret pe_bl)) pss_nil)
      (pss_one (ps_ret (pe_own O_is_integer_within (hr.mono (by decide)) (pa_cons (pv 3) (pa_cons (pe_un un_neg (pe_glob (v := .int 999) rfl C_GREATEST_GAP ⟨_, rfl⟩)) (pa_cons (pe_glob (v := .int 999) rfl C_GREATEST_GAP ⟨_, rfl⟩) pa_nil))))))))), ?_⟩
    rcases hx with ⟨ty, hty, kt, rfl⟩ | ⟨t, xs, rfl, ht, hl, rfl⟩ | ⟨t, l, h, g, bl, bh, bg, rfl, ht, hq, rfl⟩
    · refine ⟨_, rfl, _, _, _, _, false, rfl, .ty _, hty, kt, false, rfl, ?_⟩
      exact q _ (Same.refl _)
    · refine ⟨_, rfl, _, _, _, _, true, rfl, .ty _, .base (.tup ht), kit_ty (by decide +kernel), true, rfl, ?_⟩
      refine ⟨_, rfl, t, xs, rfl, .inr (SqT.of ht), rfl, _, rfl, ?_⟩
      have e : (!decide (V.int (xs.length : Nat) = V.int 3)) = true := by
        rw [Bool.not_eq_true', decide_eq_false_iff_not]
        intro z
        injection z with z
        omega
      refine ite2 (fun _ => q _ (Same.refl _)) (fun n => (n e).elim)
    · refine ⟨_, rfl, _, _, _, _, true, rfl, .ty _, .base (.tup ht), kit_ty (by decide +kernel), true, rfl, ?_⟩
      refine ⟨_, rfl, t, _, rfl, .inr (SqT.of ht), rfl, _, rfl, ?_⟩
      refine ite2 (fun z => by
        rw [Bool.not_eq_true', decide_eq_false_iff_not] at z
        exact (z rfl).elim) (fun _ => ?_)
      refine ⟨_, rfl, t, _, rfl, SqT.of ht, rfl, l, _, rfl, h, _, rfl, g, _, rfl, rfl, ?_⟩
      refine ⟨_, rfl, l, bl, rfl, (hq H (Same.refl _)).1, fun H1 s1 => ⟨_, rfl, ?_⟩⟩
      cases bl with
      | false => exact q _ s1
      | true =>
        refine ⟨_, rfl, h, bh, rfl, (hq H1 s1).2.1, fun H2 s2 => ⟨_, rfl, ?_⟩⟩
        have s12 := s1.trans s2
        cases bh with
        | false => exact q _ s12
        | true =>
          refine ⟨_, rfl, _, rfl, ends_scal (hq H2 s12).1 (hq H2 s12).2.1, _, rfl, ?_⟩
          cases e : decide (l = h) with
          | true =>
            rw [e] at q
            exact q _ s12
          | false =>
            rw [e] at q
            refine ⟨_, rfl, _, rfl, g, -999, 999, bg, rfl, (hq H2 s12).2.2, ?_⟩
            exact q _ s12

/-! ### lists of names -/
def DiffQ (K : PySem.W.Frag) (H : Hp) (x : V) (b : Bool) : Prop := (∃ t, TyX K H x t ∧ PySem.W.kitOne K t (.type "list") = some false ∧ b = false) ∨
  (∃ (a : Addr) (xs : List V) (bs : List Bool), x = .ref a ∧ TyX K H x (.type "list") ∧ SqL K H a xs ∧ xs.length < 1000 ∧ bs.length = xs.length ∧ (∀ (i : Nat) (y : V) (c : Bool), xs[i]? = some y → bs[i]? = some c → ∀ H', Same H H' → NamQ K H' y c) ∧
    ((bs.all id = false ∧ b = false) ∨ (∃ ts : List Str, xs = ts.map V.str ∧ bs.all id = true ∧ ts.Nodup ∧ b = true)))
def spDiff (K : PySem.W.Frag) : Sp := fun vs H Q _ => ∃ x b, vs = [x] ∧ DiffQ K H x b ∧ ∀ H', Same H H' → Q (.bl b) H'
theorem get_map {α β : Type} {f : α → β} {xs : List α} {i : Nat} {y : β} (h : (xs.map f)[i]? = some y) : ∃ x, xs[i]? = some x ∧ y = f x := by
  rw [List.getElem?_map] at h
  cases e : xs[i]? with
  | none => rw [e] at h; cases h
  | some x => rw [e] at h; cases h; exact ⟨x, rfl, rfl⟩
theorem get_bl {bs : List Bool} {i : Nat} (hi : i < (bs.map V.bl).length) : ∃ c, bs[i]? = some c ∧ (bs.map V.bl)[i] = V.bl c := by
  have h : i < bs.length := by rwa [List.length_map] at hi
  exact ⟨bs[i], List.getElem?_eq_getElem h, by rw [List.getElem_map]⟩
theorem ok_diff {f : Addr} {fd : FuncData} (D : DefAt K mg "_are_different_names" s_are_different_names ["things"] f fd) (B : Blt2 mg) (O_is_name : Ok P w K mg base 1 "is_name" ["thing"] (spIsName K)) :
    Ok P w K mg base 2 "_are_different_names" ["things"] (spDiff K) := by
  refine D.ok (D.fn.ok sc_are_different_names (fun vs H Q E h => ?_) (fun cdv A outer s H vs Q E hr h => ?_))
  · obtain ⟨x, b, rfl, _⟩ := h
    rfl
  · obtain ⟨x, b, rfl, hx, q⟩ := h
    have nd := sc_are_different_names.nd
    refine ⟨_, (pss_cons (ps_if (PW.pt (pw_or (pt_not (pt_val (pe_callB call_isi (by rfl) B.isinstance (by decide +kernel) (pa_cons (pv 0) (pa_cons (pe_bltn (v := .ty "list") (by rfl) B.list (by decide +kernel) rfl) pa_nil))))) (pw_or1 (pt_not (pt_val (pe_callB (cr_all rfl) (by rfl) B.all (by decide +kernel) (pa_cons (pe_lc (own := [("thing", 1)]) (g := gName 1) (tt := tYes) (by rfl) nd (pi_list (pv 0)) (blkOk_by (own := [("thing", 1)]) (N := ["things", "thing"]) (sc := defScope s_are_different_names) (by decide +kernel)) (fun _ _ _ _ _ => (pg_name (i := 1) nd rfl (Or.inl rfl))) (fun _ _ _ _ _ => pts_nil) (fun _ _ _ _ _ => (pe_own O_is_name (hr.mono (by decide)) (pa_cons (pv 1) pa_nil)))) pa_nil))))))) (pss_one (ps_ret pe_bl)) pss_nil)
      (pss_one (ps_ret (pe_cmpR op_eq (pe_lenSetT rfl B.len B.set (pv 0)) (pe_callB call_len_seq (by rfl) B.len PySem.boot_len (pa_cons (pv 0) pa_nil)) (nomark _))))), ?_⟩
    rcases hx with ⟨ty, hty, kt, rfl⟩ | ⟨a, xs, bs, rfl, hty, hS, hz, hb, hn, hcase⟩
    · refine ⟨_, rfl, _, _, _, _, false, rfl, .ty _, hty, kt, false, rfl, ?_⟩
      exact q _ (Same.refl _)
    · refine ⟨_, rfl, _, _, _, _, true, rfl, .ty _, hty, kit_ty (by decide +kernel), true, rfl, ?_⟩
      refine ⟨_, rfl, a, rfl, ⟨_, hS⟩, fun D hD => ?_⟩
      refine lc_map walk_list hD (bs.map V.bl) (by rw [List.length_map, hb]) (by have : sizeLine > 1000 := by decide
                                                                                 omega) (fun H2 s2 => s2.seq hS) ?_ ?_
      · rintro i x H2 H' hi R L s1 ⟨rfl, hx⟩ hR
        refine ⟨rfl, ?_⟩
        refine iteT (B := L H') ?_
        obtain ⟨c, hc, ec⟩ := get_bl hi
        rw [ec] at hR
        exact ⟨_, rfl, x, c, rfl, hn i x c hx hc _ s1, fun H4 s4 => hR H4 s4⟩
      · intro H2 s2 h2
        refine ⟨D, bs, rfl, SqL.of h2, bs.all id, rfl, ?_⟩
        rcases hcase with ⟨e, rfl⟩ | ⟨ts, rfl, e, nodup, rfl⟩
        · rw [e]
          exact q _ s2
        · rw [e]
          refine ⟨_, rfl, a, ts, rfl, s2.seq hS, by rwa [List.length_map] at hz, nodup, _, rfl, a, _, rfl, .inl (s2.seq hS), rfl, ?_⟩
          rw [List.length_map, decide_eq_true rfl]
          exact q _ s2

/-! ### the static method, asked off the class -/
structure OkS (P : Program) (w : World) (K : PySem.W.Frag) (mg : Str → Option Value) (base : Heap) (C : Addr) (k : Nat) (m : Str) (ps : List Str) (sp : Sp) : Prop where
  ex : ∃ (mc : Value) (p g : Addr) (fd : FuncData), ClX.CRead K C mc ∧ SMet K C mc m p g ∧ Binds K fd ps [] ∧ FnOk P w K mg base CX0 k g fd ps sp
theorem pe_statO {X : Cx} {C : Addr} {k : Nat} {m x : Str} {ps : List Str} {sp : Sp} {e : Expr} {es : List Expr} {pos apos p : Pos} {t : TA} {pl : Sem Bool} (O : OkS X.prog X.w X.K X.mg X.base C k m ps sp) (hm : X.mg x = some (.ref C)) (hr : Room k X.A) (ha : PA X (e :: es) t)
    (hg : Gl X x := by rfl) (hst : starEach (e :: es) X.env = (false, eval e X.env) :: starEach es X.env := by rfl) (hpl : (backTo pos (starEach es X.env)).any (·.1) = false := by rfl) (hd : (x == ("__debug__" : Str)) = false := by decide)
    (ht : eval (.Call (.Attribute (.Name x p) m apos) (e :: es) [] pos) X.env = (do
      let ov ← eval (.Name x p) X.env
      standAt apos.atName
      let (f, first) ← holding [ov] (getMethod ov m pl)
      callWith pos f first (backTo pos (starEach (e :: es) X.env)) (backToKw pos (keywordEach [] X.env))) := by rfl) :
    PE X (.Call (.Attribute (.Name x p) m apos) (e :: es) [] pos) (tStat C sp (tC (.ref C)) t) := by
  obtain ⟨mc, q, g, fd, h1, h2, h3, h4⟩ := O.ex
  exact pe_stat (pe_glob hg hm rfl hd) h1 h2 h4 h3 hr ha hst hpl ht
/-! ### rules between names -/
def endIn (ts : List Str) : Option Str → Bool
  | none => true
  | some t => ts.any (· == t)
def RulesQ (K : PySem.W.Frag) (H : Hp) (x y : V) (b : Bool) : Prop := (∃ t, TyX K H x t ∧ PySem.W.kitOne K t (.type "list") = some false ∧ b = false) ∨
  (∃ (a : Addr) (xs : List V) (bs : List Bool), x = .ref a ∧ TyX K H x (.type "list") ∧ SqL K H a xs ∧ xs.length < 100000 ∧ bs.length = xs.length ∧ (∀ (i : Nat) (y : V) (c : Bool), xs[i]? = some y → bs[i]? = some c → ∀ H', Same H H' → RulQ K H' y c) ∧
    ((bs.all id = false ∧ b = false) ∨ (∃ (rs : List (Rule × Addr)) (n : Addr) (ts : List Str), xs = rs.map (fun p => V.ref p.2) ∧ KeyTups H rs ∧ bs.all id = true ∧ y = .ref n ∧ SqL K H n (ts.map V.str) ∧ ts.length < 1000 ∧ b = rs.all fun p => endIn ts p.1.low && endIn ts p.1.high)))
def spRules (K : PySem.W.Frag) : Sp := fun vs H Q _ => ∃ x y b, vs = [x, y] ∧ RulesQ K H x y b ∧ ∀ H', Same H H' → Q (.bl b) H'
theorem end_in (ts : List Str) (e : Option Str) : inV (endV e) (V.non :: ts.map V.str) = endIn ts e := by
  cases e with
  | none => rfl
  | some t =>
    show (eqV V.non (V.str t) || (ts.map V.str).any fun y => eqV y (V.str t)) = ts.any (· == t)
    rw [List.any_map, show eqV V.non (V.str t) = false from rfl, Bool.false_or]
    rfl
theorem end_flat (e : Option Str) : flatV (endV e) = true := by cases e <;> rfl
theorem ends_flat (ts : List Str) : (V.non :: ts.map V.str).all flatV = true := by
  rw [List.all_cons, show flatV V.non = true from rfl, Bool.true_and, List.all_map]
  exact List.all_eq_true.mpr fun _ _ => rfl
theorem ok_rules {C : Addr} {f : Addr} {fd : FuncData} (D : DefAt K mg "_are_rules_between" s_are_rules_between ["things", "names"] f fd) (B : Blt2 mg) (C_System : mg "System" = some (.ref C)) (O_is_rule : OkS P w K mg base C 3 "is_rule" ["thing"] (spIsRule K)) :
    Ok P w K mg base 4 "_are_rules_between" ["things", "names"] (spRules K) := by
  refine D.ok (D.fn.ok sc_are_rules_between (fun vs H Q E h => ?_) (fun cdv A outer s H vs Q E hr h => ?_))
  · obtain ⟨x, y, b, rfl, _⟩ := h
    rfl
  · obtain ⟨x, y, b, rfl, hx, q⟩ := h
    have nd := sc_are_rules_between.nd
    refine ⟨_, (pss_cons (ps_if (PW.pt (pw_or (pt_not (pt_val (pe_callB call_isi (by rfl) B.isinstance (by decide +kernel) (pa_cons (pv 0) (pa_cons (pe_bltn (v := .ty "list") (by rfl) B.list (by decide +kernel) rfl) pa_nil))))) (pw_or1 (pt_not (pt_val (pe_callB (cr_all rfl) (by rfl) B.all (by decide +kernel) (pa_cons (pe_lc (own := [("thing", 6)]) (g := gName 6) (tt := tYes) (by rfl) nd (pi_list (pv 0)) (blkOk_by (own := [("thing", 6)]) (N := ["things", "names", "ends", "low", "high", "_", "thing"]) (sc := defScope s_are_rules_between) (by decide +kernel)) (fun _ _ _ _ _ => (pg_name (i := 6) nd rfl (Or.inl rfl))) (fun _ _ _ _ _ => pts_nil) (fun _ _ _ _ _ => (pe_statO O_is_rule C_System (hr.mono (by decide)) (pa_cons (pv 6) pa_nil)))) pa_nil))))))) (pss_one (ps_ret pe_bl)) pss_nil)
      (pss_cons (ps_set (i := 2) nd rfl (Or.inr rfl) (pe_lst (pa_cons pe_non (StX.pa_star (pv 1) pa_nil))))
      (pss_one (ps_ret (pe_callB (cr_all rfl) (by rfl) B.all (by decide +kernel) (pa_cons (pe_lc (own := [("low", 3), ("high", 4), ("_", 5)]) (g := gTup K 3 (gCons (gName 3) (gCons (gName 4) (gCons (gName 5) (gNil))))) (tt := tYes) (by rfl) nd (pi_list (pv 0)) (blkOk_by (own := [("low", 3), ("high", 4), ("_", 5)]) (N := ["things", "names", "ends", "low", "high", "_", "thing"]) (sc := defScope s_are_rules_between) (by decide +kernel)) (fun _ _ _ _ _ => (pg_tupK K 3 rfl (pgs_cons (pg_name (i := 3) nd rfl (Or.inl rfl)) (pgs_cons (pg_name (i := 4) nd rfl (Or.inl rfl)) (pgs_cons (pg_name (i := 5) nd rfl (Or.inl rfl)) pgs_nil))))) (fun _ _ _ _ _ => pts_nil) (fun _ _ _ _ _ => (pe_and (pe_cmpR (op_inK K) (pv 3) (pv 2) rfl) (pe_one (pe_cmpR (op_inK K) (pv 4) (pv 2) rfl))))) pa_nil)))))), ?_⟩
    rcases hx with ⟨ty, hty, kt, rfl⟩ | ⟨a, xs, bs, rfl, hty, hS, hz, hb, hn, hcase⟩
    · refine ⟨_, rfl, _, _, _, _, false, rfl, .ty _, hty, kt, false, rfl, ?_⟩
      exact q _ (Same.refl _)
    · refine ⟨_, rfl, _, _, _, _, true, rfl, .ty _, hty, kit_ty (by decide +kernel), true, rfl, ?_⟩
      refine ⟨_, rfl, a, rfl, ⟨_, hS⟩, fun D hD => ?_⟩
      refine lc_map walk_list hD (bs.map V.bl) (by rw [List.length_map, hb]) (by have : sizeLine > 100000 := by decide
                                                                                 omega) (fun H2 s2 => s2.seq hS) ?_ ?_
      · rintro i x H2 H' hi R L s1 ⟨rfl, hx⟩ hR
        refine ⟨rfl, ?_⟩
        refine iteT (B := L H') ?_
        obtain ⟨c, hc, ec⟩ := get_bl hi
        rw [ec] at hR
        exact ⟨rfl, _, rfl, x, c, rfl, hn i x c hx hc _ s1, fun H4 s4 => hR H4 s4⟩
      · intro H2 s2 h2
        refine ⟨D, bs, rfl, SqL.of h2, bs.all id, rfl, ?_⟩
        rcases hcase with ⟨e, rfl⟩ | ⟨rs, n, ts, rfl, hk, e, rfl, hN, hzt, rfl⟩
        · rw [e]
          exact q _ s2
        · rw [e]
          refine ⟨_, rfl, n, _, rfl, .inr (s2.seq hN), ?_⟩
          refine ⟨by
            have : sizeLine > 100000 := by decide
            simp only [List.append_nil, List.length_cons, List.length_map]
            omega, fun M hM => ?_⟩
          have s3 := s2.trans (same_new (o := .lst (V.non :: ((ts.map V.str) ++ []))) hM)
          refine ⟨_, rfl, a, rfl, ⟨_, s3.seq hS⟩, fun D2 hD2 => ?_⟩
          refine lc_map walk_list hD2 (rs.map fun p => V.bl (endIn ts p.1.low && endIn ts p.1.high)) (by rw [List.length_map, List.length_map]) (by
            have : sizeLine > 100000 := by decide
            omega) (fun H4 s4 => (s3.trans s4).seq hS) ?_ ?_
          · rintro i x H4 H' hi R L s4 ⟨rfl, hx⟩ hR
            have hi' : i < rs.length := by rwa [List.length_map] at hi
            rw [List.getElem?_map, List.getElem?_eq_getElem hi'] at hx
            cases hx
            rw [List.getElem_map] at hR
            have hR := hR _ (Same.refl _)
            have hM4 : H' M = some (.lst (V.non :: ts.map V.str)) := by
              have z : (upd H2 M (.lst (V.non :: ((ts.map V.str) ++ [])))) M = some (.lst (V.non :: ts.map V.str)) := by rw [upd_same, List.append_nil]
              exact s4 _ _ z
            refine ⟨_, _, rfl, SqT.of ((s3.trans s4) _ _ (hk _ (List.getElem_mem hi'))), rfl, _, _, rfl, _, _, rfl, _, _, rfl, rfl, rfl, ?_⟩
            refine ⟨_, rfl, _, rfl, M, _, rfl, .inl (SqL.of hM4), end_flat _, ends_flat _, _, rfl, ?_⟩
            rw [← end_in, ← end_in] at hR
            cases e1 : inV (endV rs[i].1.low) (V.non :: ts.map V.str) with
            | false =>
              rw [e1, Bool.false_and] at hR
              exact hR
            | true =>
              rw [e1, Bool.true_and] at hR
              exact ⟨_, rfl, _, rfl, M, _, rfl, .inl (SqL.of hM4), end_flat _, ends_flat _, hR⟩
          · intro H4 s4 h4
            refine ⟨D2, rs.map fun p => endIn ts p.1.low && endIn ts p.1.high, rfl, SqL.of (by rw [List.map_map]; exact h4), ?_⟩
            have e2 : (rs.map fun p => endIn ts p.1.low && endIn ts p.1.high).all id = rs.all fun p => endIn ts p.1.low && endIn ts p.1.high := by
              rw [List.all_map]
              rfl
            rw [e2]
            exact q _ (s3.trans s4)

/-! ### rules in ascending order -/
theorem ok_rank {f : Addr} {fd : FuncData} (D : DefAt K mg "rank" s_rank ["rule"] f fd) : FnOk P w K mg base CX0 1 f fd ["rule"] spRank := by
  refine D.fn.ok sc_rank (fun vs H Q E h => ?_) (fun cdv A outer s H vs Q E hr h => ?_)
  · obtain ⟨t, r, rfl, _⟩ := h
    rfl
  · obtain ⟨t, r, rfl, ht, ⟨sl, sh⟩, q⟩ := h
    have nd := sc_rank.nd
    refine ⟨_, (pss_cons (ps_asg (pv 0) (pg_tup rfl (pgs_cons (pg_name (i := 1) nd rfl (Or.inl rfl)) (pgs_cons (pg_name (i := 2) nd rfl (Or.inl rfl)) (pgs_cons (pg_name (i := 3) nd rfl (Or.inl rfl)) pgs_nil)))))
      (pss_one (ps_ret (pe_tup (pa_cons (pe_orT (pv 1) (pe_one pe_str)) (pa_cons (pe_orT (pv 2) (pe_one pe_str)) (pa_cons (pv 3) pa_nil))))))), ?_⟩
    refine ⟨_, rfl, t, _, rfl, SqT.of ht, rfl, _, _, rfl, _, _, rfl, _, _, rfl, rfl, ?_⟩
    obtain ⟨low, high, gap⟩ := r
    have one : ∀ (e : Option Str) (i : Nat) (σ : L2.St) (W : VK), σ[i]? = some (some (endV e)) → (∀ t, e = some t → t.length ≤ sizeLine) → W (.str (endS e)) H → tOrT K (tVar i) (tC (.str (Str.ofString ""))) σ H W := by
      intro e i σ W hi hs hW
      refine ⟨endV e, hi, ?_⟩
      cases e with
      | none => exact ⟨false, rfl, iteF hW⟩
      | some t =>
        cases z : ((t.length : Int) != 0) with
        | true => exact ⟨true, ⟨hs t rfl, z.symm⟩, iteT hW⟩
        | false =>
          refine ⟨false, ⟨hs t rfl, z.symm⟩, iteF ?_⟩
          have : t = Str.ofString "" := by
            rw [bne_eq_false_iff_eq] at z
            obtain ⟨c⟩ := t
            have : c.size = 0 := by
              have : ((c.size : Nat) : Int) = 0 := z
              omega
            rw [Array.eq_empty_of_size_eq_zero this]
            rfl
          rw [← this]
          exact hW
    refine one low 1 _ _ rfl sl ?_
    refine one high 2 _ _ rfl sh ?_
    refine ⟨_, rfl, by show 3 ≤ sizeLine; decide, fun p hp => q p hp⟩

def spAscending (K : PySem.W.Frag) : Sp := fun vs H Q _ => ∃ (a : Addr) (rs : List (Rule × Addr)), vs = [.ref a] ∧ SqL K H a (rs.map fun p => V.ref p.2) ∧ KeyTups H rs ∧ (∀ p ∈ rs, Short p.1) ∧ rs.length < 100000 ∧
  ∀ p H', Same H H' → H p = none → H' p = some (.lst ((inOrder (putAll rs [])).map fun x => V.ref x.2)) → Q (.ref p) H'
theorem putAll_mem : ∀ (rs L : List (Rule × Addr)) (x : Rule × Addr), x ∈ putAll rs L → x ∈ L ∨ x ∈ rs
  | [], _, _, h => .inl h
  | r :: rs, L, x, h => by
    rcases putAll_mem rs (putR L r.1 r.2) x h with h | h
    · unfold putR at h
      split at h
      · exact .inl h
      · rcases List.mem_append.mp h with h | h
        · exact .inl h
        · exact .inr (List.mem_cons.mpr (.inl (List.mem_singleton.mp h)))
    · exact .inr (List.mem_cons_of_mem _ h)
theorem ok_ascending {f : Addr} {fd : FuncData} (D : DefAt K mg "_ascending" s_ascending ["rules"] f fd) (B : Blt2 mg) (O_rank : Ok P w K mg base 1 "rank" ["rule"] spRank) : Ok P w K mg base 4 "_ascending" ["rules"] (spAscending K) := by
  obtain ⟨fr, fdr, h1, h2, h3, h4⟩ := O_rank.ex
  refine D.ok (D.fn.ok sc_ascending (fun vs H Q E h => ?_) (fun cdv A outer s H vs Q E hr h => ?_))
  · obtain ⟨a, rs, rfl, _⟩ := h
    rfl
  · obtain ⟨a, rs, rfl, hS, hk, sh, hz, q⟩ := h
    have nd := sc_ascending.nd
    have hu := hu_of hr
    refine ⟨_, (pss_cons (ps_setDcR (i := 1) (own := [("rule", 2)]) (g := gName 2) (tk := tVar 2) (Nat.lt_of_le_of_lt (Nat.add_le_add_left (by decide) _) (hu_of64 hr)) rfl nd rfl rfl (sw_dict rfl rfl rfl (by decide +kernel)) (pi_list (pv 0)) (blkOk_by (own := [("rule", 2)]) (N := ["rules", "different", "rule"]) (sc := defScope s_ascending) (by decide +kernel)) (fun _ _ _ _ _ => (pg_name (i := 2) nd rfl (Or.inl rfl))) (fun _ _ _ _ _ => (pv 2)))
      (pss_one (ps_ret (pe_callBK (cr_sortedRank h4 h3 (hr.mono (by decide)) rfl) rfl B.sorted (by decide +kernel) (pa_cons (pv 1) pa_nil) (pk_cons (pe_glob (v := .ref fr) rfl h1 rfl) pk_nil))))), ?_⟩
    refine ⟨_, rfl, a, rfl, ⟨_, hS⟩, fun D hD => ?_⟩
    refine dcR_list hD hS hk (by have : sizeLine > 100000 := by decide
                                 omega) (by show 2 < 3; decide) (fun v => rfl) ?_
    have s1 := same_new (o := rdO P w D (putAll rs [])) hD
    have mem : ∀ p ∈ putAll rs [], p ∈ rs := fun p hp => (putAll_mem rs [] p hp).elim (fun z => (List.not_mem_nil z).elim) id
    refine ⟨_, rfl, D, putAll rs [], rfl, rfl, upd_same, fun p hp => s1 _ _ (hk p (mem p hp)), fun p hp => sh p (mem p hp), ?_, fun p H' s2 n2 h2 => q p H' (s1.trans s2) (s1.free n2) h2⟩
    have := putAll_len rs []
    rw [List.length_nil] at this
    omega

/-! ### a system -/
theorem ps_never {X : Cx} {st : Stmt} : PS X st (fun _ _ _ => False) := ⟨fun _ _ _ _ _ _ h => h.elim⟩
def NamesOk (ts : List Str) : Prop := ts.Nodup ∧ (∀ t ∈ ts, nameB t = true) ∧ ts.length < 64
structure RuleOk (ts : List Str) (r : Rule) : Prop where
  low : endIn ts r.low = true
  high : endIn ts r.high = true
  ne : r.low ≠ r.high
  ge : -999 ≤ r.gap
  le : r.gap ≤ 999
theorem name_len {t : Str} (h : nameB t = true) : 1 ≤ t.length ∧ t.length ≤ 8 := by
  unfold nameB at h
  rw [Bool.and_eq_true, Bool.and_eq_true, decide_eq_true_iff, decide_eq_true_iff] at h
  omega
theorem name_line {t : Str} (h : nameB t = true) : t.length ≤ sizeLine := by
  have := (name_len h).2
  have : sizeLine > 8 := by decide
  omega
theorem end_name {ts : List Str} (N : NamesOk ts) {e : Option Str} (h : endIn ts e = true) : ∀ t, e = some t → nameB t = true := by
  rintro t rfl
  unfold endIn at h
  obtain ⟨x, hx, e⟩ := List.any_eq_true.mp h
  rw [← eq_of_beq e]
  exact N.2.1 x hx
theorem end_q {ts : List Str} (N : NamesOk ts) {H : Hp} {e : Option Str} (h : endIn ts e = true) : EndQ K H (endV e) true := by
  cases e with
  | none => exact .inl ⟨rfl, rfl⟩
  | some t =>
    have n := end_name N h t rfl
    exact .inr ⟨(fun z => nomatch z), .inl ⟨t, rfl, name_line n, n.symm⟩⟩
theorem RuleOk.short {ts : List Str} {r : Rule} (N : NamesOk ts) (h : RuleOk ts r) : Short r := ⟨fun t e => name_line (end_name N h.low t e), fun t e => name_line (end_name N h.high t e)⟩
theorem RuleOk.named {ts : List Str} {r : Rule} (N : NamesOk ts) (h : RuleOk ts r) : Named r := by
  refine ⟨fun e => ?_, fun e => ?_⟩
  · exact absurd (name_len (end_name N h.low _ e)).1 (by decide)
  · exact absurd (name_len (end_name N h.high _ e)).1 (by decide)
theorem RuleOk.rulQ {ts : List Str} {r : Rule} (N : NamesOk ts) (h : RuleOk ts r) {H : Hp} {q : Addr} (hq : H q = some (.tup (ruleV r))) : RulQ K H (.ref q) true := by
  refine .inr (.inr ⟨q, _, _, _, true, true, true, rfl, hq, fun H' s => ⟨end_q N h.low, end_q N h.high, .inl ⟨r.gap, rfl, ?_⟩⟩, ?_⟩)
  · rw [decide_eq_true h.ge, decide_eq_true h.le]
    rfl
  · rw [decide_eq_false fun e => h.ne (endV_inj e)]
    rfl
theorem diffQ {ts : List Str} (N : NamesOk ts) {H : Hp} {a : Addr} (ty : TyX K H (.ref a) (.type "list")) (hS : SqL K H a (ts.map V.str)) : DiffQ K H (.ref a) true := by
  refine .inr ⟨a, ts.map V.str, ts.map fun _ => true, rfl, ty, hS, ?_, ?_, ?_, .inr ⟨ts, rfl, ?_, N.1, rfl⟩⟩
  · rw [List.length_map]
    have := N.2.2
    omega
  · rw [List.length_map, List.length_map]
  · intro i y c hy hc H' _
    obtain ⟨t, ht, rfl⟩ := get_map hy
    obtain ⟨_, _, rfl⟩ := get_map hc
    have n := N.2.1 t (List.mem_of_getElem? ht)
    exact .inl ⟨t, rfl, name_line n, n.symm⟩
  · rw [List.all_map]
    exact List.all_eq_true.mpr fun _ _ => rfl
theorem rulesQ {ts : List Str} (N : NamesOk ts) {H : Hp} {a b : Addr} {rs : List (Rule × Addr)} (ty : TyX K H (.ref b) (.type "list")) (hS : SqL K H b (rs.map fun p => V.ref p.2)) (hk : KeyTups H rs) (hr : ∀ p ∈ rs, RuleOk ts p.1) (hz : rs.length < 100000)
    (hA : SqL K H a (ts.map V.str)) : RulesQ K H (.ref b) (.ref a) true := by
  refine .inr ⟨b, _, rs.map fun _ => true, rfl, ty, hS, ?_, ?_, ?_, .inr ⟨rs, a, ts, rfl, hk, ?_, rfl, hA, ?_, ?_⟩⟩
  · rwa [List.length_map]
  · rw [List.length_map, List.length_map]
  · intro i y c hy hc H' s
    obtain ⟨t, ht, rfl⟩ := get_map hy
    obtain ⟨_, _, rfl⟩ := get_map hc
    have m := List.mem_of_getElem? ht
    exact (hr t m).rulQ N (s _ _ (hk t m))
  · rw [List.all_map]
    exact List.all_eq_true.mpr fun _ _ => rfl
  · have := N.2.2
    omega
  · refine (List.all_eq_true.mpr fun p hp => ?_).symm
    rw [(hr p hp).low, (hr p hp).high]
    rfl
def sysF (ln lr : Addr) : List (Str × V) := putF "_rules" (.ref lr) (putF "_names" (.ref ln) [])
theorem sysF_names (ln lr : Addr) : (sysF ln lr).lookup ("_names" : Str) = some (.ref ln) := by
  unfold sysF
  rw [lookup_putF, if_neg (by decide +kernel), lookup_putF, if_pos rfl]
theorem sysF_rules (ln lr : Addr) : (sysF ln lr).lookup ("_rules" : Str) = some (.ref lr) := by
  unfold sysF
  rw [lookup_putF, if_pos rfl]
theorem sysF_no {ln lr : Addr} {m : Str} (h1 : ¬ m = "_names") (h2 : ¬ m = "_rules") : (sysF ln lr).lookup m = none := by
  unfold sysF
  rw [lookup_putF, if_neg h2, lookup_putF, if_neg h1]
  rfl
structure SysOk (ns : List Str) (L : List (Rule × Addr)) : Prop where
  names : NamesOk ns
  rules : ∀ p ∈ L, RuleOk ns p.1
  len : L.length < 100000
  ord : sortN ns = ns
  can : canon (L.map (·.1)) = L.map (·.1)
/-- a system with the names ns and the rules L stands at x -/
def SysAt (C : Addr) (H : Hp) (x : Addr) (ns : List Str) (L : List (Rule × Addr)) : Prop :=
  ∃ dx ln lr, H x = some (.ins C dx (sysF ln lr)) ∧ H ln = some (.lst (ns.map V.str)) ∧ H lr = some (.lst (L.map fun p => V.ref p.2)) ∧ KeyTups H L ∧ SysOk ns L
theorem SysAt.same {C x : Addr} {H H' : Hp} {ns : List Str} {L : List (Rule × Addr)} (h : SysAt C H x ns L) (s : Same H H') : SysAt C H' x ns L := by
  obtain ⟨dx, ln, lr, h1, h2, h3, h4, h5⟩ := h
  exact ⟨dx, ln, lr, s _ _ h1, s _ _ h2, s _ _ h3, fun p hp => s _ _ (h4 p hp), h5⟩
theorem NamesOk.perm {a b : List Str} (h : NamesOk a) (p : a.Perm b) : NamesOk b :=
  ⟨p.nodup_iff.mp h.1, fun t ht => h.2.1 t (p.mem_iff.mpr ht), by rw [← p.length_eq]; exact h.2.2⟩
theorem endIn_perm {a b : List Str} (p : ∀ t, t ∈ a → t ∈ b) {e : Option Str} (h : endIn a e = true) : endIn b e = true := by
  cases e with
  | none => rfl
  | some t =>
    unfold endIn at h ⊢
    obtain ⟨x, hx, e⟩ := List.any_eq_true.mp h
    exact List.any_eq_true.mpr ⟨x, p x hx, e⟩
theorem RuleOk.perm {a b : List Str} {r : Rule} (h : RuleOk a r) (p : ∀ t, t ∈ a → t ∈ b) : RuleOk b r := ⟨endIn_perm p h.low, endIn_perm p h.high, h.ne, h.ge, h.le⟩
/-- .. and it and its lists were laid after H -/
def SysNew (C : Addr) (H H' : Hp) (x : Addr) (ns : List Str) (L : List (Rule × Addr)) : Prop :=
  ∃ dx ln lr, H' x = some (.ins C dx (sysF ln lr)) ∧ H' ln = some (.lst (ns.map V.str)) ∧ H' lr = some (.lst (L.map fun p => V.ref p.2)) ∧ KeyTups H' L ∧ SysOk ns L ∧ H ln = none ∧ H lr = none
theorem SysNew.at_ {C x : Addr} {H H' : Hp} {ns : List Str} {L : List (Rule × Addr)} (h : SysNew C H H' x ns L) : SysAt C H' x ns L := by
  obtain ⟨dx, ln, lr, h1, h2, h3, h4, h5, _⟩ := h
  exact ⟨dx, ln, lr, h1, h2, h3, h4, h5⟩
theorem SysNew.from_ {C x : Addr} {H H0 H' : Hp} {ns : List Str} {L : List (Rule × Addr)} (h : SysNew C H H' x ns L) (s : Same H0 H) : SysNew C H0 H' x ns L := by
  obtain ⟨dx, ln, lr, h1, h2, h3, h4, h5, h6, h7⟩ := h
  exact ⟨dx, ln, lr, h1, h2, h3, h4, h5, s.free h6, s.free h7⟩
/-- .. and it, its lists and its rules are elsewhere than F -/
def SysOff (F : Addr → Prop) (C : Addr) (H : Hp) (x : Addr) (ns : List Str) (L : List (Rule × Addr)) : Prop :=
  ∃ dx ln lr, H x = some (.ins C dx (sysF ln lr)) ∧ H ln = some (.lst (ns.map V.str)) ∧ H lr = some (.lst (L.map fun p => V.ref p.2)) ∧ KeyTups H L ∧ SysOk ns L ∧ ¬ F x ∧ ¬ F ln ∧ ¬ F lr ∧ ∀ p ∈ L, ¬ F p.2
theorem SysOff.at_ {F : Addr → Prop} {C x : Addr} {H : Hp} {ns : List Str} {L : List (Rule × Addr)} (h : SysOff F C H x ns L) : SysAt C H x ns L := by
  obtain ⟨dx, ln, lr, h1, h2, h3, h4, h5, _⟩ := h
  exact ⟨dx, ln, lr, h1, h2, h3, h4, h5⟩
/-- nothing outside F has changed -/
def Out (F : Addr → Prop) (H H' : Hp) : Prop := ∀ b o, H b = some o → ¬ F b → H' b = some o
theorem Out.of {F : Addr → Prop} {H H' : Hp} (s : Same H H') : Out F H H' := fun b o h _ => s b o h
theorem Out.trans {F : Addr → Prop} {H H1 H2 : Hp} (a : Out F H H1) (b : Out F H1 H2) : Out F H H2 := fun c o h n => b c o (a c o h n) n
theorem Out.upd {F : Addr → Prop} {H : Hp} {a : Addr} {o : HO} (h : F a) : Out F H (L2.upd H a o) := fun b u e n => by
  rw [upd_ne (show b ≠ a from fun z => n (by rw [z]; exact h))]
  exact e
theorem Out.but {F : Addr → Prop} {H H' : Hp} {p : Addr} (b : But p H H') (hp : F p) : Out F H H' := fun c o h n => b c o h fun z => n (by rw [z]; exact hp)
theorem SysOff.out {F : Addr → Prop} {C x : Addr} {H H' : Hp} {ns : List Str} {L : List (Rule × Addr)} (h : SysOff F C H x ns L) (s : Out F H H') : SysOff F C H' x ns L := by
  obtain ⟨dx, ln, lr, h1, h2, h3, h4, h5, n1, n2, n3, n4⟩ := h
  exact ⟨dx, ln, lr, s _ _ h1 n1, s _ _ h2 n2, s _ _ h3 n3, fun p hp => s _ _ (h4 p hp) (n4 p hp), h5, n1, n2, n3, n4⟩
/-- F holds lists that stood before it was made -/
theorem SysNew.off {F : Addr → Prop} {C x : Addr} {H H' : Hp} {ns : List Str} {L : List (Rule × Addr)} (h : SysNew C H H' x ns L) (s : Same H H') (hF : ∀ a, F a → ∃ xs, H a = some (.lst xs)) : SysOff F C H' x ns L := by
  obtain ⟨dx, ln, lr, h1, h2, h3, h4, h5, n2, n3⟩ := h
  refine ⟨dx, ln, lr, h1, h2, h3, h4, h5, fun z => ?_, fun z => ?_, fun z => ?_, fun p hp z => ?_⟩
  · obtain ⟨xs, e⟩ := hF _ z
    rw [s _ _ e] at h1
    cases h1
  · obtain ⟨xs, e⟩ := hF _ z
    rw [n2] at e
    cases e
  · obtain ⟨xs, e⟩ := hF _ z
    rw [n3] at e
    cases e
  · obtain ⟨xs, e⟩ := hF _ z
    have := h4 p hp
    rw [s _ _ e] at this
    cases this
structure SysC (K : PySem.W.Frag) (mg : Str → Option Value) (C : Addr) : Prop where
  cl : Cls K C
  nN : NoAttr K C "_names"
  nR : NoAttr K C "_rules"
  mgC : mg "System" = some (.ref C)
def spInit (C : Addr) : Sp := fun vs H Q _ => ∃ (x a b dx : Addr) (ts : List Str) (rs : List (Rule × Addr)), vs = [.ref x, .ref a, .ref b] ∧ H x = some (.ins C dx []) ∧ H a = some (.lst (ts.map V.str)) ∧ NamesOk ts ∧
  H b = some (.lst (rs.map fun p => V.ref p.2)) ∧ KeyTups H rs ∧ (∀ p ∈ rs, RuleOk ts p.1) ∧ rs.length < 100000 ∧ ∀ H', But x H H' → SysNew C H H' x (sortN ts) (inOrder (putAll rs [])) → Q .non H'
theorem ok_init {C : Addr} {qn : Str} {f : Addr} {fd : FuncData} (F : Fun K "__init__" qn s_System___init f fd) (T : SysC K mg C) (B : Blt2 mg) (O_are_different_names : Ok P w K mg base 2 "_are_different_names" ["things"] (spDiff K))
    (O_are_rules_between : Ok P w K mg base 4 "_are_rules_between" ["things", "names"] (spRules K)) (O_ascending : Ok P w K mg base 4 "_ascending" ["rules"] (spAscending K)) : FnOk P w K mg base CX0 5 f fd ["self", "names", "rules"] (spInit C) := by
  refine F.ok sc_System___init (fun vs H Q E h => ?_) (fun cdv A outer s H vs Q E hr h => ?_)
  · obtain ⟨x, a, b, dx, ts, rs, rfl, _⟩ := h
    rfl
  · obtain ⟨x, a, b, dx, ts, rs, rfl, hx, hA, N, hB, hk, hro, hz, q⟩ := h
    have nd := sc_System___init.nd
    refine ⟨_, (pss_cons (ps_if (pt_not (pt_val (pe_own O_are_different_names (hr.mono (by decide)) (pa_cons (pv 1) pa_nil)))) (pss_one ps_never) pss_nil)
      (pss_cons (ps_if (pt_not (pt_val (pe_own O_are_rules_between (hr.mono (by decide)) (pa_cons (pv 2) (pa_cons (pv 1) pa_nil))))) (pss_one ps_never) pss_nil)
      (pss_cons (ps_fld (pv 0) (pe_callB cr_sortedS (by rfl) B.sorted (by decide +kernel) (pa_cons (pv 1) pa_nil)) rfl)
      (pss_one (ps_fld (pv 0) (pe_own O_ascending (hr.mono (by decide)) (pa_cons (pv 2) pa_nil)) rfl))))), ?_⟩
    refine ⟨_, rfl, _, true, rfl, diffQ N (.base (.lst hA)) (SqL.of hA), fun H1 s1 => ⟨_, rfl, ?_⟩⟩
    refine ⟨_, rfl, _, rfl, _, _, true, rfl, rulesQ N (.base (.lst (s1 _ _ hB))) (SqL.of (s1 _ _ hB)) (fun p hp => s1 _ _ (hk p hp)) hro hz (SqL.of (s1 _ _ hA)), fun H2 s2 => ⟨_, rfl, ?_⟩⟩
    have s12 := s1.trans s2
    refine ⟨_, rfl, a, ts, rfl, SqL.of (s12 _ _ hA), N.2.2, fun ys ln hp hy nln => ?_⟩
    rw [sortN_of hp hy] at *
    have s3 := s12.trans (same_new (o := .lst ((sortN ts).map V.str)) nln)
    have hx3 := s3 _ _ hx
    have nlx : x ≠ ln := ne_of_none (s12 _ _ hx) nln
    refine ⟨_, rfl, x, C, dx, [], rfl, hx3, T.cl, T.nN, by show 0 < 1000; decide, ?_⟩
    have b4 : But x H (upd (upd H2 ln (.lst ((sortN ts).map V.str))) x (.ins C dx (putF (Str.ofString "_names") (.ref ln) []))) := (But.of s3).trans But.upd
    have hx4 : (upd (upd H2 ln (.lst ((sortN ts).map V.str))) x (.ins C dx (putF (Str.ofString "_names") (.ref ln) []))) x = some (.ins C dx (putF (Str.ofString "_names") (.ref ln) [])) := upd_same
    have hl4 : (upd (upd H2 ln (.lst ((sortN ts).map V.str))) x (.ins C dx (putF (Str.ofString "_names") (.ref ln) []))) ln = some (.lst ((sortN ts).map V.str)) := by
      rw [upd_ne nlx.symm, upd_same]
    generalize upd (upd H2 ln (.lst ((sortN ts).map V.str))) x (.ins C dx (putF (Str.ofString "_names") (.ref ln) [])) = H4 at b4 hx4 hl4 ⊢
    have hB4 := b4 _ _ hB (ne_of hB hx (fun z => nomatch z))
    have hk4 : KeyTups H4 rs := fun p hp => b4 _ _ (hk p hp) (ne_of (hk p hp) hx (fun z => nomatch z))
    refine ⟨_, rfl, b, rs, rfl, SqL.of hB4, hk4, fun p hp => (hro p hp).short N, hz, fun lr H5 s5 nlr hlr => ?_⟩
    refine ⟨_, rfl, x, C, dx, _, rfl, s5 _ _ hx4, T.cl, T.nR, by show 1 < 1000; decide, ?_⟩
    have nrx : lr ≠ x := (ne_of_none hx4 nlr).symm
    have mem : ∀ p ∈ inOrder (putAll rs []), p ∈ rs := fun p hp => (putAll_mem rs [] p ((List.mergeSort_perm _ _).mem_iff.mp hp)).elim (fun z => (List.not_mem_nil z).elim) id
    refine q _ ((b4.trans (But.of s5)).trans But.upd) ⟨dx, ln, lr, upd_same, ?_, ?_, fun p hp => ?_, ⟨N.perm (sortN_perm ts).symm, fun p hp => (hro p (mem p hp)).perm fun t ht => (sortN_perm ts).mem_iff.mpr ht, ?_, sortN_sortN ts, ?_⟩, s12.free nln, b4.free nrx nlr⟩
    rotate_left 3
    · rw [inOrder_len]
      have := putAll_len rs []
      rw [List.length_nil] at this
      omega
    · rw [inOrder_canon]
      exact canon_canon fun r hr => by
        obtain ⟨p, hp, e⟩ := List.mem_map.mp hr
        exact e ▸ (hro p hp).named N
    · rw [upd_ne nlx.symm]
      exact s5 _ _ hl4
    · rw [upd_ne nrx]
      exact hlr
    · have h5 := s5 _ _ (hk4 p (mem p hp))
      rw [upd_ne (ne_of h5 (s5 _ _ hx4) (fun z => nomatch z))]
      exact h5

/-! ### == -/
def endD : Option Str → PyData
  | none => .none
  | some t => .str t
def ruleD (r : Rule) : PyData := .tuple [endD r.low, endD r.high, .int r.gap]
theorem dp_end {H : Hp} : ∀ e : Option Str, Dp K H (endV e) (endD e)
  | none => .non
  | some t => .str t
theorem dp_rules {H : Hp} : ∀ {L : List (Rule × Addr)}, KeyTups H L → DpAll K H (L.map fun p => V.ref p.2) (L.map fun p => ruleD p.1)
  | [], _ => .nil
  | p :: r, h => .cons (.tup (SqT.of (h p (List.mem_cons_self ..))) (.cons (dp_end _) (.cons (dp_end _) (.cons (.int _) .nil)))) (dp_rules fun q hq => h q (List.mem_cons_of_mem _ hq))
theorem dp_strs {H : Hp} : ∀ ts : List Str, DpAll K H (ts.map V.str) (ts.map PyData.str)
  | [] => .nil
  | t :: r => .cons (.str t) (dp_strs r)
theorem name_strOk {t : Str} (h : nameB t = true) : PyData.strOk t = true := by
  unfold nameB at h
  rw [Bool.and_eq_true, List.all_eq_true] at h
  unfold PyData.strOk
  rw [← Array.all_toList, List.all_eq_true]
  intro c hc
  have := h.2 c hc
  unfold letterOk at this
  rw [Bool.and_eq_true, Bool.not_eq_true', Bool.not_eq_true', decide_eq_false_iff_not, decide_eq_false_iff_not] at this
  rw [decide_eq_true_iff]
  have h2 : ¬ (122 < c) := fun z => this.2 (List.Lex.rel z)
  omega
theorem lay_strs : ∀ ts : List Str, (∀ t ∈ ts, PyData.strOk t = true) → PyData.canLayAll0 (ts.map PyData.str) = true ∧ PyData.depthAll (ts.map PyData.str) = 0
  | [], _ => ⟨by simp [PyData.canLayAll0], by simp [PyData.depthAll]⟩
  | c :: r, h => by
    obtain ⟨h1, h2⟩ := lay_strs r fun t ht => h t (List.mem_cons_of_mem _ ht)
    have h3 := h c (List.mem_cons_self ..)
    refine ⟨?_, ?_⟩
    · simp [PyData.canLayAll0, PyData.canLay0, h1, h3]
    · simp [PyData.depthAll, PyData.depth, h2]
theorem shaped_strs (ts : List Str) (h : ∀ t ∈ ts, PyData.strOk t = true) : SeqAt.shaped (.list (ts.map PyData.str)) = true := by
  obtain ⟨h1, h2⟩ := lay_strs ts h
  simp [SeqAt.shaped, PyData.canLay0, h1, PyData.depth, h2]
/-- its texts can be laid -/
def ROk (r : Rule) : Prop := (∀ t, r.low = some t → PyData.strOk t = true) ∧ ∀ t, r.high = some t → PyData.strOk t = true
theorem RuleOk.rok {ts : List Str} {r : Rule} (N : NamesOk ts) (h : RuleOk ts r) : ROk r := ⟨fun t e => name_strOk (end_name N h.low t e), fun t e => name_strOk (end_name N h.high t e)⟩
theorem lay_rule (r : Rule) (h : ROk r) : PyData.canLay0 (ruleD r) = true ∧ (ruleD r).depth = 1 := by
  obtain ⟨l, g, n⟩ := r
  obtain ⟨h1, h2⟩ := h
  have hl : PyData.canLay0 (endD l) = true ∧ (endD l).depth = 0 := by
    cases l with
    | none => exact ⟨by simp [endD, PyData.canLay0], by simp [endD, PyData.depth]⟩
    | some t => exact ⟨by simp [endD, PyData.canLay0, h1 t rfl], by simp [endD, PyData.depth]⟩
  have hg : PyData.canLay0 (endD g) = true ∧ (endD g).depth = 0 := by
    cases g with
    | none => exact ⟨by simp [endD, PyData.canLay0], by simp [endD, PyData.depth]⟩
    | some t => exact ⟨by simp [endD, PyData.canLay0, h2 t rfl], by simp [endD, PyData.depth]⟩
  refine ⟨?_, ?_⟩
  · simp [ruleD, PyData.canLay0, PyData.canLayAll0, hl.1, hg.1]
  · simp [ruleD, PyData.depth, PyData.depthAll, hl.2, hg.2]
theorem lay_rules : ∀ L : List (Rule × Addr), (∀ p ∈ L, ROk p.1) → PyData.canLayAll0 (L.map fun p => ruleD p.1) = true ∧ PyData.depthAll (L.map fun p => ruleD p.1) ≤ 1
  | [], _ => ⟨by simp [PyData.canLayAll0], by simp [PyData.depthAll]⟩
  | c :: r, h => by
    obtain ⟨h1, h2⟩ := lay_rules r fun t ht => h t (List.mem_cons_of_mem _ ht)
    obtain ⟨h3, h4⟩ := lay_rule c.1 (h c (List.mem_cons_self ..))
    refine ⟨?_, ?_⟩
    · simp [PyData.canLayAll0, h1, h3]
    · simp only [List.map_cons, PyData.depthAll, h4]
      omega
theorem shaped_rules (L : List (Rule × Addr)) (h : ∀ p ∈ L, ROk p.1) : SeqAt.shaped (.list (L.map fun p => ruleD p.1)) = true := by
  obtain ⟨h1, h2⟩ := lay_rules L h
  simp [SeqAt.shaped, PyData.canLay0, h1, PyData.depth]
  omega
theorem eqv_strs : ∀ a b : List Str, PyData.eqvAll (a.map PyData.str) (b.map PyData.str) = decide (a = b)
  | [], [] => by simp [PyData.eqvAll]
  | [], _ :: _ => by simp [PyData.eqvAll]
  | _ :: _, [] => by simp [PyData.eqvAll]
  | x :: a, y :: b => by
    rw [List.map_cons, List.map_cons, PyData.eqvAll, eqv_strs a b]
    rw [Bool.eq_iff_iff]
    simp [PyData.eqv]
theorem eqv_end (a b : Option Str) : PyData.eqv (endD a) (endD b) = decide (a = b) := by
  rw [Bool.eq_iff_iff]
  cases a <;> cases b <;> simp [endD, PyData.eqv]
theorem eqv_rule (a b : Rule) : PyData.eqv (ruleD a) (ruleD b) = decide (a = b) := by
  unfold ruleD
  rw [PyData.eqv, PyData.eqvAll, PyData.eqvAll, PyData.eqvAll, PyData.eqvAll, eqv_end, eqv_end]
  rw [Bool.eq_iff_iff]
  obtain ⟨a1, a2, a3⟩ := a
  obtain ⟨b1, b2, b3⟩ := b
  simp [PyData.eqv]
theorem eqv_rules : ∀ a b : List (Rule × Addr), PyData.eqvAll (a.map fun p => ruleD p.1) (b.map fun p => ruleD p.1) = decide (a.map (·.1) = b.map (·.1))
  | [], [] => by simp [PyData.eqvAll]
  | [], _ :: _ => by simp [PyData.eqvAll]
  | _ :: _, [] => by simp [PyData.eqvAll]
  | x :: a, y :: b => by
    rw [List.map_cons, List.map_cons, PyData.eqvAll, eqv_rules a b, eqv_rule]
    rw [Bool.eq_iff_iff]
    simp

/-- the answer of == to a system with the names ns and the rules L -/
def EqAns (K : PySem.W.Frag) (C : Addr) (H : Hp) (ns : List Str) (L : List (Rule × Addr)) (y : V) (b : Bool) : Prop :=
  (∃ (z : Addr) (ns' : List Str) (L' : List (Rule × Addr)), y = .ref z ∧ SysAt C H z ns' L' ∧ b = (decide (ns = ns') && decide (L.map (·.1) = L'.map (·.1)))) ∨ (∃ t, TyX K H y t ∧ PySem.W.kitOne K t (.ref C) = some false ∧ b = false)
def spEq (K : PySem.W.Frag) (C : Addr) : Sp := fun vs H Q _ => ∃ (x : Addr) (y : V) (ns : List Str) (L : List (Rule × Addr)) (b : Bool), vs = [.ref x, y] ∧ SysAt C H x ns L ∧ EqAns K C H ns L y b ∧ Q (.bl b) H
theorem ok_eq {C : Addr} {qn : Str} {f : Addr} {fd : FuncData} (F : Fun K "__eq__" qn s_System___eq f fd) (T : SysC K mg C) (I : C8.InsC K C) (B : Blt2 mg) : FnOk P w K mg base CX0 1 f fd ["self", "other"] (spEq K C) := by
  have C_System := T.mgC
  refine F.ok sc_System___eq (fun vs H Q E h => ?_) (fun cdv A outer s H vs Q E hr h => ?_)
  · obtain ⟨x, y, ns, L, b, rfl, _⟩ := h
    rfl
  · obtain ⟨x, y, ns, L, b, rfl, hx, hy, q⟩ := h
    refine ⟨_, (pss_one (ps_ret (pe_and (pe_callB call_isi (by rfl) B.isinstance (by decide +kernel) (pa_cons (pv 1) (pa_cons (pe_glob (v := .ref C) rfl C_System rfl) pa_nil))) (pe_and (pe_cmpR (op_eqD (hu_of64 hr)) (pe_fld (pv 0) rfl) (pe_fld (pv 1) rfl) (nomark _)) (pe_one (pe_cmpR (op_eqD (hu_of64 hr)) (pe_fld (pv 0) rfl) (pe_fld (pv 1) rfl) (nomark _))))))), ?_⟩
    rcases hy with ⟨z, ns', L', rfl, hz, rfl⟩ | ⟨t, ty, kt, rfl⟩
    · obtain ⟨dx, ln, lr, h1, h2, h3, h4, h5⟩ := hx
      obtain ⟨dx', ln', lr', g1, g2, g3, g4, g5⟩ := hz
      refine ⟨_, rfl, _, _, _, _, true, rfl, .own C, .base (.ins g1 I.cl I.ha I.hn I.htk I.hm), I.me, true, rfl, ?_⟩
      refine ⟨_, rfl, x, C, dx, _, _, rfl, h1, T.cl, T.nN, sysF_names _ _, _, rfl, z, C, dx', _, _, rfl, g1, T.cl, T.nN, sysF_names _ _, ?_⟩
      refine ⟨_, _, .lst (SqL.of h2) (dp_strs ns), .lst (SqL.of g2) (dp_strs ns'), shaped_strs ns (fun t ht => name_strOk (h5.names.2.1 t ht)), shaped_strs ns' (fun t ht => name_strOk (g5.names.2.1 t ht)), _, rfl, ?_⟩
      rw [PyData.eqv, eqv_strs]
      cases e : decide (ns = ns') with
      | false =>
        rw [e, Bool.false_and] at q
        exact q
      | true =>
        rw [e, Bool.true_and] at q
        refine ⟨_, rfl, x, C, dx, _, _, rfl, h1, T.cl, T.nR, sysF_rules _ _, _, rfl, z, C, dx', _, _, rfl, g1, T.cl, T.nR, sysF_rules _ _, ?_⟩
        refine ⟨_, _, .lst (SqL.of h3) (dp_rules h4), .lst (SqL.of g3) (dp_rules g4), shaped_rules L (fun t ht => (h5.rules t ht).rok h5.names), shaped_rules L' (fun t ht => (g5.rules t ht).rok g5.names), ?_⟩
        rw [PyData.eqv, eqv_rules]
        exact q
    · refine ⟨_, rfl, _, _, _, _, false, rfl, .own C, ty, kt, false, rfl, ?_⟩
      exact q
end
end Wnd

namespace Wnd
open PySem PySem.Spec PyProof.Rows L2
abbrev s_law_some : Stmt := top 34
theorem sc_law_some : FnScope ["_law_pen_here", "_law_pool", "_law_most", "_law_left", "_law_turn"] ["_law_pen_here", "_law_pool", "_law_most"] (defScope s_law_some) := ⟨rfl, rfl, rfl, by decide +kernel, rfl, by decide +kernel, by decide +kernel⟩
abbrev s_law_nyms : Stmt := top 35
theorem sc_law_nyms : FnScope ["_law_pen_here", "_law_most"] ["_law_pen_here", "_law_most"] (defScope s_law_nyms) := ⟨rfl, rfl, rfl, by decide +kernel, rfl, by decide +kernel, by decide +kernel⟩
abbrev s_law_goal : Stmt := top 36
theorem sc_law_goal : FnScope ["_law_pen_here", "_law_nyms_here", "_law_wide", "_law_nym"] ["_law_pen_here", "_law_nyms_here"] (defScope s_law_goal) := ⟨rfl, rfl, rfl, by decide +kernel, rfl, by decide +kernel, by decide +kernel⟩
abbrev s_law_at : Stmt := top 37
theorem sc_law_at : FnScope ["_law_held", "_law_thing"] ["_law_held", "_law_thing"] (defScope s_law_at) := ⟨rfl, rfl, rfl, by decide +kernel, rfl, by decide +kernel, by decide +kernel⟩
abbrev s_law_gaps : Stmt := top 38
theorem sc_law_gaps : FnScope ["_law_pen_here", "_law_nyms_here", "_law_goals", "_law_most", "_law_found", "_law_things", "_law_turn", "_law_left", "_law_first", "_law_second", "_law_spans", "_law_gap", "_law_goal_here"] ["_law_pen_here", "_law_nyms_here", "_law_goals", "_law_most"] (defScope s_law_gaps) := ⟨rfl, rfl, rfl, by decide +kernel, rfl, by decide +kernel, by decide +kernel⟩
section
variable {P : Program} {w : World} {K : PySem.W.Frag} {mg : Str → Option Value} {base : Heap}
/-- the pool at a keeps as it is -/
def spSome (K : PySem.W.Frag) : Sp := fun vs H Q _ => ∃ (p c a : Addr) (n m : Nat) (xs : List V), vs = [.ref p, .ref a, .int m] ∧ PenAt H p c n ∧ n ≤ 900000 ∧ SqL K H a xs ∧ xs.length < 1000 ∧ m ≤ 1000 ∧
  ∀ r H' n' (ys rest : List V), But p H H' → H r = none → H' r = some (.lst ys) → (ys ++ rest).Perm xs → ys.length ≤ m → PenAt H' p c n' → n' ≤ n + m + 1 → Q (.ref r) H'
theorem perm_pop {ys rest xs : List V} {k : Nat} (hk : k < rest.length) (h : (ys ++ rest).Perm xs) : ((ys ++ [rest[k]]) ++ rest.eraseIdx k).Perm xs := by
  refine List.Perm.trans ?_ h
  rw [List.append_assoc]
  refine List.Perm.append_left ys ?_
  rw [List.singleton_append]
  exact cons_erase rest k hk
theorem PenAt.upd {H : Hp} {p c a : Addr} {n : Nat} {o : HO} (h : PenAt H p c n) (hp : a ≠ p) (hc : a ≠ c) : PenAt (L2.upd H a o) p c n := by
  obtain ⟨cs, i, z, g1, g2, g3, g4⟩ := h
  exact ⟨cs, i, z, g1, g2, by rw [upd_ne hc.symm]; exact g3, by rw [upd_ne hp.symm]; exact g4⟩
theorem PenAt.cells {H : Hp} {p c : Addr} {n : Nat} (h : PenAt H p c n) : ∃ o, H c = Option.some o := by
  obtain ⟨cs, i, z, g1, g2, g3, g4⟩ := h
  exact ⟨_, g3⟩
theorem PenAt.out {H : Hp} {p c a : Addr} {n : Nat} (h : PenAt H p c n) (ha : H a = none) : a ≠ p ∧ a ≠ c := by
  obtain ⟨o, ho⟩ := h.some
  obtain ⟨o', ho'⟩ := h.cells
  exact ⟨(ne_of_none ho ha).symm, (ne_of_none ho' ha).symm⟩
theorem PenAt.ne_strs {H : Hp} {p c a : Addr} {n : Nat} {ts : List Str} (h : PenAt H p c n) (ha : H a = Option.some (.lst (ts.map V.str))) : a ≠ p := by
  obtain ⟨cs, i, z, g1, g2, g3, g4⟩ := h
  refine L2.ne_of ha g4 fun e => ?_
  cases ts with
  | nil => cases e
  | cons x r => cases e
theorem PenAt.ne_refs {H : Hp} {p c a : Addr} {n : Nat} {L : List Addr} (h : PenAt H p c n) (ha : H a = Option.some (.lst (L.map V.ref))) : a ≠ p := by
  obtain ⟨cs, i, z, g1, g2, g3, g4⟩ := h
  refine L2.ne_of ha g4 fun e => ?_
  cases L with
  | nil => cases e
  | cons x r =>
    cases r with
    | nil => cases e
    | cons y r => cases e
theorem PenAt.ne_of {H : Hp} {p c a : Addr} {n : Nat} {o : HO} (h : PenAt H p c n) (ha : H a = Option.some o) (no : ∀ xs, o ≠ .lst xs) : a ≠ p := by
  obtain ⟨cs, i, z, g1, g2, g3, g4⟩ := h
  exact L2.ne_of ha g4 fun e => no _ e
theorem seqIx_nat {k n : Nat} (h : k < n) : seqIndex? (k : Int) n = some k := by
  unfold seqIndex?
  have h0 : ¬ ((k : Int) < 0) := by omega
  simp [h0, h]
theorem ok_some {f : Addr} {fd : FuncData} (D : DefAt K mg "_law_some" s_law_some ["_law_pen_here", "_law_pool", "_law_most"] f fd) (B : Blt mg) (O_law_draw : Ok P w K mg base 2 "_law_draw" ["_law_pen_here", "_law_under"] spDraw) : Ok P w K mg base 3 "_law_some" ["_law_pen_here", "_law_pool", "_law_most"] (spSome K) := by
  refine D.ok (D.fn.ok sc_law_some (fun vs H Q E h => ?_) (fun cdv A outer s H vs Q E hr h => ?_))
  · obtain ⟨p, c, a, n, m, xs, rfl, _⟩ := h
    rfl
  · obtain ⟨p, c, a, n, m, xs, rfl, hP, hn, hS, hz, hm, q⟩ := h
    have nd := sc_law_some.nd
    refine ⟨_, (pss_cons (ps_set (i := 3) nd rfl (Or.inr rfl) (pe_callTy call_list_of (by rfl) B.list (by decide +kernel) (pa_cons (pv 1) pa_nil)))
      (pss_one (ps_ret (pe_lc (own := [("_law_turn", 4)]) (g := gName 4) (tt := tYes) (by rfl) nd (pi_range1 (by rfl) B.range (pa_cons (pe_own O_law_draw (hr.mono (by decide)) (pa_cons (pv 0) (pa_cons (pe_op op_add (pe_callB (call_min2 rfl) (by rfl) B.min (by decide +kernel) (pa_cons (pv 2) (pa_cons (pe_callB call_len_seq (by rfl) B.len PySem.boot_len (pa_cons (pv 3) pa_nil)) pa_nil))) pe_int) pa_nil))) pa_nil)) (blkOk_by (own := [("_law_turn", 4)]) (N := ["_law_pen_here", "_law_pool", "_law_most", "_law_left", "_law_turn"]) (sc := defScope s_law_some) (by decide +kernel)) (fun _ _ _ _ _ => (pg_name (i := 4) nd rfl (Or.inl rfl))) (fun _ _ _ _ _ => pts_nil) (fun _ _ _ _ _ => (pe_bmB K PySem.F.plainAttrs_list PySem.F.slot_list_pop PySem.F.type_list_pop mt_popAt (pv 3) (pa_cons (pe_own O_law_draw (hr.mono (by decide)) (pa_cons (pv 0) (pa_cons (pe_callB (call_lenK K) (by rfl) B.len PySem.boot_len (pa_cons (pv 3) pa_nil)) pa_nil))) pa_nil))))))), ?_⟩
    refine ⟨_, rfl, a, xs, rfl, .inl hS, fun l hl => ?_⟩
    have s1 : Same H (upd H l (.lst xs)) := same_new hl
    have hP1 := hP.same s1
    have hL1 : (upd H l (.lst xs)) l = some (.lst xs) := upd_same
    obtain ⟨npl, ncl⟩ := hP.out hl
    generalize upd H l (.lst xs) = H1 at s1 hP1 hL1 ⊢
    refine ⟨_, rfl, _, rfl, _, rfl, l, xs, rfl, .inl (SqL.of hL1), m, xs.length, rfl, _, _, rfl, rfl, ?_⟩
    obtain ⟨u, hu⟩ : ∃ u : Int, (if (xs.length : Int) < (m : Int) then (xs.length : Int) else (m : Int)) = u := ⟨_, rfl⟩
    have hu0 : 0 ≤ u ∧ u ≤ m ∧ u ≤ xs.length := by
      rw [← hu]
      split <;> omega
    rw [hu]
    refine ⟨p, c, n, u + 1, rfl, hP1, by omega, by omega, by omega, fun d H2 hd0 hd1 b2 hP2 => ?_⟩
    refine ⟨d, rfl, by omega, by omega, fun D hD => ?_⟩
    obtain ⟨nDp, nDc⟩ := hP2.out hD
    have hD1 : H1 D = none := b2.free nDp hD
    have nlD : l ≠ D := ne_of_none hL1 hD1
    have hD0 : H D = none := s1.free hD1
    have hL2 : H2 l = some (.lst xs) := b2 _ _ hL1 npl
    have b02 : But p H H2 := (But.of s1).trans b2
    refine lc_it walk_range (fun i Hc => ∃ ys rest, ys.length = i ∧ (ys ++ rest).Perm xs ∧ Hc l = some (.lst rest) ∧ Hc D = some (.lst ys) ∧ But p H Hc ∧ PenAt Hc p c (n + 1 + i)) ⟨[], xs, rfl, List.Perm.refl _, by rw [upd_ne nlD, hL2], upd_same, b02.trans (But.new hD), hP2.same (same_new hD)⟩ (fun _ _ _ _ => True.intro) ?_ ?_
    · rintro i x Hc H' hi ⟨ys, rest, rfl, hp, h1, h2, b, hPc⟩ ⟨rfl, rfl⟩
      have hlen : ys.length + rest.length = xs.length := by
        have := hp.length_eq
        rwa [List.length_append] at this
      refine ⟨rfl, ?_⟩
      refine ⟨_, rfl, .inl ⟨rfl, _, SqL.of h1⟩, ?_⟩
      refine ⟨_, rfl, _, rfl, l, rest, rfl, .inl (SqL.of h1), ?_⟩
      refine ⟨p, c, _, rest.length, rfl, hPc, by omega, by omega, by omega, fun e H3 he0 he1 b3 hP3 => ?_⟩
      obtain ⟨k, rfl⟩ := Int.eq_ofNat_of_zero_le he0
      have hk : k < rest.length := by omega
      have h1' := b3 _ _ h1 npl
      have h2' := b3 _ _ h2 nDp
      refine ⟨l, rest, k, k, rest[k], rfl, rfl, h1', by omega, by omega, ?_, List.getElem?_eq_getElem hk, ?_⟩
      · exact seqIx_nat hk
      · refine ⟨ys, by rw [upd_ne nlD.symm]; exact h2', by have : sizeLine > 1000 := by decide
                                                           omega, ?_⟩
        refine ⟨ys ++ [rest[k]], rest.eraseIdx k, by rw [List.length_append]; rfl, perm_pop hk hp, ?_, upd_same, ?_, ?_⟩
        · rw [upd_ne nlD, upd_same]
        · intro z o hz nz
          rw [upd_ne (ne_of_none hz hD0), upd_ne (ne_of_none hz hl)]
          exact b3 _ _ (b _ _ hz nz) nz
        · have := (hP3.upd (o := .lst (rest.eraseIdx k)) npl ncl).upd (o := .lst (ys ++ [rest[k]])) nDp nDc
          exact this.le (by omega)
    · rintro Hc ⟨ys, rest, hy, hp, h1, h2, b, hPc⟩
      exact q D Hc _ ys rest b hD0 h2 hp (by omega) hPc (by omega)

def nymPool : List Str := ["a", "ab", "b", "c", "none", "x", "abcdefgh", "settings", "zz"]
theorem pool_nodup : nymPool.Nodup := by decide +kernel
theorem pool_names : ∀ t ∈ nymPool, nameB t = true := by decide +kernel
def spNyms : Sp := fun vs H Q _ => ∃ (p c : Addr) (n m : Nat), vs = [.ref p, .int m] ∧ PenAt H p c n ∧ n ≤ 900000 ∧ m ≤ 1000 ∧
  ∀ r H' n' (ts : List Str), But p H H' → H r = none → H' r = some (.lst (ts.map V.str)) → ts.Nodup → (∀ t ∈ ts, t ∈ nymPool) → ts.length ≤ m → PenAt H' p c n' → n' ≤ n + m + 1 → Q (.ref r) H'
theorem map_of_perm {ys rest : List V} {ts : List Str} (h : (ys ++ rest).Perm (ts.map V.str)) (nd : ts.Nodup) : ∃ us : List Str, ys = us.map V.str ∧ us.Nodup ∧ ∀ t ∈ us, t ∈ ts := by
  have all : ∀ y ∈ ys, ∃ t ∈ ts, V.str t = y := fun y hy => List.mem_map.mp (h.mem_iff.mp (List.mem_append_left _ hy))
  have ndm : (ys ++ rest).Nodup := h.nodup_iff.mpr (by
    refine List.Pairwise.map V.str (fun a b ne e => ne (by injection e)) nd)
  have ndy := (List.nodup_append.mp ndm).1
  clear h ndm
  induction ys with
  | nil => exact ⟨[], rfl, List.nodup_nil, fun _ h => nomatch h⟩
  | cons y r ih =>
    obtain ⟨us, rfl, h1, h2⟩ := ih (fun y hy => all y (List.mem_cons_of_mem _ hy)) (List.nodup_cons.mp ndy).2
    obtain ⟨t, ht, rfl⟩ := all y (List.mem_cons_self ..)
    refine ⟨t :: us, rfl, List.nodup_cons.mpr ⟨fun m => (List.nodup_cons.mp ndy).1 (List.mem_map.mpr ⟨t, m, rfl⟩), h1⟩, fun x hx => ?_⟩
    rcases List.mem_cons.mp hx with rfl | hx
    · exact ht
    · exact h2 x hx
theorem ok_nyms {f : Addr} {fd : FuncData} (D : DefAt K mg "_law_nyms" s_law_nyms ["_law_pen_here", "_law_most"] f fd) (B : Blt mg) (O_law_some : Ok P w K mg base 3 "_law_some" ["_law_pen_here", "_law_pool", "_law_most"] (spSome K)) : Ok P w K mg base 4 "_law_nyms" ["_law_pen_here", "_law_most"] spNyms := by
  refine D.ok (D.fn.ok sc_law_nyms (fun vs H Q E h => ?_) (fun cdv A outer s H vs Q E hr h => ?_))
  · obtain ⟨p, c, n, m, rfl, _⟩ := h
    rfl
  · obtain ⟨p, c, n, m, rfl, hP, hn, hm, q⟩ := h
    refine ⟨_, (pss_one (ps_ret (pe_own O_law_some (hr.mono (by decide)) (pa_cons (pv 0) (pa_cons (pe_lst (pa_cons pe_str (pa_cons pe_str (pa_cons pe_str (pa_cons pe_str (pa_cons pe_str (pa_cons pe_str (pa_cons pe_str (pa_cons pe_str (pa_cons pe_str pa_nil)))))))))) (pa_cons (pv 1) pa_nil)))))), ?_⟩
    refine ⟨_, rfl, by show 9 ≤ sizeLine; decide, fun l hl => ?_⟩
    have s1 : Same H (upd H l (.lst (nymPool.map V.str))) := same_new hl
    refine ⟨_, rfl, p, c, l, n, m, nymPool.map V.str, rfl, hP.same s1, hn, SqL.of upd_same, by decide, hm, fun r H' n' ys rest b nr hr hp hy hP' hn' => ?_⟩
    obtain ⟨us, rfl, h1, h2⟩ := map_of_perm hp pool_nodup
    exact q r H' n' us ((But.of s1).trans b) (s1.free nr) hr h1 h2 (by rwa [List.length_map] at hy) hP' hn'

/-! ### numbers of the settings -/
def goalKV (g : List (Str × Int)) : List (Key × V) := g.map fun x => (Sum.inr x.1, V.int x.2)
theorem mergeK_app : ∀ (more acc : List (Key × V)), ((acc ++ more).map (·.1)).Nodup → mergeK acc more = acc ++ more
  | [], acc, _ => (List.append_nil acc).symm
  | x :: r, acc, h => by
    have h2 : acc ++ x :: r = (acc ++ [x]) ++ r := by rw [List.append_assoc]; rfl
    rw [h2] at h ⊢
    have e : putK acc x.1 x.2 = acc ++ [x] := by
      unfold putK
      rw [if_neg]
      intro z
      obtain ⟨y, hy, e⟩ := List.any_eq_true.mp z
      have e := of_decide_eq_true e
      rw [List.map_append, List.map_append] at h
      have h3 := (List.nodup_append.mp (List.nodup_append.mp h).1).2.2
      exact h3 y.1 (List.mem_map.mpr ⟨y, hy, rfl⟩) x.1 (List.mem_singleton.mpr rfl) e
    show mergeK (putK acc x.1 x.2) r = _
    rw [e]
    exact mergeK_app r (acc ++ [x]) h
theorem goal_keys (g : List (Str × Int)) : (goalKV g).map (·.1) = (g.map (·.1)).map Sum.inr := by
  unfold goalKV
  rw [List.map_map, List.map_map]
  rfl
theorem goal_merge {g : List (Str × Int)} (h : (g.map (·.1)).Nodup) : mergeK [] (goalKV g) = goalKV g := by
  refine (mergeK_app (goalKV g) [] ?_).trans (List.nil_append _)
  rw [List.nil_append, goal_keys]
  exact List.Pairwise.map Sum.inr (fun a b ne e => ne (by injection e)) h
def spGoal (K : PySem.W.Frag) : Sp := fun vs H Q _ => ∃ (p c a : Addr) (n : Nat) (ts : List Str), vs = [.ref p, .ref a] ∧ PenAt H p c n ∧ n ≤ 900000 ∧ H a = some (.lst (ts.map V.str)) ∧ ts.Nodup ∧ ts.length < 1000 ∧
  ∀ r H' n' (g : List (Str × Int)), But p H H' → H r = none → H' r = some (.dK (goalKV g)) → g.map (·.1) = ts → (∀ x ∈ g, -900 ≤ x.2 ∧ x.2 ≤ 900) → PenAt H' p c n' → n' ≤ n + ts.length + 1 → Q (.ref r) H'
theorem pick {xs : List Int} {d : Int} (h0 : 0 ≤ d) (h1 : d < xs.length) : ∃ w, w ∈ xs ∧ atI (xs.map V.int) d = some (.int w) := by
  obtain ⟨k, rfl⟩ := Int.eq_ofNat_of_zero_le h0
  have hk : k < xs.length := by omega
  exact ⟨xs[k], List.getElem_mem hk, atI_nat (by rw [List.getElem?_map, List.getElem?_eq_getElem hk]; rfl)⟩
theorem ok_goal {f : Addr} {fd : FuncData} (D : DefAt K mg "_law_goal" s_law_goal ["_law_pen_here", "_law_nyms_here"] f fd) (B : Blt mg) (O_law_draw : Ok P w K mg base 2 "_law_draw" ["_law_pen_here", "_law_under"] spDraw) : Ok P w K mg base 3 "_law_goal" ["_law_pen_here", "_law_nyms_here"] (spGoal K) := by
  refine D.ok (D.fn.ok sc_law_goal (fun vs H Q E h => ?_) (fun cdv A outer s H vs Q E hr h => ?_))
  · obtain ⟨p, c, a, n, ts, rfl, _⟩ := h
    rfl
  · obtain ⟨p, c, a, n, ts, rfl, hP, hn, hS, nodup, hz, q⟩ := h
    have nd := sc_law_goal.nd
    refine ⟨_, (pss_cons (ps_set (i := 2) nd rfl (Or.inr rfl) (pe_ix ix_list (pe_lst (pa_cons pe_int (pa_cons pe_int (pa_cons pe_int (pa_cons pe_int pa_nil))))) (pe_own O_law_draw (hr.mono (by decide)) (pa_cons (pv 0) (pa_cons pe_int pa_nil))) (fun _ _ => rfl)))
      (pss_one (ps_ret (pe_callTy (call_dictP rfl) (by rfl) B.dict (by decide +kernel) (pa_cons (pe_lc (own := [("_law_nym", 3)]) (g := gName 3) (tt := tYes) (by rfl) nd (pi_list (pv 1)) (blkOk_by (own := [("_law_nym", 3)]) (N := ["_law_pen_here", "_law_nyms_here", "_law_wide", "_law_nym"]) (sc := defScope s_law_goal) (by decide +kernel)) (fun _ _ _ _ _ => (pg_name (i := 3) nd rfl (Or.inl rfl))) (fun _ _ _ _ _ => pts_nil) (fun _ _ _ _ _ => (pe_tup (pa_cons (pv 3) (pa_cons (pe_op op_sub (pe_own O_law_draw (hr.mono (by decide)) (pa_cons (pv 0) (pa_cons (pv 2) pa_nil))) (pe_op op_fdiv (pv 2) pe_int)) pa_nil))))) pa_nil))))), ?_⟩
    refine ⟨by show 4 ≤ sizeLine; decide, fun l hl => ?_⟩
    obtain ⟨npl, ncl⟩ := hP.out hl
    have s1 : Same H (upd H l (.lst ([3, 5, 11, 1801].map V.int))) := same_new hl
    refine ⟨_, rfl, p, c, n, 4, rfl, hP.same s1, by omega, by omega, by omega, fun d H2 hd0 hd1 b2 hP2 => ?_⟩
    obtain ⟨wd, hw, he⟩ := pick (xs := [3, 5, 11, 1801]) hd0 hd1
    have hw0 : 3 ≤ wd ∧ wd ≤ 1801 := by
      simp only [List.mem_cons, List.not_mem_nil, or_false] at hw
      omega
    refine ⟨l, _, d, _, rfl, rfl, SqL.of (b2 _ _ upd_same npl), he, ?_⟩
    have b02 := (But.of s1).trans b2
    have nap := hP.ne_strs hS
    have hS2 := b02 _ _ hS nap
    refine ⟨_, rfl, a, rfl, ⟨_, SqL.of hS2⟩, fun D hD => ?_⟩
    obtain ⟨nDp, nDc⟩ := hP2.out hD
    have hD0 : H D = none := b02.free nDp hD
    refine lc_it walk_list (fun i Hc => ∃ (ps : List Addr) (g : List (Str × Int)), g.map (·.1) = ts.take i ∧ (∀ x ∈ g, -900 ≤ x.2 ∧ x.2 ≤ 900) ∧ Paired (fun u x => Hc u = some (.tup [.str x.1, .int x.2])) ps g ∧ Hc D = some (.lst (ps.map V.ref)) ∧ But p H Hc ∧ PenAt Hc p c (n + 1 + i))
      ⟨[], [], rfl, (fun _ h => nomatch h), .nil, upd_same, b02.trans (But.new hD), hP2.same (same_new hD)⟩ (fun i Hc _ ⟨_, _, _, _, _, _, b, _⟩ => SqL.of (b _ _ hS nap)) ?_ ?_
    · rintro i x Hc H' hi ⟨ps, g, hg, hb, hp, h2, b, hPc⟩ ⟨rfl, hx⟩
      obtain ⟨t, ht, rfl⟩ := get_map hx
      have hpl : ps.length = i := by
        have h1 := hp.length
        have h2 : (g.map (·.1)).length = (ts.take i).length := by rw [hg]
        rw [List.length_map, List.length_take] at h2
        rw [List.length_map] at hi
        omega
      refine ⟨rfl, ?_⟩
      refine ⟨_, rfl, ?_⟩
      have hi' : i < ts.length := by rwa [List.length_map] at hi
      refine ⟨_, rfl, _, rfl, p, c, _, wd, rfl, hPc, by omega, by omega, by omega, fun e H3 he0 he1 b3 hP3 => ?_⟩
      refine ⟨_, rfl, wd, 2, rfl, rfl, ⟨by decide, by decide⟩, _, _, rfl, rfl, by show 2 ≤ sizeLine; decide, fun T hT => ?_⟩
      have h2' := b3 _ _ h2 nDp
      have nDT : D ≠ T := ne_of_none h2' hT
      obtain ⟨nTp, nTc⟩ := hP3.out hT
      refine ⟨ps.map V.ref, by rw [upd_ne nDT]; exact h2', by rw [List.length_map]; have : sizeLine > 1000 := by decide
                                                              omega, ps ++ [T], g ++ [(t, e - wd / 2)], ?_, ?_, ?_, ?_, ?_, ?_⟩
      · rw [List.map_append, hg, List.take_add_one, ht]
        rfl
      · intro x hx
        rcases List.mem_append.mp hx with hx | hx
        · exact hb x hx
        · rw [List.mem_singleton.mp hx]
          show -900 ≤ e - wd / 2 ∧ e - wd / 2 ≤ 900
          omega
      · refine Paired.snoc (Paired.mono (fun u x hu => ?_) hp) ?_
        · have hu3 := b3 _ _ hu (hPc.ne_of hu fun xs z => nomatch z)
          rw [upd_ne (ne_of hu3 h2' fun z => nomatch z), upd_ne (ne_of_none hu3 hT)]
          exact hu3
        · rw [upd_ne nDT.symm]
          exact upd_same
      · rw [upd_same, List.map_append]
        rfl
      · intro z o hz nz
        rw [upd_ne (ne_of_none hz hD0), upd_ne (ne_of_none (b3 _ _ (b _ _ hz nz) nz) hT)]
        exact b3 _ _ (b _ _ hz nz) nz
      · exact ((hP3.same (same_new hT)).upd nDp nDc).le (by omega)
    · rintro Hc ⟨ps, g, hg, hb, hp, h2, b, hPc⟩
      rw [List.length_map, List.take_length] at hg
      have nodg : (g.map (·.1)).Nodup := by rw [hg]; exact nodup
      have hp2 : ∀ {ps : List Addr} {g : List (Str × Int)}, Paired (fun u x => Hc u = some (.tup [.str x.1, .int x.2])) ps g → Paired (fun u (kv : Key × V) => SqT K Hc u [kV kv.1, kv.2]) ps (goalKV g) := by
        intro ps g h
        induction h with
        | nil => exact .nil
        | cons h1 h2 ih => exact .cons (SqT.of h1) ih
      refine ⟨D, ps, goalKV g, rfl, SqL.of h2, hp2 hp, fun r hr' => ?_⟩
      rw [goal_merge nodg]
      exact q r _ _ g (b.trans (But.new hr')) ((b.trans (But.refl _ _)).free (hPc.out hr').1 hr') upd_same hg hb (hPc.same (same_new hr')) (by rw [List.length_map]; omega)

/-- the number of an end -/
def valG (g : List (Str × Int)) : Option Str → Int
  | none => 0
  | some t => (g.lookup t).getD 0
def spAt : Sp := fun vs H Q _ => ∃ (d : Addr) (g : List (Str × Int)) (e : Option Str), vs = [.ref d, endV e] ∧ H d = some (.dK (goalKV g)) ∧ (∀ t, e = some t → t ∈ g.map (·.1)) ∧ Q (.int (valG g e)) H
theorem goal_val {t : Str} : ∀ {g : List (Str × Int)}, t ∈ g.map (·.1) → valV (goalKV g) (Sum.inr t) = some (.int (valG g (some t)))
  | [], h => nomatch h
  | (a, b) :: r, h => by
    by_cases e : a = t
    · have h1 : valV (goalKV ((a, b) :: r)) (Sum.inr t) = some (.int b) := valV_pos (κ := Key) (p := (Sum.inr a, V.int b)) (r := goalKV r) (congrArg Sum.inr e)
      rw [h1]
      show some (V.int b) = some (V.int ((List.lookup t ((a, b) :: r)).getD 0))
      rw [List.lookup_cons, show (t == a) = true from beq_iff_eq.mpr e.symm]
      rfl
    · have h2 : t ∈ r.map (·.1) := by
        rcases List.mem_cons.mp h with h | h
        · exact absurd h.symm e
        · exact h
      have h1 : valV (goalKV ((a, b) :: r)) (Sum.inr t) = valV (goalKV r) (Sum.inr t) := by
        unfold goalKV valV
        rw [List.map_cons, List.find?_cons]
        have : decide ((Sum.inr a : Key) = Sum.inr t) = false := decide_eq_false fun z => e (by injection z)
        simp only [this]
      rw [h1, goal_val h2]
      show some (V.int ((List.lookup t r).getD 0)) = some (V.int ((List.lookup t ((a, b) :: r)).getD 0))
      rw [List.lookup_cons, show (t == a) = false from beq_eq_false_iff_ne.mpr fun z => e z.symm]
theorem ok_at {f : Addr} {fd : FuncData} (D : DefAt K mg "_law_at" s_law_at ["_law_held", "_law_thing"] f fd) : Ok P w K mg base 1 "_law_at" ["_law_held", "_law_thing"] spAt := by
  refine D.ok (D.fn.ok sc_law_at (fun vs H Q E h => ?_) (fun cdv A outer s H vs Q E hr h => ?_))
  · obtain ⟨d, g, e, rfl, _⟩ := h
    rfl
  · obtain ⟨d, g, e, rfl, hd, hm, q⟩ := h
    have hu := hu_of hr
    refine ⟨_, (pss_one (ps_ret (pe_ifExp (pt_cmpR op_isN (pv 1) pe_non (nomark _)) pe_int (pe_dget hu (pv 0) (pv 1) (fun _ _ => rfl))))), ?_⟩
    refine ⟨_, rfl, rfl, _, rfl, ?_⟩
    cases e with
    | none => exact q
    | some t =>
      refine iteF ?_
      exact ⟨_, rfl, _, rfl, d, _, rfl, by
        have := DGet.k (k := Sum.inr t) hd
        rwa [goal_val (hm t rfl)] at this, q⟩

/-! ### rules that all of some numbers keep -/
def Holds (g : List (Str × Int)) (r : Rule) : Prop := valG g r.low + r.gap ≤ valG g r.high
def GoalsAt (H : Hp) (b : Addr) (gs : List (Addr × List (Str × Int))) : Prop := H b = some (.lst (gs.map fun x => V.ref x.1)) ∧ ∀ x ∈ gs, H x.1 = some (.dK (goalKV x.2))
def spGaps : Sp := fun vs H Q _ => ∃ (p c a b : Addr) (n m : Nat) (ts : List Str) (gs : List (Addr × List (Str × Int))), vs = [.ref p, .ref a, .ref b, .int m] ∧ PenAt H p c n ∧ n ≤ 800000 ∧ H a = some (.lst (ts.map V.str)) ∧ NamesOk ts ∧
  GoalsAt H b gs ∧ (∀ x ∈ gs, x.2.map (·.1) = ts) ∧ 0 < gs.length ∧ gs.length ≤ 60 ∧ m ≤ 1000 ∧
  ∀ r H' n' (rs : List (Rule × Addr)), But p H H' → H r = none → H' r = some (.lst (rs.map fun x => V.ref x.2)) → KeyTups H' rs → (∀ x ∈ rs, RuleOk ts x.1) → (∀ x ∈ rs, ∀ g ∈ gs, Holds g.2 x.1) → rs.length ≤ 2 * m → PenAt H' p c n' → n' ≤ n + 1 + 4 * m → Q (.ref r) H'
def endsOf (ts : List Str) : List (Option Str) := none :: ts.map some
theorem map_erase {α β : Type} (f : α → β) : ∀ (l : List α) (k : Nat), (l.eraseIdx k).map f = (l.map f).eraseIdx k
  | [], _ => rfl
  | _ :: _, 0 => rfl
  | x :: l, k + 1 => congrArg (f x :: ·) (map_erase f l k)
theorem ends_eq (ts : List Str) : [V.non] ++ ts.map V.str = (endsOf ts).map endV := by
  unfold endsOf
  rw [List.map_cons, List.map_map]
  rfl
/-- where the loop stands before its turn i: rs are found -/
structure GapsAt (p c a b : Addr) (n m : Nat) (ts : List Str) (gs : List (Addr × List (Str × Int))) (fo th : Addr) (H : Hp) (i : Nat) (rs : List (Rule × Addr)) (Hc : Hp) : Prop where
  found : Hc fo = some (.lst (rs.map fun x => V.ref x.2))
  keys : KeyTups Hc rs
  ok : ∀ x ∈ rs, RuleOk ts x.1
  holds : ∀ x ∈ rs, ∀ g ∈ gs, Holds g.2 x.1
  len : rs.length ≤ 2 * i
  but : But p H Hc
  things : Hc th = some (.lst ([V.non] ++ ts.map V.str))
  pen : PenAt Hc p c (n + 1 + 4 * i)
/-- what is found, the things and the spans, at a heap in the turn -/
structure Fnd (p c fo th D : Addr) (H : Hp) (tl sl : List V) (k : Nat) (rs : List (Rule × Addr)) (X : Hp) : Prop where
  found : X fo = some (.lst (rs.map fun x => V.ref x.2))
  keys : KeyTups X rs
  but : But p H X
  things : X th = some (.lst tl)
  spans : X D = some (.lst sl)
  pen : PenAt X p c k
theorem Fnd.but' {p c fo th D : Addr} {H X Y : Hp} {tl sl : List V} {j k : Nat} {rs : List (Rule × Addr)} (F : Fnd p c fo th D H tl sl k rs X) (b : But p X Y) (P : PenAt Y p c j) (nfp : fo ≠ p) (ntp : th ≠ p) (nDp : D ≠ p) : Fnd p c fo th D H tl sl j rs Y :=
  ⟨b _ _ F.found nfp, fun x hx => b _ _ (F.keys x hx) (F.pen.ne_of (F.keys x hx) fun xs z => nomatch z), F.but.trans b, b _ _ F.things ntp, b _ _ F.spans nDp, P⟩
theorem Fnd.more {p c fo th D T : Addr} {H X : Hp} {tl sl : List V} {k : Nat} {rs : List (Rule × Addr)} {r : Rule} (F : Fnd p c fo th D H tl sl k rs X) (hT : X T = none) (hfo : H fo = none) (nfp : fo ≠ p) (nfc : fo ≠ c) (nft : fo ≠ th) (nfD : fo ≠ D) :
    Fnd p c fo th D H tl sl k (rs ++ [(r, T)]) (upd (upd X T (.tup (ruleV r))) fo (.lst (rs.map (fun x => V.ref x.2) ++ [.ref T]))) := by
  have sT : Same X (upd X T (.tup (ruleV r))) := same_new hT
  refine ⟨?_, fun x hx => ?_, fun z o hz nz => ?_, ?_, ?_, (F.pen.same sT).upd nfp nfc⟩
  · rw [upd_same, List.map_append]
    rfl
  · have h : (upd X T (.tup (ruleV r))) x.2 = some (.tup (ruleV x.1)) := by
      rcases List.mem_append.mp hx with hx | hx
      · exact sT _ _ (F.keys x hx)
      · rw [List.mem_singleton.mp hx]
        exact upd_same
    rw [upd_ne (ne_of h (sT _ _ F.found) fun z => nomatch z)]
    exact h
  · rw [upd_ne (ne_of_none hz hfo)]
    exact sT _ _ (F.but _ _ hz nz)
  · rw [upd_ne nft.symm]
    exact sT _ _ F.things
  · rw [upd_ne nfD.symm]
    exact sT _ _ F.spans
theorem twoWays {Goal : Prop} {G C : Int → Hp → Prop} (h1 : (∀ j He, C j He → G j He) → Goal) (h2 : ∀ j He, C j He → G j He) : Goal := h1 h2
theorem ok_gaps {f : Addr} {fd : FuncData} (D : DefAt K mg "_law_gaps" s_law_gaps ["_law_pen_here", "_law_nyms_here", "_law_goals", "_law_most"] f fd) (B : Blt mg) (O_law_draw : Ok P w K mg base 2 "_law_draw" ["_law_pen_here", "_law_under"] spDraw) (O_law_at : Ok P w K mg base 1 "_law_at" ["_law_held", "_law_thing"] spAt) :
    Ok P w K mg base 3 "_law_gaps" ["_law_pen_here", "_law_nyms_here", "_law_goals", "_law_most"] spGaps := by
  refine D.ok (D.fn.ok sc_law_gaps (fun vs H Q E h => ?_) (fun cdv A outer s H vs Q E hr h => ?_))
  · obtain ⟨p, c, a, b, n, m, ts, gs, rfl, _⟩ := h
    rfl
  · obtain ⟨p, c, a, b, n, m, ts, gs, rfl, hP, hn, hA, N, hG, hgt, hg0, hg1, hm, q⟩ := h
    have nd := sc_law_gaps.nd
    refine ⟨_, (pss_cons (ps_set (i := 4) nd rfl (Or.inl rfl) (pe_lst pa_nil))
      (pss_cons (ps_set (i := 5) nd rfl (Or.inl rfl) (pe_op op_cat (pe_lst (pa_cons pe_non pa_nil)) (pe_callTy call_list_of (by rfl) B.list (by decide +kernel) (pa_cons (pv 1) pa_nil))))
      (pss_cons (ps_for PassesOwn.never rfl (pi_range1 (by rfl) B.range (pa_cons (pe_ifExp (pt_cmpR (op_neD (hu_of64 hr)) (pv 1) (pe_lst pa_nil) (nomark _)) (pe_own O_law_draw (hr.mono (by decide)) (pa_cons (pv 0) (pa_cons (pe_op op_add (pv 3) pe_int) pa_nil))) pe_int) pa_nil)) (pg_name (i := 6) nd rfl (Or.inl rfl)) (pss_cons (ps_set (i := 7) nd rfl (Or.inl rfl) (pe_callTy call_list_of (by rfl) B.list (by decide +kernel) (pa_cons (pv 5) pa_nil)))
      (pss_cons (ps_asg (pe_tup (pa_cons (pe_bm PySem.F.plainAttrs_list PySem.F.slot_list_pop PySem.F.type_list_pop mt_popAt (pv 7) (pa_cons (pe_own O_law_draw (hr.mono (by decide)) (pa_cons (pv 0) (pa_cons (pe_callB call_len_seq (by rfl) B.len PySem.boot_len (pa_cons (pv 7) pa_nil)) pa_nil))) pa_nil)) (pa_cons (pe_ix ix_list (pv 7) (pe_own O_law_draw (hr.mono (by decide)) (pa_cons (pv 0) (pa_cons (pe_callB call_len_seq (by rfl) B.len PySem.boot_len (pa_cons (pv 7) pa_nil)) pa_nil))) (fun _ _ => rfl)) pa_nil))) (pg_tup rfl (pgs_cons (pg_name (i := 8) nd rfl (Or.inr rfl)) (pgs_cons (pg_name (i := 9) nd rfl (Or.inr rfl)) pgs_nil))))
      (pss_cons (ps_setLc (i := 10) (own := [("_law_goal_here", 12)]) (g := gName 12) (tt := tYes) (by rfl) nd rfl rfl (sw_true rfl rfl rfl (by decide +kernel)) (pi_list (pv 2)) (blkOk_by (own := [("_law_goal_here", 12)]) (N := ["_law_pen_here", "_law_nyms_here", "_law_goals", "_law_most", "_law_found", "_law_things", "_law_turn", "_law_left", "_law_first", "_law_second", "_law_spans", "_law_gap", "_law_goal_here"]) (sc := defScope s_law_gaps) (by decide +kernel)) (fun _ _ _ _ _ => (pg_name (i := 12) nd rfl (Or.inl rfl))) (fun _ _ _ _ _ => pts_nil) (fun _ _ _ _ _ => (pe_op op_sub (pe_own O_law_at (hr.mono (by decide)) (pa_cons (pv 12) (pa_cons (pv 9) pa_nil))) (pe_own O_law_at (hr.mono (by decide)) (pa_cons (pv 12) (pa_cons (pv 8) pa_nil))))))
      (pss_cons (ps_set (i := 11) nd rfl (Or.inl rfl) (pe_callB (call_max2 rfl) (by rfl) B.max (by decide +kernel) (pa_cons (pe_un un_neg pe_int) (pa_cons (pe_op op_sub (pe_callB (cr_min rfl) (by rfl) B.min (by decide +kernel) (pa_cons (pv 10) pa_nil)) (pe_ix ix_list (pe_lst (pa_cons pe_int (pa_cons pe_int (pa_cons pe_int (pa_cons pe_int (pa_cons pe_int (pa_cons pe_int pa_nil))))))) (pe_own O_law_draw (hr.mono (by decide)) (pa_cons (pv 0) (pa_cons pe_int pa_nil))) (fun _ _ => rfl))) pa_nil))))
      (C8.pss_cut (ps_if (PW.pt (pw_and (pt_cmpR op_le (pv 11) pe_int (nomark _)) (pw_and1 (pt_cmpR op_le (pv 11) (pe_callB (cr_min rfl) (by rfl) B.min (by decide +kernel) (pa_cons (pv 10) pa_nil)) (nomark _))))) (pss_one (ps_expr (pe_bm PySem.F.plainAttrs_list PySem.F.slot_list_append PySem.F.type_list_append mt_append (pv 4) (pa_cons (pe_tup (pa_cons (pv 8) (pa_cons (pv 9) (pa_cons (pv 11) pa_nil)))) pa_nil)))) pss_nil)
      (pss_one (ps_if (PW.pt (pw_and (pt_cmpR op_eq (pe_own O_law_draw (hr.mono (by decide)) (pa_cons (pv 0) (pa_cons pe_int pa_nil))) pe_int (nomark _)) (pw_and1 (pt_chain op_le op_le (pe_un un_neg pe_int) (pe_callB (cr_max rfl) (by rfl) B.max (by decide +kernel) (pa_cons (pv 10) pa_nil)) pe_int)))) (pss_one (ps_expr (pe_bm PySem.F.plainAttrs_list PySem.F.slot_list_append PySem.F.type_list_append mt_append (pv 4) (pa_cons (pe_tup (pa_cons (pv 9) (pa_cons (pv 8) (pa_cons (pe_op op_sub pe_int (pe_callB (cr_max rfl) (by rfl) B.max (by decide +kernel) (pa_cons (pv 10) pa_nil))) pa_nil)))) pa_nil)))) pss_nil))))))))
      (pss_one (ps_ret (pv 4)))))), ?_⟩
    -- found = []
    refine ⟨Nat.zero_le _, fun fo hfo => ?_⟩
    -- things = [None] + list(nyms)
    refine ⟨by show 1 ≤ sizeLine; decide, fun l1 hl1 => ?_⟩
    have sa : Same H (upd H fo (.lst [])) := same_new hfo
    have sb := sa.trans (same_new (o := .lst [.non]) hl1)
    refine ⟨_, rfl, a, _, rfl, .inl (SqL.of (sb _ _ hA)), fun l2 hl2 => ?_⟩
    have sc := sb.trans (same_new (o := .lst (ts.map V.str)) hl2)
    have hl1' := same_new (o := .lst (ts.map V.str)) hl2 _ _ (upd_same (H := upd H fo (.lst [])) (a := l1) (o := .lst [.non]))
    have hfo' := same_new (o := .lst (ts.map V.str)) hl2 _ _ (same_new (o := .lst [.non]) hl1 _ _ (upd_same (H := H) (a := fo) (o := .lst [])))
    refine ⟨l1, l2, _, _, rfl, rfl, hl1', upd_same, ?_, fun th hth => ?_⟩
    · have := N.2.2
      have : sizeLine > 1000 := by decide
      simp only [List.length_map, List.length_cons, List.length_nil]
      omega
    have sd := sc.trans (same_new (o := .lst ([V.non] ++ ts.map V.str)) hth)
    have hfo2 := same_new (o := .lst ([V.non] ++ ts.map V.str)) hth _ _ hfo'
    have hth2 := upd_same (H := (upd (upd (upd H fo (.lst [])) l1 (.lst [.non])) l2 (.lst (ts.map V.str)))) (a := th) (o := .lst ([V.non] ++ ts.map V.str))
    have nft : fo ≠ th := ne_of_none hfo' hth
    obtain ⟨nfp, nfc⟩ := hP.out hfo
    have nth := sc.free hth
    obtain ⟨ntp, ntc⟩ := hP.out nth
    have hPd := hP.same sd
    generalize upd (upd (upd (upd H fo (.lst [])) l1 (.lst [.non])) l2 (.lst (ts.map V.str))) th (.lst ([V.non] ++ ts.map V.str)) = Hd at sd hfo2 hth2 hPd ⊢
    clear hfo' hl1' sa sb sc hl1 hl2 hth
    apply twoWays (C := fun (j : Int) (He : Hp) => 0 ≤ j ∧ j ≤ m ∧ (ts = [] → j = 0) ∧ (But p Hd He) ∧ PenAt He p c (n + 1))
    · intro key
      refine ⟨_, rfl, Nat.zero_le _, fun l3 hl3 => ?_⟩
      have se := same_new (o := .lst []) hl3
      refine ⟨_, _, .lst (SqL.of (se _ _ (sd _ _ hA))) (dp_strs ts), .lst (SqL.of upd_same) .nil, shaped_strs ts (fun t ht => name_strOk (N.2.1 t ht)), rfl, _, rfl, ?_⟩
      refine ite2 (fun e => ?_) (fun e => ?_)
      · refine ⟨_, rfl, _, rfl, m, 1, rfl, rfl, p, c, n, (m : Int) + 1, rfl, hPd.same se, by omega, by omega, by omega, fun d H2 hd0 hd1 b2 hP2 => ?_⟩
        refine ⟨d, rfl, by omega, by omega, ?_⟩
        exact key d H2 ⟨hd0, by omega, (fun z => by
          rw [z] at e
          cases e), (But.of se).trans b2, hP2⟩
      · refine ⟨0, rfl, by decide, by decide, ?_⟩
        exact key 0 _ ⟨Int.le_refl _, by omega, fun _ => rfl, But.of se, (hPd.same se).le (Nat.le_succ _)⟩
    · rintro j He ⟨hj0, hj1, hj2, be, hPe⟩
      have bHe := (But.of sd).trans be
      have nap := hP.ne_strs hA
      have nbp : b ≠ p := hP.ne_refs (L := gs.map (·.1)) (by rw [List.map_map]; exact hG.1)
      have ndp : ∀ x ∈ gs, x.1 ≠ p := fun x hx => hP.ne_of (hG.2 x hx) fun xs z => nomatch z
      refine for_it walk_range (fun i σ Hc => ∃ (rs : List (Rule × Addr)) (o6 o7 o8 o9 o10 o11 o12 : Option V), σ = [some (.ref p), some (.ref a), some (.ref b), some (.int m), some (.ref fo), some (.ref th), o6, o7, o8, o9, o10, o11, o12] ∧ GapsAt p c a b n m ts gs fo th H i rs Hc)
        ⟨[], none, none, none, none, none, none, none, rfl, be _ _ hfo2 nfp, fun _ h => (List.not_mem_nil h).elim, fun _ h => (List.not_mem_nil h).elim, fun _ h => (List.not_mem_nil h).elim, Nat.le_refl _, bHe, be _ _ hth2 ntp, hPe⟩ (fun _ _ _ _ _ => True.intro) ?_ ?_
      · rintro i x σ Hc H' hi ⟨rs, o6, o7, o8, o9, o10, o11, o12, rfl, I⟩ ⟨rfl, rfl⟩
        -- left = list(things)
        refine ⟨_, rfl, th, _, rfl, .inl (SqL.of I.things), fun lf hlf => ?_⟩
        have hne : ts ≠ [] := fun z => by
          have := hj2 z
          omega
        have hts : 0 < ts.length := List.length_pos_iff.mpr hne
        rw [ends_eq ts]
        have hlen : (endsOf ts).length = ts.length + 1 := by rw [endsOf, List.length_cons, List.length_map]
        have b1 : But p H' (upd H' lf (.lst ((endsOf ts).map endV))) := But.new hlf
        have g1 : (upd H' lf (.lst ((endsOf ts).map endV))) lf = some (.lst ((endsOf ts).map endV)) := upd_same
        have P1 := I.pen.same (same_new (o := .lst ((endsOf ts).map endV)) hlf)
        obtain ⟨nlp, nlc⟩ := I.pen.out hlf
        generalize upd H' lf (.lst ((endsOf ts).map endV)) = H1 at b1 g1 P1 ⊢
        -- first, second = left.pop(draw(len(left))), left[draw(len(left))]
        refine ⟨_, rfl, .inl ⟨rfl, _, SqL.of g1⟩, _, rfl, _, rfl, lf, _, rfl, .inl (SqL.of g1), ?_⟩
        rw [List.length_map, hlen]
        have := N.2.2
        refine ⟨p, c, _, _, rfl, P1, by omega, by omega, by omega, fun d H2 hd0 hd1 b2 P2 => ?_⟩
        obtain ⟨k, rfl⟩ := Int.eq_ofNat_of_zero_le hd0
        have hk : k < (endsOf ts).length := by omega
        have g2 := b2 _ _ g1 nlp
        refine ⟨lf, _, k, k, endV (endsOf ts)[k], rfl, rfl, g2, by omega, by omega, seqIx_nat (by rwa [List.length_map]), by rw [List.getElem?_map, List.getElem?_eq_getElem hk]; rfl, ?_⟩
        have e3 : ((endsOf ts).map endV).eraseIdx k = ((endsOf ts).eraseIdx k).map endV := (map_erase _ _ _).symm
        rw [e3]
        have g3 : (upd H2 lf (.lst (((endsOf ts).eraseIdx k).map endV))) lf = some (.lst (((endsOf ts).eraseIdx k).map endV)) := upd_same
        have P3 := P2.upd (o := .lst (((endsOf ts).eraseIdx k).map endV)) nlp nlc
        have b3 : But p H' (upd H2 lf (.lst (((endsOf ts).eraseIdx k).map endV))) := fun z o hz nz => by
          rw [upd_ne (ne_of_none hz hlf)]
          exact b2 _ _ (b1 _ _ hz nz) nz
        have n3 : ∀ z, (upd H2 lf (.lst (((endsOf ts).eraseIdx k).map endV))) z = none → z ≠ p → H' z = none := fun z hz nz => b3.free nz hz
        generalize upd H2 lf (.lst (((endsOf ts).eraseIdx k).map endV)) = H3 at g3 P3 b3 n3 ⊢
        have hlen3 : ((endsOf ts).eraseIdx k).length = ts.length := by rw [List.length_eraseIdx_of_lt hk]; omega
        refine ⟨_, rfl, _, rfl, _, rfl, lf, _, rfl, .inl (SqL.of g3), ?_⟩
        rw [List.length_map, hlen3]
        refine ⟨p, c, _, _, rfl, P3, by omega, by omega, by omega, fun d2 H4 he0 he1 b4 P4 => ?_⟩
        obtain ⟨k2, rfl⟩ := Int.eq_ofNat_of_zero_le he0
        have hk2 : k2 < ((endsOf ts).eraseIdx k).length := by omega
        refine ⟨lf, _, k2, endV ((endsOf ts).eraseIdx k)[k2], rfl, rfl, SqL.of (b4 _ _ g3 nlp), atI_nat (by rw [List.getElem?_map, List.getElem?_eq_getElem hk2]; rfl), by show 2 ≤ sizeLine; decide, fun T hT => ?_⟩
        have e12 : (endsOf ts)[k] ≠ ((endsOf ts).eraseIdx k)[k2] := fun z => by
          have pm := cons_erase (endsOf ts) k hk
          have nd2 : (endsOf ts).Nodup := List.nodup_cons.mpr ⟨(fun z => by
            obtain ⟨y, _, z⟩ := List.mem_map.mp z
            cases z), List.Pairwise.map some (fun a b ne (e : some a = some b) => ne (by injection e)) N.1⟩
          exact (List.nodup_cons.mp (pm.nodup_iff.mpr nd2)).1 (z ▸ List.getElem_mem hk2)
        have m1 : (endsOf ts)[k] ∈ endsOf ts := List.getElem_mem hk
        have m2 : ((endsOf ts).eraseIdx k)[k2] ∈ endsOf ts := List.mem_of_mem_eraseIdx (List.getElem_mem hk2)
        refine ⟨T, _, rfl, SqT.of upd_same, rfl, _, _, rfl, _, _, rfl, rfl, ?_⟩
        have b5 : But p H' (upd H4 T (.tup [endV (endsOf ts)[k], endV ((endsOf ts).eraseIdx k)[k2]])) := (b3.trans b4).trans (But.new hT)
        have P5 := P4.same (same_new (o := .tup [endV (endsOf ts)[k], endV ((endsOf ts).eraseIdx k)[k2]]) hT)
        generalize (endsOf ts)[k] = e1 at e12 m1 b5 P5 ⊢
        generalize ((endsOf ts).eraseIdx k)[k2] = e2 at e12 m2 b5 P5 ⊢
        generalize upd H4 T (.tup [endV e1, endV e2]) = H5 at b5 P5 ⊢
        clear b4 P4 hT T g3 P3 b3 n3 H4 he0 he1 hk2 k2 hlen3 e3 g2 hk hd0 hd1 k P2 b2 H2 P1 g1 b1 H1 H3
        -- spans
        have bH5 := I.but.trans b5
        have hB5 := bH5 _ _ hG.1 nbp
        have hG5 : ∀ x ∈ gs, H5 x.1 = some (.dK (goalKV x.2)) := fun x hx => bH5 _ _ (hG.2 x hx) (ndp x hx)
        refine ⟨_, rfl, b, rfl, ⟨_, SqL.of hB5⟩, fun D hD => ?_⟩
        refine lc_map walk_list hD (gs.map fun x => V.int (valG x.2 e2 - valG x.2 e1)) (by simp only [List.length_map]) (by
          have : sizeLine > 1000 := by decide
          simp only [List.length_map]
          omega) (fun H6 s6 => SqL.of (s6 _ _ hB5)) ?_ ?_
        · rintro i2 x H6 H7 hi2 R L s6 ⟨rfl, hx⟩ hR
          have hi2' : i2 < gs.length := by rwa [List.length_map] at hi2
          rw [List.getElem?_map, List.getElem?_eq_getElem hi2'] at hx
          cases hx
          rw [List.getElem_map] at hR
          have mg2 := List.getElem_mem hi2'
          have hin : ∀ (e : Option Str), e ∈ endsOf ts → ∀ t, e = some t → t ∈ gs[i2].2.map (·.1) := by
            rintro e he t rfl
            rw [hgt _ mg2]
            rcases List.mem_cons.mp he with z | z
            · cases z
            · obtain ⟨y, hy, z⟩ := List.mem_map.mp z
              cases z
              exact hy
          refine ⟨rfl, ?_⟩
          refine ⟨_, rfl, _, rfl, gs[i2].1, gs[i2].2, e2, rfl, s6 _ _ (hG5 _ mg2), hin e2 m2, ?_⟩
          refine ⟨_, rfl, _, rfl, gs[i2].1, gs[i2].2, e1, rfl, s6 _ _ (hG5 _ mg2), hin e1 m1, _, _, rfl, rfl, ?_⟩
          exact hR _ (Same.refl _)
        · intro H6 s6 h6
          obtain ⟨S, hSd⟩ : ∃ S : List Int, gs.map (fun x => valG x.2 e2 - valG x.2 e1) = S := ⟨_, rfl⟩
          have h6' : H6 D = some (.lst (S.map V.int)) := by
            rw [h6, ← hSd, List.map_map]
            rfl
          have hS0 : 0 < S.length := by rw [← hSd, List.length_map]; exact hg0
          have hSm : ∀ g ∈ gs, valG g.2 e2 - valG g.2 e1 ∈ S := fun g hg => hSd ▸ List.mem_map.mpr ⟨g, hg, rfl⟩
          have P6 := P5.same s6
          have b6 : But p H' H6 := b5.trans (But.of s6)
          have nDp : D ≠ p := (P5.out hD).1
          have nfD : fo ≠ D := ne_of_none (b5 _ _ I.found nfp) hD
          clear h6 hG5 hB5
          -- gap
          refine ⟨_, rfl, _, rfl, D, S, rfl, SqL.of h6', hS0, fun mn hmn hle => ?_⟩
          refine ⟨by show 6 ≤ sizeLine; decide, fun l4 hl4 => ?_⟩
          have s7 := same_new (o := .lst ([0, 0, 0, 1, 3, 60].map V.int)) hl4
          refine ⟨_, rfl, p, c, _, 6, rfl, P6.same s7, by omega, by omega, by omega, fun d3 H8 hf0 hf1 b8 P8 => ?_⟩
          obtain ⟨cc, hcc, he⟩ := pick (xs := [0, 0, 0, 1, 3, 60]) hf0 hf1
          refine ⟨l4, _, d3, _, rfl, rfl, SqL.of (b8 _ _ upd_same (P6.out hl4).1), he, _, _, rfl, rfl, _, _, rfl, ?_⟩
          have b68 : But p H' H8 := (b6.trans (But.of s7)).trans b8
          have h8 : H8 D = some (.lst (S.map V.int)) := b8 _ _ (s7 _ _ h6') nDp
          obtain ⟨G, hG1, hG2⟩ : ∃ G : Int, (if mn - cc > -999 then mn - cc else -999) = G ∧ -999 ≤ G := ⟨_, rfl, by split <;> omega⟩
          rw [show (if mn - cc > -999 then mn - cc else -999) = G from hG1]
          clear hG1 he hcc cc hf0 hf1 d3 b8 s7 hl4 l4 b6 P6 s6 b5 P5 bH5 H5 hD hle hmn mn hlf H6 h6'
          have kt8 : KeyTups H8 rs := fun x hx => b68 _ _ (I.keys x hx) (I.pen.ne_of (I.keys x hx) fun xs z => nomatch z)
          have F8 : Fnd p c fo th D H ((endsOf ts).map endV) (S.map V.int) (n + 1 + 4 * i + 3) rs H8 :=
            ⟨b68 _ _ I.found nfp, kt8, I.but.trans b68, by rw [← ends_eq]; exact b68 _ _ I.things ntp, h8, P8⟩
          have hSv : ∀ x ∈ S, ∃ g ∈ gs, x = valG g.2 e2 - valG g.2 e1 := fun x hx => by
            rw [← hSd] at hx
            obtain ⟨g, hg, e⟩ := List.mem_map.mp hx
            exact ⟨g, hg, e.symm⟩
          have in_ : ∀ e ∈ endsOf ts, endIn ts e = true := by
            intro e he
            rcases List.mem_cons.mp he with z | z
            · rw [z]
              rfl
            · obtain ⟨y, hy, z⟩ := List.mem_map.mp z
              rw [← z]
              exact List.any_eq_true.mpr ⟨y, hy, beq_self_eq_true y⟩
          clear P8 kt8 h8 b68
          refine ⟨fun σ X => σ = [some (.ref p), some (.ref a), some (.ref b), some (.int m), some (.ref fo), some (.ref th), some (.int (0 + (i : Nat))), some (.ref lf), some (endV e1), some (endV e2), some (.ref D), some (.int G), o12] ∧
            ∃ rs', Fnd p c fo th D H ((endsOf ts).map endV) (S.map V.int) (n + 1 + 4 * i + 3) rs' X ∧ rs'.length ≤ 2 * i + 1 ∧ (∀ x ∈ rs', RuleOk ts x.1) ∧ (∀ x ∈ rs', ∀ g ∈ gs, Holds g.2 x.1), ?_, ?_⟩
          · have none_ : ∃ rs', Fnd p c fo th D H ((endsOf ts).map endV) (S.map V.int) (n + 1 + 4 * i + 3) rs' H8 ∧ rs'.length ≤ 2 * i + 1 ∧ (∀ x ∈ rs', RuleOk ts x.1) ∧ (∀ x ∈ rs', ∀ g ∈ gs, Holds g.2 x.1) :=
              ⟨rs, F8, by have := I.len; omega, I.ok, I.holds⟩
            refine ⟨_, rfl, G, 999, rfl, rfl, _, rfl, ?_⟩
            refine ite2 (fun t1 => ?_) (fun _ => ⟨rfl, none_⟩)
            refine ⟨_, rfl, _, rfl, D, S, rfl, SqL.of F8.spans, hS0, fun mn hmn hle => ⟨G, mn, rfl, rfl, _, rfl, ?_⟩⟩
            refine ite2 (fun t2 => ?_) (fun _ => ⟨rfl, none_⟩)
            have t1 := of_decide_eq_true t1
            have t2 := of_decide_eq_true t2
            refine ⟨_, rfl, .inl ⟨rfl, _, SqL.of F8.found⟩, _, rfl, _, rfl, _, rfl, by show 3 ≤ sizeLine; decide, fun T hT => ?_⟩
            have hf := same_new (o := .tup (ruleV ⟨e1, e2, G⟩)) hT _ _ F8.found
            refine ⟨fo, _, _, rfl, rfl, hf, ?_, ?_⟩
            · have := I.len
              have : sizeLine > 100000 := by decide
              rw [List.length_map]
              omega
            · refine ⟨rfl, rs ++ [(⟨e1, e2, G⟩, T)], F8.more hT hfo nfp nfc nft nfD, ?_, ?_, ?_⟩
              · rw [List.length_append, List.length_singleton]
                have := I.len
                omega
              · intro x hx
                rcases List.mem_append.mp hx with hx | hx
                · exact I.ok x hx
                · rw [List.mem_singleton.mp hx]
                  exact ⟨in_ e1 m1, in_ e2 m2, e12, hG2, t1⟩
              · intro x hx g hg
                rcases List.mem_append.mp hx with hx | hx
                · exact I.holds x hx g hg
                · rw [List.mem_singleton.mp hx]
                  have := hle _ (hSm g hg)
                  show valG g.2 e1 + G ≤ valG g.2 e2
                  omega
          · rintro σ X ⟨rfl, rs', F, hl', hok, hhold⟩
            have done : ∀ (X2 : Hp) (rs2 : List (Rule × Addr)), Fnd p c fo th D H ((endsOf ts).map endV) (S.map V.int) (n + 1 + 4 * i + 4) rs2 X2 → rs2.length ≤ 2 * i + 2 → (∀ x ∈ rs2, RuleOk ts x.1) → (∀ x ∈ rs2, ∀ g ∈ gs, Holds g.2 x.1) →
                ∃ (rs : List (Rule × Addr)) (o6 o7 o8 o9 o10 o11 o12' : Option V), [some (V.ref p), some (.ref a), some (.ref b), some (.int m), some (.ref fo), some (.ref th), some (.int (0 + (i : Nat))), some (.ref lf), some (endV e1), some (endV e2), some (.ref D), some (.int G), o12] =
                  [some (.ref p), some (.ref a), some (.ref b), some (.int m), some (.ref fo), some (.ref th), o6, o7, o8, o9, o10, o11, o12'] ∧ GapsAt p c a b n m ts gs fo th H (i + 1) rs X2 := fun X2 rs2 F2 h1 h2 h3 =>
              ⟨rs2, _, _, _, _, _, _, _, rfl, F2.found, F2.keys, h2, h3, by omega, F2.but, by rw [ends_eq]; exact F2.things, F2.pen.le (by omega)⟩
            refine ⟨_, rfl, p, c, _, 3, rfl, F.pen, by omega, by omega, by omega, fun d X2 hd0 hd1 b2 P2 => ?_⟩
            have F2 := F.but' b2 P2 nfp ntp nDp
            refine ⟨rfl, _, rfl, ?_⟩
            refine ite2 (fun _ => ?_) (fun _ => done X2 rs' F2 (by omega) hok hhold)
            refine ⟨_, rfl, _, rfl, D, S, rfl, SqL.of F2.spans, hS0, fun mx hmx hge => ⟨_, _, rfl, rfl, _, rfl, ?_⟩⟩
            refine ite2 (fun t1 => ?_) (fun _ => ⟨_, rfl, done X2 rs' F2 (by omega) hok hhold⟩)
            refine ⟨_, _, rfl, rfl, _, rfl, ?_⟩
            refine ite2 (fun t2 => ?_) (fun _ => done X2 rs' F2 (by omega) hok hhold)
            have t1 := of_decide_eq_true t1
            have t2 := of_decide_eq_true t2
            refine ⟨_, rfl, .inl ⟨rfl, _, SqL.of F2.found⟩, _, rfl, _, rfl, _, rfl, D, S, rfl, SqL.of F2.spans, hS0, fun my hmy hge2 => ⟨_, _, rfl, rfl, by show 3 ≤ sizeLine; decide, fun T hT => ?_⟩⟩
            have exy : my = mx := by
              have := hge _ hmy
              have := hge2 _ hmx
              omega
            have hf := same_new (o := .tup (ruleV ⟨e2, e1, 0 - my⟩)) hT _ _ F2.found
            refine ⟨fo, _, _, rfl, rfl, hf, ?_, ?_⟩
            · have : sizeLine > 100000 := by decide
              rw [List.length_map]
              omega
            · refine done _ (rs' ++ [(⟨e2, e1, 0 - my⟩, T)]) (F2.more hT hfo nfp nfc nft nfD) ?_ ?_ ?_
              · rw [List.length_append, List.length_singleton]
                omega
              · intro x hx
                rcases List.mem_append.mp hx with hx | hx
                · exact hok x hx
                · rw [List.mem_singleton.mp hx]
                  refine ⟨in_ e2 m2, in_ e1 m1, fun z => e12 z.symm, ?_, ?_⟩
                  · show -999 ≤ 0 - my
                    omega
                  · show 0 - my ≤ 999
                    omega
              · intro x hx g hg
                rcases List.mem_append.mp hx with hx | hx
                · exact hhold x hx g hg
                · rw [List.mem_singleton.mp hx]
                  have := hge2 _ (hSm g hg)
                  show valG g.2 e2 + (0 - my) ≤ valG g.2 e1
                  omega
      · rintro σ Hc ⟨rs, o6, o7, o8, o9, o10, o11, o12, rfl, I⟩
        exact ⟨_, rfl, q fo Hc _ rs I.but hfo I.found I.keys I.ok I.holds (by have := I.len; omega) I.pen (by omega)⟩

end
end Wnd

namespace Wnd
open PySem PySem.Spec PyProof.Rows L2
section
variable {P : Program} {w : World} {K : PySem.W.Frag} {mg : Str → Option Value} {base : Heap}
/-! ### systems made and compared in a def of the law -/
structure OkMk (P : Program) (w : World) (K : PySem.W.Frag) (mg : Str → Option Value) (base : Heap) (C : Addr) (k : Nat) (ps : List Str) (sp : Sp) : Prop where
  ex : ∃ (f : Addr) (fd : FuncData), Mk K C f ∧ Binds K fd ps [] ∧ FnOk P w K mg base CX0 k f fd ps sp
theorem pe_mk {X : Cx} {C : Addr} {k : Nat} {x : Str} {ps : List Str} {sp : Sp} {e : Expr} {es : List Expr} {p pos : Pos} {t : TA} (O : OkMk X.prog X.w X.K X.mg X.base C k ps sp) (hr : Room (k + 1) X.A) (hm : X.mg x = some (.ref C)) (ha : PA X (e :: es) t)
    (hg : Gl X x := by rfl) (hd : (x == ("__debug__" : Str)) = false := by decide) (he : starEach (e :: es) X.env = (false, eval e X.env) :: starEach es X.env := by rfl) (hpl : (backTo pos (starEach es X.env)).any (·.1) = false := by rfl) :
    PE X (.Call (.Name x p) (e :: es) [] pos) (tMake C sp [] E0 t) := by
  obtain ⟨f, fd, h1, h2, h3⟩ := O.ex
  exact pe_make h1 h3 hr hg hm h2 .nil pass0 ha hd he hpl
/-- what a def of the text that compares systems has of their class -/
structure OkEq (P : Program) (w : World) (K : PySem.W.Frag) (mg : Str → Option Value) (base : Heap) (C : Addr) (k : Nat) (sp : Sp) : Prop where
  ex : ∃ (f : Addr) (fd : FuncData) (ps : List Str), EqC K C f ∧ Binds K fd ps [] ∧ FnOk P w K mg base CX0 k f fd ps sp
theorem op_eqO {X : Cx} {C : Addr} {k : Nat} {sp : Sp} (O : OkEq X.prog X.w X.K X.mg X.base C k sp) (hr : Room k X.A) : OpR X (compareOp .Eq) (rOwnEq X.K C sp) := by
  obtain ⟨f, fd, ps, h1, h2, h3⟩ := O.ex
  exact op_ownEq h3 h2 hr h1
theorem op_neO {X : Cx} {C : Addr} {k : Nat} {sp : Sp} (O : OkEq X.prog X.w X.K X.mg X.base C k sp) (hr : Room (k + 1) X.A) : OpR X (compareOp .NotEq) (rOwnNe X.K C sp) := by
  obtain ⟨f, fd, ps, h1, h2, h3⟩ := O.ex
  exact op_ownNe h3 h2 hr h1
/-- C beside the built-in types, for isinstance and for comparing -/
structure Beside (K : PySem.W.Frag) (C : Addr) (T : String) : Prop where
  no : PySem.W.kitOne K (.type T) (.ref C) = some false
  nf : PySem.W.notFirst K C (.type T) = true
structure SysF (K : PySem.W.Frag) (mg : Str → Option Value) (C : Addr) : Prop extends SysC K mg C where
  isC : C8.InsC K C
  nf : PySem.W.notFirst K C (.ref C) = true
  bList : Beside K C "list"
  bTuple : Beside K C "tuple"
  bNone : Beside K C "NoneType"
  bStr : Beside K C "str"
  bInt : Beside K C "int"
theorem SysF.ty {C : Addr} (T : SysF K mg C) {H : Hp} {x : Addr} {ns : List Str} {L : List (Rule × Addr)} (h : SysAt C H x ns L) : TyX K H (.ref x) (.ref C) := by
  obtain ⟨dx, ln, lr, h1, _⟩ := h
  exact .base (.ins h1 T.cl T.isC.ha T.isC.hn T.isC.htk T.isC.hm)
/-- x == y, both systems -/
theorem eq_sys {C : Addr} (T : SysF K mg C) {H : Hp} {x y : Addr} {ns ns' : List Str} {L L' : List (Rule × Addr)} {Q : VK} (hx : SysAt C H x ns L) (hy : SysAt C H y ns' L') (q : Q (.bl (decide (ns = ns') && decide (L.map (·.1) = L'.map (·.1)))) H) :
    rOwnEq K C (spEq K C) (.ref x) (.ref y) H Q := by
  have hx' := hx
  obtain ⟨dx, ln, lr, h1, _⟩ := hx'
  exact ⟨x, dx, _, rfl, h1, ⟨_, T.ty hy, T.nf⟩, x, .ref y, ns, L, _, rfl, hx, .inl ⟨y, ns', L', rfl, hy, rfl⟩, _, rfl, q⟩
theorem ne_sys {C : Addr} (T : SysF K mg C) {H : Hp} {x y : Addr} {ns ns' : List Str} {L L' : List (Rule × Addr)} {Q : VK} (hx : SysAt C H x ns L) (hy : SysAt C H y ns' L') (q : Q (.bl (!(decide (ns = ns') && decide (L.map (·.1) = L'.map (·.1))))) H) :
    rOwnNe K C (spEq K C) (.ref x) (.ref y) H Q := by
  have hx' := hx
  obtain ⟨dx, ln, lr, h1, _⟩ := hx'
  exact ⟨x, dx, _, rfl, h1, ⟨_, T.ty hy, T.nf⟩, x, .ref y, ns, L, _, rfl, hx, .inl ⟨y, ns', L', rfl, hy, rfl⟩, _, rfl, q⟩
/-- x == y, y no system -/
theorem eq_no {C : Addr} {H : Hp} {x : Addr} {y : V} {t : String} {ns : List Str} {L : List (Rule × Addr)} {Q : VK} (hx : SysAt C H x ns L) (ty : TyX K H y (.type t)) (b : Beside K C t) (q : Q (.bl false) H) : rOwnEq K C (spEq K C) (.ref x) y H Q := by
  have hx' := hx
  obtain ⟨dx, ln, lr, h1, _⟩ := hx'
  exact ⟨x, dx, _, rfl, h1, ⟨_, ty, b.nf⟩, x, y, ns, L, _, rfl, hx, .inr ⟨_, ty, b.no, rfl⟩, _, rfl, q⟩
theorem ne_no {C : Addr} {H : Hp} {x : Addr} {y : V} {t : String} {ns : List Str} {L : List (Rule × Addr)} {Q : VK} (hx : SysAt C H x ns L) (ty : TyX K H y (.type t)) (b : Beside K C t) (q : Q (.bl true) H) : rOwnNe K C (spEq K C) (.ref x) y H Q := by
  have hx' := hx
  obtain ⟨dx, ln, lr, h1, _⟩ := hx'
  exact ⟨x, dx, _, rfl, h1, ⟨_, ty, b.nf⟩, x, y, ns, L, _, rfl, hx, .inr ⟨_, ty, b.no, rfl⟩, _, rfl, q⟩
/-- System(names, rules) from lists that stand -/
theorem init_sys {C : Addr} {H : Hp} {a b x dx : Addr} {ts : List Str} {rs : List (Rule × Addr)} {R : VK} (nx : H x = none) (ndx : H dx = none) (hA : H a = some (.lst (ts.map V.str))) (N : NamesOk ts) (hB : H b = some (.lst (rs.map fun p => V.ref p.2))) (hk : KeyTups H rs) (hro : ∀ p ∈ rs, RuleOk ts p.1) (hz : rs.length < 100000)
    (q : ∀ H', Same H H' → SysNew C H H' x (sortN ts) (inOrder (putAll rs [])) → R .non H') : spInit C [.ref x, .ref a, .ref b] (upd (upd H dx (.own x)) x (.ins C dx [])) R E0 := by
  have s : Same H (upd (upd H dx (.own x)) x (.ins C dx [])) := fun z o hz => by
    rw [upd_ne (ne_of_none hz nx), upd_ne (ne_of_none hz ndx)]
    exact hz
  exact ⟨x, a, b, dx, ts, rs, rfl, upd_same, s _ _ hA, N, s _ _ hB, fun p hp => s _ _ (hk p hp), hro, hz, fun H' bt hS => q H' (fun z o hz => bt _ _ (s _ _ hz) (ne_of_none hz nx)) (hS.from_ s)⟩
theorem decide_sym {α : Type} [DecidableEq α] (x y : α) : decide (x = y) = decide (y = x) := by
  rw [Bool.eq_iff_iff, decide_eq_true_iff, decide_eq_true_iff]
  exact eq_comm
theorem flip_ne (b : Bool) : ¬ (V.bl (!b) = V.bl b) := fun z => by
  injection z with z
  cases b <;> cases z
theorem names_here {us : List Str} (nd : us.Nodup) (m : ∀ t ∈ us, t ∈ nymPool) (l : us.length ≤ 5) : NamesOk (("mid" : Str) :: us) ∧ NamesOk ((("mid" : Str) :: us) ++ [("late" : Str)]) ∧ endIn (("mid" : Str) :: us) (some "mid") = true := by
  have n1 : ("mid" : Str) ∉ us := fun h => absurd (m _ h) (by decide +kernel)
  have n2 : ("late" : Str) ∉ us := fun h => absurd (m _ h) (by decide +kernel)
  have n3 : ("late" : Str) ≠ ("mid" : Str) := by decide +kernel
  have nm : nameB ("mid" : Str) = true := by decide +kernel
  have nl : nameB ("late" : Str) = true := by decide +kernel
  have nd1 : (("mid" : Str) :: us).Nodup := List.nodup_cons.mpr ⟨n1, nd⟩
  have al : ∀ t ∈ ("mid" : Str) :: us, nameB t = true := fun t ht => by
    rcases List.mem_cons.mp ht with rfl | ht
    · exact nm
    · exact pool_names t (m t ht)
  refine ⟨⟨nd1, al, by rw [List.length_cons]; omega⟩, ⟨List.nodup_append.mpr ⟨nd1, List.nodup_cons.mpr ⟨List.not_mem_nil, List.nodup_nil⟩, fun x hx y hy e => ?_⟩, fun t ht => ?_, by rw [List.length_append, List.length_cons, List.length_singleton]; omega⟩, ?_⟩
  · rw [List.mem_singleton.mp hy] at e
    rcases List.mem_cons.mp hx with h | h
    · exact n3 (e.symm.trans h)
    · exact n2 (e ▸ h)
  · rcases List.mem_append.mp ht with ht | ht
    · exact al t ht
    · rw [List.mem_singleton.mp ht]
      exact nl
  · exact List.any_eq_true.mpr ⟨"mid", List.mem_cons_self .., beq_self_eq_true _⟩
end
end Wnd

/-! lists that are drawn, cut, summed -/
namespace Wnd
open PySem PySem.Spec PyProof.Rows L2
structure Blt3 (mg : Str → Option Value) : Prop extends Blt2 mg where
  sum : mg "sum" = none
  repr : mg "repr" = none
theorem map_of_permF {α : Type} {f : α → V} (inj : ∀ a b, f a = f b → a = b) {ys rest : List V} {ts : List α} (h : (ys ++ rest).Perm (ts.map f)) (nd : ts.Nodup) : ∃ us : List α, ys = us.map f ∧ us.Nodup ∧ ∀ t ∈ us, t ∈ ts := by
  have all : ∀ y ∈ ys, ∃ t ∈ ts, f t = y := fun y hy => List.mem_map.mp (h.mem_iff.mp (List.mem_append_left _ hy))
  have ndm : (ys ++ rest).Nodup := h.nodup_iff.mpr (List.Pairwise.map f (fun a b ne e => ne (inj a b e)) nd)
  have ndy := (List.nodup_append.mp ndm).1
  clear h ndm
  induction ys with
  | nil => exact ⟨[], rfl, List.nodup_nil, fun _ h => nomatch h⟩
  | cons y r ih =>
    obtain ⟨us, rfl, h1, h2⟩ := ih (fun y hy => all y (List.mem_cons_of_mem _ hy)) (List.nodup_cons.mp ndy).2
    obtain ⟨t, ht, rfl⟩ := all y (List.mem_cons_self ..)
    refine ⟨t :: us, rfl, List.nodup_cons.mpr ⟨fun m => (List.nodup_cons.mp ndy).1 (List.mem_map.mpr ⟨t, m, rfl⟩), h1⟩, fun x hx => ?_⟩
    rcases List.mem_cons.mp hx with rfl | hx
    · exact ht
    · exact h2 x hx
theorem ends_nodup {ts : List Str} (h : ts.Nodup) : (endsOf ts).Nodup := List.nodup_cons.mpr ⟨(fun z => by
  obtain ⟨y, _, z⟩ := List.mem_map.mp z
  cases z), List.Pairwise.map some (fun a b ne (e : some a = some b) => ne (by injection e)) h⟩
theorem ends_in {ts : List Str} : ∀ e ∈ endsOf ts, endIn ts e = true := by
  intro e he
  rcases List.mem_cons.mp he with z | z
  · rw [z]
    rfl
  · obtain ⟨y, hy, z⟩ := List.mem_map.mp z
    rw [← z]
    exact List.any_eq_true.mpr ⟨y, hy, beq_self_eq_true y⟩
theorem sum_bound : ∀ {S : List Int}, (∀ x ∈ S, -4 ≤ x ∧ x ≤ 4) → -4 * (S.length : Int) ≤ S.sum ∧ S.sum ≤ 4 * (S.length : Int)
  | [], _ => ⟨by decide, by decide⟩
  | x :: S, h => by
    obtain ⟨h1, h2⟩ := sum_bound fun y hy => h y (List.mem_cons_of_mem _ hy)
    have := h x (List.mem_cons_self ..)
    rw [List.sum_cons, List.length_cons]
    omega
theorem cut_tail (xs : List V) : cutV xs (some 1) none = xs.drop 1 := by
  unfold cutV
  rw [HT.sIx_none, show HT.sIx xs.length 0 (some 1) = min 1 xs.length from HT.sIx_nat _ _ 1]
  cases xs with
  | nil => rfl
  | cons x r =>
    rw [show min 1 (x :: r).length = 1 by rw [List.length_cons]; omega]
    rw [List.take_of_length_le (by rw [List.length_drop]; omega)]
theorem cut_head (xs : List V) (k : Nat) : cutV xs none (some k) = xs.take k := by
  unfold cutV
  rw [HT.sIx_none, show HT.sIx xs.length xs.length (some (k : Int)) = min k xs.length from HT.sIx_nat _ _ k, List.drop_zero, Nat.sub_zero]
  by_cases hl : xs.length ≤ k
  · rw [Nat.min_eq_right hl, List.take_length, List.take_of_length_le hl]
  · rw [Nat.min_eq_left (by omega)]
theorem atI_last {xs : List V} (h : 0 < xs.length) : atI xs (-1) = xs[xs.length - 1]? := by
  unfold atI ixN
  rw [if_neg (by decide), if_pos (by omega)]
  show xs[((-1 : Int) + xs.length).toNat]? = _
  rw [show ((-1 : Int) + xs.length).toNat = xs.length - 1 by omega]
end Wnd

namespace Wnd
open PySem PySem.Spec PyProof.Rows L2
section
variable {P : Program} {w : World} {K : PySem.W.Frag} {mg : Str → Option Value} {base : Heap}
/-! ### properties -/
structure OkP (P : Program) (w : World) (K : PySem.W.Frag) (mg : Str → Option Value) (base : Heap) (C : Addr) (k : Nat) (m : Str) (sp : Sp) : Prop where
  ex : ∃ (p g : Addr) (fd : FuncData) (ps : List Str), Cls K C ∧ PropOf K C m p g ∧ Binds K fd ps [] ∧ FnOk P w K mg base CX0 k g fd ps sp
theorem pe_propO {X : Cx} {C : Addr} {k : Nat} {m : Str} {sp : Sp} {e : Expr} {ta : TE} {pos : Pos} (O : OkP X.prog X.w X.K X.mg X.base C k m sp) (hr : Room (k + 1) X.A) (he : PE X e ta) (hab : attributeBase e m X.env (eval e X.env) = eval e X.env := by rfl) :
    PE X (.Attribute e m pos) (tProp C sp [] E0 ta) := by
  obtain ⟨p, g, fd, ps, h1, h2, h3, h4⟩ := O.ex
  exact pe_prop he h1 h2 h4 hr h3 .nil pass0 hab
def spNames (C : Addr) : Sp := fun vs H Q _ => ∃ (x : Addr) (ns : List Str) (L : List (Rule × Addr)), vs = [.ref x] ∧ SysAt C H x ns L ∧ ∀ l, H l = none → Q (.ref l) (upd H l (.lst (ns.map V.str)))
def spRulesP (C : Addr) : Sp := fun vs H Q _ => ∃ (x : Addr) (ns : List Str) (L : List (Rule × Addr)), vs = [.ref x] ∧ SysAt C H x ns L ∧ ∀ l, H l = none → Q (.ref l) (upd H l (.lst (L.map fun p => V.ref p.2)))
theorem ok_names {C : Addr} {qn : Str} {f : Addr} {fd : FuncData} (F : Fun K "names" qn s_System_names f fd) (T : SysC K mg C) (B : Blt mg) : FnOk P w K mg base CX0 1 f fd ["self"] (spNames C) := by
  refine F.ok sc_System_names (fun vs H Q E h => ?_) (fun cdv A outer s H vs Q E hr h => ?_)
  · obtain ⟨x, ns, L, rfl, _⟩ := h
    rfl
  · obtain ⟨x, ns, L, rfl, ⟨dx, ln, lr, h1, h2, h3, h4, h5⟩, q⟩ := h
    refine ⟨_, (pss_one (ps_ret (pe_callTy call_list_of (by rfl) B.list (by decide +kernel) (pa_cons (pe_fld (pv 0) rfl) pa_nil)))), ?_⟩
    exact ⟨_, rfl, x, C, dx, _, _, rfl, h1, T.cl, T.nN, sysF_names _ _, ln, _, rfl, .inl (SqL.of h2), fun l hl => q l hl⟩
theorem ok_rulesP {C : Addr} {qn : Str} {f : Addr} {fd : FuncData} (F : Fun K "rules" qn s_System_rules f fd) (T : SysC K mg C) (B : Blt mg) : FnOk P w K mg base CX0 1 f fd ["self"] (spRulesP C) := by
  refine F.ok sc_System_rules (fun vs H Q E h => ?_) (fun cdv A outer s H vs Q E hr h => ?_)
  · obtain ⟨x, ns, L, rfl, _⟩ := h
    rfl
  · obtain ⟨x, ns, L, rfl, ⟨dx, ln, lr, h1, h2, h3, h4, h5⟩, q⟩ := h
    refine ⟨_, (pss_one (ps_ret (pe_callTy call_list_of (by rfl) B.list (by decide +kernel) (pa_cons (pe_fld (pv 0) rfl) pa_nil)))), ?_⟩
    exact ⟨_, rfl, x, C, dx, _, _, rfl, h1, T.cl, T.nR, sysF_rules _ _, lr, _, rfl, .inl (SqL.of h3), fun l hl => q l hl⟩
/-- reading a property of a system -/
theorem prop_at {C : Addr} {H : Hp} {x : Addr} {ns : List Str} {L : List (Rule × Addr)} (h : SysAt C H x ns L) : ∃ dx fs, H x = some (.ins C dx fs) := by
  obtain ⟨dx, ln, lr, h1, _⟩ := h
  exact ⟨dx, _, h1⟩
theorem dp_rule {X : Hp} (x : Rule × Addr) (hx : X x.2 = some (.tup (ruleV x.1))) : Dp K X (.ref x.2) (ruleD x.1) := .tup (SqT.of hx) (.cons (dp_end _) (.cons (dp_end _) (.cons (.int _) .nil)))
theorem shaped_rule' (r : Rule) (h : ROk r) : SeqAt.shaped (ruleD r) = true := by
  obtain ⟨h1, h2⟩ := lay_rule r h
  simp [SeqAt.shaped, h1, h2]
theorem hu65 {A : Around} {k : Nat} (hr : Room k A) : A.units + 65 < cLine := by
  have := hr.un
  omega
end
end Wnd

/-! Windowsteps: the law's def run where the row itself calls it: nothing is being shown there, so repr may be asked of lists and dicts. -/
namespace Wnd
open PySem PySem.Spec PyProof.Rows L2
section
variable {P : Program} {w : World} {K : PySem.W.Frag} {mg : Str → Option Value} {base : Heap}
/-- a def run from the row's own call -/
theorem top_run {x q : Str} {st : Stmt} {f : Addr} {fd : FuncData} {N ps : List Str} {k : Nat} {sp : Sp} (F : Fun K x q st f fd) (S : FnScope N ps (defScope st)) (bd : Binds K fd ps []) (room : Room (k + 1) callerA)
    (body : ∀ (cdv : Value) (s : Shared) (H : Hp) (vs : List V) (Q : VK) (E : XK), Room k (callerA.deeper (envOfC q (defScope st) s.heap.objs.size f cdv)) → sp vs H Q E →
      ∃ t, PSs (cxOf CX0 P w K mg base N q (defScope st) f cdv callerA [] s H E).nox (defBody st) t ∧ t { nx := fun _ H' => Q .non H', rt := Q } (L2.start N vs) H)
    {s : Shared} {H : Hp} {us : List Value} {vs : List V} {Q : VK} {E : XK} (env : Env0 P w K mg base callerA [] s H) (len : vs.length = ps.length) (rel : Vals vs us) (h : sp vs H Q E) : codeAny (model P w) callerA (.call (.ref f) ⟨us, []⟩) (CR CX0 [] P w H s Q E) s := by
  obtain ⟨oc, od, kV, doc, pm, an, cdv, ct, osl, rfl, lk, hcd⟩ := F.ex
  have kin : K.In s.heap := env.mod.kin.keeps fun b o e => (env.bs b o e).1
  refine StX.run_bnd (G := fun ws H2 => ws = vs ∧ H2 = H ∧ sp ws H2 Q E) lk hcd S room env (fun A' Ex R next => ?_) fun s2 H2 ws g hr => ?_
  · have z := bd s us kin (by rw [List.append_nil, ← rel.length]; exact len)
    rw [List.append_nil] at z
    exact z _ A' Ex R (next s H vs us env Un.refl rfl (fun _ _ z => z) rel len ⟨rfl, rfl, h⟩)
  · obtain ⟨rfl, rfl, h2⟩ := g
    obtain ⟨t, ht, hq⟩ := body cdv s2 _ _ Q E hr h2
    exact ⟨t, ht.nox, hq⟩
/-- the row's call, from what the def does there -/
theorem top_call {mb : Str → Option Value} {fa a : Addr} {s₁ : Shared} {vs : List Value} {ns : List Int} (kin : K.In s₁.heap) (glob : s₁.heap.Ns mainGlobals mg) (blt : s₁.heap.Ns builtinsNs mb) (boot : ∀ x : Str, x ≠ "__name__" → mb x = bootBuiltins x)
    (free : s₁.heap.NoLimit) (nogen : s₁.gens = #[]) (at_ : s₁.heap.get? a = some { cls := .type "list", data := .seq vs.toArray }) (are : IntsAre vs ns) (few : ns.length ≤ sizeLine)
    (run : ∀ (base : Heap) (H : Hp), K.In base → base.Ns mainGlobals mg → Env0 P w K mg base callerA [] s₁ H → SqL K H a (ns.map V.int) →
      codeAny (model P w) callerA (.call (.ref fa) ⟨[.ref a], []⟩) (CR CX0 [] P w H s₁ (fun v _ => v = .bl true) fun _ _ _ => False) s₁) :
    codeAny (model P w) callerA (.call (.ref fa) ⟨[.ref a], []⟩) (fun r s' => r = .ok (.ret (.bool true)) ∧ OldK s₁.heap s'.heap ∧ s'.os = s₁.os ∧ AllBare s'.gens) s₁ := by
  have vals := vals_ints are
  have size := are.length
  have from_ : ∀ H : Hp, L2.Only H → SqL K H a (ns.map V.int) → HOk P w H s₁.heap → (∀ b, H b ≠ none → b = a) → (H a ≠ none → K.lookup a = none) →
      codeAny (model P w) callerA (.call (.ref fa) ⟨[.ref a], []⟩) (fun r s' => r = .ok (.ret (.bool true)) ∧ OldK s₁.heap s'.heap ∧ s'.os = s₁.os ∧ AllBare s'.gens) s₁ := by
    intro H only seq hok one notK
    have still : ∀ {b : Addr} {o : Obj}, s₁.heap.get? b = some o → H b = none → (hidT s₁.heap H).get? b = some o := fun e n => hidT_get e n
    have notDict : ∀ {b : Addr} {o : Obj} {es : Array DictEntry} {ep : Nat}, s₁.heap.get? b = some o → o.data = .dict es ep → H b = none := by
      intro b o es ep e d
      cases hb : H b with
      | none => rfl
      | some u =>
        have same : b = a := one b (by rw [hb]; exact fun z => nomatch z)
        rw [same, at_] at e
        cases e
        cases (show Data.seq vs.toArray _ = Data.dict es ep from d)
    have nsOn : ∀ {b : Addr} {m : Str → Option Value}, s₁.heap.Ns b m → (hidT s₁.heap H).Ns b m := by
      rintro b m ⟨o, es, ep, e, d, r⟩
      exact ⟨o, es, ep, still e (notDict e d), d, r⟩
    have kinH : K.In (hidT s₁.heap H) := by
      intro b o e
      refine still (kin b o e) ?_
      cases hb : H b with
      | none => rfl
      | some u =>
        have same : b = a := one b (by rw [hb]; exact fun z => nomatch z)
        rw [same] at hb e
        rw [notK (by rw [hb]; exact fun z => nomatch z)] at e
        cases e
    obtain ⟨mc, l1, l2⟩ := free
    have env : Env0 P w K mg (hidT s₁.heap H) callerA [] s₁ H :=
      ⟨rfl, ⟨kinH, nsOn glob, ⟨mb, nsOn blt, boot⟩, ⟨mc, nsOn l1, l2⟩⟩, fun b o e => of_hidT e, Nat.le_of_eq (hidT_size _ _), trivial, fun b hb => (List.not_mem_nil (show b ∈ ([] : List Addr) from hb)).elim, hok, .of_eq nogen⟩
    refine codeAny_mono (run _ H kinH (nsOn glob) env seq) fun r s' res => ?_
    cases r with
    | error e => exact False.elim res
    | ok fl =>
      cases fl with
      | ret u =>
        obtain ⟨v, H', os, bare, un, hok', rel, val⟩ := res
        have val : v = .bl true := val
        subst val
        cases (show u = Value.bool true from rel)
        refine ⟨rfl, OldK.of_keep fun b o e => ?_, os, bare⟩
        cases hb : H b with
        | none => exact un.keep b o e hb (fun z => (List.not_mem_nil (show b ∈ ([] : List Addr) from z)).elim) (List.not_mem_nil)
        | some u =>
          rcases only b with z | ⟨ob, xs, z⟩
          · rw [hb] at z
            cases z
          · obtain ⟨old, _⟩ := hok b _ z
            obtain ⟨new, _⟩ := hok' b _ (un.frzs b ob _ z)
            rw [e] at old
            cases old
            exact new
      | next => exact False.elim res
      | brk => exact False.elim res
      | cont => exact False.elim res
  cases known : K.lookup a with
  | some o =>
    have e := kin a o known
    rw [at_] at e
    cases e
    refine from_ (fun _ => none) (fun _ => .inl rfl) (.inr ⟨_, vs.toArray, _, known, rfl, rfl, rfl, ?_, ?_⟩) (fun b u z => nomatch (show (none : Option HO) = some u from z)) (fun b z => (z rfl).elim) fun z => (z rfl).elim
    · rw [List.size_toArray, size]
      exact few
    · simpa using vals
  | none =>
    have at2 : (fun b => if b = a then some (HO.frz { cls := .type "list", data := .seq vs.toArray } (.lst (ns.map V.int))) else none : Hp) a = some (HO.frz { cls := .type "list", data := .seq vs.toArray } (.lst (ns.map V.int))) := if_pos rfl
    refine from_ (fun b => if b = a then some (.frz { cls := .type "list", data := .seq vs.toArray } (.lst (ns.map V.int))) else none) (fun b => ?_) (.inl (.inr ⟨_, at2⟩)) (fun b u z => ?_) (fun b z => ?_) fun _ => known
    · by_cases hb : b = a
      · exact .inr ⟨_, _, if_pos hb⟩
      · exact .inl (if_neg hb)
    · by_cases hb : b = a
      · subst hb
        cases at2.symm.trans z
        refine ⟨at_, ?_, vs, _, vals, at_⟩
        rw [List.length_map]
        exact few
      · cases (if_neg hb).symm.trans z
    · by_cases hb : b = a
      · exact hb
      · exact (z (if_neg hb)).elim
end
/-- the law's row, from what its def does at the row's call -/
theorem top_walk {l : PySem.W.OpenLaw} {n : Nat} {q : Program} {loose : List Str} {XP : (Str → Option Value) → Heap → Prop} {YP : World → Heap → Prop} {d : DefRec} {K : Params → PySem.W.Frag} (hn : l.most = some n) (few : n ≤ sizeLine) (hdf : d.params.defaults = [])
    (hY : ∀ (w : World) (h : Heap), YP w h → (K w.params).In h)
    (F : ∀ (w : World) (mg : Str → Option Value) (fa : Addr) (h : Heap), (K w.params).In h → h.Ns mainGlobals mg → mg d.name = some (.ref fa) →
      ∀ (base : Heap) (H : Hp) (s : Shared) (a : Addr) (ns : List Int), ns.length ≤ n → (K w.params).In base → base.Ns mainGlobals mg → Env0 l.prog w (K w.params) mg base callerA [] s H → SqL (K w.params) H a (ns.map V.int) →
        codeAny (model l.prog w) callerA (.call (.ref fa) ⟨[.ref a], []⟩) (CR CX0 [] l.prog w H s (fun v _ => v = .bl true) fun _ _ _ => False) s) :
    PySem.W.WalkO q loose XP YP l.row.toRowW d [] (fun f vs => PySem.call f vs) := by
  refine Att.attach_call hn hdf fun w s₀ s₁ mg mb fa o pm cd doc a vs ns G Y _ _ _ hmg at_ are len nogen => ?_
  have kin := hY w _ Y
  exact top_call kin G.T.g G.T.b G.T.builtins G.T.nolimit nogen at_ are (Nat.le_trans len few) fun base H k1 k2 env seq => F w mg fa _ kin G.T.g hmg base H s₁ a ns len k1 k2 env seq
end Wnd

/-! Windowsteps: repr(x) where nothing is being shown: plain data, and a dict of texts and ints. -/
namespace Wnd
open PySem PySem.Spec PyProof.Rows L2
def goalD (g : List (Str × Int)) : PyData := .dict (g.map fun x => (PyData.str x.1, PyData.int x.2))
/-- the value x shows as d does -/
inductive Sh (K : PySem.W.Frag) (H : Hp) : V → PyData → Prop where
  | dp {x : V} {d : PyData} (h : Dp K H x d) : Sh K H x d
  | goal {a : Addr} {g : List (Str × Int)} (h : H a = some (.dK (g.map fun x => (Sum.inr x.1, V.int x.2)))) : Sh K H (.ref a) (goalD g)
def rRepr (K : PySem.W.Frag) : List V → Hp → VK → Prop := fun xs H Q => ∃ (x : V) (d : PyData), xs = [x] ∧ Sh K H x d ∧ d.canLay0 = (match d with | .dict _ => d.canLay0 | _ => true) ∧ d.showable = true ∧ d.shown.length ≤ sizeLine ∧ d.depth ≤ 60 ∧ Q (.str d.shown) H
theorem goal_reads {P : Program} {w : World} {h : Heap} : ∀ {g : List (Str × Int)} {vs : List (Key × Value)} {es : List DictEntry}, KV (g.map fun x => ((Sum.inr x.1 : Key), V.int x.2)) vs → Pairs (mixKind P w) es vs →
    ReadsAll h (es.map (·.key)) ((g.map fun x => (PyData.str x.1, PyData.int x.2)).map (·.1)) [] ∧ ReadsAll h (es.map (·.val)) ((g.map fun x => (PyData.str x.1, PyData.int x.2)).map (·.2)) []
  | [], _, _, .nil, .nil => ⟨.nil, .nil⟩
  | x :: g, _, _, .cons r1 r2, .cons k1 k2 k3 => by
    obtain ⟨i1, i2⟩ := goal_reads (h := h) r2 k3
    obtain ⟨e1, t1, e2⟩ := r1
    rename_i kv tail ent es'
    obtain ⟨key, val⟩ := kv
    have e1 : Sum.inr x.1 = key := e1
    subst e1
    have e2 : val = Value.int x.2 t1 := e2
    subst e2
    have k1 : keyIs (Sum.inr x.1) ent.key = true := k1
    rcases keyIs_shape k1 with ⟨i, t, z, z2⟩ | ⟨y, t, z, z2⟩
    · cases z
    · injection z with z
      subst z
      refine ⟨?_, ?_⟩
      · show ReadsAll h (ent.key :: es'.map (·.key)) (PyData.str x.1 :: _) ([] ++ [])
        rw [z2]
        exact .cons (.str x.1 t) i1
      · show ReadsAll h (ent.val :: es'.map (·.val)) (PyData.int x.2 :: _) ([] ++ [])
        rw [show ent.val = Value.int x.2 t1 from k2]
        exact .cons (.int x.2 t1) i2
section
variable {X : Cx}
theorem call_reprD (free : X.A.guards = some []) (hu : X.A.units + 65 < cLine) : CallR X (.builtin "repr") (rRepr X.K) := by
  intro pins s σ H xs us Q I r h
  obtain ⟨x, d, rfl, sh, lay, sw, sz, dp, q⟩ := h
  obtain ⟨u, rfl, ru⟩ := vals1 r
  have last : ∀ (h' : Heap) (t : Tok) (tk : Nat), (∀ b o, s.heap.get? b = some o → h'.get? b = some o) → EP X pins σ Q (.str d.shown t) { s with heap := h', toks := tk } := fun h' t tk kp => ⟨.str d.shown, H, I.kept (t' := tk) kp, ⟨t, rfl⟩, q⟩
  cases sh with
  | dp hd =>
    obtain ⟨as, rd⟩ := Dp.reads I d x u hd ru
    cases hd with
    | non =>
      cases (show u = Value.none from ru)
      exact PySem.P.repr_of_none (last s.heap _ _ fun _ _ e => e)
    | bl b =>
      cases (show u = Value.bool b from ru)
      have := PySem.P.repr_of_bool (prog := X.prog) (w := X.w) (A := X.A) (E := X.xe) (s := s) (b := b) (Q := EP X pins σ Q) (by
        cases b <;> exact last s.heap _ _ fun _ _ e => e)
      exact this
    | int i =>
      obtain ⟨t, rfl⟩ := (show ∃ t, u = Value.int i t from ru)
      exact PySem.P.repr_of_int (of_decide_eq_true (by simpa [PyData.showable] using sw)) (last s.heap _ _ fun _ _ e => e)
    | str y =>
      obtain ⟨t, rfl⟩ := (show ∃ t, u = Value.str y t from ru)
      exact PySem.P.repr_of_str (last s.heap _ _ fun _ _ e => e) (hsz := sz)
    | lst hs ha =>
      cases (show u = Value.ref _ from ru)
      exact repr_of_reads' rd sw (PyData.noDict_hsm (PyData.hasDict_of_canLay _ lay)) free (by omega) (fun _ _ e => e) last sz
    | tup hs ha =>
      cases (show u = Value.ref _ from ru)
      exact repr_of_reads' rd sw (PyData.noDict_hsm (PyData.hasDict_of_canLay _ lay)) free (by omega) (fun _ _ e => e) last sz
  | @goal a g hg =>
    cases (show u = Value.ref a from ru)
    obtain ⟨_, lo, vs, kv, o, es, ep, h1, h2, h3, _, h5, _⟩ := dk_of I.hok hg
    obtain ⟨r1, r2⟩ := goal_reads (P := X.prog) (w := X.w) (h := s.heap) (es := es.toList) kv h5
    have rd : Reads s.heap (.ref a) (goalD g) (a :: [] ++ []) := .dict h1 h2.1 h3 r1 r2
    refine repr_of_reads' rd sw (fun _ hm => ?_) free (by omega) (fun _ _ e => e) last sz
    have : sysModules = a := by simpa using hm
    rw [this] at lo
    simp at lo
end
end Wnd

namespace Wnd
open PySem PySem.Spec PyProof.Rows L2
abbrev s_check_numbers : Stmt := top 16
theorem sc_check_numbers : FnScope ["system", "thing"] ["system", "thing"] (defScope s_check_numbers) := ⟨rfl, rfl, rfl, by decide +kernel, rfl, by decide +kernel, by decide +kernel⟩
abbrev s_are_numbers : Stmt := top 17
theorem sc_are_numbers : FnScope ["system", "thing", "names", "name"] ["system", "thing"] (defScope s_are_numbers) := ⟨rfl, rfl, rfl, by decide +kernel, rfl, by decide +kernel, by decide +kernel⟩
abbrev s_number_of : Stmt := top 20
theorem sc_number_of : FnScope ["thing", "numbers"] ["thing", "numbers"] (defScope s_number_of) := ⟨rfl, rfl, rfl, by decide +kernel, rfl, by decide +kernel, by decide +kernel⟩
abbrev s_shortfall_of : Stmt := top 19
theorem sc_shortfall_of : FnScope ["rule", "numbers", "low", "high", "gap"] ["rule", "numbers"] (defScope s_shortfall_of) := ⟨rfl, rfl, rfl, by decide +kernel, rfl, by decide +kernel, by decide +kernel⟩
abbrev s_is_number : Stmt := top 21
theorem sc_is_number : FnScope ["thing"] ["thing"] (defScope s_is_number) := ⟨rfl, rfl, rfl, by decide +kernel, rfl, by decide +kernel, by decide +kernel⟩
section
variable {P : Program} {w : World} {K : PySem.W.Frag} {mg : Str → Option Value} {base : Heap}
/-! ### numbers of a system -/
def NumsOk (ns : List Str) (g : List (Str × Int)) : Prop := (g.map (·.1)).Perm ns ∧ ∀ x ∈ g, -99999 ≤ x.2 ∧ x.2 ≤ 99999
def spIsNum : Sp := fun vs H Q _ => ∃ i : Int, vs = [.int i] ∧ Q (.bl (decide (-99999 ≤ i) && decide (i ≤ 99999))) H
theorem ok_is_number {f : Addr} {fd : FuncData} (D : DefAt K mg "is_number" s_is_number ["thing"] f fd) (C_GREATEST_NUMBER : ∃ t, mg "GREATEST_NUMBER" = some (.int 99999 t)) (O_is_integer_within : Ok P w K mg base 2 "is_integer_within" ["thing", "least", "greatest"] (spIsIn K)) : Ok P w K mg base 3 "is_number" ["thing"] spIsNum := by
  obtain ⟨gt, C_GREATEST_NUMBER⟩ := C_GREATEST_NUMBER
  refine D.ok (D.fn.ok sc_is_number (fun vs H Q E h => ?_) (fun cdv A outer s H vs Q E hr h => ?_))
  · obtain ⟨i, rfl, _⟩ := h
    rfl
  · obtain ⟨i, rfl, q⟩ := h
    refine ⟨_, (pss_one (ps_ret (pe_own O_is_integer_within (hr.mono (by decide)) (pa_cons (pv 0) (pa_cons (pe_un un_neg (pe_glob (v := .int 99999) rfl C_GREATEST_NUMBER ⟨_, rfl⟩)) (pa_cons (pe_glob (v := .int 99999) rfl C_GREATEST_NUMBER ⟨_, rfl⟩) pa_nil)))))), ?_⟩
    exact ⟨_, rfl, _, rfl, .int i, -99999, 99999, _, rfl, .inl ⟨i, rfl, rfl⟩, q⟩
theorem valG_mem {t : Str} : ∀ {g : List (Str × Int)}, t ∈ g.map (·.1) → (t, valG g (some t)) ∈ g
  | [], h => nomatch h
  | (a, b) :: r, h => by
    by_cases e : a = t
    · have : valG ((a, b) :: r) (some t) = b := by
        show (List.lookup t ((a, b) :: r)).getD 0 = b
        rw [List.lookup_cons, show (t == a) = true from beq_iff_eq.mpr e.symm]
        rfl
      rw [this, e]
      exact List.mem_cons_self ..
    · have h2 : t ∈ r.map (·.1) := (List.mem_cons.mp h).elim (fun z => absurd z.symm e) id
      have : valG ((a, b) :: r) (some t) = valG r (some t) := by
        show (List.lookup t ((a, b) :: r)).getD 0 = (List.lookup t r).getD 0
        rw [List.lookup_cons, show (t == a) = false from beq_eq_false_iff_ne.mpr fun z => e z.symm]
      rw [this]
      exact List.mem_cons_of_mem _ (valG_mem h2)
def spCheck (C : Addr) : Sp := fun vs H Q _ => ∃ (x d : Addr) (ns : List Str) (L : List (Rule × Addr)) (g : List (Str × Int)), vs = [.ref x, .ref d] ∧ SysAt C H x ns L ∧ H d = some (.dK (goalKV g)) ∧ NumsOk ns g ∧ ∀ H', Same H H' → Q .non H'
def spAre (C : Addr) : Sp := fun vs H Q _ => ∃ (x d : Addr) (ns : List Str) (L : List (Rule × Addr)) (g : List (Str × Int)), vs = [.ref x, .ref d] ∧ SysAt C H x ns L ∧ H d = some (.dK (goalKV g)) ∧ NumsOk ns g ∧ ∀ H', Same H H' → Q (.bl true) H'
theorem ok_areNums {C : Addr} {f : Addr} {fd : FuncData} (D : DefAt K mg "are_numbers" s_are_numbers ["system", "thing"] f fd) (B : Blt2 mg) (PN : OkP P w K mg base C 1 "names" (spNames C)) (O_is_number : Ok P w K mg base 3 "is_number" ["thing"] spIsNum) :
    Ok P w K mg base 4 "are_numbers" ["system", "thing"] (spAre C) := by
  refine D.ok (D.fn.ok sc_are_numbers (fun vs H Q E h => ?_) (fun cdv A outer s H vs Q E hr h => ?_))
  · obtain ⟨x, d, ns, L, g, rfl, _⟩ := h
    rfl
  · obtain ⟨x, d, ns, L, g, rfl, hx, hd, ⟨pm, bd⟩, q⟩ := h
    have nd := sc_are_numbers.nd
    have hu := hu_of hr
    refine ⟨_, (pss_cons (ps_set (i := 2) nd rfl (Or.inl rfl) (pe_propO PN (hr.mono (by decide)) (pv 0)))
      (pss_cons (ps_if (PW.pt (pw_or (pt_not (pt_val (pe_callB call_isi (by rfl) B.isinstance (by decide +kernel) (pa_cons (pv 1) (pa_cons (pe_bltn (v := .ty "dict") (by rfl) B.dict (by decide +kernel) rfl) pa_nil))))) (pw_or1 (pt_cmpR op_ne (pe_callB call_lenD (by rfl) B.len PySem.boot_len (pa_cons (pv 1) pa_nil)) (pe_callB call_len_seq (by rfl) B.len PySem.boot_len (pa_cons (pv 2) pa_nil)) (nomark _))))) (pss_one (ps_ret pe_bl)) pss_nil)
      (pss_one (ps_ret (pe_callB (cr_all rfl) (by rfl) B.all (by decide +kernel) (pa_cons (pe_lc (own := [("name", 3)]) (g := gName 3) (tt := tYes) (by rfl) nd (pi_list (pv 2)) (blkOk_by (own := [("name", 3)]) (N := ["system", "thing", "names", "name"]) (sc := defScope s_are_numbers) (by decide +kernel)) (fun _ _ _ _ _ => (pg_name (i := 3) nd rfl (Or.inl rfl))) (fun _ _ _ _ _ => pts_nil) (fun _ _ _ _ _ => (pe_and (pe_cmp (pc_din hu (pv 3) (pv 1))) (pe_one (pe_own O_is_number (hr.mono (by decide)) (pa_cons (pe_dget hu (pv 1) (pv 3) (fun _ _ => rfl)) pa_nil)))))) pa_nil)))))), ?_⟩
    obtain ⟨dx, fs, h1⟩ := prop_at hx
    refine ⟨_, rfl, x, dx, fs, rfl, h1, x, ns, L, rfl, hx, fun l hl => ?_⟩
    have s1 := same_new (o := .lst (ns.map V.str)) hl
    have hl1 := upd_same (H := H) (a := l) (o := .lst (ns.map V.str))
    have hd1 := s1 _ _ hd
    have hlen : g.length = ns.length := by
      have := pm.length_eq
      rwa [List.length_map] at this
    have lN : ns.length < 64 := by
      obtain ⟨_, _, _, _, _, _, _, ok⟩ := hx
      exact ok.names.2.2
    refine ⟨_, rfl, _, _, _, _, true, rfl, .ty _, .base (.dK hd1), kit_ty (by decide +kernel), true, rfl, ?_⟩
    refine ⟨_, rfl, d, _, rfl, hd1, _, rfl, l, _, rfl, .inl (SqL.of hl1), rfl, _, rfl, ?_⟩
    have e : (V.int ((goalKV g).length : Nat) : V) = V.int ((ns.map V.str).length : Nat) := by
      rw [goalKV, List.length_map, List.length_map, hlen]
    rw [decide_eq_true e]
    refine iteF ?_
    refine ⟨_, rfl, l, rfl, ⟨_, SqL.of hl1⟩, fun D hD => ?_⟩
    refine lc_map walk_list hD ((ns.map fun _ => true).map V.bl) (by simp only [List.length_map]) (by
      have : sizeLine > 1000 := by decide
      rw [List.length_map]
      omega) (fun H2 s2 => SqL.of (s2 _ _ hl1)) ?_ ?_
    · rintro i y H2 H' hi R W s2 ⟨rfl, hy⟩ hR
      obtain ⟨t, ht, rfl⟩ := get_map hy
      have mt : t ∈ g.map (·.1) := pm.mem_iff.mpr (List.mem_of_getElem? ht)
      have hv := goal_val mt
      have hd2 := s2 _ _ hd1
      have b := bd _ (valG_mem mt)
      rw [List.getElem_map, List.getElem_map] at hR
      refine ⟨rfl, ?_⟩
      refine ⟨_, rfl, _, rfl, d, _, rfl, DGet.k (k := Sum.inr t) hd2, _, rfl, ?_⟩
      rw [hv]
      refine iteT ?_
      refine ⟨_, rfl, _, rfl, d, _, rfl, (by
        have := DGet.k (k := Sum.inr t) hd2
        rwa [hv] at this), ?_⟩
      refine ⟨_, rfl, ?_⟩
      rw [decide_eq_true b.1, decide_eq_true b.2]
      exact hR _ (Same.refl _)
    · intro H2 s2 h2
      refine ⟨D, ns.map fun _ => true, rfl, SqL.of h2, ?_⟩
      rw [show (ns.map fun _ => true).all id = true by rw [List.all_map]; exact List.all_eq_true.mpr fun _ _ => rfl]
      exact q _ (s1.trans s2)
theorem ok_check {C : Addr} {f : Addr} {fd : FuncData} (D : DefAt K mg "check_numbers" s_check_numbers ["system", "thing"] f fd) (O_are_numbers : Ok P w K mg base 4 "are_numbers" ["system", "thing"] (spAre C)) :
    Ok P w K mg base 5 "check_numbers" ["system", "thing"] (spCheck C) := by
  refine D.ok (D.fn.ok sc_check_numbers (fun vs H Q E h => ?_) (fun cdv A outer s H vs Q E hr h => ?_))
  · obtain ⟨x, d, ns, L, g, rfl, _⟩ := h
    rfl
  · obtain ⟨x, d, ns, L, g, rfl, hx, hd, hn, q⟩ := h
    have nd := sc_check_numbers.nd
    refine ⟨_, (pss_one (ps_if (pt_not (pt_val (pe_own O_are_numbers (hr.mono (by decide)) (pa_cons (pv 0) (pa_cons (pv 1) pa_nil))))) (pss_one ps_never) pss_nil)), ?_⟩
    exact ⟨_, rfl, _, rfl, x, d, ns, L, g, rfl, hx, hd, hn, fun H1 s1 => ⟨_, rfl, iteF (q _ s1)⟩⟩
def spNumOf : Sp := fun vs H Q _ => ∃ (d : Addr) (g : List (Str × Int)) (e : Option Str), vs = [endV e, .ref d] ∧ H d = some (.dK (goalKV g)) ∧ (∀ t, e = some t → t ∈ g.map (·.1)) ∧ Q (.int (valG g e)) H
theorem ok_numOf {f : Addr} {fd : FuncData} (D : DefAt K mg "number_of" s_number_of ["thing", "numbers"] f fd) : Ok P w K mg base 1 "number_of" ["thing", "numbers"] spNumOf := by
  refine D.ok (D.fn.ok sc_number_of (fun vs H Q E h => ?_) (fun cdv A outer s H vs Q E hr h => ?_))
  · obtain ⟨d, g, e, rfl, _⟩ := h
    rfl
  · obtain ⟨d, g, e, rfl, hd, hm, q⟩ := h
    have hu := hu_of hr
    refine ⟨_, (pss_cons (ps_if (pt_cmpR op_isN (pv 0) pe_non (nomark _)) (pss_one (ps_ret pe_int)) pss_nil)
      (pss_one (ps_ret (pe_dget hu (pv 1) (pv 0) (fun _ _ => rfl))))), ?_⟩
    refine ⟨_, rfl, rfl, _, rfl, ?_⟩
    cases e with
    | none => exact q
    | some t =>
      refine iteF ?_
      exact ⟨_, rfl, _, rfl, d, _, rfl, by
        have := DGet.k (k := Sum.inr t) hd
        rwa [goal_val (hm t rfl)] at this, q⟩
/-- how much the high of a rule is missing -/
def shortB (g : List (Str × Int)) (r : Rule) : Int := valG g r.low + r.gap - valG g r.high
def EndsIn (g : List (Str × Int)) (r : Rule) : Prop := (∀ t, r.low = some t → t ∈ g.map (·.1)) ∧ ∀ t, r.high = some t → t ∈ g.map (·.1)
def spShortOf : Sp := fun vs H Q _ => ∃ (q d : Addr) (r : Rule) (g : List (Str × Int)), vs = [.ref q, .ref d] ∧ H q = some (.tup (ruleV r)) ∧ H d = some (.dK (goalKV g)) ∧ EndsIn g r ∧ Q (.int (shortB g r)) H
theorem ok_shortOf {f : Addr} {fd : FuncData} (D : DefAt K mg "shortfall_of" s_shortfall_of ["rule", "numbers"] f fd) (O_number_of : Ok P w K mg base 1 "number_of" ["thing", "numbers"] spNumOf) : Ok P w K mg base 2 "shortfall_of" ["rule", "numbers"] spShortOf := by
  refine D.ok (D.fn.ok sc_shortfall_of (fun vs H Q E h => ?_) (fun cdv A outer s H vs Q E hr h => ?_))
  · obtain ⟨t, d, r, g, rfl, _⟩ := h
    rfl
  · obtain ⟨t, d, r, g, rfl, ht, hd, he, q⟩ := h
    have nd := sc_shortfall_of.nd
    refine ⟨_, (pss_cons (ps_asg (pv 0) (pg_tup rfl (pgs_cons (pg_name (i := 2) nd rfl (Or.inl rfl)) (pgs_cons (pg_name (i := 3) nd rfl (Or.inl rfl)) (pgs_cons (pg_name (i := 4) nd rfl (Or.inl rfl)) pgs_nil)))))
      (pss_one (ps_ret (pe_op op_sub (pe_op op_add (pe_own O_number_of (hr.mono (by decide)) (pa_cons (pv 2) (pa_cons (pv 1) pa_nil))) (pv 4)) (pe_own O_number_of (hr.mono (by decide)) (pa_cons (pv 3) (pa_cons (pv 1) pa_nil))))))), ?_⟩
    refine ⟨_, rfl, t, _, rfl, SqT.of ht, rfl, _, _, rfl, _, _, rfl, _, _, rfl, rfl, ?_⟩
    refine ⟨_, rfl, _, rfl, d, g, r.low, rfl, hd, he.1, _, rfl, _, _, rfl, rfl, ?_⟩
    refine ⟨_, rfl, _, rfl, d, g, r.high, rfl, hd, he.2, _, _, rfl, rfl, ?_⟩
    exact q
end
end Wnd

namespace Wnd
open PySem PySem.Spec PyProof.Rows L2
/-- what the head finds of the class System -/
structure SysRaw (K : PySem.W.Frag) (C : Addr) : Prop where
  at_ : PySem.W.nsIn K mainGlobals "System" = some (some (.ref C))
  pg : PySem.W.plainGet K C Str.empty = true
  hd : PySem.W.hasDictIn K C = true
  po : PySem.W.plainOver K C = true
  sa : PySem.W.findIn K (.ref C) "__setattr__" = some (some (.builtin "object.__setattr__"))
  nN : PySem.W.findIn K (.ref C) "_names" = some none
  nR : PySem.W.findIn K (.ref C) "_rules" = some none
  ha : PySem.W.findIn K (.ref C) "__class__" = some (some (.builtin "object.__class__"))
  hn : PySem.W.specialIn K (.builtin "object.__class__") "__get__" = some (some (.builtin "getset_descriptor.__get__"))
  htk : PySem.W.takesIn K (.builtin "object.__class__") = some true
  hm : PySem.W.mroIn K C (.type "object") = some true
  ic : PySem.W.isClsIn K C = true
  tc : PySem.W.typeIn K (.ref C) = some (.type "type")
  nf : PySem.W.notFirst K C (.ref C) = true
  kList : PySem.W.subIn K (.type "list") (.ref C) = some false
  kTuple : PySem.W.subIn K (.type "tuple") (.ref C) = some false
  kNone : PySem.W.subIn K (.type "NoneType") (.ref C) = some false
  kStr : PySem.W.subIn K (.type "str") (.ref C) = some false
  kInt : PySem.W.subIn K (.type "int") (.ref C) = some false
  fList : PySem.W.notFirst K C (.type "list") = true
  fTuple : PySem.W.notFirst K C (.type "tuple") = true
  fNone : PySem.W.notFirst K C (.type "NoneType") = true
  fStr : PySem.W.notFirst K C (.type "str") = true
  fInt : PySem.W.notFirst K C (.type "int") = true
  ne : PySem.W.findIn K (.ref C) "__ne__" = some (some (.builtin "object.__ne__"))
  ob : PySem.W.subIn K (.ref C) (.type "object") = some true
  mks : PySem.W.makesIn K C = true
  kc : PySem.W.keepIn K (.ref C) = true
theorem SysRaw.kit {K : PySem.W.Frag} {C : Addr} {T : String} (R : SysRaw K C) (h : PySem.W.subIn K (.type T) (.ref C) = some false) : PySem.W.kitOne K (.type T) (.ref C) = some false := by
  have h1 : (PySem.W.clsIn K C).isSome = true := R.ic
  have h2 : ((Value.type T) == (Value.ref C)) = false := rfl
  unfold PySem.W.kitOne PySem.W.kitCls
  rw [h2, if_neg Bool.false_ne_true]
  show (if ((PySem.W.clsIn K C).isSome && PySem.W.typeIn K (.ref C) == some (.type "type")) = true then PySem.W.subIn K (.type T) (.ref C) else none) = some false
  rw [h1, R.tc, if_pos (by simp)]
  exact h
theorem SysRaw.me {K : PySem.W.Frag} {C : Addr} (R : SysRaw K C) : PySem.W.kitOne K (.ref C) (.ref C) = some true := by
  unfold PySem.W.kitOne
  rw [if_pos (by simp)]
theorem SysRaw.f {K : PySem.W.Frag} {C : Addr} {mg : Str → Option Value} {h : Heap} (R : SysRaw K C) (X : K.In h) (G : h.Ns mainGlobals mg) : SysF K mg C :=
  { cl := ⟨R.pg, R.hd, R.po, R.sa⟩, nN := R.nN, nR := R.nR, mgC := PySem.W.mg_of X G R.at_, isC := ⟨⟨R.pg, R.hd, R.po, R.sa⟩, R.ha, R.hn, R.htk, R.hm, R.me⟩, nf := R.nf,
    bList := ⟨R.kit R.kList, R.fList⟩, bTuple := ⟨R.kit R.kTuple, R.fTuple⟩, bNone := ⟨R.kit R.kNone, R.fNone⟩, bStr := ⟨R.kit R.kStr, R.fStr⟩, bInt := ⟨R.kit R.kInt, R.fInt⟩ }
end Wnd

/-! the shortfall of a rule, as the program and as the law find it -/
namespace Wnd
open PySem PySem.Spec PyProof.Rows L2
abbrev s_law_short : Stmt := top 41
theorem sc_law_short : FnScope ["_law_held", "_law_ask"] ["_law_held", "_law_ask"] (defScope s_law_short) := ⟨rfl, rfl, rfl, by decide +kernel, rfl, by decide +kernel, by decide +kernel⟩
section
variable {P : Program} {w : World} {K : PySem.W.Frag} {mg : Str → Option Value} {base : Heap}
theorem EndsIn.of {ts : List Str} {g : List (Str × Int)} {r : Rule} (h : RuleOk ts r) (hg : ∀ t ∈ ts, t ∈ g.map (·.1)) : EndsIn g r := by
  have e_ : ∀ {e : Option Str}, endIn ts e = true → ∀ t, e = some t → t ∈ g.map (·.1) := by
    rintro e he t rfl
    obtain ⟨x, hx, e⟩ := List.any_eq_true.mp he
    exact hg t (eq_of_beq e ▸ hx)
  exact ⟨e_ h.low, e_ h.high⟩
def spLawShort : Sp := fun vs H Q _ => ∃ (d q : Addr) (r : Rule) (g : List (Str × Int)), vs = [.ref d, .ref q] ∧ H d = some (.dK (goalKV g)) ∧ H q = some (.tup (ruleV r)) ∧ EndsIn g r ∧ Q (.int (shortB g r)) H
theorem ok_lshort {f : Addr} {fd : FuncData} (D : DefAt K mg "_law_short" s_law_short ["_law_held", "_law_ask"] f fd) (O_law_at : Ok P w K mg base 1 "_law_at" ["_law_held", "_law_thing"] spAt) : Ok P w K mg base 2 "_law_short" ["_law_held", "_law_ask"] spLawShort := by
  refine D.ok (D.fn.ok sc_law_short (fun vs H Q E h => ?_) (fun cdv A outer s H vs Q E hr h => ?_))
  · obtain ⟨d, q, r, g, rfl, _⟩ := h
    rfl
  · obtain ⟨d, t, ⟨low, high, gap⟩, g, rfl, hd, ht, he, q⟩ := h
    refine ⟨_, (pss_one (ps_ret (pe_op op_sub (pe_op op_add (pe_own O_law_at (hr.mono (by decide)) (pa_cons (pv 0) (pa_cons (pe_ix ix_tup (pv 1) pe_int (fun _ _ => rfl)) pa_nil))) (pe_ix ix_tup (pv 1) pe_int (fun _ _ => rfl))) (pe_own O_law_at (hr.mono (by decide)) (pa_cons (pv 0) (pa_cons (pe_ix ix_tup (pv 1) pe_int (fun _ _ => rfl)) pa_nil)))))), ?_⟩
    refine ⟨_, rfl, _, rfl, t, _, 0, _, rfl, rfl, SqT.of ht, atI_nat rfl, ?_⟩
    refine ⟨d, g, low, rfl, hd, he.1, ?_⟩
    refine ⟨_, rfl, t, _, 2, _, rfl, rfl, SqT.of ht, atI_nat rfl, _, _, rfl, rfl, ?_⟩
    refine ⟨_, rfl, _, rfl, t, _, 1, _, rfl, rfl, SqT.of ht, atI_nat rfl, ?_⟩
    exact ⟨d, g, high, rfl, hd, he.2, _, _, rfl, rfl, q⟩
end
end Wnd

/-! Windowsteps: how long repr(x) is, numbers of settings. -/
namespace Wnd
open PySem PySem.Spec PyProof.Rows L2
theorem int_shown_len {i : Int} (h : i.natAbs < 10 ^ 12) : (PyData.shown (.int i)).length ≤ 13 := by
  have e := PySem.int_text_length_le10 (a := i) (k := 12) (by decide) h
  show (Str.ofString (toString i)).length ≤ 13
  rw [PySem.ofString_length]
  exact e
theorem log_small {n k : Nat} (hk : 0 < k) (h : n < 2 ^ k) : n.log2 < k := by
  by_cases z : n = 0
  · subst z
    rw [show Nat.log2 0 = 0 from by decide]
    exact hk
  · exact (Nat.log2_lt z).mpr h
/-- one text and one int -/
structure Small (x : Str × Int) : Prop where
  len : x.1.length ≤ 8
  sign : ∀ c ∈ x.1.cps.toList, c < 16 ^ 8
  ge : -99999 ≤ x.2
  le : x.2 ≤ 99999
theorem Small.abs {x : Str × Int} (h : Small x) : x.2.natAbs < 10 ^ 12 := by
  have := h.ge
  have := h.le
  omega
theorem Small.log {x : Str × Int} (h : Small x) : x.2.natAbs.log2 < 17 := by
  have := h.ge
  have := h.le
  exact log_small (by decide) (by omega)
theorem goal_kv : ∀ {g : List (Str × Int)}, (∀ x ∈ g, Small x) → PyData.leavesShortKv 13 (g.map fun x => (PyData.str x.1, PyData.int x.2)) = true ∧ PyData.showableKv (g.map fun x => (PyData.str x.1, PyData.int x.2)) = true ∧
    PyData.weightKv (g.map fun x => (PyData.str x.1, PyData.int x.2)) ≤ 27 * g.length ∧ PyData.depthKv (g.map fun x => (PyData.str x.1, PyData.int x.2)) = 0
  | [], _ => ⟨by simp [PyData.leavesShortKv], by simp [PyData.showableKv], by simp [PyData.weightKv], by simp [PyData.depthKv]⟩
  | x :: g, h => by
    obtain ⟨h1, h2, h3, h4⟩ := goal_kv fun y hy => h y (List.mem_cons_of_mem _ hy)
    have hx := h x (List.mem_cons_self ..)
    have lg := hx.log
    have ln : x.1.cps.size ≤ 8 := hx.len
    refine ⟨?_, ?_, ?_, ?_⟩
    · rw [List.map_cons, PyData.leavesShortKv, h1, PyData.leavesShort, PyData.leavesShort, Bool.and_true, Bool.and_eq_true, List.all_eq_true, decide_eq_true_iff]
      exact ⟨fun c hc => decide_eq_true (hx.sign c hc), int_shown_len hx.abs⟩
    · rw [List.map_cons, PyData.showableKv, h2, PyData.showable, PyData.showable, Bool.true_and, Bool.and_true, decide_eq_true_iff]
      omega
    · rw [List.map_cons, PyData.weightKv, PyData.weight, PyData.weight, List.length_cons]
      split <;> omega
    · rw [List.map_cons, PyData.depthKv, h4, PyData.depth, PyData.depth]
      rfl
theorem goal_show {g : List (Str × Int)} (h : ∀ x ∈ g, Small x) (hz : g.length ≤ 1000) : (goalD g).showable = true ∧ (goalD g).shown.length ≤ sizeLine ∧ (goalD g).depth ≤ 60 := by
  obtain ⟨h1, h2, h3, h4⟩ := goal_kv h
  refine ⟨?_, ?_, ?_⟩
  · rw [goalD, PyData.showable]
    exact h2
  · have e := PyData.shown_le 13 (by decide) (goalD g) (by rw [goalD, PyData.leavesShort]; exact h1)
    have ew : (goalD g).weight ≤ 27 * g.length := by
      rw [goalD, PyData.weight]
      exact h3
    have : sizeLine = 16777216 := by decide
    omega
  · rw [goalD, PyData.depth, h4]
    decide
theorem int_show {i : Int} (h : i.natAbs < 10 ^ 12) : (PyData.int i).canLay0 = true ∧ (PyData.int i).showable = true ∧ (PyData.int i).shown.length ≤ sizeLine ∧ (PyData.int i).depth ≤ 60 := by
  have z : i.natAbs.log2 < 1920 := Nat.lt_trans (log_small (k := 40) (by decide) (Nat.lt_trans h (by decide))) (by decide)
  have len := int_shown_len h
  have : sizeLine = 16777216 := by decide
  exact ⟨by simp [PyData.canLay0], by simp [PyData.showable, z], by omega, by simp [PyData.depth]⟩
/-- repr of an int -/
theorem repr_int {K : PySem.W.Frag} {H : Hp} {i : Int} {Q : VK} (h : i.natAbs < 10 ^ 12) (q : Q (.str (PyData.shown (.int i))) H) : rRepr K [.int i] H Q := by
  have z : i.natAbs.log2 < 1920 := Nat.lt_trans (log_small (k := 40) (by decide) (Nat.lt_trans h (by decide))) (by decide)
  have len := int_shown_len h
  have : sizeLine = 16777216 := by decide
  exact ⟨_, .int i, rfl, .dp (.int i), by simp [PyData.canLay0], by simp [PyData.showable, z], by omega, by simp [PyData.depth], q⟩
/-- repr of numbers -/
theorem repr_goal {K : PySem.W.Frag} {H : Hp} {a : Addr} {g : List (Str × Int)} {Q : VK} (ha : H a = some (.dK (g.map fun x => (Sum.inr x.1, V.int x.2)))) (h : ∀ x ∈ g, Small x) (hz : g.length ≤ 1000) (q : Q (.str (goalD g).shown) H) : rRepr K [.ref a] H Q := by
  obtain ⟨h1, h2, h3⟩ := goal_show h hz
  exact ⟨_, goalD g, rfl, .goal ha, rfl, h1, h2, h3, q⟩
end Wnd

/-! numbers of settings: in another order, shown -/
namespace Wnd
open PySem PySem.Spec PyProof.Rows L2
theorem lookup_nodup {t : Str} {v : Int} : ∀ {g : List (Str × Int)}, (g.map (·.1)).Nodup → (t, v) ∈ g → g.lookup t = some v
  | (a, b) :: r, nd, h => by
    rw [List.map_cons, List.nodup_cons] at nd
    rcases List.mem_cons.mp h with e | h
    · cases e
      rw [List.lookup_cons, show (t == t) = true from beq_self_eq_true t]
    · have : a ≠ t := fun e => nd.1 (e ▸ List.mem_map.mpr ⟨_, h, rfl⟩)
      rw [List.lookup_cons, show (t == a) = false from beq_eq_false_iff_ne.mpr fun z => this z.symm]
      exact lookup_nodup nd.2 h
theorem valG_perm {g g' : List (Str × Int)} (p : g.Perm g') (nd : (g.map (·.1)).Nodup) {e : Option Str} (h : ∀ t, e = some t → t ∈ g.map (·.1)) : valG g' e = valG g e := by
  cases e with
  | none => rfl
  | some t =>
    have m := valG_mem (h t rfl)
    show (g'.lookup t).getD 0 = valG g (some t)
    rw [lookup_nodup ((p.map (·.1)).nodup_iff.mp nd) (p.mem_iff.mp m)]
    rfl
theorem shortB_perm {g g' : List (Str × Int)} {r : Rule} (p : g.Perm g') (nd : (g.map (·.1)).Nodup) (h : EndsIn g r) : shortB g' r = shortB g r := by
  unfold shortB
  rw [valG_perm p nd h.1, valG_perm p nd h.2]
theorem EndsIn.perm {g g' : List (Str × Int)} {r : Rule} (p : g.Perm g') (h : EndsIn g r) : EndsIn g' r := ⟨fun t e => (p.map (·.1)).mem_iff.mp (h.1 t e), fun t e => (p.map (·.1)).mem_iff.mp (h.2 t e)⟩
theorem valG_bound {g : List (Str × Int)} (hb : ∀ x ∈ g, -99999 ≤ x.2 ∧ x.2 ≤ 99999) {e : Option Str} (h : ∀ t, e = some t → t ∈ g.map (·.1)) : -99999 ≤ valG g e ∧ valG g e ≤ 99999 := by
  cases e with
  | none => exact ⟨by show (-99999 : Int) ≤ 0; decide, by show (0 : Int) ≤ 99999; decide⟩
  | some t => exact hb _ (valG_mem (h t rfl))
theorem shortB_abs {g : List (Str × Int)} {ts : List Str} {r : Rule} (hb : ∀ x ∈ g, -99999 ≤ x.2 ∧ x.2 ≤ 99999) (h : EndsIn g r) (ro : RuleOk ts r) : (shortB g r).natAbs < 10 ^ 12 := by
  have h1 := valG_bound hb h.1
  have h2 := valG_bound hb h.2
  have h3 := ro.ge
  have h4 := ro.le
  unfold shortB
  omega
theorem name_sign {t : Str} (h : nameB t = true) : ∀ c ∈ t.cps.toList, c < 16 ^ 8 := by
  unfold nameB at h
  rw [Bool.and_eq_true, List.all_eq_true] at h
  intro c hc
  have := h.2 c hc
  unfold letterOk at this
  rw [Bool.and_eq_true, Bool.not_eq_true', Bool.not_eq_true', decide_eq_false_iff_not, decide_eq_false_iff_not] at this
  have h2 : ¬ (122 < c) := fun z => this.2 (List.Lex.rel z)
  omega
theorem small_of {ts : List Str} {g : List (Str × Int)} (N : NamesOk ts) (hg : (g.map (·.1)).Perm ts) (hb : ∀ x ∈ g, -99999 ≤ x.2 ∧ x.2 ≤ 99999) : ∀ x ∈ g, Small x := fun x hx => by
  have n := N.2.1 x.1 (hg.mem_iff.mp (List.mem_map.mpr ⟨x, hx, rfl⟩))
  have := (name_len n).2
  exact ⟨by omega, name_sign n, (hb x hx).1, (hb x hx).2⟩
theorem len_of {ts : List Str} {g : List (Str × Int)} (N : NamesOk ts) (hg : (g.map (·.1)).Perm ts) : g.length ≤ 1000 := by
  have h1 := hg.length_eq
  have h2 := N.2.2
  rw [List.length_map] at h1
  omega
theorem paired_rev {α β : Type} {F : α → β → Prop} : ∀ {a : List α} {b : List β}, Paired F a b → Paired F a.reverse b.reverse
  | _, _, .nil => .nil
  | _, _, .cons h t => by
    rw [List.reverse_cons, List.reverse_cons]
    exact (paired_rev t).snoc h
theorem goal_paired {K : PySem.W.Frag} {H : Hp} {ps : List Addr} {g : List (Str × Int)} (h : Paired (fun u x => H u = some (.tup [.str x.1, .int x.2])) ps g) : Paired (fun u (kv : Key × V) => SqT K H u [kV kv.1, kv.2]) ps (goalKV g) := by
  induction h with
  | nil => exact .nil
  | cons h1 h2 ih => exact .cons (SqT.of h1) ih
theorem goal_rev (g : List (Str × Int)) : (goalKV g).reverse = goalKV g.reverse := (List.map_reverse ..).symm
section
variable {P : Program} {w : World} {K : PySem.W.Frag} {mg : Str → Option Value} {base : Heap}
/-- dict(list(held.items())[::-1]): the pairs turned -/
theorem turned_at {H' : Hp} {l2 : Addr} {g : List (Str × Int)} {ts : List Addr} (hp : Paired (fun (t : Addr) (q : Key × V) => H' t = some (.tup [kV q.1, q.2])) ts (goalKV g)) (hl2 : H' l2 = none) :
    SqL K (upd H' l2 (.lst (ts.map V.ref).reverse)) l2 (ts.reverse.map V.ref) ∧ Paired (fun p' (kv : Key × V) => SqT K (upd H' l2 (.lst (ts.map V.ref).reverse)) p' [kV kv.1, kv.2]) ts.reverse (goalKV g.reverse) := by
  have s2 := same_new (o := .lst (ts.map V.ref).reverse) hl2
  refine ⟨SqL.of (by rw [upd_same, List.map_reverse]), ?_⟩
  rw [← goal_rev]
  exact Paired.mapP (paired_rev hp) fun t x h => SqT.of (s2 _ _ h)
theorem turned_merge {g : List (Str × Int)} (nodg : (g.map (·.1)).Nodup) : mergeK [] (goalKV g.reverse) = goalKV g.reverse :=
  goal_merge (by rw [List.map_reverse]; exact (List.reverse_perm _).nodup_iff.mpr nodg)
end
end Wnd

/-! numbers made by a comprehension of pairs, copied, changed -/
namespace Wnd
open PySem PySem.Spec PyProof.Rows L2
/-- [(nym, ..) for nym in nyms]: the j-th number has R j -/
theorem lc_pairs {K : PySem.W.Frag} {p c an D : Addr} {n0 m : Nat} {ts : List Str} {H1 : Hp} {gT : TG} {tt : TT} {te : TE} {vs : List Nat} {σ : L2.St} {Qd : Hp → Prop} (R : Nat → Int → Prop) (hD : H1 D = none) (hP : PenAt H1 p c n0) (hA : H1 an = some (.lst (ts.map V.str))) (hz : ts.length < 1000)
    (hs : ∀ (j : Nat) (hj : j < ts.length) (Hc : Hp) (Nx : Hp → Prop), But p H1 Hc → PenAt Hc p c (n0 + m * j) →
      (∀ (v : Int) (H' : Hp), R j v → But p Hc H' → PenAt H' p c (n0 + m * (j + 1)) → ∀ T, H' T = none → ∃ acc, (upd H' T (.tup [.str ts[j], .int v])) D = some (.lst acc) ∧ acc.length < sizeLine ∧ Nx (upd (upd H' T (.tup [.str ts[j], .int v])) D (.lst (acc ++ [.ref T])))) →
      gT (.str ts[j]) (wipe σ vs) Hc fun σ2 H2 => wipe σ2 vs = wipe σ vs ∧ tt σ2 H2 fun b H3 => if b = true then te σ2 H3 fun y H4 => ∃ acc, H4 D = some (.lst acc) ∧ acc.length < sizeLine ∧ Nx (upd H4 D (.lst (acc ++ [y]))) else Nx H3)
    (hd : ∀ (Hc : Hp) (ps : List Addr) (g : List (Str × Int)), g.map (·.1) = ts → (∀ (j : Nat) (h : j < g.length), R j g[j].2) → Paired (fun u x => Hc u = some (.tup [.str x.1, .int x.2])) ps g → Hc D = some (.lst (ps.map V.ref)) → But p H1 Hc → PenAt Hc p c (n0 + m * ts.length) → Qd Hc) :
    ∃ W : Nat → Nat → Hp → Prop, (∃ m, W 0 m (upd H1 D (.lst []))) ∧ ∀ i m H, W i m H →
      ((Itl K an).stop i H ∧ Qd H) ∨ ((Itl K an).go i H ∧ ∃ Nx : Hp → Prop, (∀ H', Nx H' → ∃ m', m' < m ∧ W (i + 1) m' H') ∧ ∀ x H', (Itl K an).yld i H x H' → gT x (wipe σ vs) H' fun σ2 H2 => wipe σ2 vs = wipe σ vs ∧ tt σ2 H2 fun b H3 =>
        if b = true then te σ2 H3 fun y H4 => ∃ acc, H4 D = some (.lst acc) ∧ acc.length < sizeLine ∧ Nx (upd H4 D (.lst (acc ++ [y]))) else Nx H3) := by
  obtain ⟨nDp, nDc⟩ := hP.out hD
  have nap := hP.ne_strs hA
  have big : sizeLine > 100000 := by decide
  refine lc_it (walk_list (xs := ts.map V.str)) (fun j Hc => ∃ (ps : List Addr) (g : List (Str × Int)), g.map (·.1) = ts.take j ∧ (∀ (i : Nat) (h : i < g.length), R i g[i].2) ∧ Paired (fun u x => Hc u = some (.tup [.str x.1, .int x.2])) ps g ∧ Hc D = some (.lst (ps.map V.ref)) ∧ But p H1 Hc ∧ PenAt Hc p c (n0 + m * j))
    ⟨[], [], rfl, fun _ h => absurd h (Nat.not_lt_zero _), .nil, upd_same, But.new hD, hP.same (same_new hD)⟩ (fun j Hc _ ⟨_, _, _, _, _, _, b, _⟩ => SqL.of (b _ _ hA nap)) ?_ ?_
  · rintro j x Hc H' hj ⟨ps, g, hg, hb, hp, h2, b, hPc⟩ ⟨rfl, hx⟩
    obtain ⟨t, ht, rfl⟩ := get_map hx
    have hj' : j < ts.length := by rwa [List.length_map] at hj
    have et : ts[j] = t := by
      rw [List.getElem?_eq_getElem hj'] at ht
      exact Option.some.inj ht
    have hgl : g.length = j := by
      have h2 : (g.map (·.1)).length = (ts.take j).length := by rw [hg]
      rw [List.length_map, List.length_take] at h2
      omega
    have hpl : ps.length = j := by
      have h1 := hp.length
      omega
    have h0 := hs j hj' H' (fun Hx => ∃ (ps : List Addr) (g : List (Str × Int)), g.map (·.1) = ts.take (j + 1) ∧ (∀ (i : Nat) (h : i < g.length), R i g[i].2) ∧ Paired (fun u x => Hx u = some (.tup [.str x.1, .int x.2])) ps g ∧ Hx D = some (.lst (ps.map V.ref)) ∧ But p H1 Hx ∧ PenAt Hx p c (n0 + m * (j + 1))) b hPc
      (fun v X hv bX PX T hT => ?_)
    · rwa [et] at h0
    · have h2' := bX _ _ h2 nDp
      have nDT : D ≠ T := ne_of_none h2' hT
      obtain ⟨nTp, nTc⟩ := PX.out hT
      refine ⟨ps.map V.ref, by rw [upd_ne nDT]; exact h2', by rw [List.length_map]; omega, ps ++ [T], g ++ [(t, v)], ?_, ?_, ?_, ?_, ?_, ?_⟩
      · rw [List.map_append, hg, List.take_add_one, ht]
        rfl
      · intro i hi
        rw [List.length_append, List.length_singleton] at hi
        by_cases z : i < g.length
        · rw [List.getElem_append_left z]
          exact hb i z
        · have : i = j := by omega
          subst this
          rw [List.getElem_append_right (by omega)]
          simpa [hgl] using hv
      · refine Paired.snoc (Paired.mono (fun u x hu => ?_) hp) ?_
        · have hu3 := bX _ _ hu (hPc.ne_of hu fun xs z => nomatch z)
          rw [upd_ne (ne_of hu3 h2' fun z => nomatch z), upd_ne (ne_of_none hu3 hT)]
          exact hu3
        · rw [upd_ne nDT.symm, et]
          exact upd_same
      · rw [upd_same, List.map_append]
        rfl
      · intro z o hz nz
        rw [upd_ne (ne_of_none hz hD), upd_ne (ne_of_none (bX _ _ (b _ _ hz nz) nz) hT)]
        exact bX _ _ (b _ _ hz nz) nz
      · exact (PX.same (same_new hT)).upd nDp nDc
  · rintro Hc ⟨ps, g, hg, hb, hp, h2, b, hPc⟩
    rw [List.length_map] at hg hPc
    rw [List.take_length] at hg
    exact hd Hc ps g hg hb hp h2 b hPc
/-- one number changed -/
def setG (g : List (Str × Int)) (t : Str) (v : Int) : List (Str × Int) := g.map fun x => if x.1 = t then (x.1, v) else x
theorem setG_keys (g : List (Str × Int)) (t : Str) (v : Int) : (setG g t v).map (·.1) = g.map (·.1) := by
  unfold setG
  rw [List.map_map]
  refine List.map_congr_left fun x _ => ?_
  show (if x.1 = t then (x.1, v) else x).1 = x.1
  split <;> rfl
theorem put_goal {g : List (Str × Int)} {t : Str} {v : Int} (h : t ∈ g.map (·.1)) : putK (goalKV g) (Sum.inr t : Key) (V.int v) = goalKV (setG g t v) := by
  obtain ⟨y, hy, e⟩ := List.mem_map.mp h
  unfold putK
  have z : ((goalKV g).any fun kv => decide (kv.1 = (Sum.inr t : Key))) = true := List.any_eq_true.mpr ⟨(Sum.inr y.1, V.int y.2), List.mem_map.mpr ⟨y, hy, rfl⟩, decide_eq_true (by rw [e])⟩
  rw [if_pos z]
  unfold goalKV setG
  rw [List.map_map, List.map_map]
  refine List.map_congr_left fun x _ => ?_
  show (if (Sum.inr x.1 : Key) = Sum.inr t then ((Sum.inr x.1 : Key), V.int v) else (Sum.inr x.1, V.int x.2)) = (Sum.inr (if x.1 = t then (x.1, v) else x).1, V.int (if x.1 = t then (x.1, v) else x).2)
  by_cases z : x.1 = t
  · rw [if_pos (by rw [z]), if_pos z]
  · rw [if_neg (fun w => z (by injection w)), if_neg z]
theorem setG_bound {g : List (Str × Int)} {t : Str} {v lo hi : Int} (hb : ∀ x ∈ g, lo ≤ x.2 ∧ x.2 ≤ hi) (hv : lo ≤ v ∧ v ≤ hi) : ∀ x ∈ setG g t v, lo ≤ x.2 ∧ x.2 ≤ hi := by
  intro x hx
  obtain ⟨y, hy, rfl⟩ := List.mem_map.mp hx
  split
  · exact hv
  · exact hb y hy
theorem valG_set {g : List (Str × Int)} {t : Str} {v : Int} (h : t ∈ g.map (·.1)) : ∀ e : Option Str, (∀ u, e = some u → u ∈ g.map (·.1)) → valG (setG g t v) e = if e = some t then v else valG g e := by
  intro e he
  cases e with
  | none => rfl
  | some u =>
    have hu := he u rfl
    clear he
    induction g with
    | nil => exact nomatch hu
    | cons x g ih =>
      show ((setG (x :: g) t v).lookup u).getD 0 = _
      have e1 : setG (x :: g) t v = (if x.1 = t then (x.1, v) else x) :: setG g t v := rfl
      rw [e1]
      by_cases z : x.1 = u
      · subst z
        by_cases y : x.1 = t
        · rw [if_pos y, if_pos (by rw [y]), List.lookup_cons, show (x.1 == x.1) = true from beq_self_eq_true _]
          rfl
        · rw [if_neg y, if_neg (fun w => y (by injection w)), List.lookup_cons, show (x.1 == x.1) = true from beq_self_eq_true _]
          show x.2 = (List.lookup x.1 (x :: g)).getD 0
          rw [show List.lookup x.1 (x :: g) = some x.2 by rw [show x = (x.1, x.2) from rfl, List.lookup_cons, show (x.1 == x.1) = true from beq_self_eq_true _]]
          rfl
      · have hu2 : u ∈ g.map (·.1) := (List.mem_cons.mp hu).elim (fun w => absurd w.symm z) id
        have e2 : (List.lookup u ((if x.1 = t then (x.1, v) else x) :: setG g t v)) = List.lookup u (setG g t v) := by
          have k : (if x.1 = t then (x.1, v) else x).1 = x.1 := by split <;> rfl
          generalize (if x.1 = t then (x.1, v) else x) = w at k
          obtain ⟨a, b⟩ := w
          rw [List.lookup_cons, show (u == a) = false from beq_eq_false_iff_ne.mpr fun q => z (k ▸ q.symm)]
        have e3 : valG (x :: g) (some u) = valG g (some u) := by
          show (List.lookup u (x :: g)).getD 0 = _
          obtain ⟨a, b⟩ := x
          rw [List.lookup_cons, show (u == a) = false from beq_eq_false_iff_ne.mpr fun q => z q.symm]
          rfl
        rw [e2, e3]
        by_cases y : u = t
        · subst y
          by_cases m : u ∈ g.map (·.1)
          · exact ih m hu2
          · exact absurd hu2 m
        · rw [if_neg (fun w => y (by injection w))]
          by_cases m : t ∈ g.map (·.1)
          · have := ih m hu2
            rw [if_neg (fun w => y (by injection w))] at this
            exact this
          · have e4 : setG g t v = g := by
              unfold setG
              have : ∀ x ∈ g, (if x.1 = t then (x.1, v) else x) = x := fun x hx => if_neg fun (w : x.1 = t) => m (w ▸ List.mem_map.mpr ⟨x, hx, rfl⟩)
              rw [List.map_congr_left this, List.map_id']
            rw [e4]
            rfl
end Wnd

namespace Wnd
open PySem PySem.Spec PyProof.Rows L2
abbrev s_law_torn_gaps : Stmt := top 43
theorem sc_law_torn_gaps : FnScope ["_law_pen_here", "_law_nyms_here", "_law_gaps_here", "_law_ring", "_law_spans", "_law_found", "_law_k", "_law_one"] ["_law_pen_here", "_law_nyms_here", "_law_gaps_here"] (defScope s_law_torn_gaps) := ⟨rfl, rfl, rfl, by decide +kernel, rfl, by decide +kernel, by decide +kernel⟩
section
variable {P : Program} {w : World} {K : PySem.W.Frag} {mg : Str → Option Value} {base : Heap}
/-! ### rules with a contradiction -/
def spTorn : Sp := fun vs H Q _ => ∃ (p c a b : Addr) (n : Nat) (ts : List Str) (rs : List (Rule × Addr)), vs = [.ref p, .ref a, .ref b] ∧ PenAt H p c n ∧ n ≤ 800000 ∧ H a = some (.lst (ts.map V.str)) ∧ NamesOk ts ∧
  H b = some (.lst (rs.map fun x => V.ref x.2)) ∧ KeyTups H rs ∧ (∀ x ∈ rs, RuleOk ts x.1) ∧ rs.length ≤ 1000 ∧
  ∀ r H' n' (rs' : List (Rule × Addr)), But p H H' → r ≠ p → H' r = some (.lst (rs'.map fun x => V.ref x.2)) → KeyTups H' rs' → (∀ x ∈ rs', RuleOk ts x.1) → rs'.length ≤ rs.length + 3 → PenAt H' p c n' → n' ≤ n + 9 → Q (.ref r) H'
theorem ok_torn {f : Addr} {fd : FuncData} (D : DefAt K mg "_law_torn_gaps" s_law_torn_gaps ["_law_pen_here", "_law_nyms_here", "_law_gaps_here"] f fd) (B : Blt3 mg) (O_law_draw : Ok P w K mg base 2 "_law_draw" ["_law_pen_here", "_law_under"] spDraw) (O_law_some : Ok P w K mg base 3 "_law_some" ["_law_pen_here", "_law_pool", "_law_most"] (spSome K)) :
    Ok P w K mg base 4 "_law_torn_gaps" ["_law_pen_here", "_law_nyms_here", "_law_gaps_here"] spTorn := by
  refine D.ok (D.fn.ok sc_law_torn_gaps (fun vs H Q E h => ?_) (fun cdv A outer s H vs Q E hr h => ?_))
  · obtain ⟨p, c, a, b, n, ts, rs, rfl, _⟩ := h
    rfl
  · obtain ⟨p, c, a, b, n, ts, rs, rfl, hP, hn, hA, N, hB, hk, hro, hz, q⟩ := h
    have nd := sc_law_torn_gaps.nd
    have big : sizeLine > 100000 := by decide
    have lN := N.2.2
    refine ⟨_, (pss_cons (ps_set (i := 3) nd rfl (Or.inl rfl) (pe_own O_law_some (hr.mono (by decide)) (pa_cons (pv 0) (pa_cons (pe_op op_cat (pe_lst (pa_cons pe_non pa_nil)) (pe_callTy call_list_of (by rfl) B.list (by decide +kernel) (pa_cons (pv 1) pa_nil))) (pa_cons pe_int pa_nil)))))
      (C8.pss_cut (ps_if (pt_cmpR op_lt (pe_callB call_len_seq (by rfl) B.len PySem.boot_len (pa_cons (pv 3) pa_nil)) pe_int (nomark _)) (pss_one (ps_set (i := 3) nd rfl (Or.inl rfl) (pe_slice sl_list (pe_op op_cat (pe_lst (pa_cons pe_non pa_nil)) (pe_callTy call_list_of (by rfl) B.list (by decide +kernel) (pa_cons (pv 1) pa_nil))) po_none (po_some pe_int)))) pss_nil)
      (pss_cons (ps_if (pt_cmpR op_lt (pe_callB call_len_seq (by rfl) B.len PySem.boot_len (pa_cons (pv 3) pa_nil)) pe_int (nomark _)) (pss_one (ps_ret (pv 2))) pss_nil)
      (pss_cons (ps_setLc (i := 4) (own := [("_law_one", 7)]) (g := gName 7) (tt := tYes) (by rfl) nd rfl rfl (sw_true rfl rfl rfl (by decide +kernel)) (pi_list (pe_slice sl_list (pv 3) (po_some pe_int) po_none)) (blkOk_by (own := [("_law_one", 7)]) (N := ["_law_pen_here", "_law_nyms_here", "_law_gaps_here", "_law_ring", "_law_spans", "_law_found", "_law_k", "_law_one"]) (sc := defScope s_law_torn_gaps) (by decide +kernel)) (fun _ _ _ _ _ => (pg_name (i := 7) nd rfl (Or.inl rfl))) (fun _ _ _ _ _ => pts_nil) (fun _ _ _ _ _ => (pe_op op_sub (pe_own O_law_draw (hr.mono (by decide)) (pa_cons (pv 0) (pa_cons pe_int pa_nil))) pe_int)))
      (pss_cons (ps_set (i := 5) nd rfl (Or.inl rfl) (pe_callTy call_list_of (by rfl) B.list (by decide +kernel) (pa_cons (pv 2) pa_nil)))
      (pss_cons (ps_for PassesOwn.never rfl (pi_range1 (by rfl) B.range (pa_cons (pe_op op_sub (pe_callB call_len_seq (by rfl) B.len PySem.boot_len (pa_cons (pv 3) pa_nil)) pe_int) pa_nil)) (pg_name (i := 6) nd rfl (Or.inl rfl)) (pss_one (ps_expr (pe_bm PySem.F.plainAttrs_list PySem.F.slot_list_append PySem.F.type_list_append mt_append (pv 5) (pa_cons (pe_tup (pa_cons (pe_ix ix_list (pv 3) (pv 6) (fun _ _ => rfl)) (pa_cons (pe_ix ix_list (pv 3) (pe_op op_add (pv 6) pe_int) (fun _ _ => rfl)) (pa_cons (pe_ix ix_list (pv 4) (pv 6) (fun _ _ => rfl)) pa_nil)))) pa_nil)))))
      (pss_cons (ps_expr (pe_bm PySem.F.plainAttrs_list PySem.F.slot_list_append PySem.F.type_list_append mt_append (pv 5) (pa_cons (pe_tup (pa_cons (pe_ix ix_list (pv 3) (pe_un un_neg pe_int) (fun _ _ => rfl)) (pa_cons (pe_ix ix_list (pv 3) pe_int (fun _ _ => rfl)) (pa_cons (pe_op op_sub (pe_op op_add pe_int (pe_own O_law_draw (hr.mono (by decide)) (pa_cons (pv 0) (pa_cons pe_int pa_nil)))) (pe_callB (cr_sum rfl) (by rfl) B.sum (by decide +kernel) (pa_cons (pv 4) pa_nil))) pa_nil)))) pa_nil)))
      (pss_one (ps_ret (pv 5)))))))))), ?_⟩
    -- ring
    refine ⟨_, rfl, by show 1 ≤ sizeLine; decide, fun l1 hl1 => ?_⟩
    have sb := same_new (o := .lst [V.non]) hl1
    refine ⟨_, rfl, a, _, rfl, .inl (SqL.of (sb _ _ hA)), fun l2 hl2 => ?_⟩
    have sc := sb.trans (same_new (o := .lst (ts.map V.str)) hl2)
    have hl1' := same_new (o := .lst (ts.map V.str)) hl2 _ _ (upd_same (H := H) (a := l1) (o := .lst [V.non]))
    have sizeE : ([V.non] ++ ts.map V.str).length < 1000 := by
      simp only [List.length_append, List.length_map, List.length_cons, List.length_nil]
      omega
    refine ⟨l1, l2, _, _, rfl, rfl, hl1', upd_same, by simp only [List.length_map, List.length_cons, List.length_nil]; omega, fun th hth => ?_⟩
    have sd := sc.trans (same_new (o := .lst ([V.non] ++ ts.map V.str)) hth)
    refine ⟨p, c, th, n, 3, _, rfl, hP.same sd, by omega, SqL.of upd_same, sizeE, by decide, fun r1 H1 n1 ys rest b1 nr1 hr1 hp1 hy1 P1 hn1 => ?_⟩
    rw [ends_eq] at hp1
    obtain ⟨es, rfl, ndE, memE⟩ := map_of_permF (f := endV) (fun _ _ e => endV_inj e) hp1 (ends_nodup N.1)
    rw [List.length_map] at hy1
    have bH1 := (But.of sd).trans b1
    have nrH := sd.free nr1
    clear sb sc hl1' sizeE hl1 hl2 hth b1 nr1 hp1 sd
    refine ⟨fun σ X => ∃ (rr : Addr) (es : List (Option Str)), σ = [some (.ref p), some (.ref a), some (.ref b), some (.ref rr), none, none, none, none] ∧ But p H X ∧ H rr = none ∧ X rr = some (.lst (es.map endV)) ∧ es.Nodup ∧ (∀ e ∈ es, e ∈ endsOf ts) ∧ es.length ≤ 3 ∧ PenAt X p c (n + 4), ?_, ?_⟩
    · refine ⟨_, rfl, r1, _, rfl, .inl (SqL.of hr1), _, 2, rfl, rfl, _, rfl, ?_⟩
      refine ite2 (fun _ => ?_) (fun _ => ⟨r1, es, rfl, bH1, nrH, hr1, ndE, memE, hy1, P1.le (by omega)⟩)
      refine ⟨by show 1 ≤ sizeLine; decide, fun l1 hl1 => ?_⟩
      have sb := same_new (o := .lst [V.non]) hl1
      have nap := hP.ne_strs hA
      have hA1 := bH1 _ _ hA nap
      refine ⟨_, rfl, a, _, rfl, .inl (SqL.of (sb _ _ hA1)), fun l2 hl2 => ?_⟩
      have sc := sb.trans (same_new (o := .lst (ts.map V.str)) hl2)
      have hl1' := same_new (o := .lst (ts.map V.str)) hl2 _ _ (upd_same (H := H1) (a := l1) (o := .lst [V.non]))
      refine ⟨l1, l2, _, _, rfl, rfl, hl1', upd_same, ?_, fun th hth => ?_⟩
      · simp only [List.length_map, List.length_cons, List.length_nil]
        omega
      have sd := sc.trans (same_new (o := .lst ([V.non] ++ ts.map V.str)) hth)
      refine ⟨2, rfl, th, _, rfl, SqL.of upd_same, fun r2 hr2 => ?_⟩
      rw [ends_eq, show cutV ((endsOf ts).map endV) none (some 2) = ((endsOf ts).take 2).map endV from (cut_head _ 2).trans (List.map_take ..).symm]
      rw [ends_eq] at sd hr2
      have se := sd.trans (same_new (o := .lst (((endsOf ts).take 2).map endV)) hr2)
      refine ⟨r2, (endsOf ts).take 2, rfl, bH1.trans (But.of se), ?_, upd_same, (List.take_sublist _ _).nodup (ends_nodup N.1), fun e he => List.mem_of_mem_take he, ?_, (P1.same se).le (by omega)⟩
      · exact bH1.free (P1.out (sd.free hr2)).1 (sd.free hr2)
      · rw [List.length_take]
        omega
    · rintro σ X ⟨rr, es, rfl, bX, nrr, hrr, ndE, memE, lE, PX⟩
      have nbp : b ≠ p := hP.ne_refs (L := rs.map (·.2)) (by rw [List.map_map]; exact hB)
      have hBX := bX _ _ hB nbp
      have kX : KeyTups X rs := fun x hx => bX _ _ (hk x hx) (hP.ne_of (hk x hx) fun xs z => nomatch z)
      refine ⟨_, rfl, rr, _, rfl, .inl (SqL.of hrr), _, 2, rfl, rfl, _, rfl, ?_⟩
      refine ite2 (fun _ => ⟨_, rfl, q b X _ rs bX nbp hBX kX hro (by omega) PX (by omega)⟩) (fun tl => ?_)
      have l2 : 2 ≤ es.length := by
        rw [decide_eq_true_iff, List.length_map] at tl
        omega
      clear tl hr1 P1 bH1 nrH H1 n1 hn1
      -- spans
      refine ⟨_, rfl, 1, rfl, rr, _, rfl, SqL.of hrr, fun l hl => ?_⟩
      rw [cut_tail, ← List.map_drop]
      have s1 := same_new (o := .lst ((es.drop 1).map endV)) hl
      have hl1 := upd_same (H := X) (a := l) (o := .lst ((es.drop 1).map endV))
      have P1 := PX.same s1
      have b1 := bX.trans (But.of s1)
      have hrr1 := s1 _ _ hrr
      have nlp := (PX.out hl).1
      obtain ⟨nrp, nrc⟩ := hP.out nrr
      generalize upd X l (.lst ((es.drop 1).map endV)) = X1 at s1 hl1 P1 b1 hrr1 ⊢
      refine ⟨l, rfl, ⟨_, SqL.of hl1⟩, fun D hD => ?_⟩
      obtain ⟨nDp, nDc⟩ := P1.out hD
      have lD : ((es.drop 1).map endV).length = es.length - 1 := by rw [List.length_map, List.length_drop]
      refine lc_it walk_list (fun i Hc => ∃ S : List Int, S.length = i ∧ (∀ x ∈ S, -4 ≤ x ∧ x ≤ 4) ∧ Hc D = some (.lst (S.map V.int)) ∧ But p X1 Hc ∧ PenAt Hc p c (n + 4 + i)) ⟨[], rfl, fun _ h => (List.not_mem_nil h).elim, upd_same, But.new hD, P1.same (same_new hD)⟩
        (fun i Hc _ ⟨_, _, _, _, bc, _⟩ => SqL.of (bc _ _ hl1 nlp)) ?_ ?_
      · rintro i x Hc H' hi ⟨S, hS, hb, h2, bc, Pc⟩ ⟨rfl, hx⟩
        rw [lD] at hi
        refine ⟨rfl, ?_⟩
        refine ⟨_, rfl, p, c, _, 9, rfl, Pc, by omega, by omega, by omega, fun e H3 he0 he1 b3 P3 => ?_⟩
        refine ⟨e, 4, rfl, rfl, S.map V.int, b3 _ _ h2 nDp, by rw [List.length_map]; omega, S ++ [e - 4], ?_, ?_, ?_, ?_, ?_⟩
        · rw [List.length_append, hS]
          rfl
        · intro y hy
          rcases List.mem_append.mp hy with hy | hy
          · exact hb y hy
          · rw [List.mem_singleton.mp hy]
            omega
        · rw [upd_same, List.map_append]
          rfl
        · intro z o hz nz
          rw [upd_ne (ne_of_none hz hD)]
          exact b3 _ _ (bc _ _ hz nz) nz
        · exact (P3.upd nDp nDc).le (by omega)
      · rintro Hc ⟨S, hS, hb, h2, bc, Pc⟩
        rw [lD] at hS Pc
        have bHc := b1.trans bc
        have nDH := b1.free nDp hD
        have hrc := bc _ _ hrr1 nrp
        -- found = list(gaps)
        refine ⟨_, rfl, b, _, rfl, .inl (SqL.of (bHc _ _ hB nbp)), fun fo hfo => ?_⟩
        have s3 := same_new (o := .lst (rs.map fun x => V.ref x.2)) hfo
        obtain ⟨nfp, nfc⟩ := Pc.out hfo
        have nfr : fo ≠ rr := (ne_of_none hrc hfo).symm
        have nfD : fo ≠ D := (ne_of_none h2 hfo).symm
        have nfH := bHc.free nfp hfo
        have F0 : Fnd p c fo rr D H (es.map endV) (S.map V.int) (n + 4 + (es.length - 1)) rs (upd Hc fo (.lst (rs.map fun x => V.ref x.2))) :=
          ⟨upd_same, fun x hx => s3 _ _ (bHc _ _ (hk x hx) (hP.ne_of (hk x hx) fun xs z => nomatch z)), bHc.trans (But.of s3), s3 _ _ hrc, s3 _ _ h2, Pc.same s3⟩
        generalize upd Hc fo (.lst (rs.map fun x => V.ref x.2)) = X3 at F0 ⊢
        clear s3 hfo hrc bHc Pc bc h2 hD nlp hrr1 b1 P1 hl1 s1 hl kX hBX PX hrr bX
        -- the loop
        refine ⟨_, rfl, rr, _, rfl, .inl (SqL.of F0.things), _, 1, rfl, rfl, ((es.length - 1 : Nat) : Int), by rw [List.length_map]; exact congrArg (fun z : Int => [V.int z]) (show ((es.length : Nat) : Int) - 1 = ((es.length - 1 : Nat) : Int) by omega), by omega, by omega, ?_⟩
        refine for_it walk_range (fun i σ Hc => ∃ (rs' : List (Rule × Addr)) (o6 o7 : Option V), σ = [some (.ref p), some (.ref a), some (.ref b), some (.ref rr), some (.ref D), some (.ref fo), o6, o7] ∧ Fnd p c fo rr D H (es.map endV) (S.map V.int) (n + 4 + (es.length - 1)) rs' Hc ∧ rs'.length = rs.length + i ∧ ∀ x ∈ rs', RuleOk ts x.1)
          ⟨rs, _, _, rfl, F0, rfl, hro⟩ (fun _ _ _ _ _ => True.intro) ?_ ?_
        · rintro i x σ Hc H' hi ⟨rs', o6, o7, rfl, F, lrs, hok⟩ ⟨rfl, rfl⟩
          show gName 6 (V.int (0 + (i : Int))) _ _ _
          rw [Int.zero_add]
          have hi : i < es.length - 1 := hi
          have i1 : i < es.length := by omega
          have i2 : i + 1 < es.length := by omega
          have i3 : i < S.length := by omega
          refine ⟨_, rfl, .inl ⟨rfl, _, SqL.of F.found⟩, ?_⟩
          refine ⟨_, rfl, _, rfl, rr, _, _, endV es[i], rfl, rfl, SqL.of F.things, atI_nat (by rw [List.getElem?_map, List.getElem?_eq_getElem i1]; rfl), ?_⟩
          refine ⟨_, rfl, _, rfl, _, 1, rfl, rfl, rr, _, ((i + 1 : Nat) : Int), endV es[i + 1], rfl, rfl, SqL.of F.things, atI_nat (by rw [List.getElem?_map, List.getElem?_eq_getElem i2]; rfl), ?_⟩
          refine ⟨_, rfl, _, rfl, D, _, _, .int S[i], rfl, rfl, SqL.of F.spans, atI_nat (by rw [List.getElem?_map, List.getElem?_eq_getElem i3]; rfl), by show 3 ≤ sizeLine; decide, fun T hT => ?_⟩
          have hf := same_new (o := .tup (ruleV ⟨es[i], es[i + 1], S[i]⟩)) hT _ _ F.found
          refine ⟨fo, _, _, rfl, rfl, hf, by rw [List.length_map]; omega, ?_⟩
          refine ⟨rs' ++ [(⟨es[i], es[i + 1], S[i]⟩, T)], _, _, rfl, F.more hT nfH nfp nfc nfr nfD, by rw [List.length_append, lrs]; rfl, fun x hx => ?_⟩
          rcases List.mem_append.mp hx with hx | hx
          · exact hok x hx
          · rw [List.mem_singleton.mp hx]
            have bs := hb _ (List.getElem_mem i3)
            refine ⟨ends_in _ (memE _ (List.getElem_mem i1)), ends_in _ (memE _ (List.getElem_mem i2)), fun z => ?_, ?_, ?_⟩
            · have := (List.getElem_inj ndE).mp z
              omega
            · show -999 ≤ S[i]
              omega
            · show S[i] ≤ 999
              omega
        · rintro σ Hc ⟨rs', o6, o7, rfl, F, lrs, hok⟩
          have j1 : es.length - 1 < es.length := by omega
          have j0 : 0 < es.length := by omega
          refine ⟨_, rfl, .inl ⟨rfl, _, SqL.of F.found⟩, ?_⟩
          refine ⟨_, rfl, _, rfl, rr, _, _, endV es[es.length - 1], rfl, rfl, SqL.of F.things, ?_, ?_⟩
          · exact (atI_last (by rw [List.length_map]; omega)).trans (by rw [List.getElem?_map, List.length_map, List.getElem?_eq_getElem j1]; rfl)
          refine ⟨_, rfl, rr, _, 0, endV es[0], rfl, rfl, SqL.of F.things, atI_nat (by rw [List.getElem?_map, List.getElem?_eq_getElem j0]; rfl), ?_⟩
          refine ⟨_, rfl, p, c, _, 3, rfl, F.pen, by omega, by omega, by omega, fun d X4 hd0 hd1 b4 P4 => ?_⟩
          have F4 := F.but' b4 P4 nfp nrp nDp
          refine ⟨1, d, rfl, rfl, _, rfl, D, S, rfl, SqL.of F4.spans, _, _, rfl, rfl, by show 3 ≤ sizeLine; decide, fun T hT => ?_⟩
          have sb := sum_bound hb
          have hf := same_new (o := .tup (ruleV ⟨es[es.length - 1], es[0], 1 + d - S.sum⟩)) hT _ _ F4.found
          refine ⟨fo, _, _, rfl, rfl, hf, by rw [List.length_map]; omega, ?_⟩
          have F5 := F4.more (r := ⟨es[es.length - 1], es[0], 1 + d - S.sum⟩) hT nfH nfp nfc nfr nfD
          refine ⟨_, rfl, q fo _ _ _ F5.but nfp F5.found F5.keys (fun x hx => ?_) (by rw [List.length_append, lrs, List.length_singleton]; omega) F5.pen (by omega)⟩
          rcases List.mem_append.mp hx with hx | hx
          · exact hok x hx
          · rw [List.mem_singleton.mp hx]
            refine ⟨ends_in _ (memE _ (List.getElem_mem j1)), ends_in _ (memE _ (List.getElem_mem j0)), fun z => ?_, ?_, ?_⟩
            · have := (List.getElem_inj ndE).mp z
              omega
            · show -999 ≤ 1 + d - S.sum
              omega
            · show 1 + d - S.sum ≤ 999
              omega
end
end Wnd

namespace Wnd
open PySem PySem.Spec PyProof.Rows L2
abbrev s_law_key : Stmt := top 39
theorem sc_law_key : FnScope ["_law_ask"] ["_law_ask"] (defScope s_law_key) := ⟨rfl, rfl, rfl, by decide +kernel, rfl, by decide +kernel, by decide +kernel⟩
abbrev s_law_sorted : Stmt := top 40
theorem sc_law_sorted : FnScope ["_law_gaps_here", "_law_different", "_law_pair", "_law_ask"] ["_law_gaps_here"] (defScope s_law_sorted) := ⟨rfl, rfl, rfl, by decide +kernel, rfl, by decide +kernel, by decide +kernel⟩
section
variable {P : Program} {w : World} {K : PySem.W.Frag} {mg : Str → Option Value} {base : Heap}
/-! ### the different rules in ascending order, as the law finds them -/
theorem ok_key {f : Addr} {fd : FuncData} (D : DefAt K mg "_law_key" s_law_key ["_law_ask"] f fd) : Ok P w K mg base 1 "_law_key" ["_law_ask"] spRank := by
  refine D.ok (D.fn.ok sc_law_key (fun vs H Q E h => ?_) (fun cdv A outer s H vs Q E hr h => ?_))
  · obtain ⟨q, r, rfl, _⟩ := h
    rfl
  · obtain ⟨t, ⟨low, high, gap⟩, rfl, ht, _, q⟩ := h
    refine ⟨_, (pss_one (ps_ret (pe_tup (pa_cons (pe_ifExp (pt_cmpR op_isN (pe_ix ix_tup (pv 0) pe_int (fun _ _ => rfl)) pe_non (nomark _)) pe_str (pe_ix ix_tup (pv 0) pe_int (fun _ _ => rfl))) (pa_cons (pe_ifExp (pt_cmpR op_isN (pe_ix ix_tup (pv 0) pe_int (fun _ _ => rfl)) pe_non (nomark _)) pe_str (pe_ix ix_tup (pv 0) pe_int (fun _ _ => rfl))) (pa_cons (pe_ix ix_tup (pv 0) pe_int (fun _ _ => rfl)) pa_nil)))))), ?_⟩
    have at_ : ∀ (k : Nat) (v : V), (ruleV ⟨low, high, gap⟩)[k]? = some v → ∀ (σ : L2.St) (W : VK), σ[0]? = some (some (.ref t)) → W v H → tOp (rIxT K) (tVar 0) (tC (.int k)) σ H W := fun k v hk σ W hσ hW =>
      ⟨_, hσ, t, _, k, v, rfl, rfl, SqT.of ht, atI_nat hk, hW⟩
    have end_ : ∀ (k : Nat) (e : Option Str), (ruleV ⟨low, high, gap⟩)[k]? = some (endV e) → ∀ (σ : L2.St) (W : VK), σ[0]? = some (some (.ref t)) → W (.str (endS e)) H →
        tIf (tTest (tOp (fun x y H Q => y = .non ∧ Q (.bl (decide (x = .non))) H) (tOp (rIxT K) (tVar 0) (tC (.int k))) (tC .non))) (tC (.str (Str.ofString ""))) (tOp (rIxT K) (tVar 0) (tC (.int k))) σ H W := by
      intro k e hk σ W hσ hW
      refine at_ k _ hk σ _ hσ ⟨rfl, _, rfl, ?_⟩
      cases e with
      | none => exact iteT hW
      | some t => exact iteF (at_ k _ hk σ _ hσ hW)
    refine end_ 0 low rfl _ _ rfl ?_
    refine end_ 1 high rfl _ _ rfl ?_
    refine at_ 2 _ rfl _ _ rfl ⟨by show 3 ≤ sizeLine; decide, fun p hp => q p hp⟩

def spSorted : Sp := fun vs H Q _ => ∃ (a : Addr) (rs : List (Rule × Addr)), vs = [.ref a] ∧ H a = some (.lst (rs.map fun x => V.ref x.2)) ∧ KeyTups H rs ∧ (∀ x ∈ rs, Named x.1 ∧ Short x.1) ∧ rs.length < 100000 ∧
  ∀ r H' (M : List (Rule × Addr)), Same H H' → H r = none → H' r = some (.lst (M.map fun x => V.ref x.2)) → M.map (·.1) = canon (rs.map (·.1)) → (∀ x ∈ M, x ∈ rs) → Q (.ref r) H'
theorem ok_sorted {f : Addr} {fd : FuncData} (D : DefAt K mg "_law_sorted" s_law_sorted ["_law_gaps_here"] f fd) (B : Blt mg) (O_law_key : Ok P w K mg base 1 "_law_key" ["_law_ask"] spRank) : Ok P w K mg base 2 "_law_sorted" ["_law_gaps_here"] spSorted := by
  refine D.ok (D.fn.ok sc_law_sorted (fun vs H Q E h => ?_) (fun cdv A outer s H vs Q E hr h => ?_))
  · obtain ⟨a, rs, rfl, _⟩ := h
    rfl
  · obtain ⟨a, rs, rfl, hA, hk, hns, hz, q⟩ := h
    have nd := sc_law_sorted.nd
    refine ⟨_, (pss_cons (ps_set (i := 1) nd rfl (Or.inl rfl) (pe_callTy (cr_dictT hr rfl) (by rfl) B.dict (by decide +kernel) (pa_cons (pe_lc (own := [("_law_ask", 3)]) (g := gName 3) (tt := tYes) (by rfl) nd (pi_list (pv 0)) (blkOk_by (own := [("_law_ask", 3)]) (N := ["_law_gaps_here", "_law_different", "_law_pair", "_law_ask"]) (sc := defScope s_law_sorted) (by decide +kernel)) (fun _ _ _ _ _ => (pg_name (i := 3) nd rfl (Or.inl rfl))) (fun _ _ _ _ _ => pts_nil) (fun _ _ _ _ _ => (pe_tup (pa_cons (pv 3) (pa_cons pe_bl pa_nil))))) pa_nil)))
      (pss_one (ps_ret (pe_lc (own := [("_law_pair", 2)]) (g := gName 2) (tt := tYes) (by rfl) nd (pi_list (pe_callB (cr_sortedPairs hr) (by rfl) B.sorted (by decide +kernel) (pa_cons (pe_lock (pe_lc (own := [("_law_ask", 3)]) (g := gName 3) (tt := tYes) (by rfl) nd (pi_rd (pv 1)) (blkOk_by (own := [("_law_ask", 3)]) (N := ["_law_gaps_here", "_law_different", "_law_pair", "_law_ask"]) (sc := defScope s_law_sorted) (by decide +kernel)) (fun _ _ _ _ _ => (pg_name (i := 3) nd rfl (Or.inl rfl))) (fun _ _ _ _ _ => pts_nil) (fun _ _ _ _ _ => (pe_tup (pa_cons (pe_own O_law_key (hr.mono (by decide)) (pa_cons (pv 3) pa_nil)) (pa_cons (pv 3) pa_nil)))))) pa_nil))) (blkOk_by (own := [("_law_pair", 2)]) (N := ["_law_gaps_here", "_law_different", "_law_pair", "_law_ask"]) (sc := defScope s_law_sorted) (by decide +kernel)) (fun _ _ _ _ _ => (pg_name (i := 2) nd rfl (Or.inl rfl))) (fun _ _ _ _ _ => pts_nil) (fun _ _ _ _ _ => (pe_ix (ix_tupK K) (pv 2) pe_int (fun _ _ => rfl))))))), ?_⟩
    have big : sizeLine > 100000 := by decide
    refine ⟨_, rfl, a, rfl, ⟨_, SqL.of hA⟩, fun D hD => ?_⟩
    refine lc_it walk_list (fun i Hc => Same H Hc ∧ ∃ L : List Pr, L.map (·.2) = rs.take i ∧ (∀ x ∈ L, TrueAt Hc x) ∧ Hc D = some (.lst (L.map fun x => V.ref x.1))) ⟨same_new hD, [], rfl, fun _ h => (List.not_mem_nil h).elim, upd_same⟩ (fun i Hc _ h => SqL.of (h.1 _ _ hA)) ?_ ?_
    · rintro i x Hc H' hi ⟨s1, L, hL, ht, h2⟩ ⟨rfl, hx⟩
      obtain ⟨y, hy, rfl⟩ := get_map hx
      have hi' : i < rs.length := by rwa [List.length_map] at hi
      refine ⟨rfl, ?_⟩
      refine ⟨_, rfl, by show 2 ≤ sizeLine; decide, fun T hT => ?_⟩
      have nDT := ne_of_none h2 hT
      refine ⟨L.map fun x => V.ref x.1, by rw [upd_ne nDT]; exact h2, ?_, fun z o hz => ?_, L ++ [(T, y)], ?_, fun z hz => ?_, ?_⟩
      · have : L.length = i := by
          have : (L.map (·.2)).length = (rs.take i).length := by rw [hL]
          rw [List.length_map, List.length_take] at this
          omega
        rw [List.length_map]
        omega
      · rw [upd_ne (ne_of_none hz hD), upd_ne (ne_of_none (s1 _ _ hz) hT)]
        exact s1 _ _ hz
      · rw [List.map_append, hL, List.take_add_one, hy]
        rfl
      · have st : ∀ b xs, H' b = some (.tup xs) → (upd (upd H' T (.tup [.ref y.2, .bl true])) D (.lst ((L.map fun x => V.ref x.1) ++ [.ref T]))) b = some (.tup xs) := fun b xs hb => by
          rw [upd_ne (ne_of hb h2 fun z => nomatch z), upd_ne (ne_of_none hb hT)]
          exact hb
        rcases List.mem_append.mp hz with hz | hz
        · exact ⟨st _ _ (ht z hz).1, st _ _ (ht z hz).2⟩
        · rw [List.mem_singleton.mp hz]
          refine ⟨?_, st _ _ (s1 _ _ (hk y (List.mem_of_getElem? hy)))⟩
          rw [upd_ne nDT.symm]
          exact upd_same
      · rw [upd_same, List.map_append]
        rfl
    · rintro Hc ⟨s1, L, hL, ht, h2⟩
      rw [List.length_map, List.take_length] at hL
      refine ⟨D, L, rfl, SqL.of h2, ht, ?_, fun d hd => ?_⟩
      · have : (L.map (·.2)).length = rs.length := by rw [hL]
        rw [List.length_map] at this
        omega
      rw [hL]
      obtain ⟨Lr, hLr⟩ : ∃ Lr, putAll rs [] = Lr := ⟨_, rfl⟩
      rw [hLr]
      have memr : ∀ x ∈ Lr, x ∈ rs := fun x hx => (putAll_mem rs [] x (hLr ▸ hx)).elim (fun z => (List.not_mem_nil z).elim) id
      have lenr : Lr.length ≤ rs.length := by
        have := putAll_len rs []
        rw [hLr, List.length_nil] at this
        omega
      have canr : sortR (Lr.map (·.1)) = canon (rs.map (·.1)) := by
        rw [← hLr, nub_put]
        rfl
      have hd0 : H d = none := s1.free hd
      have nda : a ≠ d := ne_of_none (s1 _ _ hA) hd
      refine ⟨d, _, upd_same, True.intro, fun od => ?_⟩
      refine ⟨_, rfl, d, od, Lr, rfl, upd_same, fun D2 hD2 => ?_⟩
      have nD2d : D2 ≠ d := fun z => by
        rw [z, upd_same] at hD2
        cases hD2
      have sF : Same H (upd (upd Hc d (rdO P w d Lr)) d (.frz od (rdO P w d Lr))) := fun z o hz => by
        rw [upd_ne (ne_of_none hz hd0), upd_ne (ne_of_none hz hd0)]
        exact s1 _ _ hz
      have hD20 : H D2 = none := sF.free hD2
      refine lc_rd (fun i Hx => Hx d = some (.frz od (rdO P w d Lr)) ∧ Same H Hx ∧ ∃ L2 : List Pr, L2.map (·.2) = Lr.take i ∧ (∀ x ∈ L2, PairAt' Hx x) ∧ Hx D2 = some (.lst (L2.map fun x => V.ref x.1)))
        ⟨by rw [upd_ne nD2d.symm]; exact upd_same, sF.trans (same_new hD2), [], rfl, fun _ h => (List.not_mem_nil h).elim, upd_same⟩ (fun i Hx _ h => h.1) ?_ ?_
      · rintro i hi Hx ⟨hf, sx, L2, hL2, hp2, h3⟩
        have m1 := memr _ (List.getElem_mem hi)
        have hq := sx _ _ (hk _ m1)
        refine ⟨rfl, ?_⟩
        refine ⟨_, rfl, Lr[i].2, Lr[i].1, rfl, hq, (hns _ m1).2, fun t ht => ?_⟩
        have st : Same Hx (upd Hx t (.tup (rankV Lr[i].1))) := same_new ht
        refine ⟨_, rfl, by show 2 ≤ sizeLine; decide, fun T hT => ?_⟩
        have sT : Same Hx (upd (upd Hx t (.tup (rankV Lr[i].1))) T (.tup [.ref t, .ref Lr[i].2])) := st.trans (same_new hT)
        have ntT : t ≠ T := fun z => by
          rw [← z, upd_same] at hT
          cases hT
        have htT : (upd (upd Hx t (.tup (rankV Lr[i].1))) T (.tup [.ref t, .ref Lr[i].2])) t = some (.tup (rankV Lr[i].1)) := by
          rw [upd_ne ntT]
          exact upd_same
        have hTT : (upd (upd Hx t (.tup (rankV Lr[i].1))) T (.tup [.ref t, .ref Lr[i].2])) T = some (.tup [.ref t, .ref Lr[i].2]) := upd_same
        generalize upd (upd Hx t (.tup (rankV Lr[i].1))) T (.tup [.ref t, .ref Lr[i].2]) = Hy at sT htT hTT ⊢
        have h3y := sT _ _ h3
        have up : ∀ b xs v, Hy b = some (.tup xs) → (upd Hy D2 (.lst v)) b = some (.tup xs) := fun b xs v hb => by
          rw [upd_ne (ne_of hb h3y fun z => nomatch z)]
          exact hb
        refine ⟨L2.map fun x => V.ref x.1, h3y, ?_, ?_, ?_, L2 ++ [(T, Lr[i])], ?_, fun z hz => ?_, ?_⟩
        · have : (L2.map (·.2)).length = (Lr.take i).length := by rw [hL2]
          rw [List.length_map, List.length_take] at this
          rw [List.length_map]
          omega
        · rw [upd_ne nD2d.symm]
          exact sT _ _ hf
        · intro b o hb
          rw [upd_ne (ne_of_none hb hD20)]
          exact sT _ _ (sx _ _ hb)
        · rw [List.map_append, hL2, List.take_add_one, List.getElem?_eq_getElem hi]
          rfl
        · rcases List.mem_append.mp hz with hz | hz
          · exact (hp2 z hz).same fun b xs hb => up _ _ _ (sT _ _ hb)
          · rw [List.mem_singleton.mp hz]
            exact ⟨t, up _ _ _ hTT, up _ _ _ htT, up _ _ _ (sT _ _ hq)⟩
        · rw [upd_same, List.map_append]
          rfl
      · rintro Hx ⟨hf, sx, L2, hL2, hp2, h3⟩
        rw [List.take_length] at hL2
        refine ⟨hf, ?_⟩
        have up : ∀ b xs, Hx b = some (.tup xs) → (upd Hx d (rdO P w d Lr)) b = some (.tup xs) := fun b xs hb => by
          rw [upd_ne (ne_of hb hf fun z => nomatch z)]
          exact hb
        have sy : Same H (upd Hx d (rdO P w d Lr)) := fun z o hz => by
          rw [upd_ne (ne_of_none hz hd0)]
          exact sx _ _ hz
        have h3y : (upd Hx d (rdO P w d Lr)) D2 = some (.lst (L2.map fun x => V.ref x.1)) := by
          rw [upd_ne nD2d]
          exact h3
        have hp2y : ∀ x ∈ L2, PairAt' (upd Hx d (rdO P w d Lr)) x := fun x hx => (hp2 x hx).same up
        have mem2 : ∀ x ∈ L2, x.2 ∈ Lr := fun x hx => hL2 ▸ List.mem_map.mpr ⟨x, hx, rfl⟩
        refine ⟨D2, L2, rfl, SqL.of h3y, hp2y, fun x hx => (hns _ (memr _ (mem2 x hx))).1, ?_, fun r hr => ?_⟩
        · have : (L2.map (·.2)).length = Lr.length := by rw [hL2]
          rw [List.length_map] at this
          omega
        have sr := sy.trans (same_new (o := .lst ((pairsInOrder L2).map fun x => V.ref x.1)) hr)
        have hrr : (upd (upd Hx d (rdO P w d Lr)) r (.lst ((pairsInOrder L2).map fun x => V.ref x.1))) r = some (.lst ((pairsInOrder L2).map fun x => V.ref x.1)) := upd_same
        have hp2r : ∀ x ∈ pairsInOrder L2, PairAt' (upd (upd Hx d (rdO P w d Lr)) r (.lst ((pairsInOrder L2).map fun x => V.ref x.1))) x := fun x hx =>
          (hp2y x ((List.mergeSort_perm _ _).mem_iff.mp hx)).same fun b xs hb => same_new hr _ _ hb
        have lenp : (pairsInOrder L2).length = L2.length := List.length_mergeSort _
        have len2 : L2.length = Lr.length := by
          have : (L2.map (·.2)).length = Lr.length := by rw [hL2]
          rwa [List.length_map] at this
        refine ⟨r, rfl, ⟨_, SqL.of hrr⟩, fun D3 hD3 => ?_⟩
        refine lc_map walk_list hD3 ((pairsInOrder L2).map fun x => V.ref x.2.2) (by simp only [List.length_map]) (by
          simp only [List.length_map]
          omega) (fun H6 s6 => SqL.of (s6 _ _ hrr)) ?_ ?_
        · rintro i x H6 H7 hi R L s6 ⟨rfl, hx⟩ hR
          obtain ⟨y, hy, rfl⟩ := get_map hx
          obtain ⟨k, g1, g2, g3⟩ := hp2r y (List.mem_of_getElem? hy)
          have hi' : i < (pairsInOrder L2).length := by rwa [List.length_map] at hi
          rw [List.getElem_map] at hR
          have ey : (pairsInOrder L2)[i] = y := (List.getElem?_eq_some_iff.mp hy).2
          rw [ey] at hR
          refine ⟨rfl, ?_⟩
          exact ⟨_, rfl, y.1, _, 1, .ref y.2.2, rfl, rfl, SqT.of (s6 _ _ g1), atI_nat rfl, hR _ (Same.refl _)⟩
        · intro H6 s6 h6
          refine q D3 H6 ((pairsInOrder L2).map (·.2)) (sr.trans s6) (sr.free hD3) ?_ ?_ ?_
          · rw [h6, List.map_map]
            rfl
          · rw [List.map_map]
            refine (pairs_map L2).trans ?_
            rw [← canr, ← hL2, List.map_map]
            rfl
          · intro x hx
            obtain ⟨y, hy, rfl⟩ := List.mem_map.mp hx
            exact memr _ (mem2 y ((List.mergeSort_perm _ _).mem_iff.mp hy))

end
end Wnd

/-! the first breach, as the program and as the law find it -/
namespace Wnd
open PySem PySem.Spec PyProof.Rows L2
abbrev s_first_breach : Stmt := top 12
theorem sc_first_breach : FnScope ["system", "numbers"] ["system", "numbers"] (defScope s_first_breach) := ⟨rfl, rfl, rfl, by decide +kernel, rfl, by decide +kernel, by decide +kernel⟩
abbrev s_breach_of : Stmt := top 18
theorem sc_breach_of : FnScope ["system", "numbers", "rule"] ["system", "numbers"] (defScope s_breach_of) := ⟨rfl, rfl, rfl, by decide +kernel, rfl, by decide +kernel, by decide +kernel⟩
abbrev s_is_admitted : Stmt := top 13
theorem sc_is_admitted : FnScope ["system", "numbers"] ["system", "numbers"] (defScope s_is_admitted) := ⟨rfl, rfl, rfl, by decide +kernel, rfl, by decide +kernel, by decide +kernel⟩
abbrev s_law_broken : Stmt := top 42
theorem sc_law_broken : FnScope ["_law_gaps_here", "_law_held", "_law_ask"] ["_law_gaps_here", "_law_held"] (defScope s_law_broken) := ⟨rfl, rfl, rfl, by decide +kernel, rfl, by decide +kernel, by decide +kernel⟩
section
variable {P : Program} {w : World} {K : PySem.W.Frag} {mg : Str → Option Value} {base : Heap}
/-- the first rule that does not hold -/
def firstR (g : List (Str × Int)) (L : List (Rule × Addr)) : Option (Rule × Addr) := L.find? fun p => decide (0 < shortB g p.1)
def firstV (o : Option (Rule × Addr)) : V := match o with
  | none => .non
  | some p => .ref p.2
theorem find_take {α : Type} (f : α → Bool) (L : List α) (i : Nat) (h : i < L.length) (n : ∀ y ∈ L.take i, f y = false) (t : f L[i] = true) : L.find? f = some L[i] := by
  have e : L = L.take i ++ L[i] :: L.drop (i + 1) := by
    rw [← List.drop_eq_getElem_cons h, List.take_append_drop]
  have z : (L.take i).find? f = none := List.find?_eq_none.mpr fun y hy => by rw [n y hy]; exact Bool.false_ne_true
  generalize hx : L[i] = x at e t
  rw [e, List.find?_append, z, Option.none_or, List.find?_cons, t]
theorem find_none {α : Type} (f : α → Bool) (L : List α) (n : ∀ y ∈ L, f y = false) : L.find? f = none := List.find?_eq_none.mpr fun y hy => by rw [n y hy]; exact Bool.false_ne_true
def spBreach (C : Addr) : Sp := fun vs H Q _ => ∃ (x d : Addr) (ns : List Str) (L : List (Rule × Addr)) (g : List (Str × Int)), vs = [.ref x, .ref d] ∧ SysAt C H x ns L ∧ H d = some (.dK (goalKV g)) ∧ NumsOk ns g ∧ ∀ H', Same H H' → Q (firstV (firstR g L)) H'
theorem ok_breachOf {C : Addr} {f : Addr} {fd : FuncData} (D : DefAt K mg "breach_of" s_breach_of ["system", "numbers"] f fd) (PU : OkP P w K mg base C 1 "rules" (spRulesP C))
    (O_shortfall_of : Ok P w K mg base 2 "shortfall_of" ["rule", "numbers"] spShortOf) : Ok P w K mg base 3 "breach_of" ["system", "numbers"] (spBreach C) := by
  refine D.ok (D.fn.ok sc_breach_of (fun vs H Q E h => ?_) (fun cdv A outer s H vs Q E hr h => ?_))
  · obtain ⟨x, d, ns, L, g, rfl, _⟩ := h
    rfl
  · obtain ⟨x, d, ns, L, g, rfl, hx, hd, hn, q⟩ := h
    have nd := sc_breach_of.nd
    refine ⟨_, (pss_cons (ps_for PassesOwn.never rfl (pi_list (pe_propO PU (hr.mono (by decide)) (pv 0))) (pg_name (i := 2) nd rfl (Or.inl rfl)) (pss_one (ps_if (pt_cmpR op_gt (pe_own O_shortfall_of (hr.mono (by decide)) (pa_cons (pv 2) (pa_cons (pv 1) pa_nil))) pe_int (nomark _)) (pss_one (ps_ret (pv 2))) pss_nil)))
      (pss_one (ps_ret pe_non))), ?_⟩
    obtain ⟨H1, eH⟩ : ∃ H1, H = H1 := ⟨_, rfl⟩
    have s1 : Same H H1 := eH ▸ Same.refl _
    have hx1 := hx.same s1
    rw [eH]
    obtain ⟨dx, fs, h1⟩ := prop_at hx1
    refine ⟨_, rfl, x, dx, fs, rfl, h1, x, ns, L, rfl, hx1, fun l hl => ?_⟩
    have s2 := same_new (o := .lst (L.map fun p => V.ref p.2)) hl
    have hl2 := upd_same (H := H1) (a := l) (o := .lst (L.map fun p => V.ref p.2))
    have s12 := s1.trans s2
    refine ⟨l, rfl, ⟨_, SqL.of hl2⟩, ?_⟩
    obtain ⟨_, _, _, _, _, _, hk, ok⟩ := hx
    refine for_it walk_list (fun i σ Z => ∃ o2 : Option V, σ = [some (.ref x), some (.ref d), o2] ∧ Same (upd H1 l (.lst (L.map fun p => V.ref p.2))) Z ∧ ∀ y ∈ L.take i, decide (0 < shortB g y.1) = false) ⟨_, rfl, Same.refl _, fun _ h => (List.not_mem_nil h).elim⟩
      (fun i σ Z _ ⟨_, _, sz, _⟩ => SqL.of (sz _ _ hl2)) ?_ ?_
    · rintro i v σ Z Z' hi ⟨o2, rfl, sz, hno⟩ ⟨rfl, hv⟩
      obtain ⟨y, hy, rfl⟩ := get_map hv
      have hi' : i < L.length := by rwa [List.length_map] at hi
      have my := List.mem_of_getElem? hy
      have ey : L[i] = y := by
        rw [List.getElem?_eq_getElem hi'] at hy
        exact Option.some.inj hy
      have sz2 := s12.trans sz
      refine ⟨_, rfl, _, rfl, y.2, d, y.1, g, rfl, sz2 _ _ (hk y my), sz2 _ _ hd, .of (ok.rules y my) fun u hu => hn.1.mem_iff.mpr hu, ?_⟩
      refine ⟨_, 0, rfl, rfl, _, rfl, ?_⟩
      refine ite2 (fun t => ?_) (fun t => ?_)
      · refine ⟨_, rfl, ?_⟩
        have e : firstR g L = some y := (find_take (fun p : Rule × Addr => decide (0 < shortB g p.1)) L i hi' hno (by rw [ey]; exact t)).trans (congrArg some ey)
        have q2 := q _ sz2
        rw [e] at q2
        exact q2
      · refine ⟨_, rfl, sz, fun z hz => ?_⟩
        rw [List.take_add_one, hy] at hz
        rcases List.mem_append.mp hz with hz | hz
        · exact hno z hz
        · rw [List.mem_singleton.mp hz]
          exact Bool.eq_false_iff.mpr t
    · rintro σ Z ⟨o2, rfl, sz, hno⟩
      rw [List.length_map, List.take_length] at hno
      have q2 := q _ (s12.trans sz)
      rw [show firstR g L = none from find_none _ L hno] at q2
      exact q2
theorem ok_breach {C : Addr} {f : Addr} {fd : FuncData} (D : DefAt K mg "first_breach" s_first_breach ["system", "numbers"] f fd) (O_check_numbers : Ok P w K mg base 5 "check_numbers" ["system", "thing"] (spCheck C)) (O_breach_of : Ok P w K mg base 3 "breach_of" ["system", "numbers"] (spBreach C)) :
    Ok P w K mg base 6 "first_breach" ["system", "numbers"] (spBreach C) := by
  refine D.ok (D.fn.ok sc_first_breach (fun vs H Q E h => ?_) (fun cdv A outer s H vs Q E hr h => ?_))
  · obtain ⟨x, d, ns, L, g, rfl, _⟩ := h
    rfl
  · obtain ⟨x, d, ns, L, g, rfl, hx, hd, hn, q⟩ := h
    have nd := sc_first_breach.nd
    refine ⟨_, (pss_cons (ps_expr (pe_own O_check_numbers (hr.mono (by decide)) (pa_cons (pv 0) (pa_cons (pv 1) pa_nil))))
      (pss_one (ps_ret (pe_own O_breach_of (hr.mono (by decide)) (pa_cons (pv 0) (pa_cons (pv 1) pa_nil)))))), ?_⟩
    exact ⟨_, rfl, _, rfl, x, d, ns, L, g, rfl, hx, hd, hn, fun H1 s1 => ⟨_, rfl, _, rfl, x, d, ns, L, g, rfl, hx.same s1, s1 _ _ hd, hn, fun H2 s2 => q _ (s1.trans s2)⟩⟩
def spAdmitted (C : Addr) : Sp := fun vs H Q _ => ∃ (x d : Addr) (ns : List Str) (L : List (Rule × Addr)) (g : List (Str × Int)), vs = [.ref x, .ref d] ∧ SysAt C H x ns L ∧ H d = some (.dK (goalKV g)) ∧ NumsOk ns g ∧ ∀ H', Same H H' → Q (.bl (firstR g L).isNone) H'
theorem ok_admitted {C : Addr} {f : Addr} {fd : FuncData} (D : DefAt K mg "is_admitted" s_is_admitted ["system", "numbers"] f fd) (O_first_breach : Ok P w K mg base 6 "first_breach" ["system", "numbers"] (spBreach C)) : Ok P w K mg base 7 "is_admitted" ["system", "numbers"] (spAdmitted C) := by
  refine D.ok (D.fn.ok sc_is_admitted (fun vs H Q E h => ?_) (fun cdv A outer s H vs Q E hr h => ?_))
  · obtain ⟨x, d, ns, L, g, rfl, _⟩ := h
    rfl
  · obtain ⟨x, d, ns, L, g, rfl, hx, hd, hn, q⟩ := h
    refine ⟨_, (pss_one (ps_ret (pe_cmpR op_isN (pe_own O_first_breach (hr.mono (by decide)) (pa_cons (pv 0) (pa_cons (pv 1) pa_nil))) pe_non (nomark _)))), ?_⟩
    refine ⟨_, rfl, _, rfl, x, d, ns, L, g, rfl, hx, hd, hn, fun H1 s1 => ⟨rfl, ?_⟩⟩
    have q2 := q _ s1
    cases e : firstR g L with
    | none =>
      rw [e] at q2
      exact q2
    | some y =>
      rw [e] at q2
      exact q2
def spBroken : Sp := fun vs H Q _ => ∃ (a d : Addr) (ts : List Str) (rs : List (Rule × Addr)) (g : List (Str × Int)), vs = [.ref a, .ref d] ∧ H a = some (.lst (rs.map fun x => V.ref x.2)) ∧ KeyTups H rs ∧ NamesOk ts ∧ (∀ x ∈ rs, RuleOk ts x.1) ∧ rs.length < 100000 ∧
  H d = some (.dK (goalKV g)) ∧ (g.map (·.1)).Perm ts ∧
  ∀ r H' (M : List (Rule × Addr)), Same H H' → H r = none → M.map (·.1) = canon (rs.map (·.1)) → (∀ x ∈ M, x ∈ rs) → H' r = some (.lst ((M.filter fun x => decide (0 < shortB g x.1)).map fun x => V.ref x.2)) → Q (.ref r) H'
theorem ok_broken {f : Addr} {fd : FuncData} (D : DefAt K mg "_law_broken" s_law_broken ["_law_gaps_here", "_law_held"] f fd) (O_law_sorted : Ok P w K mg base 2 "_law_sorted" ["_law_gaps_here"] spSorted) (O_law_short : Ok P w K mg base 2 "_law_short" ["_law_held", "_law_ask"] spLawShort) :
    Ok P w K mg base 3 "_law_broken" ["_law_gaps_here", "_law_held"] spBroken := by
  refine D.ok (D.fn.ok sc_law_broken (fun vs H Q E h => ?_) (fun cdv A outer s H vs Q E hr h => ?_))
  · obtain ⟨a, d, ts, rs, g, rfl, _⟩ := h
    rfl
  · obtain ⟨a, d, ts, rs, g, rfl, hA, hk, N, hro, hz, hd, pm, q⟩ := h
    have nd := sc_law_broken.nd
    have big : sizeLine > 100000 := by decide
    refine ⟨_, (pss_one (ps_ret (pe_lc (own := [("_law_ask", 2)]) (g := gName 2) (by rfl) nd (pi_list (pe_own O_law_sorted (hr.mono (by decide)) (pa_cons (pv 0) pa_nil))) (blkOk_by (own := [("_law_ask", 2)]) (N := ["_law_gaps_here", "_law_held", "_law_ask"]) (sc := defScope s_law_broken) (by decide +kernel)) (fun _ _ _ _ _ => (pg_name (i := 2) nd rfl (Or.inl rfl))) (fun _ _ _ _ _ => (pts_one (pt_cmpR op_gt (pe_own O_law_short (hr.mono (by decide)) (pa_cons (pv 1) (pa_cons (pv 2) pa_nil))) pe_int (nomark _)))) (fun _ _ _ _ _ => (pv 2))))), ?_⟩
    refine ⟨_, rfl, a, rs, rfl, hA, hk, fun y hy => ⟨(hro y hy).named N, (hro y hy).short N⟩, hz, fun sr H1 M s1 _ hsr hM mM => ?_⟩
    have lM : M.length ≤ rs.length := by
      have h1 : (M.map (·.1)).length ≤ (rs.map (·.1)).length := by rw [hM]; exact canon_len _
      rwa [List.length_map, List.length_map] at h1
    refine ⟨sr, rfl, ⟨_, SqL.of hsr⟩, fun D hD => ?_⟩
    refine lc_acc walk_list hD (fun j => (((M.take j).filter fun y => decide (0 < shortB g y.1)).map fun y => V.ref y.2)) rfl (by rw [List.length_map]; omega) (fun j => by
      rw [List.length_map]
      have := List.length_filter_le (fun y : Rule × Addr => decide (0 < shortB g y.1)) (M.take j)
      rw [List.length_take] at this
      omega) (fun X sx => SqL.of (sx _ _ hsr)) ?_ ?_
    · rintro j y X X' R L hj sx ⟨rfl, hy⟩ hR hW
      obtain ⟨z, hz', rfl⟩ := get_map hy
      have mz := mM z (List.mem_of_getElem? hz')
      have ft : (M.take (j + 1)).filter (fun y => decide (0 < shortB g y.1)) = (M.take j).filter (fun y => decide (0 < shortB g y.1)) ++ [z].filter (fun y => decide (0 < shortB g y.1)) := by
        rw [List.take_add_one, hz', List.filter_append]
        rfl
      have swx := s1.trans sx
      refine ⟨rfl, _, rfl, _, rfl, d, z.2, z.1, g, rfl, swx _ _ hd, swx _ _ (hk z mz), .of (hro z mz) fun u hu => pm.mem_iff.mpr hu, ?_⟩
      refine ⟨_, 0, rfl, rfl, _, rfl, ?_⟩
      refine ite2 (fun t => ⟨_, rfl, hR _ _ ?_ (Same.refl _)⟩) (fun t => hW _ ?_ (Same.refl _))
      · rw [ft, List.filter_cons, t]
        simp
      · rw [ft, List.filter_cons, Bool.eq_false_iff.mpr t]
        simp
    · intro X sx hX
      rw [List.length_map, List.take_length] at hX
      exact q D X M (s1.trans sx) (s1.free hD) hM mM hX
end
end Wnd

/-! Windowsteps: dict comprehensions over anything that is walked. -/
namespace Wnd
open PySem PySem.Spec PyProof.Rows L2
variable {J : It} {n : Nat} {G : Hp → Prop} {Y : Nat → Hp → V → Hp → Prop}
theorem dc_it (w : Walk J n G Y) {g : TG} {tt : TT} {tk tv : TE} {vs : List Nat} {σ : L2.St} {H1 : Hp} {D : Addr} {Qd : Hp → Prop} (Pv : Nat → Hp → Prop) (h0 : Pv 0 (upd H1 D (.dK []))) (hG : ∀ i H, i ≤ n → Pv i H → G H)
    (hs : ∀ i x H H', i < n → Pv i H → Y i H x H' → g x (wipe σ vs) H' fun σ2 H2 => wipe σ2 vs = wipe σ vs ∧ tt σ2 H2 fun b H3 =>
      if b = true then tk σ2 H3 fun y H4 => tv σ2 H4 fun z H5 => ∃ kvs k, y = kV k ∧ H5 D = some (.dK kvs) ∧ kvs.length < sizeLine ∧ Pv (i + 1) (upd H5 D (.dK (putK kvs k z))) else Pv (i + 1) H3) (hd : ∀ H, Pv n H → Qd H) :
    ∃ W : Nat → Nat → Hp → Prop, (∃ m, W 0 m (upd H1 D (.dK []))) ∧ ∀ i m H, W i m H →
      (J.stop i H ∧ Qd H) ∨ (J.go i H ∧ ∃ Nx : Hp → Prop, (∀ H', Nx H' → ∃ m', m' < m ∧ W (i + 1) m' H') ∧ ∀ x H', J.yld i H x H' → g x (wipe σ vs) H' fun σ2 H2 => wipe σ2 vs = wipe σ vs ∧ tt σ2 H2 fun b H3 =>
        if b = true then tk σ2 H3 fun y H4 => tv σ2 H4 fun z H5 => ∃ kvs k, y = kV k ∧ H5 D = some (.dK kvs) ∧ kvs.length < sizeLine ∧ Nx (upd H5 D (.dK (putK kvs k z))) else Nx H3) := by
  refine ⟨fun i m H => m = n - i ∧ i ≤ n ∧ Pv i H, ⟨n, by simp, Nat.zero_le _, h0⟩, ?_⟩
  rintro i m H ⟨rfl, hi, p⟩
  have q := hG i H hi p
  by_cases hlt : i < n
  · refine .inr ⟨w.goes i H hlt q, Pv (i + 1), fun H' p' => ⟨n - (i + 1), by omega, rfl, hlt, p'⟩, fun x H' y => hs i x H H' hlt p (w.yields i H x H' hlt q y)⟩
  · have e : i = n := by omega
    subst e
    exact .inl ⟨w.stops H q, hd H p⟩
/-! in a block: the class's frame said -/
def rDictPK (K : PySem.W.Frag) : List V → Hp → VK → Prop := fun xs H Q => ∃ (a : Addr) (ps : List Addr) (kvs : List (Key × V)), xs = [.ref a] ∧ SqL K H a (ps.map V.ref) ∧ Paired (fun p kv => SqT K H p [kV kv.1, kv.2]) ps kvs ∧ ∀ p, H p = none → Q (.ref p) (upd H p (.dK (mergeK [] kvs)))
theorem call_dictPK {X : Cx} (K : PySem.W.Frag) (hcalm : X.calm = true) (h : X.K = K := by rfl) : CallR X (.type "dict") (rDictPK K) := by
  subst h
  exact call_dictP hcalm
theorem pe_revLK {X : Cx} {e : Expr} {te : TE} {k : Nat} {p1 p2 p3 pos : Pos} (K : PySem.W.Frag) (he : PE X e te) (h : X.K = K := by rfl) : PE X (.Subscript e (.Slice none none (some (.UnaryOp .USub (.Constant (.int 1) k p1) p2)) p3) pos) (tRevL K te) := by
  subst h
  exact pe_revL he
end Wnd

/-! Windowsteps: != of two lists whose items are equal dicts. -/
namespace PySem.SeqAt
open AutoSeq1 (wpAny_loadPart')
open MeetsSeq MeetsSeq2 MeetsSeq3 SeqRoads2
section
variable {prog : Program} {w : World}
theorem wnd_ne_loopIn (l b : Addr) (items items2 : Array Value) (n n2 : Nat) (dd dd2 : Option Addr) (sl sl2 : Array (Option Value)) (hsz : items.size = items2.size) (e : Nat → Bool) (k : Nat) :
    ∀ i : Nat, items.size - i = k → MeetsIn prog w (Builtin.«list.__eq__.loop» ⟨[.ref l, .ref b, rawInt i, rawInt 3], []⟩)
      (fun A R s => s.heap.get? l = some { cls := .type "list", dict := dd, data := .seq items n, slots := sl } ∧ s.heap.get? b = some { cls := .type "list", dict := dd2, data := .seq items2 n2, slots := sl2 } ∧
        (∀ j (h1 : j < items.size) (h2 : j < items2.size), EqP prog w A.in1 s items[j] items2[j] (e j)) ∧
        R (.ok (.ret (.bool (!((List.range items.size).drop i).all e)))) s) := by
  induction k with
  | zero =>
    intro i hk A R s h
    obtain ⟨hp, g, d, tk, os⟩ := s; obtain ⟨hl, hb, he, h⟩ := h
    wp_walk using wpAny_loadPart' hl, wpAny_loadPart' hb
    have hi1 : items[((i : Nat) : Int).toNat]? = none := by simp; omega
    have hi2 : items2[((i : Nat) : Int).toNat]? = none := by simp; omega
    have hd : (List.range items.size).drop i = [] := by simp; omega
    rw [hd] at h
    rw [hi1, hi2]
    wp_walk using wpAny_loadPart' hl, wpAny_loadPart' hb
    show R (.ok (.ret (.bool (items.size != items2.size)))) _
    rw [hsz]
    simpa using h
  | succ k ih =>
    intro i hk A R s h
    obtain ⟨hp, g, d, tk, os⟩ := s; obtain ⟨hl, hb, he, h⟩ := h
    wp_walk using wpAny_loadPart' hl, wpAny_loadPart' hb
    have hlt : i < items.size := by omega
    have hlt2 : i < items2.size := by omega
    have hi1 : items[((i : Nat) : Int).toNat]? = some items[i] := by simp [hlt]
    have hi2 : items2[((i : Nat) : Int).toNat]? = some items2[i] := by simp [hlt2]
    have hd : (List.range items.size).drop i = i :: (List.range items.size).drop (i + 1) := by simp [List.drop_eq_getElem_cons, hlt]
    have hc : ((i : Int) + 1) = ((i + 1 : Nat) : Int) := by push_cast; rfl
    rw [hd, List.all_cons] at h
    rw [hi1, hi2]
    refine wpAny_bind (he i hlt hlt2 _ _ ?_)
    cases hb' : e i with
    | true =>
      rw [hb'] at h
      wp_walk
      rw [hc]
      exact ⟨plainId_quiet plain_eq_loop _, codeAny_builtin entry_eq_loop (by
        rw [Around.under_plainId plain_eq_loop _]
        exact ih (i + 1) (by omega) A R _ ⟨hl, hb, he, by simpa using h⟩)⟩
    | false =>
      rw [hb'] at h
      wp_walk using wpAny_loadPart' hl, wpAny_loadPart' hb
      rw [hi1, hi2]
      wp_walk
      simpa using h
theorem wnd_list_neIn (l b : Addr) (items items2 : Array Value) (n n2 : Nat) (dd dd2 : Option Addr) (sl sl2 : Array (Option Value)) (hsz : items.size = items2.size) (e : Nat → Bool) :
    MeetsIn prog w (Builtin.«list.__ne__» ⟨[.ref l, .ref b], []⟩)
      (fun A R s => s.heap.get? l = some { cls := .type "list", dict := dd, data := .seq items n, slots := sl } ∧ s.heap.get? b = some { cls := .type "list", dict := dd2, data := .seq items2 n2, slots := sl2 } ∧
        (∀ j (h1 : j < items.size) (h2 : j < items2.size), EqP prog w A.in1 s items[j] items2[j] (e j)) ∧
        R (.ok (.ret (.bool (!(List.range items.size).all e)))) s) := by
  intro A R s h
  obtain ⟨hp, g, d, tk, os⟩ := s; obtain ⟨hl, hb, he, h⟩ := h
  have f3 := AutoSeq1.sub_list_list
  have hne : ¬ (items.size != items2.size) = true := by simp [hsz]
  wp_walk using wpAny_loadPart' hl, wpAny_loadPart' hb
  exact ⟨plainId_quiet plain_eq_loop _, codeAny_builtin entry_eq_loop (by
    rw [Around.under_plainId plain_eq_loop _]
    exact wnd_ne_loopIn l b items items2 n n2 dd dd2 sl sl2 hsz e _ 0 rfl A R _ ⟨hl, hb, he, by simpa using h⟩)⟩
theorem wnd_rcNeP {A : Around} {s : Shared} {l b : Addr} {items items2 : Array Value} {e : Nat → Bool} (hl : s.heap.IsList l items) (hb : s.heap.IsList b items2) (hsz : items.size = items2.size) (hu : A.units < cLine)
    (he : ∀ j (h1 : j < items.size) (h2 : j < items2.size), EqP prog w A.in1 s items[j] items2[j] (e j)) (E Q : Value → Shared → Prop) (h : Q (.bool (!(List.range items.size).all e)) s) : wpAny (model prog w) A (richCompare .NotEq (.ref l) (.ref b)) Q E s := by
  obtain ⟨⟨cls, dd, data, sl⟩, ho, hc, n, hd⟩ := id hl
  obtain ⟨⟨cls2, dd2, data2, sl2⟩, ho2, hc2, n2, hd2⟩ := id hb
  simp only at hc hd hc2 hd2
  subst hc hd hc2 hd2
  have ta : s.TypeIs (.ref l) "list" := ⟨_, ho, rfl⟩
  have tb : s.TypeIs (.ref b) "list" := ⟨_, ho2, rfl⟩
  exact wpAny_richCompare_same_room (op := .NotEq) ta tb F.slot_list_ne (call_meetsIn F.slot_list_ne ta F.entry_list_ne (F.args_list_ne_2 _ _) (wnd_list_neIn l b items items2 n n2 dd dd2 sl sl2 hsz e)
    ⟨ho, ho2, he, show Value.bool (!(List.range items.size).all e) ≠ Value.notImplemented ∧ Q (.bool (!(List.range items.size).all e)) s from ⟨(fun x => nomatch x), h⟩⟩) hu
end
end PySem.SeqAt
namespace Wnd
open PySem PySem.Spec PyProof.Rows L2
variable {X : Cx}
def rNeV (K : PySem.W.Frag) : R2 := fun x y H Q => ∃ n, n ≤ 60 ∧ (∃ a b xs ys, x = .ref a ∧ y = .ref b ∧ SqL K H a xs ∧ SqL K H b ys ∧ Paired (EqV K H n) xs ys) ∧ Q (.bl false) H
theorem op_neV (hu : X.A.units + 64 < cLine) : OpR X (compareOp .NotEq) (rNeV X.K) := by
  intro pins s σ H x y v u Q I rx ry h
  obtain ⟨n, hn, ⟨a, b, xs, ys, rfl, rfl, ha, hb, hp⟩, q⟩ := h
  cases (show v = Value.ref a from rx)
  cases (show u = Value.ref b from ry)
  obtain ⟨us, r1, p1, _⟩ := I.list ha
  obtain ⟨ws, r2, p2, _⟩ := I.list hb
  have hsz : us.toArray.size = ws.toArray.size := by
    rw [List.size_toArray, List.size_toArray, ← r1.length, ← r2.length]
    exact Paired.length hp
  refine SeqAt.wnd_rcNeP (A := X.A) (e := fun _ => true) p1.isList p2.isList hsz (by omega) (fun j h1 h2 => ?_) _ _ ?_
  · have k := items_run (eqV_run I n X.A.in1 (by show X.A.units + 1 + n < cLine; omega)) hp r1 r2 j (by simpa using h1) (by simpa using h2)
    simpa using k
  · rw [show ((List.range us.toArray.size).all fun _ => true) = true from List.all_eq_true.mpr fun _ _ => rfl]
    exact ⟨.bl false, H, I, rfl, q⟩
end Wnd

/-! Windowsteps: repr of a list of two numbers of settings. -/
namespace Wnd
open PySem PySem.Spec PyProof.Rows L2
variable {X : Cx}
/-- a new list, and where it is not -/
def tLstN (t : TA) : TE := fun σ H Q => t σ H fun xs H1 => xs.length ≤ sizeLine ∧ ∀ p, H1 p = none → p ≠ sysModules → Q (.ref p) (upd H1 p (.lst xs))
theorem pe_lstN {es : List Expr} {pos : Pos} {t : TA} (h : PA X es t) : PE X (.List es pos) (tLstN t) := by
  refine ⟨fun pins s σ H Q I hq => ?_⟩
  refine wpAny_List_spliced (thn (h.run pos pins s σ H _ I hq) fun us s1 ⟨xs, H1, I1, r, z, q⟩ => ⟨by rw [← r.length]; exact z, ?_⟩)
  have hf : H1 s1.heap.objs.size = none := I1.hok.fresh (Nat.le_refl _)
  refine ⟨.ref s1.heap.objs.size, upd H1 s1.heap.objs.size (.lst xs), I1.laid (t' := s1.toks) (fun b u e => Heap.get?_push_of_some _ e) (Nat.le_refl _) ?_, rfl, q _ hf (Nat.ne_of_gt I1.big)⟩
  exact ⟨z, us, 0, r, Heap.get?_push_size _ rfl⟩
def pairD (g g' : List (Str × Int)) : PyData := .list [goalD g, goalD g']
def rReprL : List V → Hp → VK → Prop := fun xs H Q => ∃ (a l1 l2 : Addr) (g1 g2 : List (Str × Int)), xs = [.ref a] ∧ a ≠ sysModules ∧ H a = some (.lst [.ref l1, .ref l2]) ∧ H l1 = some (.dK (g1.map fun x => (Sum.inr x.1, V.int x.2))) ∧ H l2 = some (.dK (g2.map fun x => (Sum.inr x.1, V.int x.2))) ∧
  (∀ x ∈ g1, Small x) ∧ (∀ x ∈ g2, Small x) ∧ g1.length ≤ 1000 ∧ g2.length ≤ 1000 ∧ Q (.str (pairD g1 g2).shown) H
theorem pair_show {g1 g2 : List (Str × Int)} (h1 : ∀ x ∈ g1, Small x) (h2 : ∀ x ∈ g2, Small x) (z1 : g1.length ≤ 1000) (z2 : g2.length ≤ 1000) : (pairD g1 g2).showable = true ∧ (pairD g1 g2).shown.length ≤ sizeLine ∧ (pairD g1 g2).depth ≤ 60 := by
  obtain ⟨a1, a2, a3, a4⟩ := goal_kv h1
  obtain ⟨b1, b2, b3, b4⟩ := goal_kv h2
  refine ⟨?_, ?_, ?_⟩
  · simp [pairD, goalD, PyData.showable, PyData.showableAll, a2, b2]
  · have e := PyData.shown_le 13 (by decide) (pairD g1 g2) (by simp [pairD, goalD, PyData.leavesShort, PyData.leavesShortAll, a1, b1])
    have ew : (pairD g1 g2).weight ≤ 60000 := by
      simp only [pairD, goalD, PyData.weight, PyData.weightAll]
      omega
    have : sizeLine = 16777216 := by decide
    omega
  · simp only [pairD, goalD, PyData.depth, PyData.depthAll, a4, b4]
    decide
theorem goal_readsAt {P : Program} {w : World} {H : Hp} {h : Heap} {a : Addr} {g : List (Str × Int)} (ok : HOk P w H h) (hg : H a = some (.dK (g.map fun x => (Sum.inr x.1, V.int x.2)))) : ∃ as, Reads h (.ref a) (goalD g) as ∧ sysModules ∉ as := by
  obtain ⟨_, lo, vs, kv, o, es, ep, h1, h2, h3, _, h5, _⟩ := dk_of ok hg
  obtain ⟨r1, r2⟩ := goal_reads (P := P) (w := w) (h := h) (es := es.toList) kv h5
  refine ⟨_, .dict h1 h2.1 h3 r1 r2, fun hm => ?_⟩
  have : sysModules = a := by simpa using hm
  rw [this] at lo
  simp at lo
theorem call_reprL (free : X.A.guards = some []) (hu : X.A.units + 65 < cLine) : CallR X (.builtin "repr") rReprL := by
  intro pins s σ H xs us Q I r h
  obtain ⟨a, l1, l2, g1, g2, rfl, na, ha, hl1, hl2, s1, s2, z1, z2, q⟩ := h
  obtain ⟨u, rfl, ru⟩ := vals1 r
  cases (show u = Value.ref a from ru)
  obtain ⟨sw, sz, dp⟩ := pair_show s1 s2 z1 z2
  obtain ⟨as, ra, na1⟩ := goal_readsAt I.hok hl1
  obtain ⟨bs, rb, nb1⟩ := goal_readsAt I.hok hl2
  obtain ⟨_, its, n, rv, ho⟩ := (show ObjOk X.prog X.w H s.heap a (.lst [.ref l1, .ref l2]) from I.hok a _ ha)
  have e : its = [.ref l1, .ref l2] := by
    cases rv with
    | cons h1 t =>
      cases t with
      | cons h2 t2 =>
        cases t2
        rw [show _ = Value.ref l1 from h1, show _ = Value.ref l2 from h2]
  subst e
  have rd : Reads s.heap (.ref a) (pairD g1 g2) (a :: (as ++ (bs ++ []))) := .list ho rfl rfl (.cons ra (.cons rb .nil))
  refine repr_of_reads' rd sw (fun _ hm => ?_) free (by omega) (fun _ _ e => e) (fun h' t tk kp => ⟨.str (pairD g1 g2).shown, H, I.kept (t' := tk) kp, ⟨t, rfl⟩, q⟩) sz
  simp only [List.mem_cons, List.mem_append, List.not_mem_nil, or_false] at hm
  rcases hm with hm | hm | hm
  · exact na hm.symm
  · exact na1 hm
  · exact nb1 hm
end Wnd

/-! smaller and greater numbers -/
namespace Wnd
open PySem PySem.Spec PyProof.Rows L2
abbrev s_smaller : Stmt := top 14
theorem sc_smaller : FnScope ["system", "one", "two", "name"] ["system", "one", "two"] (defScope s_smaller) := ⟨rfl, rfl, rfl, by decide +kernel, rfl, by decide +kernel, by decide +kernel⟩
abbrev s_greater : Stmt := top 15
theorem sc_greater : FnScope ["system", "one", "two", "name"] ["system", "one", "two"] (defScope s_greater) := ⟨rfl, rfl, rfl, by decide +kernel, rfl, by decide +kernel, by decide +kernel⟩
section
variable {P : Program} {w : World} {K : PySem.W.Frag} {mg : Str → Option Value} {base : Heap}
def pickG (f : Int → Int → Int) (ns : List Str) (g1 g2 : List (Str × Int)) : List (Str × Int) := ns.map fun t => (t, f (valG g1 (some t)) (valG g2 (some t)))
def mn2 (i j : Int) : Int := if j < i then j else i
def mx2 (i j : Int) : Int := if j > i then j else i
theorem pick_keys (f : Int → Int → Int) (ns : List Str) (g1 g2 : List (Str × Int)) : (pickG f ns g1 g2).map (·.1) = ns := by
  unfold pickG
  rw [List.map_map]
  exact List.map_id' ns
theorem put_new {g : List (Str × Int)} {t : Str} {v : Int} (h : t ∉ g.map (·.1)) : putK (goalKV g) (Sum.inr t : Key) (V.int v) = goalKV (g ++ [(t, v)]) := by
  unfold putK
  have z : ¬ ((goalKV g).any fun kv => decide (kv.1 = (Sum.inr t : Key))) = true := fun z => by
    obtain ⟨y, hy, e⟩ := List.any_eq_true.mp z
    obtain ⟨x, hx, rfl⟩ := List.mem_map.mp hy
    have e : (Sum.inr x.1 : Key) = Sum.inr t := of_decide_eq_true e
    injection e with e
    exact h (e ▸ List.mem_map.mpr ⟨x, hx, rfl⟩)
  rw [if_neg z]
  unfold goalKV
  rw [List.map_append]
  rfl
theorem nums_mem {ns : List Str} {g : List (Str × Int)} (h : NumsOk ns g) {t : Str} (m : t ∈ ns) : t ∈ g.map (·.1) := h.1.mem_iff.mpr m
def spPick (f : Int → Int → Int) (C : Addr) : Sp := fun vs H Q _ => ∃ (x d1 d2 : Addr) (ns : List Str) (L : List (Rule × Addr)) (g1 g2 : List (Str × Int)), vs = [.ref x, .ref d1, .ref d2] ∧ SysAt C H x ns L ∧ H d1 = some (.dK (goalKV g1)) ∧ H d2 = some (.dK (goalKV g2)) ∧
  NumsOk ns g1 ∧ NumsOk ns g2 ∧ ∀ r H', Same H H' → H r = none → H' r = some (.dK (goalKV (pickG f ns g1 g2))) → Q (.ref r) H'
theorem ok_smaller {C : Addr} {f : Addr} {fd : FuncData} (D : DefAt K mg "smaller" s_smaller ["system", "one", "two"] f fd) (B : Blt2 mg) (O_check_numbers : Ok P w K mg base 5 "check_numbers" ["system", "thing"] (spCheck C)) (PN : OkP P w K mg base C 1 "names" (spNames C)) :
    Ok P w K mg base 6 "smaller" ["system", "one", "two"] (spPick mn2 C) := by
  refine D.ok (D.fn.ok sc_smaller (fun vs H Q E h => ?_) (fun cdv A outer s H vs Q E hr h => ?_))
  · obtain ⟨x, d1, d2, ns, L, g1, g2, rfl, _⟩ := h
    rfl
  · obtain ⟨x, d1, d2, ns, L, g1, g2, rfl, hx, h1, h2, n1, n2, q⟩ := h
    have nd := sc_smaller.nd
    have hu := hu_of hr
    have big : sizeLine > 100000 := by decide
    refine ⟨_, (pss_cons (ps_expr (pe_own O_check_numbers (hr.mono (by decide)) (pa_cons (pv 0) (pa_cons (pv 1) pa_nil))))
      (pss_cons (ps_expr (pe_own O_check_numbers (hr.mono (by decide)) (pa_cons (pv 0) (pa_cons (pv 2) pa_nil))))
      (pss_one (ps_ret (pe_dc (own := [("name", 3)]) (g := gName 3) (tt := tYes) rfl nd (pi_list (pe_propO PN (hr.mono (by decide)) (pv 0))) (blkOk_by (own := [("name", 3)]) (N := ["system", "one", "two", "name"]) (sc := defScope s_smaller) (by decide +kernel)) (fun _ _ _ _ _ => (pg_name (i := 3) nd rfl (Or.inl rfl))) (fun _ _ _ _ _ => pts_nil) (fun _ _ _ _ _ => (pv 3)) (fun _ _ _ _ _ => (pe_callB (call_min2 rfl) (by rfl) B.min (by decide +kernel) (pa_cons (pe_dget hu (pv 1) (pv 3) (fun _ _ => rfl)) (pa_cons (pe_dget hu (pv 2) (pv 3) (fun _ _ => rfl)) pa_nil))))))))), ?_⟩
    refine ⟨_, rfl, _, rfl, x, d1, ns, L, g1, rfl, hx, h1, n1, fun H1 s1 => ?_⟩
    refine ⟨_, rfl, _, rfl, x, d2, ns, L, g2, rfl, hx.same s1, s1 _ _ h2, n2, fun H2 s2 => ?_⟩
    have s12 := s1.trans s2
    have hx2 := hx.same s12
    obtain ⟨dx, fs, e1⟩ := prop_at hx2
    refine ⟨_, rfl, x, dx, fs, rfl, e1, x, ns, L, rfl, hx2, fun l hl => ?_⟩
    have s3 := s12.trans (same_new (o := .lst (ns.map V.str)) hl)
    have hl3 := upd_same (H := H2) (a := l) (o := .lst (ns.map V.str))
    generalize upd H2 l (.lst (ns.map V.str)) = H3 at s3 hl3 ⊢
    refine ⟨l, rfl, ⟨_, SqL.of hl3⟩, fun D hD => ?_⟩
    have nodup : ns.Nodup := by
      obtain ⟨_, _, _, _, _, _, _, ok⟩ := hx
      exact ok.names.1
    have lN : ns.length < 64 := by
      obtain ⟨_, _, _, _, _, _, _, ok⟩ := hx
      exact ok.names.2.2
    have hDH := s3.free hD
    refine dc_it (walk_list (xs := ns.map V.str)) (fun i Hc => Same H3 Hc ∧ Hc D = some (.dK (goalKV (pickG mn2 (ns.take i) g1 g2)))) ⟨same_new hD, upd_same⟩ (fun i Hc _ h => SqL.of (h.1 _ _ hl3)) ?_ ?_
    · rintro i v Hc H' hi ⟨sc, hd⟩ ⟨rfl, hv⟩
      obtain ⟨t, ht, rfl⟩ := get_map hv
      have mt := List.mem_of_getElem? ht
      have hi' : i < ns.length := by rwa [List.length_map] at hi
      have dg1 : DGet H' d1 (V.str t) (some (.int (valG g1 (some t)))) := by
        have := DGet.k (k := Sum.inr t) (sc _ _ (s3 _ _ h1))
        rwa [goal_val (nums_mem n1 mt)] at this
      have dg2 : DGet H' d2 (V.str t) (some (.int (valG g2 (some t)))) := by
        have := DGet.k (k := Sum.inr t) (sc _ _ (s3 _ _ h2))
        rwa [goal_val (nums_mem n2 mt)] at this
      refine ⟨rfl, _, rfl, _, rfl, _, rfl, d1, _, rfl, dg1, _, rfl, _, rfl, d2, _, rfl, dg2, _, _, rfl, goalKV (pickG mn2 (ns.take i) g1 g2), Sum.inr t, rfl, hd, ?_, ?_, ?_⟩
      · unfold goalKV pickG
        rw [List.length_map, List.length_map, List.length_take]
        omega
      · intro b o hb
        rw [upd_ne (ne_of_none hb hD)]
        exact sc _ _ hb
      · have ne : t ∉ (pickG mn2 (ns.take i) g1 g2).map (·.1) := by
          rw [pick_keys]
          intro m
          obtain ⟨j, hj, e⟩ := List.getElem_of_mem m
          rw [List.length_take] at hj
          rw [List.getElem_take] at e
          rw [List.getElem?_eq_getElem hi'] at ht
          have := (List.getElem_inj (h₀ := by omega) (h₁ := hi') nodup).mp (e.trans (Option.some.inj ht).symm)
          omega
        rw [put_new ne, upd_same]
        congr 3
        rw [List.take_add_one, ht]
        unfold pickG
        rw [List.map_append]
        rfl
    · rintro Hc ⟨sc, hd⟩
      rw [List.length_map, List.take_length] at hd
      exact q D Hc (s3.trans sc) hDH hd
theorem ok_greater {C : Addr} {f : Addr} {fd : FuncData} (D : DefAt K mg "greater" s_greater ["system", "one", "two"] f fd) (B : Blt2 mg) (O_check_numbers : Ok P w K mg base 5 "check_numbers" ["system", "thing"] (spCheck C)) (PN : OkP P w K mg base C 1 "names" (spNames C)) :
    Ok P w K mg base 6 "greater" ["system", "one", "two"] (spPick mx2 C) := by
  refine D.ok (D.fn.ok sc_greater (fun vs H Q E h => ?_) (fun cdv A outer s H vs Q E hr h => ?_))
  · obtain ⟨x, d1, d2, ns, L, g1, g2, rfl, _⟩ := h
    rfl
  · obtain ⟨x, d1, d2, ns, L, g1, g2, rfl, hx, h1, h2, n1, n2, q⟩ := h
    have nd := sc_greater.nd
    have hu := hu_of hr
    have big : sizeLine > 100000 := by decide
    refine ⟨_, (pss_cons (ps_expr (pe_own O_check_numbers (hr.mono (by decide)) (pa_cons (pv 0) (pa_cons (pv 1) pa_nil))))
      (pss_cons (ps_expr (pe_own O_check_numbers (hr.mono (by decide)) (pa_cons (pv 0) (pa_cons (pv 2) pa_nil))))
      (pss_one (ps_ret (pe_dc (own := [("name", 3)]) (g := gName 3) (tt := tYes) rfl nd (pi_list (pe_propO PN (hr.mono (by decide)) (pv 0))) (blkOk_by (own := [("name", 3)]) (N := ["system", "one", "two", "name"]) (sc := defScope s_greater) (by decide +kernel)) (fun _ _ _ _ _ => (pg_name (i := 3) nd rfl (Or.inl rfl))) (fun _ _ _ _ _ => pts_nil) (fun _ _ _ _ _ => (pv 3)) (fun _ _ _ _ _ => (pe_callB (call_max2 rfl) (by rfl) B.max (by decide +kernel) (pa_cons (pe_dget hu (pv 1) (pv 3) (fun _ _ => rfl)) (pa_cons (pe_dget hu (pv 2) (pv 3) (fun _ _ => rfl)) pa_nil))))))))), ?_⟩
    refine ⟨_, rfl, _, rfl, x, d1, ns, L, g1, rfl, hx, h1, n1, fun H1 s1 => ?_⟩
    refine ⟨_, rfl, _, rfl, x, d2, ns, L, g2, rfl, hx.same s1, s1 _ _ h2, n2, fun H2 s2 => ?_⟩
    have s12 := s1.trans s2
    have hx2 := hx.same s12
    obtain ⟨dx, fs, e1⟩ := prop_at hx2
    refine ⟨_, rfl, x, dx, fs, rfl, e1, x, ns, L, rfl, hx2, fun l hl => ?_⟩
    have s3 := s12.trans (same_new (o := .lst (ns.map V.str)) hl)
    have hl3 := upd_same (H := H2) (a := l) (o := .lst (ns.map V.str))
    generalize upd H2 l (.lst (ns.map V.str)) = H3 at s3 hl3 ⊢
    refine ⟨l, rfl, ⟨_, SqL.of hl3⟩, fun D hD => ?_⟩
    have nodup : ns.Nodup := by
      obtain ⟨_, _, _, _, _, _, _, ok⟩ := hx
      exact ok.names.1
    have lN : ns.length < 64 := by
      obtain ⟨_, _, _, _, _, _, _, ok⟩ := hx
      exact ok.names.2.2
    have hDH := s3.free hD
    refine dc_it (walk_list (xs := ns.map V.str)) (fun i Hc => Same H3 Hc ∧ Hc D = some (.dK (goalKV (pickG mx2 (ns.take i) g1 g2)))) ⟨same_new hD, upd_same⟩ (fun i Hc _ h => SqL.of (h.1 _ _ hl3)) ?_ ?_
    · rintro i v Hc H' hi ⟨sc, hd⟩ ⟨rfl, hv⟩
      obtain ⟨t, ht, rfl⟩ := get_map hv
      have mt := List.mem_of_getElem? ht
      have hi' : i < ns.length := by rwa [List.length_map] at hi
      have dg1 : DGet H' d1 (V.str t) (some (.int (valG g1 (some t)))) := by
        have := DGet.k (k := Sum.inr t) (sc _ _ (s3 _ _ h1))
        rwa [goal_val (nums_mem n1 mt)] at this
      have dg2 : DGet H' d2 (V.str t) (some (.int (valG g2 (some t)))) := by
        have := DGet.k (k := Sum.inr t) (sc _ _ (s3 _ _ h2))
        rwa [goal_val (nums_mem n2 mt)] at this
      refine ⟨rfl, _, rfl, _, rfl, _, rfl, d1, _, rfl, dg1, _, rfl, _, rfl, d2, _, rfl, dg2, _, _, rfl, goalKV (pickG mx2 (ns.take i) g1 g2), Sum.inr t, rfl, hd, ?_, ?_, ?_⟩
      · unfold goalKV pickG
        rw [List.length_map, List.length_map, List.length_take]
        omega
      · intro b o hb
        rw [upd_ne (ne_of_none hb hD)]
        exact sc _ _ hb
      · have ne : t ∉ (pickG mx2 (ns.take i) g1 g2).map (·.1) := by
          rw [pick_keys]
          intro m
          obtain ⟨j, hj, e⟩ := List.getElem_of_mem m
          rw [List.length_take] at hj
          rw [List.getElem_take] at e
          rw [List.getElem?_eq_getElem hi'] at ht
          have := (List.getElem_inj (h₀ := by omega) (h₁ := hi') nodup).mp (e.trans (Option.some.inj ht).symm)
          omega
        rw [put_new ne, upd_same]
        congr 3
        rw [List.take_add_one, ht]
        unfold pickG
        rw [List.map_append]
        rfl
    · rintro Hc ⟨sc, hd⟩
      rw [List.length_map, List.take_length] at hd
      exact q D Hc (s3.trans sc) hDH hd
end
end Wnd

namespace Wnd
open PySem PySem.Spec PyProof.Rows L2
abbrev s_law : Stmt := top 44
theorem sc_law : FnScope ["_law_script", "_law_pen_here", "_law_turn", "_law_nyms_here", "_law_one", "_law_two", "_law_three", "_law_gaps_here", "_law_made", "_law_first", "_law_second", "_law_seen", "_law_low", "_law_high", "_law_again", "_law_found", "_law_torn", "_law_nym", "_law_some_here"] ["_law_script"] (defScope s_law) := ⟨rfl, rfl, rfl, by decide +kernel, rfl, by decide +kernel, by decide +kernel⟩
section
variable {P : Program} {w : World} {K : PySem.W.Frag} {mg : Str → Option Value} {base : Heap}
theorem pick_of {f : Int → Int → Int} {ns : List Str} {g1 g2 g : List (Str × Int)} (hk : g.map (·.1) = ns) (hv : ∀ (j : Nat) (h : j < g.length), ∀ h2 : j < ns.length, g[j].2 = f (valG g1 (some ns[j])) (valG g2 (some ns[j]))) : g = pickG f ns g1 g2 := by
  have hl : g.length = ns.length := by rw [← hk, List.length_map]
  refine List.ext_getElem (by unfold pickG; rw [List.length_map, hl]) fun j h1 h2 => ?_
  have h3 : j < ns.length := by omega
  have e1 : g[j].1 = ns[j] := by
    have : (g.map (·.1))[j]? = ns[j]? := by rw [hk]
    rw [List.getElem?_map, List.getElem?_eq_getElem h1, List.getElem?_eq_getElem h3] at this
    exact Option.some.inj this
  have e2 : (pickG f ns g1 g2)[j] = (ns[j], f (valG g1 (some ns[j])) (valG g2 (some ns[j]))) := List.getElem_map ..
  rw [e2]
  exact Prod.ext e1 (hv j h1 h3)
theorem pick_perm {f : Int → Int → Int} {ns : List Str} {g1 g2 g1' g2' : List (Str × Int)} (p1 : g1.Perm g1') (p2 : g2.Perm g2') (n1 : NumsOk ns g1) (n2 : NumsOk ns g2) (nd : ns.Nodup) : pickG f ns g1' g2' = pickG f ns g1 g2 := by
  unfold pickG
  refine List.map_congr_left fun t ht => ?_
  rw [valG_perm p1 (n1.1.nodup_iff.mpr nd) (fun u e => by cases e; exact nums_mem n1 ht), valG_perm p2 (n2.1.nodup_iff.mpr nd) (fun u e => by cases e; exact nums_mem n2 ht)]
theorem pick_comm {f : Int → Int → Int} (c : ∀ i j, f i j = f j i) (ns : List Str) (g1 g2 : List (Str × Int)) : pickG f ns g1 g2 = pickG f ns g2 g1 := by
  unfold pickG
  exact List.map_congr_left fun t _ => by rw [c]
theorem mn2_comm (i j : Int) : mn2 i j = mn2 j i := by
  unfold mn2
  split <;> split <;> omega
theorem mx2_comm (i j : Int) : mx2 i j = mx2 j i := by
  unfold mx2
  split <;> split <;> omega
theorem mn2_in {i j lo hi : Int} (a : lo ≤ i ∧ i ≤ hi) (b : lo ≤ j ∧ j ≤ hi) : lo ≤ mn2 i j ∧ mn2 i j ≤ hi := by
  unfold mn2
  split <;> omega
theorem mx2_in {i j lo hi : Int} (a : lo ≤ i ∧ i ≤ hi) (b : lo ≤ j ∧ j ≤ hi) : lo ≤ mx2 i j ∧ mx2 i j ≤ hi := by
  unfold mx2
  split <;> omega
theorem pick_bound {f : Int → Int → Int} (hf : ∀ {i j lo hi : Int}, lo ≤ i ∧ i ≤ hi → lo ≤ j ∧ j ≤ hi → lo ≤ f i j ∧ f i j ≤ hi) {ns : List Str} {g1 g2 : List (Str × Int)} (n1 : NumsOk ns g1) (n2 : NumsOk ns g2) : ∀ x ∈ pickG f ns g1 g2, -99999 ≤ x.2 ∧ x.2 ≤ 99999 := by
  intro x hx
  obtain ⟨t, ht, rfl⟩ := List.mem_map.mp hx
  exact hf (n1.2 _ (valG_mem (nums_mem n1 ht))) (n2.2 _ (valG_mem (nums_mem n2 ht)))
theorem pick_nums {f : Int → Int → Int} (hf : ∀ {i j lo hi : Int}, lo ≤ i ∧ i ≤ hi → lo ≤ j ∧ j ≤ hi → lo ≤ f i j ∧ f i j ≤ hi) {ns : List Str} {g1 g2 : List (Str × Int)} (n1 : NumsOk ns g1) (n2 : NumsOk ns g2) : NumsOk ns (pickG f ns g1 g2) :=
  ⟨by rw [pick_keys], pick_bound hf n1 n2⟩
theorem valG_pick {f : Int → Int → Int} (f0 : f 0 0 = 0) {ns : List Str} {g1 g2 : List (Str × Int)} (nd : ns.Nodup) {e : Option Str} (h : ∀ t, e = some t → t ∈ ns) : valG (pickG f ns g1 g2) e = f (valG g1 e) (valG g2 e) := by
  cases e with
  | none => exact f0.symm
  | some t =>
    show ((pickG f ns g1 g2).lookup t).getD 0 = _
    rw [lookup_nodup (g := pickG f ns g1 g2) (t := t) (v := f (valG g1 (some t)) (valG g2 (some t))) (by rw [pick_keys]; exact nd) (List.mem_map.mpr ⟨t, h t rfl, rfl⟩)]
    rfl
theorem holds_mn {ns : List Str} {g1 g2 : List (Str × Int)} (nd : ns.Nodup) {r : Rule} (ro : RuleOk ns r) (h1 : Holds g1 r) (h2 : Holds g2 r) : shortB (pickG mn2 ns g1 g2) r ≤ 0 := by
  have e_ : ∀ {e : Option Str}, endIn ns e = true → ∀ t, e = some t → t ∈ ns := by
    rintro e he t rfl
    obtain ⟨x, hx, e⟩ := List.any_eq_true.mp he
    exact eq_of_beq e ▸ hx
  unfold shortB
  rw [valG_pick rfl nd (e_ ro.low), valG_pick rfl nd (e_ ro.high)]
  unfold Holds at h1 h2
  unfold mn2
  split <;> split <;> omega
theorem holds_mx {ns : List Str} {g1 g2 : List (Str × Int)} (nd : ns.Nodup) {r : Rule} (ro : RuleOk ns r) (h1 : Holds g1 r) (h2 : Holds g2 r) : shortB (pickG mx2 ns g1 g2) r ≤ 0 := by
  have e_ : ∀ {e : Option Str}, endIn ns e = true → ∀ t, e = some t → t ∈ ns := by
    rintro e he t rfl
    obtain ⟨x, hx, e⟩ := List.any_eq_true.mp he
    exact eq_of_beq e ▸ hx
  unfold shortB
  rw [valG_pick rfl nd (e_ ro.low), valG_pick rfl nd (e_ ro.high)]
  unfold Holds at h1 h2
  unfold mx2
  split <;> split <;> omega
theorem goal_eqv {H : Hp} {a b : Addr} {g : List (Str × Int)} (nd : (g.map (·.1)).Nodup) (ha : H a = some (.dK (goalKV g))) (hb : H b = some (.dK (goalKV g))) : EqV K H 2 (.ref a) (.ref b) := by
  refine .inr (.inr (.inr ⟨a, b, goalKV g, goalKV g, rfl, rfl, ha, hb, rfl, fun q hq => ?_⟩))
  obtain ⟨x, hx, rfl⟩ := List.mem_map.mp hq
  refine ⟨.int x.2, ?_, .inl ⟨rfl, rfl⟩⟩
  have m : x.1 ∈ g.map (·.1) := List.mem_map.mpr ⟨x, hx, rfl⟩
  rw [goal_val m]
  show some (V.int ((g.lookup x.1).getD 0)) = _
  rw [lookup_nodup nd (show (x.1, x.2) ∈ g from hx)]
  rfl
/-- numbers that stand at d -/
structure At (H : Hp) (d : Addr) (ns : List Str) (g : List (Str × Int)) : Prop where
  dict : H d = some (.dK (goalKV g))
  nums : NumsOk ns g
theorem At.but {p c d : Addr} {n : Nat} {H H' : Hp} {ns : List Str} {g : List (Str × Int)} (h : At H d ns g) (P : PenAt H p c n) (b : But p H H') : At H' d ns g := ⟨b _ _ h.dict (P.ne_of h.dict fun xs z => nomatch z), h.nums⟩
theorem At.same {d : Addr} {H H' : Hp} {ns : List Str} {g : List (Str × Int)} (h : At H d ns g) (s : Same H H') : At H' d ns g := ⟨s _ _ h.dict, h.nums⟩
theorem sys_but {C x p c : Addr} {n : Nat} {H H' : Hp} {ns : List Str} {L : List (Rule × Addr)} (h : SysAt C H x ns L) (P : PenAt H p c n) (b : But p H H') : SysAt C H' x ns L := by
  obtain ⟨dx, ln, lr, h1, h2, h3, h4, h5⟩ := h
  exact ⟨dx, ln, lr, b _ _ h1 (P.ne_of h1 fun xs z => nomatch z), b _ _ h2 (P.ne_strs h2), b _ _ h3 (P.ne_refs (L := L.map (·.2)) (by rw [List.map_map]; exact h3)), fun y hy => b _ _ (h4 y hy) (P.ne_of (h4 y hy) fun xs z => nomatch z), h5⟩
/-- two numbers, as a tuple at t -/
def Duo (ns : List Str) (H : Hp) (t : Addr) : Prop := ∃ d1 d2 g1 g2, H t = some (.tup [.ref d1, .ref d2]) ∧ At H d1 ns g1 ∧ At H d2 ns g2
theorem Duo.same {ns : List Str} {H H' : Hp} {t : Addr} (h : Duo ns H t) (s : Same H H') : Duo ns H' t := by
  obtain ⟨d1, d2, g1, g2, h1, h2, h3⟩ := h
  exact ⟨d1, d2, g1, g2, s _ _ h1, h2.same s, h3.same s⟩
theorem Duo.new {ns : List Str} {H : Hp} {t d1 d2 : Addr} {g1 g2 : List (Str × Int)} (h1 : At H d1 ns g1) (h2 : At H d2 ns g2) (ht : H t = none) : Duo ns (upd H t (.tup [.ref d1, .ref d2])) t :=
  ⟨d1, d2, g1, g2, upd_same, h1.same (same_new ht), h2.same (same_new ht)⟩
def spLaw (K : PySem.W.Frag) : Sp := fun vs H Q _ => ∃ (a : Addr) (ns : List Int), vs = [.ref a] ∧ SqL K H a (ns.map V.int) ∧ ns.length ≤ 63 ∧ ∀ H', Q (.bl true) H'
set_option maxHeartbeats 1000000 in
theorem run_law {C : Addr} {f : Addr} {fd : FuncData} (F : Fun K "law" "law" s_law f fd) (bd : Binds K fd ["_law_script"] []) (room : Room 9 callerA) (T : SysF K mg C) (B : Blt3 mg) (O_law_pen : Ok P w K mg base 1 "_law_pen" ["_law_script"] (spPen K)) (O_law_nyms : Ok P w K mg base 4 "_law_nyms" ["_law_pen_here", "_law_most"] spNyms)
    (O_law_goal : Ok P w K mg base 3 "_law_goal" ["_law_pen_here", "_law_nyms_here"] (spGoal K)) (O_law_gaps : Ok P w K mg base 3 "_law_gaps" ["_law_pen_here", "_law_nyms_here", "_law_goals", "_law_most"] spGaps) (O_law_torn_gaps : Ok P w K mg base 4 "_law_torn_gaps" ["_law_pen_here", "_law_nyms_here", "_law_gaps_here"] spTorn)
    (O_law_broken : Ok P w K mg base 3 "_law_broken" ["_law_gaps_here", "_law_held"] spBroken) (O_is_admitted : Ok P w K mg base 7 "is_admitted" ["system", "numbers"] (spAdmitted C)) (O_smaller : Ok P w K mg base 6 "smaller" ["system", "one", "two"] (spPick mn2 C)) (O_greater : Ok P w K mg base 6 "greater" ["system", "one", "two"] (spPick mx2 C))
    (OM : OkMk P w K mg base C 5 ["self", "names", "rules"] (spInit C)) (OE : OkEq P w K mg base C 1 (spEq K C))
    {s : Shared} {H : Hp} {us : List Value} {vs : List V} {Q : VK} {E : XK} (env : Env0 P w K mg base callerA [] s H) (len : vs.length = 1) (rel : Vals vs us) (h : spLaw K vs H Q E) : codeAny (model P w) callerA (.call (.ref f) ⟨us, []⟩) (CR CX0 [] P w H s Q E) s := by
  have C_System := T.mgC
  refine top_run (k := 8) F sc_law bd room (fun cdv s H vs Q E hr h => ?_) env len rel h
  obtain ⟨a, ns, rfl, hS, hlen, q⟩ := h
  have nd := sc_law.nd
  have hu := hu_of hr
  have big : sizeLine > 100000 := by decide
  refine ⟨_, (pss_cons (ps_set (i := 1) nd rfl (Or.inl rfl) (pe_own O_law_pen (hr.mono (by decide)) (pa_cons (pv 0) pa_nil)))
      (pss_cons (ps_for PassesOwn.never rfl (pi_range1 (by rfl) B.range (pa_cons pe_int pa_nil)) (pg_name (i := 2) nd rfl (Or.inl rfl)) (pss_cons (ps_set (i := 3) nd rfl (Or.inl rfl) (pe_own O_law_nyms (hr.mono (by decide)) (pa_cons (pv 1) (pa_cons pe_int pa_nil))))
      (pss_cons (ps_par3 (i := 4) (j := 5) (l := 6) rfl nd rfl rfl rfl (by decide) (by decide) (by decide) rfl rfl rfl (pa_cons (pe_own O_law_goal (hr.mono (by decide)) (pa_cons (pv 1) (pa_cons (pv 3) pa_nil))) (pa_cons (pe_own O_law_goal (hr.mono (by decide)) (pa_cons (pv 1) (pa_cons (pv 3) pa_nil))) (pa_cons (pe_own O_law_goal (hr.mono (by decide)) (pa_cons (pv 1) (pa_cons (pv 3) pa_nil))) pa_nil))) (by rfl))
      (pss_cons (ps_set (i := 7) nd rfl (Or.inl rfl) (pe_own O_law_gaps (hr.mono (by decide)) (pa_cons (pv 1) (pa_cons (pv 3) (pa_cons (pe_lst (pa_cons (pv 4) (pa_cons (pv 5) pa_nil))) (pa_cons pe_int pa_nil))))))
      (pss_cons (ps_set (i := 8) nd rfl (Or.inl rfl) (pe_mk OM (hr.mono (by decide)) C_System (pa_cons (pv 3) (pa_cons (pv 7) pa_nil))))
      (pss_cons (ps_for PassesOwn.never rfl (pi_tup (pe_tup (pa_cons (pe_tup (pa_cons (pv 4) (pa_cons (pv 5) pa_nil))) (pa_cons (pe_tup (pa_cons (pv 5) (pa_cons (pv 4) pa_nil))) (pa_cons (pe_tup (pa_cons (pv 4) (pa_cons (pv 6) pa_nil))) (pa_cons (pe_tup (pa_cons (pv 6) (pa_cons (pv 5) pa_nil))) (pa_cons (pe_tup (pa_cons (pv 4) (pa_cons (pv 4) pa_nil))) pa_nil))))))) (pg_tup rfl (pgs_cons (pg_name (i := 9) nd rfl (Or.inr rfl)) (pgs_cons (pg_name (i := 10) nd rfl (Or.inr rfl)) pgs_nil))) (pss_cons (ps_set (i := 11) nd rfl (Or.inl rfl) (pe_callB (call_reprL rfl (hu65 hr)) (by rfl) B.repr (by decide +kernel) (pa_cons (pe_lstN (pa_cons (pv 9) (pa_cons (pv 10) pa_nil))) pa_nil)))
      (pss_cons (ps_set (i := 12) nd rfl (Or.inl rfl) (pe_callTy (call_dictP rfl) (by rfl) B.dict (by decide +kernel) (pa_cons (pe_lc (own := [("_law_nym", 17)]) (g := gName 17) (tt := tYes) (by rfl) nd (pi_list (pe_callB cr_sortedS (by rfl) B.sorted (by decide +kernel) (pa_cons (pv 3) pa_nil))) (blkOk_by (own := [("_law_nym", 17)]) (N := ["_law_script", "_law_pen_here", "_law_turn", "_law_nyms_here", "_law_one", "_law_two", "_law_three", "_law_gaps_here", "_law_made", "_law_first", "_law_second", "_law_seen", "_law_low", "_law_high", "_law_again", "_law_found", "_law_torn", "_law_nym", "_law_some_here"]) (sc := defScope s_law) (by decide +kernel)) (fun _ _ _ _ _ => (pg_name (i := 17) nd rfl (Or.inl rfl))) (fun _ _ _ _ _ => pts_nil) (fun _ _ _ _ _ => (pe_tup (pa_cons (pv 17) (pa_cons (pe_callB (call_min2 rfl) (by rfl) B.min (by decide +kernel) (pa_cons (pe_dget hu (pv 9) (pv 17) (fun _ _ => rfl)) (pa_cons (pe_dget hu (pv 10) (pv 17) (fun _ _ => rfl)) pa_nil))) pa_nil))))) pa_nil)))
      (pss_cons (ps_set (i := 13) nd rfl (Or.inl rfl) (pe_callTy (call_dictP rfl) (by rfl) B.dict (by decide +kernel) (pa_cons (pe_lc (own := [("_law_nym", 17)]) (g := gName 17) (tt := tYes) (by rfl) nd (pi_list (pe_callB cr_sortedS (by rfl) B.sorted (by decide +kernel) (pa_cons (pv 3) pa_nil))) (blkOk_by (own := [("_law_nym", 17)]) (N := ["_law_script", "_law_pen_here", "_law_turn", "_law_nyms_here", "_law_one", "_law_two", "_law_three", "_law_gaps_here", "_law_made", "_law_first", "_law_second", "_law_seen", "_law_low", "_law_high", "_law_again", "_law_found", "_law_torn", "_law_nym", "_law_some_here"]) (sc := defScope s_law) (by decide +kernel)) (fun _ _ _ _ _ => (pg_name (i := 17) nd rfl (Or.inl rfl))) (fun _ _ _ _ _ => pts_nil) (fun _ _ _ _ _ => (pe_tup (pa_cons (pv 17) (pa_cons (pe_callB (call_max2 rfl) (by rfl) B.max (by decide +kernel) (pa_cons (pe_dget hu (pv 9) (pv 17) (fun _ _ => rfl)) (pa_cons (pe_dget hu (pv 10) (pv 17) (fun _ _ => rfl)) pa_nil))) pa_nil))))) pa_nil)))
      (pss_one (ps_for PassesOwn.never rfl (pi_range1 (by rfl) B.range (pa_cons pe_int pa_nil)) (pg_name (i := 14) nd rfl (Or.inl rfl)) (pss_cons (ps_set (i := 15) nd rfl (Or.inl rfl) (pe_lstN (pa_cons (pe_own O_smaller (hr.mono (by decide)) (pa_cons (pv 8) (pa_cons (pv 9) (pa_cons (pv 10) pa_nil)))) (pa_cons (pe_own O_greater (hr.mono (by decide)) (pa_cons (pv 8) (pa_cons (pv 9) (pa_cons (pv 10) pa_nil)))) pa_nil))))
      (pss_cons (ps_if (PW.pt (pw_or (pt_cmpR op_ne (pe_callB (call_reprL rfl (hu65 hr)) (by rfl) B.repr (by decide +kernel) (pa_cons (pv 15) pa_nil)) (pe_callB (call_reprL rfl (hu65 hr)) (by rfl) B.repr (by decide +kernel) (pa_cons (pe_lstN (pa_cons (pv 12) (pa_cons (pv 13) pa_nil))) pa_nil)) (nomark _)) (pw_or1 (pt_cmpR op_ne (pe_callB (call_reprL rfl (hu65 hr)) (by rfl) B.repr (by decide +kernel) (pa_cons (pe_lstN (pa_cons (pv 9) (pa_cons (pv 10) pa_nil))) pa_nil)) (pv 11) (nomark _))))) (pss_one (ps_ret pe_bl)) pss_nil)
      (pss_cons (ps_expr (pe_bm0 PySem.F.plainAttrs_dict PySem.F.slot_dict_clear PySem.F.type_dict_clear mtd_clear (pe_ix ix_list (pv 15) pe_int (fun _ _ => rfl))))
      (pss_cons (ps_dput hu (pe_ix ix_list (pv 15) pe_int (fun _ _ => rfl)) pe_str pe_int rfl)
      (pss_cons (ps_asg (pe_lc (own := [("_law_some_here", 18)]) (g := gName 18) (tt := tYes) (by rfl) nd (pi_tup (pe_tup (pa_cons (pv 9) (pa_cons (pv 10) pa_nil)))) (blkOk_by (own := [("_law_some_here", 18)]) (N := ["_law_script", "_law_pen_here", "_law_turn", "_law_nyms_here", "_law_one", "_law_two", "_law_three", "_law_gaps_here", "_law_made", "_law_first", "_law_second", "_law_seen", "_law_low", "_law_high", "_law_again", "_law_found", "_law_torn", "_law_nym", "_law_some_here"]) (sc := defScope s_law) (by decide +kernel)) (fun _ _ _ _ _ => (pg_name (i := 18) nd rfl (Or.inl rfl))) (fun _ _ _ _ _ => pts_nil) (fun _ _ _ _ _ => (pe_callTy (call_dictPK K rfl) (by rfl) B.dict (by decide +kernel) (pa_cons (pe_revLK K (LiI.pe_listItems rfl (pv 18) (by rfl) B.list (by decide +kernel))) pa_nil)))) (pg_unl rfl (pgs_cons (pg_name (i := 9) nd rfl (Or.inr rfl)) (pgs_cons (pg_name (i := 10) nd rfl (Or.inr rfl)) pgs_nil))))
      (pss_one (ps_set (i := 11) nd rfl (Or.inl rfl) (pe_callB (call_reprL rfl (hu65 hr)) (by rfl) B.repr (by decide +kernel) (pa_cons (pe_lstN (pa_cons (pv 9) (pa_cons (pv 10) pa_nil))) pa_nil)))))))))))))))
      (pss_cons (ps_set (i := 16) nd rfl (Or.inl rfl) (pe_mk OM (hr.mono (by decide)) C_System (pa_cons (pv 3) (pa_cons (pe_own O_law_torn_gaps (hr.mono (by decide)) (pa_cons (pv 1) (pa_cons (pv 3) (pa_cons (pv 7) pa_nil)))) pa_nil))))
      (pss_cons (ps_set (i := 15) nd rfl (Or.inl rfl) (pe_lst (pa_cons (pe_own O_smaller (hr.mono (by decide)) (pa_cons (pv 16) (pa_cons (pv 4) (pa_cons (pv 6) pa_nil)))) (pa_cons (pe_own O_greater (hr.mono (by decide)) (pa_cons (pv 16) (pa_cons (pv 4) (pa_cons (pv 6) pa_nil)))) pa_nil))))
      (pss_cons (ps_if (pt_cmpR (op_neV (hu_of64 hr)) (pv 15) (pe_lst (pa_cons (pe_own O_smaller (hr.mono (by decide)) (pa_cons (pv 8) (pa_cons (pv 6) (pa_cons (pv 4) pa_nil)))) (pa_cons (pe_own O_greater (hr.mono (by decide)) (pa_cons (pv 8) (pa_cons (pv 4) (pa_cons (pv 6) pa_nil)))) pa_nil))) (nomark _)) (pss_one (ps_ret pe_bl)) pss_nil)
      (pss_cons (ps_for PassesOwn.never rfl (pi_tup (pe_tup (pa_cons (pe_own O_smaller (hr.mono (by decide)) (pa_cons (pv 8) (pa_cons (pv 4) (pa_cons (pv 5) pa_nil)))) (pa_cons (pe_own O_greater (hr.mono (by decide)) (pa_cons (pv 8) (pa_cons (pv 5) (pa_cons (pv 4) pa_nil)))) pa_nil)))) (pg_name (i := 15) nd rfl (Or.inl rfl)) (pss_one (ps_if (PW.pt (pw_or (pt_cmpR op_notBl (pe_own O_is_admitted (hr.mono (by decide)) (pa_cons (pv 8) (pa_cons (pv 15) pa_nil))) pe_bl (nomark _)) (pw_or1 (pt_cmpR (op_neD (hu_of64 hr)) (pe_own O_law_broken (hr.mono (by decide)) (pa_cons (pv 7) (pa_cons (pv 15) pa_nil))) (pe_lst pa_nil) (nomark _))))) (pss_one (ps_ret pe_bl)) pss_nil)))
      (pss_one (ps_if (pt_cmpR (op_neO OE (hr.mono (by decide))) (pv 8) (pe_mk OM (hr.mono (by decide)) C_System (pa_cons (pv 3) (pa_cons (pv 7) pa_nil))) (nomark _)) (pss_one (ps_ret pe_bl)) pss_nil))))))))))))
      (pss_one (ps_ret pe_bl)))), ?_⟩
  refine ⟨_, rfl, a, ns, rfl, hS, hlen, fun p c H0 s0 np nc hP0 => ?_⟩
  refine ⟨6, rfl, by decide, by decide, ?_⟩
  refine for_it walk_range (fun i σ Hc => ∃ (o2 o3 o4 o5 o6 o7 o8 o9 o10 o11 o12 o13 o14 o15 o16 o17 o18 : Option V), σ = [some (.ref a), some (.ref p), o2, o3, o4, o5, o6, o7, o8, o9, o10, o11, o12, o13, o14, o15, o16, o17, o18] ∧ PenAt Hc p c (100 * i)) ⟨_, _, _, _, _, _, _, _, _, _, _, _, _, _, _, _, _, rfl, hP0⟩ (fun _ _ _ _ _ => True.intro) ?_ ?_
  · rintro i x σ Hc H' hi ⟨o2, o3, o4, o5, o6, o7, o8, o9, o10, o11, o12, o13, o14, o15, o16, o17, o18, rfl, hP⟩ ⟨rfl, rfl⟩
    have hi : i < 6 := hi
    -- nyms
    refine ⟨_, rfl, p, c, _, 7, rfl, hP, by omega, by decide, fun an H2 n2 ts b2 nan han hts mts lts P2 hn2 => ?_⟩
    have N : NamesOk ts := ⟨hts, fun t ht => pool_names t (mts t ht), by omega⟩
    have lN := N.2.2
    obtain ⟨NS, hNS⟩ : ∃ NS, sortN ts = NS := ⟨_, rfl⟩
    have pNS : ts.Perm NS := hNS ▸ (sortN_perm ts).symm
    have NN : NamesOk NS := N.perm pNS
    clear b2 nan hP hts mts
    -- one, two, three
    refine ⟨_, rfl, _, rfl, p, c, an, n2, ts, rfl, P2, by omega, han, N.1, by omega, fun r1 H3 n3 g1 b3 nr1 hr1 hg1 hb1 P3 hn3 => ?_⟩
    have han3 := b3 _ _ han (P2.ne_strs han)
    have A1 : At H3 r1 NS g1 := ⟨hr1, hg1 ▸ pNS, fun x hx => by have := hb1 x hx; omega⟩
    refine ⟨_, rfl, _, rfl, p, c, an, n3, ts, rfl, P3, by omega, han3, N.1, by omega, fun r2 H4 n4 g2 b4 nr2 hr2 hg2 hb2 P4 hn4 => ?_⟩
    have han4 := b4 _ _ han3 (P3.ne_strs han3)
    replace A1 := A1.but P3 b4
    have A2 : At H4 r2 NS g2 := ⟨hr2, hg2 ▸ pNS, fun x hx => by have := hb2 x hx; omega⟩
    refine ⟨_, rfl, _, rfl, p, c, an, n4, ts, rfl, P4, by omega, han4, N.1, by omega, fun r3 H5 n5 g3 b5 nr3 hr3 hg3 hb3 P5 hn5 => ?_⟩
    have han5 := b5 _ _ han4 (P4.ne_strs han4)
    replace A1 := A1.but P4 b5
    replace A2 := A2.but P4 b5
    have A3 : At H5 r3 NS g3 := ⟨hr3, hg3 ▸ pNS, fun x hx => by have := hb3 x hx; omega⟩
    refine ⟨_, _, _, rfl, ?_⟩
    clear b5 b4 b3 nr1 nr2 nr3 hr1 hr2 hr3 han han3 han4 P4 P3 P2 H4 H3 H2
    -- gaps
    refine ⟨_, rfl, _, rfl, _, rfl, _, rfl, by show 2 ≤ sizeLine; decide, fun lg hlg => ?_⟩
    have s6 := same_new (o := .lst [V.ref r1, .ref r2]) hlg
    refine ⟨p, c, an, lg, n5, 10, ts, [(r1, g1), (r2, g2)], rfl, P5.same s6, by omega, s6 _ _ han5, N, ⟨upd_same, fun x hx => ?_⟩, fun x hx => ?_, by show 0 < 2; decide, by show 2 ≤ 60; decide, by decide, fun gp H6 n6 rs b6 nr6 hgp hk6 hro hhold hlen6 P6 hn6 => ?_⟩
    · simp only [List.mem_cons, List.not_mem_nil, or_false] at hx
      rcases hx with rfl | rfl
      · exact s6 _ _ A1.dict
      · exact s6 _ _ A2.dict
    · simp only [List.mem_cons, List.not_mem_nil, or_false] at hx
      rcases hx with rfl | rfl
      · exact hg1
      · exact hg2
    have b56 := (But.of (p := p) s6).trans b6
    have han6 := b56 _ _ han5 (P5.ne_strs han5)
    replace A1 := A1.but P5 b56
    replace A2 := A2.but P5 b56
    replace A3 := A3.but P5 b56
    have hold1 : ∀ x ∈ rs, Holds g1 x.1 := fun x hx => hhold x hx _ (List.mem_cons_self ..)
    have hold2 : ∀ x ∈ rs, Holds g2 x.1 := fun x hx => hhold x hx (r2, g2) (List.mem_cons_of_mem _ (List.mem_cons_self ..))
    have ngp : gp ≠ p := P6.ne_refs (L := rs.map (·.2)) (by rw [List.map_map]; exact hgp)
    clear hhold nr6 b56 b6 s6 hlg P5 han5 hg1 hg2 hg3 hb1 hb2 hb3 H5
    -- made
    refine ⟨_, rfl, _, rfl, fun md dx1 nmd ndx1 _ => init_sys nmd ndx1 han6 N hgp hk6 hro (by omega) fun H7 s7 hmd => ⟨rfl, ?_⟩⟩
    have hm7 := hmd.at_
    have cL := inOrder_canon rs
    generalize inOrder (putAll rs []) = Lm at hmd hm7 cL
    rw [hNS] at hm7
    have P7 := P6.same s7
    have han7 := s7 _ _ han6
    have hgp7 := s7 _ _ hgp
    have hk7 : KeyTups H7 rs := fun x hx => s7 _ _ (hk6 x hx)
    replace A1 := A1.same s7
    replace A2 := A2.same s7
    replace A3 := A3.same s7
    clear hmd s7 P6 hk6 hgp han6 nmd ndx1 H6
    -- the five
    refine ⟨_, rfl, _, rfl, by show 2 ≤ sizeLine; decide, fun t1 ht1 => ?_⟩
    have D1 := Duo.new A1 A2 ht1
    have u1 := same_new (o := .tup [V.ref r1, .ref r2]) ht1
    refine ⟨_, rfl, _, rfl, by show 2 ≤ sizeLine; decide, fun t2 ht2 => ?_⟩
    have D2 := Duo.new (A2.same u1) (A1.same u1) ht2
    have u2 := u1.trans (same_new (o := .tup [V.ref r2, .ref r1]) ht2)
    replace D1 := D1.same (same_new (o := .tup [V.ref r2, .ref r1]) ht2)
    refine ⟨_, rfl, _, rfl, by show 2 ≤ sizeLine; decide, fun t3 ht3 => ?_⟩
    have D3 := Duo.new (A1.same u2) (A3.same u2) ht3
    have w3 := same_new (o := .tup [V.ref r1, .ref r3]) ht3
    have u3 := u2.trans w3
    replace D1 := D1.same w3
    replace D2 := D2.same w3
    refine ⟨_, rfl, _, rfl, by show 2 ≤ sizeLine; decide, fun t4 ht4 => ?_⟩
    have D4 := Duo.new (A3.same u3) (A2.same u3) ht4
    have w4 := same_new (o := .tup [V.ref r3, .ref r2]) ht4
    have u4 := u3.trans w4
    replace D1 := D1.same w4
    replace D2 := D2.same w4
    replace D3 := D3.same w4
    refine ⟨_, rfl, _, rfl, by show 2 ≤ sizeLine; decide, fun t5 ht5 => ?_⟩
    have D5 := Duo.new (A1.same u4) (A1.same u4) ht5
    have w5 := same_new (o := .tup [V.ref r1, .ref r1]) ht5
    have u5 := u4.trans w5
    replace D1 := D1.same w5
    replace D2 := D2.same w5
    replace D3 := D3.same w5
    replace D4 := D4.same w5
    refine ⟨by show 5 ≤ sizeLine; decide, fun qT hqT => ?_⟩
    have w6 := same_new (o := .tup [V.ref t1, .ref t2, .ref t3, .ref t4, .ref t5]) hqT
    have u6 := u5.trans w6
    have hqY := upd_same (H := upd (upd (upd (upd (upd H7 t1 (.tup [V.ref r1, .ref r2])) t2 (.tup [V.ref r2, .ref r1])) t3 (.tup [V.ref r1, .ref r3])) t4 (.tup [V.ref r3, .ref r2])) t5 (.tup [V.ref r1, .ref r1])) (a := qT) (o := .tup [V.ref t1, .ref t2, .ref t3, .ref t4, .ref t5])
    have all5 : ∀ z ∈ [V.ref t1, .ref t2, .ref t3, .ref t4, .ref t5], ∃ t, z = .ref t ∧ Duo NS (upd (upd (upd (upd (upd (upd H7 t1 (.tup [V.ref r1, .ref r2])) t2 (.tup [V.ref r2, .ref r1])) t3 (.tup [V.ref r1, .ref r3])) t4 (.tup [V.ref r3, .ref r2])) t5 (.tup [V.ref r1, .ref r1])) qT (.tup [V.ref t1, .ref t2, .ref t3, .ref t4, .ref t5])) t := by
      intro z hz
      simp only [List.mem_cons, List.not_mem_nil, or_false] at hz
      rcases hz with rfl | rfl | rfl | rfl | rfl
      · exact ⟨_, rfl, D1.same w6⟩
      · exact ⟨_, rfl, D2.same w6⟩
      · exact ⟨_, rfl, D3.same w6⟩
      · exact ⟨_, rfl, D4.same w6⟩
      · exact ⟨_, rfl, D5.same w6⟩
    clear D1 D2 D3 D4 D5 u1 u2 u3 u4 u5 w3 w4 w5 w6 hqT ht1 ht2 ht3 ht4 ht5
    generalize upd (upd (upd (upd (upd (upd H7 t1 (.tup [V.ref r1, .ref r2])) t2 (.tup [V.ref r2, .ref r1])) t3 (.tup [V.ref r1, .ref r3])) t4 (.tup [V.ref r3, .ref r2])) t5 (.tup [V.ref r1, .ref r1])) qT (.tup [V.ref t1, .ref t2, .ref t3, .ref t4, .ref t5]) = Y at u6 hqY all5 ⊢
    have PY := P7.same u6
    have hmY := hm7.same u6
    have hanY := u6 _ _ han7
    have hgpY := u6 _ _ hgp7
    have hkY : KeyTups Y rs := fun x hx => u6 _ _ (hk7 x hx)
    replace A1 := A1.same u6
    replace A2 := A2.same u6
    replace A3 := A3.same u6
    clear u6 P7 hm7 han7 hgp7 hk7 H7
    have nqp := PY.ne_of hqY fun xs z => nomatch z
    have napY := PY.ne_strs hanY
    have smS : ∀ {g : List (Str × Int)}, NumsOk NS g → ∀ x ∈ g, Small x := fun h => small_of NN h.1 h.2
    have lnS : ∀ {g : List (Str × Int)}, NumsOk NS g → g.length ≤ 1000 := fun h => len_of NN h.1
    refine ⟨qT, rfl, ⟨_, SqT.of hqY⟩, ?_⟩
    refine for_it walk_tup (fun j σ Z => ∃ (o9 o10 o11 o12 o13 o14 o15 : Option V), σ = [some (.ref a), some (.ref p), some (.int (0 + (i : Nat))), some (.ref an), some (.ref r1), some (.ref r2), some (.ref r3), some (.ref gp), some (.ref md), o9, o10, o11, o12, o13, o14, o15, o16, o17, o18] ∧ But p Y Z ∧ PenAt Z p c n6)
      ⟨_, _, _, _, _, _, _, rfl, But.refl _ _, PY⟩ (fun j σ Z _ ⟨_, _, _, _, _, _, _, _, bz, _⟩ => SqT.of (bz _ _ hqY nqp)) ?_ ?_
    · rintro j x σ Z0 Z hj ⟨o9, o10, o11, o12, o13, o14, o15, rfl, bz, PZ⟩ ⟨rfl, hx⟩
      obtain ⟨t, rfl, d1, d2, ga, gb, htY, A4, A5⟩ := all5 x (List.mem_of_getElem? hx)
      have ht := bz _ _ htY (PY.ne_of htY fun xs z => nomatch z)
      replace A4 := A4.but PY bz
      replace A5 := A5.but PY bz
      refine ⟨t, _, rfl, SqT.of ht, rfl, _, _, rfl, _, _, rfl, rfl, ?_⟩
      -- seen
      refine ⟨_, rfl, _, rfl, by show 2 ≤ sizeLine; decide, fun l1 hl1 nl1 => ?_⟩
      have s1 := same_new (o := .lst [V.ref d1, .ref d2]) hl1
      refine ⟨l1, d1, d2, ga, gb, rfl, nl1, upd_same, s1 _ _ A4.dict, s1 _ _ A5.dict, smS A4.nums, smS A5.nums, lnS A4.nums, lnS A5.nums, ?_⟩
      have bz1 := bz.trans (But.of s1)
      have PZ1 := PZ.same s1
      replace A4 := A4.same s1
      replace A5 := A5.same s1
      generalize upd Z l1 (.lst [V.ref d1, .ref d2]) = Z1 at bz1 PZ1 A4 A5 ⊢
      clear s1 nl1 hl1 bz PZ ht
      -- low
      refine ⟨_, rfl, an, ts, rfl, SqL.of (bz1 _ _ hanY napY), N.2.2, fun ys ln hpn hyn nln => ?_⟩
      rw [sortN_of hpn hyn, hNS]
      have s2 := same_new (o := .lst (NS.map V.str)) nln
      refine ⟨ln, rfl, ⟨_, SqL.of upd_same⟩, fun D hD => ?_⟩
      have bz2 := bz1.trans (But.of s2)
      have PZ2 := PZ1.same s2
      replace A4 := A4.same s2
      replace A5 := A5.same s2
      have hln := upd_same (H := Z1) (a := ln) (o := .lst (NS.map V.str))
      generalize upd Z1 ln (.lst (NS.map V.str)) = Z2 at bz2 PZ2 A4 A5 hln hD ⊢
      clear s2 nln hpn hyn bz1 PZ1
      have dG : ∀ {X : Hp} {d : Addr} {g : List (Str × Int)} {t : Str}, At X d NS g → t ∈ NS → DGet X d (V.str t) (some (.int (valG g (some t)))) := fun {X d g t} hX ht => by
        have := DGet.k (k := Sum.inr t) hX.dict
        rwa [goal_val (nums_mem hX.nums ht)] at this
      refine lc_pairs (m := 0) (fun l v => ∀ h2 : l < NS.length, v = mn2 (valG ga (some NS[l])) (valG gb (some NS[l]))) hD PZ2 hln (by have := NN.2.2; omega) (fun l hl Hc Nx b Pc kont => ?_) ?_
      · have B4 := A4.but PZ2 b
        have B5 := A5.but PZ2 b
        refine ⟨rfl, _, rfl, _, rfl, _, rfl, d1, _, rfl, dG B4 (List.getElem_mem hl), _, rfl, _, rfl, d2, _, rfl, dG B5 (List.getElem_mem hl), _, _, rfl, by show 2 ≤ sizeLine; omega, fun T hT => kont _ Hc (fun h2 => rfl) (But.refl _ _) (Pc.le (by omega)) T hT⟩
      intro Z3 ps lo hlk hlv hp h2 b3 P3
      have elo := pick_of hlk hlv
      refine ⟨D, ps, goalKV lo, rfl, SqL.of h2, goal_paired hp, fun lw hlw => ?_⟩
      rw [goal_merge (by rw [hlk]; exact NN.1)]
      have b4 := b3.trans (But.new (o := .dK (goalKV lo)) hlw)
      have P4 := P3.same (same_new (o := .dK (goalKV lo)) hlw)
      have hlw4 : At (upd Z3 lw (.dK (goalKV lo))) lw NS lo := ⟨upd_same, elo ▸ pick_nums mn2_in A4.nums A5.nums⟩
      replace A4 := A4.but PZ2 b4
      replace A5 := A5.but PZ2 b4
      have bz4 := bz2.trans b4
      generalize upd Z3 lw (.dK (goalKV lo)) = Z4 at P4 hlw4 A4 A5 bz4 ⊢
      clear b4 hlw P3 b3 h2 hp hlk hlv hD hln PZ2 bz2 Z3 Z2 Z1
      -- high
      refine ⟨_, rfl, an, ts, rfl, SqL.of (bz4 _ _ hanY napY), N.2.2, fun ys ln hpn hyn nln => ?_⟩
      rw [sortN_of hpn hyn, hNS]
      have s2 := same_new (o := .lst (NS.map V.str)) nln
      refine ⟨ln, rfl, ⟨_, SqL.of upd_same⟩, fun D hD => ?_⟩
      have bz5 := bz4.trans (But.of s2)
      have PZ5 := P4.same s2
      replace A4 := A4.same s2
      replace A5 := A5.same s2
      have AL := hlw4.same s2
      have hln := upd_same (H := Z4) (a := ln) (o := .lst (NS.map V.str))
      generalize upd Z4 ln (.lst (NS.map V.str)) = Z5 at bz5 PZ5 A4 A5 AL hln hD ⊢
      clear s2 nln hpn hyn bz4 P4 hlw4
      refine lc_pairs (m := 0) (fun l v => ∀ h2 : l < NS.length, v = mx2 (valG ga (some NS[l])) (valG gb (some NS[l]))) hD PZ5 hln (by have := NN.2.2; omega) (fun l hl Hc Nx b Pc kont => ?_) ?_
      · have B4 := A4.but PZ5 b
        have B5 := A5.but PZ5 b
        refine ⟨rfl, _, rfl, _, rfl, _, rfl, d1, _, rfl, dG B4 (List.getElem_mem hl), _, rfl, _, rfl, d2, _, rfl, dG B5 (List.getElem_mem hl), _, _, rfl, by show 2 ≤ sizeLine; omega, fun T hT => kont _ Hc (fun h2 => rfl) (But.refl _ _) (Pc.le (by omega)) T hT⟩
      intro Z6 ps hg hhk hhv hp h2 b6 P6
      have ehi := pick_of hhk hhv
      refine ⟨D, ps, goalKV hg, rfl, SqL.of h2, goal_paired hp, fun hw hhw => ?_⟩
      rw [goal_merge (by rw [hhk]; exact NN.1)]
      have b7 := b6.trans (But.new (o := .dK (goalKV hg)) hhw)
      have P7 := P6.same (same_new (o := .dK (goalKV hg)) hhw)
      have AH : At (upd Z6 hw (.dK (goalKV hg))) hw NS hg := ⟨upd_same, ehi ▸ pick_nums mx2_in A4.nums A5.nums⟩
      replace A4 := A4.but PZ5 b7
      replace A5 := A5.but PZ5 b7
      replace AL := AL.but PZ5 b7
      have bz7 := bz5.trans b7
      generalize upd Z6 hw (.dK (goalKV hg)) = Z7 at P7 AH A4 A5 AL bz7 ⊢
      clear b7 hhw P6 b6 h2 hp hhk hhv hD hln PZ5 bz5 Z6 Z5 Z4
      -- twice
      refine ⟨2, rfl, by decide, by decide, ?_⟩
      refine for_it walk_range (fun k σ W => ∃ (e1 e2 : Addr) (gc gd : List (Str × Int)) (o14 o15 : Option V), σ = [some (.ref a), some (.ref p), some (.int (0 + (i : Nat))), some (.ref an), some (.ref r1), some (.ref r2), some (.ref r3), some (.ref gp), some (.ref md), some (.ref e1), some (.ref e2), some (.str (pairD gc gd).shown), some (.ref lw), some (.ref hw), o14, o15, o16, o17, o18] ∧
          Same Z7 W ∧ At W e1 NS gc ∧ At W e2 NS gd ∧ ga.Perm gc ∧ gb.Perm gd)
        ⟨d1, d2, ga, gb, _, _, rfl, Same.refl _, A4, A5, List.Perm.refl _, List.Perm.refl _⟩ (fun _ _ _ _ _ => True.intro) ?_ ?_
      · rintro k x σ W0 W hk ⟨e1, e2, gc, gd, o14, o15, rfl, sw, B1, B2, pc, pd⟩ ⟨rfl, rfl⟩
        have hmW := (sys_but hmY PY bz7).same sw
        have em : ∀ {f : Int → Int → Int}, pickG f NS gc gd = pickG f NS ga gb := pick_perm pc pd A4.nums A5.nums NN.1
        -- found
        refine ⟨_, rfl, _, rfl, _, rfl, md, e1, e2, NS, Lm, gc, gd, rfl, hmW, B1.dict, B2.dict, B1.nums, B2.nums, fun f1 W1 s1 nf1 hf1 => ?_⟩
        refine ⟨_, rfl, _, rfl, _, rfl, md, e1, e2, NS, Lm, gc, gd, rfl, hmW.same s1, s1 _ _ B1.dict, s1 _ _ B2.dict, B1.nums, B2.nums, fun f2 W2 s2 nf2 hf2 => ?_⟩
        refine ⟨by show 2 ≤ sizeLine; decide, fun fo hfo nfo => ?_⟩
        rw [em, ← elo] at hf1
        rw [em, ← ehi] at hf2
        have s3 := same_new (o := .lst [V.ref f1, .ref f2]) hfo
        have hf13 := s3 _ _ (s2 _ _ hf1)
        have hf23 := s3 _ _ hf2
        have hfo3 := upd_same (H := W2) (a := fo) (o := .lst [V.ref f1, .ref f2])
        have s13 := (s1.trans s2).trans s3
        generalize upd W2 fo (.lst [V.ref f1, .ref f2]) = W3 at s3 hf13 hf23 hfo3 s13 ⊢
        have nf2W : W f2 = none := s1.free nf2
        have ne12 : f1 ≠ f2 := ne_of_none hf1 nf2
        refine ⟨_, rfl, fo, f1, f2, lo, hg, rfl, nfo, hfo3, hf13, hf23, smS AL.nums, smS AH.nums, lnS AL.nums, lnS AH.nums, ?_⟩
        refine ⟨_, rfl, _, rfl, by show 2 ≤ sizeLine; decide, fun l4 hl4 nl4 => ?_⟩
        have s4 := same_new (o := .lst [V.ref lw, .ref hw]) hl4
        have s14 := s13.trans s4
        refine ⟨l4, lw, hw, lo, hg, rfl, nl4, upd_same, s14 _ _ (sw _ _ AL.dict), s14 _ _ (sw _ _ AH.dict), smS AL.nums, smS AH.nums, lnS AL.nums, lnS AH.nums, rfl, _, rfl, ?_⟩
        rw [decide_eq_true rfl]
        refine iteF ?_
        refine ⟨_, rfl, _, rfl, by show 2 ≤ sizeLine; decide, fun l5 hl5 nl5 => ?_⟩
        have s5 := same_new (o := .lst [V.ref e1, .ref e2]) hl5
        have s15 := s14.trans s5
        refine ⟨l5, e1, e2, gc, gd, rfl, nl5, upd_same, s15 _ _ B1.dict, s15 _ _ B2.dict, smS B1.nums, smS B2.nums, lnS B1.nums, lnS B2.nums, _, rfl, rfl, _, rfl, ?_⟩
        rw [decide_eq_true rfl]
        refine iteF ?_
        have s35 := s4.trans s5
        have hf15 := s35 _ _ hf13
        have hf25 := s35 _ _ hf23
        have hfo5 := s35 _ _ hfo3
        generalize upd (upd W3 l4 (.lst [V.ref lw, .ref hw])) l5 (.lst [V.ref e1, .ref e2]) = W5 at s15 hf15 hf25 hfo5 ⊢
        clear s5 s4 s14 s35 hl5 nl5 hl4 nl4 hf13 hf23 hfo3
        -- cleared
        refine ⟨_, rfl, fo, _, 0, .ref f1, rfl, rfl, SqL.of hfo5, atI_nat rfl, .inr (.inr (.inl ⟨rfl, .inl ⟨_, hf15⟩⟩)), f1, goalKV lo, rfl, rfl, hf15, ?_⟩
        have nfof1 : fo ≠ f1 := ne_of hfo5 hf15 fun z => nomatch z
        have nfof2 : fo ≠ f2 := ne_of hfo5 hf25 fun z => nomatch z
        have hfo6 : (upd W5 f1 (.dK [])) fo = some (.lst [V.ref f1, .ref f2]) := by rw [upd_ne nfof1]; exact hfo5
        have hf26 : (upd W5 f1 (.dK [])) f2 = some (.dK (goalKV hg)) := by rw [upd_ne ne12.symm]; exact hf25
        refine ⟨_, rfl, fo, _, 1, .ref f2, rfl, rfl, SqL.of hfo6, atI_nat rfl, f2, _, rfl, .inl ⟨goalKV hg, Sum.inr ("late" : Str), hf26, rfl, ?_, rfl⟩, ?_⟩
        · unfold goalKV
          have := lnS AH.nums
          rw [List.length_map]
          omega
        have s6 : Same W (upd (upd W5 f1 (.dK [])) f2 (.dK (putK (goalKV hg) (Sum.inr ("late" : Str)) (.int 0)))) := fun z o hz => by
          rw [upd_ne (ne_of_none hz nf2W), upd_ne (ne_of_none hz nf1)]
          exact s15 _ _ hz
        generalize upd (upd W5 f1 (.dK [])) f2 (.dK (putK (goalKV hg) (Sum.inr ("late" : Str)) (.int 0))) = W6 at s6 ⊢
        clear hf26 hfo6 hfo5 hf25 hf15 s15 s13 s3 hfo nfo hf2 hf1 nf1 nf2 s1 s2 nf2W ne12 nfof1 nfof2
        -- turned
        refine ⟨_, rfl, _, rfl, by show 2 ≤ sizeLine; decide, fun tt htt => ?_⟩
        have s7 := s6.trans (same_new (o := .tup [V.ref e1, .ref e2]) htt)
        have htt7 := upd_same (H := W6) (a := tt) (o := .tup [V.ref e1, .ref e2])
        generalize upd W6 tt (.tup [V.ref e1, .ref e2]) = W7 at s7 htt7 ⊢
        refine ⟨tt, rfl, ⟨_, SqT.of htt7⟩, fun D hD => ?_⟩
        refine lc_it (walk_tup (xs := [V.ref e1, .ref e2])) (fun l Hc => Same W7 Hc ∧ ∃ es : List Addr, Hc D = some (.lst (es.map V.ref)) ∧ Paired (fun e (x : Addr × List (Str × Int)) => Hc e = some (.dK (goalKV x.2.reverse))) es ([(e1, gc), (e2, gd)].take l)) ⟨same_new hD, [], upd_same, .nil⟩ (fun l Hc _ h => SqT.of (h.1 _ _ htt7)) ?_ ?_
        · rintro l x Hc X0 hl ⟨sc, es, hDe, hpr⟩ ⟨rfl, hx⟩
          have hl : l < 2 := hl
          obtain ⟨y, hy, rfl, AY⟩ : ∃ y : Addr × List (Str × Int), [(e1, gc), (e2, gd)][l]? = some y ∧ V.ref y.1 = x ∧ At W y.1 NS y.2 := by
            have : l = 0 ∨ l = 1 := by omega
            rcases this with rfl | rfl
            · cases hx
              exact ⟨_, rfl, rfl, B1⟩
            · cases hx
              exact ⟨_, rfl, rfl, B2⟩
          obtain ⟨d, g⟩ := y
          have nodg : (g.map (·.1)).Nodup := AY.nums.1.nodup_iff.mpr NN.1
          have les : es.length = l := by
            have := hpr.length
            rw [List.length_take] at this
            have e2 : ([(e1, gc), (e2, gd)] : List (Addr × List (Str × Int))).length = 2 := rfl
            omega
          refine ⟨rfl, _, rfl, d, goalKV g, rfl, sc _ _ (s7 _ _ AY.dict), fun X1 l1 xs t1 nl1 nxs hnl hl1 hp => ⟨l1, _, rfl, SqL.of hl1, fun l2 hl2 => ?_⟩⟩
          obtain ⟨tq, tp⟩ := turned_at (K := K) hp hl2
          refine ⟨l2, xs.reverse, goalKV g.reverse, rfl, tq, tp, fun tr ntr => ?_⟩
          rw [turned_merge nodg]
          have t2 := same_new (o := .lst (xs.map V.ref).reverse) hl2
          have t3 := same_new (o := .dK (goalKV g.reverse)) ntr
          have tx : Same X0 (upd (upd X1 l2 (.lst (xs.map V.ref).reverse)) tr (.dK (goalKV g.reverse))) := (show Same X0 X1 from t1).trans (t2.trans t3)
          have htr := upd_same (H := upd X1 l2 (.lst (xs.map V.ref).reverse)) (a := tr) (o := .dK (goalKV g.reverse))
          generalize upd (upd X1 l2 (.lst (xs.map V.ref).reverse)) tr (.dK (goalKV g.reverse)) = X2 at tx htr ⊢
          have hD2 := tx _ _ hDe
          refine ⟨es.map V.ref, hD2, by rw [List.length_map]; omega, fun z o hz => ?_, es ++ [tr], ?_, ?_⟩
          · rw [upd_ne (ne_of_none hz hD)]
            exact tx _ _ (sc _ _ hz)
          · rw [upd_same, List.map_append]
            rfl
          · rw [List.take_add_one, hy]
            refine Paired.snoc (Paired.mapP hpr fun e x h => ?_) ?_
            · have h2 := tx _ _ h
              rw [upd_ne (ne_of h2 hD2 fun z => nomatch z)]
              exact h2
            · rw [upd_ne (ne_of htr hD2 fun z => nomatch z)]
              exact htr
        rintro Hc ⟨sc, es, hDe, hpr⟩
        cases hpr with
        | @cons f1 _ es1 _ q1 q2 =>
        cases q2 with
        | @cons f2 _ es2 _ q3 q4 =>
        cases q4
        have C1 : At Hc f1 NS gc.reverse := ⟨q1, ((List.reverse_perm gc).map (·.1)).trans B1.nums.1, fun x hx => B1.nums.2 x (List.mem_reverse.mp hx)⟩
        have C2 : At Hc f2 NS gd.reverse := ⟨q3, ((List.reverse_perm gd).map (·.1)).trans B2.nums.1, fun x hx => B2.nums.2 x (List.mem_reverse.mp hx)⟩
        refine ⟨D, _, rfl, SqL.of hDe, rfl, _, _, rfl, _, _, rfl, rfl, ?_⟩
        refine ⟨_, rfl, _, rfl, by show 2 ≤ sizeLine; decide, fun l8 hl8 nl8 => ?_⟩
        have s8 := same_new (o := .lst [V.ref f1, .ref f2]) hl8
        refine ⟨l8, f1, f2, gc.reverse, gd.reverse, rfl, nl8, upd_same, s8 _ _ C1.dict, s8 _ _ C2.dict, smS C1.nums, smS C2.nums, lnS C1.nums, lnS C2.nums, ?_⟩
        exact ⟨f1, f2, gc.reverse, gd.reverse, _, _, rfl, ((sw.trans s7).trans sc).trans s8, C1.same s8, C2.same s8, pc.trans (List.reverse_perm gc).symm, pd.trans (List.reverse_perm gd).symm⟩
      · rintro σ W ⟨e1, e2, gc, gd, o14, o15, rfl, sw, _⟩
        exact ⟨_, _, _, _, _, _, _, rfl, bz7.trans (But.of sw), (P7.same sw).le (by omega)⟩
    · rintro σ Z ⟨o9, o10, o11, o12, o13, o14, o15, rfl, bz, PZ⟩
      have hmZ := sys_but hmY PY bz
      have hanZ := bz _ _ hanY napY
      have hgpZ := bz _ _ hgpY ngp
      have hkZ : KeyTups Z rs := fun x hx => bz _ _ (hkY x hx) (PY.ne_of (hkY x hx) fun xs z => nomatch z)
      replace A1 := A1.but PY bz
      replace A2 := A2.but PY bz
      replace A3 := A3.but PY bz
      clear all5 hqY nqp napY PY hmY hanY hgpY hkY bz Y
      have nan := PZ.ne_strs hanZ
      -- torn
      refine ⟨_, rfl, _, rfl, _, rfl, _, rfl, p, c, an, gp, n6, ts, rs, rfl, PZ, by omega, hanZ, N, hgpZ, hkZ, hro, by omega, fun tg Z1 n7 rs' b1 ntg htg hk1 hro1 hl1 P1 hn7 => ?_⟩
      refine fun xt dxt nxt ndxt _ => init_sys nxt ndxt (b1 _ _ hanZ nan) N htg hk1 hro1 (by omega) fun Z2 s2 hS => ⟨rfl, ?_⟩
      rw [hNS] at hS
      have hxt := hS.at_
      generalize inOrder (putAll rs' []) = Lt at hS hxt
      have b2 := b1.trans (But.of s2)
      have P2 := P1.same s2
      have hm2 := sys_but hmZ PZ b2
      have han2 := b2 _ _ hanZ nan
      have hgp2 := b2 _ _ hgpZ ngp
      have hk2 : KeyTups Z2 rs := fun x hx => b2 _ _ (hkZ x hx) (PZ.ne_of (hkZ x hx) fun xs z => nomatch z)
      replace A1 := A1.but PZ b2
      replace A2 := A2.but PZ b2
      replace A3 := A3.but PZ b2
      clear hS b2 s2 nxt ndxt hk1 hro1 htg ntg b1 P1 hmZ hanZ hgpZ hkZ nan PZ Z1
      -- found
      refine ⟨_, rfl, _, rfl, _, rfl, xt, r1, r3, NS, Lt, g1, g3, rfl, hxt, A1.dict, A3.dict, A1.nums, A3.nums, fun f1 Z3 s3 nf1 hf1 => ?_⟩
      refine ⟨_, rfl, _, rfl, _, rfl, xt, r1, r3, NS, Lt, g1, g3, rfl, hxt.same s3, s3 _ _ A1.dict, s3 _ _ A3.dict, A1.nums, A3.nums, fun f2 Z4 s4 nf2 hf2 => ?_⟩
      refine ⟨by show 2 ≤ sizeLine; decide, fun fo hfo => ?_⟩
      have s5 := same_new (o := .lst [V.ref f1, .ref f2]) hfo
      have w5 := (s3.trans s4).trans s5
      have hfo5 := upd_same (H := Z4) (a := fo) (o := .lst [V.ref f1, .ref f2])
      have hf15 := s5 _ _ (s4 _ _ hf1)
      have hf25 := s5 _ _ hf2
      generalize upd Z4 fo (.lst [V.ref f1, .ref f2]) = Z5 at w5 hfo5 hf15 hf25 ⊢
      clear s5 hfo hf2 hf1 nf1 nf2 s3 s4
      refine ⟨_, rfl, _, rfl, _, rfl, _, rfl, md, r3, r1, NS, Lm, g3, g1, rfl, hm2.same w5, w5 _ _ A3.dict, w5 _ _ A1.dict, A3.nums, A1.nums, fun f3 Z6 s6 nf3 hf3 => ?_⟩
      have w6 := w5.trans s6
      refine ⟨_, rfl, _, rfl, _, rfl, md, r1, r3, NS, Lm, g1, g3, rfl, hm2.same w6, w6 _ _ A1.dict, w6 _ _ A3.dict, A1.nums, A3.nums, fun f4 Z7 s7 nf4 hf4 => ?_⟩
      refine ⟨by show 2 ≤ sizeLine; decide, fun fl hfl => ?_⟩
      have s8 := same_new (o := .lst [V.ref f3, .ref f4]) hfl
      have w8 := (w6.trans s7).trans s8
      have v8 := (s6.trans s7).trans s8
      rw [pick_comm mn2_comm] at hf3
      have kmn : ((pickG mn2 NS g1 g3).map (·.1)).Nodup := by rw [pick_keys]; exact NN.1
      have kmx : ((pickG mx2 NS g1 g3).map (·.1)).Nodup := by rw [pick_keys]; exact NN.1
      have q1 : EqV K (upd Z7 fl (.lst [V.ref f3, .ref f4])) 2 (.ref f1) (.ref f3) := goal_eqv kmn (v8 _ _ hf15) (s8 _ _ (s7 _ _ hf3))
      have q2 : EqV K (upd Z7 fl (.lst [V.ref f3, .ref f4])) 2 (.ref f2) (.ref f4) := goal_eqv kmx (v8 _ _ hf25) (s8 _ _ hf4)
      have hfo8 := v8 _ _ hfo5
      refine ⟨2, by decide, ⟨fo, fl, _, _, rfl, rfl, SqL.of hfo8, SqL.of upd_same, .cons q1 (.cons q2 .nil)⟩, _, rfl, ?_⟩
      refine iteF ?_
      generalize upd Z7 fl (.lst [V.ref f3, .ref f4]) = Z8 at w8 ⊢
      clear q1 q2 hfo8 v8 s8 hfl hf4 hf3 nf3 nf4 s7 w6 s6 hf15 hf25 hfo5 w5 kmn kmx
      -- admitted
      have roN : ∀ r : Rule, RuleOk ts r → RuleOk NS r := fun r h => h.perm fun t ht => pNS.mem_iff.mp ht
      refine ⟨_, rfl, _, rfl, _, rfl, md, r1, r2, NS, Lm, g1, g2, rfl, hm2.same w8, w8 _ _ A1.dict, w8 _ _ A2.dict, A1.nums, A2.nums, fun f5 Z9 s9 nf5 hf5 => ?_⟩
      have w9 := w8.trans s9
      refine ⟨_, rfl, _, rfl, _, rfl, md, r2, r1, NS, Lm, g2, g1, rfl, hm2.same w9, w9 _ _ A2.dict, w9 _ _ A1.dict, A2.nums, A1.nums, fun f6 X0 s10 nf6 hf6 => ?_⟩
      refine ⟨by show 2 ≤ sizeLine; decide, fun qq hqq => ?_⟩
      have s11 := same_new (o := .tup [V.ref f5, .ref f6]) hqq
      have w11 := (w9.trans s10).trans s11
      have hqX := upd_same (H := X0) (a := qq) (o := .tup [V.ref f5, .ref f6])
      have all2 : ∀ z ∈ [V.ref f5, .ref f6], ∃ d g, z = .ref d ∧ At (upd X0 qq (.tup [V.ref f5, .ref f6])) d NS g ∧ ∀ r, RuleOk NS r → Holds g1 r → Holds g2 r → shortB g r ≤ 0 := by
        intro z hz
        simp only [List.mem_cons, List.not_mem_nil, or_false] at hz
        rcases hz with rfl | rfl
        · exact ⟨_, _, rfl, ⟨s11 _ _ (s10 _ _ hf5), pick_nums mn2_in A1.nums A2.nums⟩, fun r ro h1 h2 => holds_mn NN.1 ro h1 h2⟩
        · exact ⟨_, _, rfl, ⟨s11 _ _ hf6, pick_nums mx2_in A2.nums A1.nums⟩, fun r ro h1 h2 => holds_mx NN.1 ro h2 h1⟩
      generalize upd X0 qq (.tup [V.ref f5, .ref f6]) = X at w11 hqX all2 ⊢
      clear s11 hqq hf6 nf6 s10 w9 hf5 nf5 s9 w8
      have hmX := hm2.same w11
      have hanX := w11 _ _ han2
      have hgpX := w11 _ _ hgp2
      have hkX : KeyTups X rs := fun x hx => w11 _ _ (hk2 x hx)
      refine ⟨qq, rfl, ⟨_, SqT.of hqX⟩, ?_⟩
      refine for_it walk_tup (fun j σ W => ∃ (o15 : Option V), σ = [some (.ref a), some (.ref p), some (.int (0 + (i : Nat))), some (.ref an), some (.ref r1), some (.ref r2), some (.ref r3), some (.ref gp), some (.ref md), o9, o10, o11, o12, o13, o14, o15, some (.ref xt), o17, o18] ∧ Same X W)
        ⟨_, rfl, Same.refl _⟩ (fun j σ W _ ⟨_, _, sw⟩ => SqT.of (sw _ _ hqX)) ?_ ?_
      · rintro j x σ W0 W hj ⟨o15, rfl, sw⟩ ⟨rfl, hx⟩
        obtain ⟨d, g, rfl, AG, hgood⟩ := all2 x (List.mem_of_getElem? hx)
        have good : ∀ x ∈ rs, decide (0 < shortB g x.1) = false := fun x hx => decide_eq_false (by have := hgood x.1 (roN _ (hro x hx)) (hold1 x hx) (hold2 x hx); omega)
        have e0 : firstR g Lm = none := find_none _ Lm fun y hy => by
          have m1 : y.1 ∈ canon (rs.map (·.1)) := cL ▸ List.mem_map.mpr ⟨y, hy, rfl⟩
          rw [canon_mem] at m1
          obtain ⟨z, hz, e⟩ := List.mem_map.mp m1
          exact e ▸ good z hz
        refine ⟨_, rfl, _, rfl, md, d, NS, Lm, g, rfl, hmX.same sw, sw _ _ AG.dict, AG.nums, fun W1 s1 => ⟨_, true, rfl, rfl, _, rfl, ?_⟩⟩
        rw [e0]
        refine iteF ?_
        have sw1 := sw.trans s1
        refine ⟨_, rfl, _, rfl, gp, d, ts, rs, g, rfl, sw1 _ _ hgpX, fun y hy => sw1 _ _ (hkX y hy), N, hro, by omega, sw1 _ _ AG.dict, AG.nums.1.trans pNS.symm, fun br W2 M s2 _ hM mM hbr => ?_⟩
        have eF : M.filter (fun x => decide (0 < shortB g x.1)) = [] := List.filter_eq_nil_iff.mpr fun x hx => by rw [good x (mM x hx)]; exact Bool.false_ne_true
        rw [eF] at hbr
        refine ⟨Nat.zero_le _, fun e he => ?_⟩
        have s3 := same_new (o := .lst ([] : List V)) he
        refine ⟨_, _, .lst (SqL.of (s3 _ _ hbr)) .nil, .lst (SqL.of upd_same) .nil, rfl, rfl, _, rfl, ?_⟩
        rw [show PyData.eqv (.list []) (.list []) = true by simp [PyData.eqv, PyData.eqvAll]]
        refine iteF ?_
        exact ⟨_, rfl, (sw1.trans s2).trans s3⟩
      · rintro σ W ⟨o15, rfl, sw⟩
        refine ⟨_, rfl, _, rfl, _, rfl, fun x3 dx3 nx3 ndx3 _ => init_sys nx3 ndx3 (sw _ _ hanX) N (sw _ _ hgpX) (fun y hy => sw _ _ (hkX y hy)) hro (by omega) fun Z3 s3 h3 => ⟨rfl, ?_⟩⟩
        rw [hNS] at h3
        have c3 := inOrder_canon rs
        have sw3 := sw.trans s3
        refine ne_sys T (hmX.same sw3) h3.at_ ?_
        rw [c3, cL, decide_eq_true rfl, decide_eq_true rfl]
        refine ⟨_, rfl, iteF ?_⟩
        exact ⟨_, _, _, _, _, _, _, _, _, _, _, _, _, _, _, _, _, rfl, ((P2.same w11).same sw3).le (by omega)⟩
  · rintro σ Hc ⟨o2, o3, o4, o5, o6, o7, o8, o9, o10, o11, o12, o13, o14, o15, o16, o17, o18, rfl, hP⟩
    exact q _
end
end Wnd

namespace Wnd
open PySem PySem.Spec PyProof.Rows L2
set_option maxHeartbeats 4000000 in
theorem all_mk {l : PySem.W.OpenLaw} {w : World} {K : PySem.W.Frag} {h : Heap} {mg : Str → Option Value} {fa : Addr} (X : K.In h) (G : h.Ns mainGlobals mg) (hfa : mg "law" = some (.ref fa)) {C : Addr} {t1 t2 t3 : Tok}
    (rS : SysRaw K C) (c1 : PySem.W.nsIn K mainGlobals "LONGEST_NAME" = some (some (.int 8 t1))) (c2 : PySem.W.nsIn K mainGlobals "GREATEST_GAP" = some (some (.int 999 t2))) (c3 : PySem.W.nsIn K mainGlobals "GREATEST_NUMBER" = some (some (.int 99999 t3)))
    (mI : MetRaw K C "__init__" "System.__init__" s_System___init) (mE : MetRaw K C "__eq__" "System.__eq__" s_System___eq) (mN : PropRaw K C "names" "System.names" s_System_names) (mU : PropRaw K C "rules" "System.rules" s_System_rules)
    (mR : StatRaw K C "is_rule" "System.is_rule" s_System_is_rule)
    (r_is_integer : DefRaw K "is_integer" s_is_integer) (r_is_integer_within : DefRaw K "is_integer_within" s_is_integer_within) (r_is_name : DefRaw K "is_name" s_is_name) (r_is_end : DefRaw K "_is_end" s_is_end) (r_are_different_names : DefRaw K "_are_different_names" s_are_different_names) (r_are_rules_between : DefRaw K "_are_rules_between" s_are_rules_between) (r_ascending : DefRaw K "_ascending" s_ascending) (r_rank : DefRaw K "rank" s_rank) (r_check_numbers : DefRaw K "check_numbers" s_check_numbers) (r_are_numbers : DefRaw K "are_numbers" s_are_numbers) (r_breach_of : DefRaw K "breach_of" s_breach_of) (r_number_of : DefRaw K "number_of" s_number_of) (r_shortfall_of : DefRaw K "shortfall_of" s_shortfall_of) (r_is_number : DefRaw K "is_number" s_is_number) (r_first_breach : DefRaw K "first_breach" s_first_breach) (r_is_admitted : DefRaw K "is_admitted" s_is_admitted) (r_smaller : DefRaw K "smaller" s_smaller) (r_greater : DefRaw K "greater" s_greater) (r_law_pen : DefRaw K "_law_pen" s_law_pen) (r_law_next : DefRaw K "_law_next" s_law_next) (r_law_draw : DefRaw K "_law_draw" s_law_draw) (r_law_some : DefRaw K "_law_some" s_law_some) (r_law_nyms : DefRaw K "_law_nyms" s_law_nyms) (r_law_goal : DefRaw K "_law_goal" s_law_goal) (r_law_at : DefRaw K "_law_at" s_law_at) (r_law_gaps : DefRaw K "_law_gaps" s_law_gaps) (r_law_key : DefRaw K "_law_key" s_law_key) (r_law_sorted : DefRaw K "_law_sorted" s_law_sorted) (r_law_short : DefRaw K "_law_short" s_law_short) (r_law_broken : DefRaw K "_law_broken" s_law_broken) (r_law_torn_gaps : DefRaw K "_law_torn_gaps" s_law_torn_gaps) (r_law : DefRaw K "law" s_law)
    (z_len : PySem.W.nsIn K mainGlobals "len" = some none) (z_list : PySem.W.nsIn K mainGlobals "list" = some none) (z_range : PySem.W.nsIn K mainGlobals "range" = some none) (z_min : PySem.W.nsIn K mainGlobals "min" = some none) (z_max : PySem.W.nsIn K mainGlobals "max" = some none) (z_dict : PySem.W.nsIn K mainGlobals "dict" = some none) (z_sorted : PySem.W.nsIn K mainGlobals "sorted" = some none) (z_isinstance : PySem.W.nsIn K mainGlobals "isinstance" = some none) (z_int : PySem.W.nsIn K mainGlobals "int" = some none) (z_bool : PySem.W.nsIn K mainGlobals "bool" = some none) (z_str : PySem.W.nsIn K mainGlobals "str" = some none) (z_tuple : PySem.W.nsIn K mainGlobals "tuple" = some none) (z_all : PySem.W.nsIn K mainGlobals "all" = some none) (z_set : PySem.W.nsIn K mainGlobals "set" = some none) (z_sum : PySem.W.nsIn K mainGlobals "sum" = some none) (z_repr : PySem.W.nsIn K mainGlobals "repr" = some none) :
    ∀ (base : Heap) (H : Hp) (s : Shared) (a : Addr) (ns : List Int), ns.length ≤ 63 → K.In base → base.Ns mainGlobals mg → Env0 l.prog w K mg base callerA [] s H → SqL K H a (ns.map V.int) →
        codeAny (model l.prog w) callerA (.call (.ref fa) ⟨[.ref a], []⟩) (CR CX0 [] l.prog w H s (fun v _ => v = .bl true) fun _ _ _ => False) s := by
  have T := rS.f X G
  have B : Blt3 mg := ⟨⟨⟨PySem.W.mg_none_of X G z_len, PySem.W.mg_none_of X G z_list, PySem.W.mg_none_of X G z_range, PySem.W.mg_none_of X G z_min, PySem.W.mg_none_of X G z_max, PySem.W.mg_none_of X G z_dict, PySem.W.mg_none_of X G z_sorted⟩, PySem.W.mg_none_of X G z_isinstance, PySem.W.mg_none_of X G z_int, PySem.W.mg_none_of X G z_bool, PySem.W.mg_none_of X G z_str, PySem.W.mg_none_of X G z_tuple, PySem.W.mg_none_of X G z_all, PySem.W.mg_none_of X G z_set⟩, PySem.W.mg_none_of X G z_sum, PySem.W.mg_none_of X G z_repr⟩
  have k1 : ∃ t, mg "LONGEST_NAME" = some (.int 8 t) := ⟨t1, PySem.W.mg_of X G c1⟩
  have k2 : ∃ t, mg "GREATEST_GAP" = some (.int 999 t) := ⟨t2, PySem.W.mg_of X G c2⟩
  have k3 : ∃ t, mg "GREATEST_NUMBER" = some (.int 99999 t) := ⟨t3, PySem.W.mg_of X G c3⟩
  obtain ⟨_, _, D_is_integer⟩ := r_is_integer.at (ps := ["thing"]) X G fun _ _ _ _ _ _ us hl => match us, hl with | [_], _ => rfl
  obtain ⟨_, _, D_is_integer_within⟩ := r_is_integer_within.at (ps := ["thing", "least", "greatest"]) X G fun _ _ _ _ _ _ us hl => match us, hl with | [_, _, _], _ => rfl
  obtain ⟨_, _, D_is_name⟩ := r_is_name.at (ps := ["thing"]) X G fun _ _ _ _ _ _ us hl => match us, hl with | [_], _ => rfl
  obtain ⟨_, _, D_is_end⟩ := r_is_end.at (ps := ["thing"]) X G fun _ _ _ _ _ _ us hl => match us, hl with | [_], _ => rfl
  obtain ⟨_, _, D_are_different_names⟩ := r_are_different_names.at (ps := ["things"]) X G fun _ _ _ _ _ _ us hl => match us, hl with | [_], _ => rfl
  obtain ⟨_, _, D_are_rules_between⟩ := r_are_rules_between.at (ps := ["things", "names"]) X G fun _ _ _ _ _ _ us hl => match us, hl with | [_, _], _ => rfl
  obtain ⟨_, _, D_ascending⟩ := r_ascending.at (ps := ["rules"]) X G fun _ _ _ _ _ _ us hl => match us, hl with | [_], _ => rfl
  obtain ⟨_, _, D_rank⟩ := r_rank.at (ps := ["rule"]) X G fun _ _ _ _ _ _ us hl => match us, hl with | [_], _ => rfl
  obtain ⟨_, _, D_check_numbers⟩ := r_check_numbers.at (ps := ["system", "thing"]) X G fun _ _ _ _ _ _ us hl => match us, hl with | [_, _], _ => rfl
  obtain ⟨_, _, D_are_numbers⟩ := r_are_numbers.at (ps := ["system", "thing"]) X G fun _ _ _ _ _ _ us hl => match us, hl with | [_, _], _ => rfl
  obtain ⟨_, _, D_breach_of⟩ := r_breach_of.at (ps := ["system", "numbers"]) X G fun _ _ _ _ _ _ us hl => match us, hl with | [_, _], _ => rfl
  obtain ⟨_, _, D_number_of⟩ := r_number_of.at (ps := ["thing", "numbers"]) X G fun _ _ _ _ _ _ us hl => match us, hl with | [_, _], _ => rfl
  obtain ⟨_, _, D_shortfall_of⟩ := r_shortfall_of.at (ps := ["rule", "numbers"]) X G fun _ _ _ _ _ _ us hl => match us, hl with | [_, _], _ => rfl
  obtain ⟨_, _, D_is_number⟩ := r_is_number.at (ps := ["thing"]) X G fun _ _ _ _ _ _ us hl => match us, hl with | [_], _ => rfl
  obtain ⟨_, _, D_first_breach⟩ := r_first_breach.at (ps := ["system", "numbers"]) X G fun _ _ _ _ _ _ us hl => match us, hl with | [_, _], _ => rfl
  obtain ⟨_, _, D_is_admitted⟩ := r_is_admitted.at (ps := ["system", "numbers"]) X G fun _ _ _ _ _ _ us hl => match us, hl with | [_, _], _ => rfl
  obtain ⟨_, _, D_smaller⟩ := r_smaller.at (ps := ["system", "one", "two"]) X G fun _ _ _ _ _ _ us hl => match us, hl with | [_, _, _], _ => rfl
  obtain ⟨_, _, D_greater⟩ := r_greater.at (ps := ["system", "one", "two"]) X G fun _ _ _ _ _ _ us hl => match us, hl with | [_, _, _], _ => rfl
  obtain ⟨_, _, D_law_pen⟩ := r_law_pen.at (ps := ["_law_script"]) X G fun _ _ _ _ _ _ us hl => match us, hl with | [_], _ => rfl
  obtain ⟨_, _, D_law_next⟩ := r_law_next.at (ps := ["_law_pen_here"]) X G fun _ _ _ _ _ _ us hl => match us, hl with | [_], _ => rfl
  obtain ⟨_, _, D_law_draw⟩ := r_law_draw.at (ps := ["_law_pen_here", "_law_under"]) X G fun _ _ _ _ _ _ us hl => match us, hl with | [_, _], _ => rfl
  obtain ⟨_, _, D_law_some⟩ := r_law_some.at (ps := ["_law_pen_here", "_law_pool", "_law_most"]) X G fun _ _ _ _ _ _ us hl => match us, hl with | [_, _, _], _ => rfl
  obtain ⟨_, _, D_law_nyms⟩ := r_law_nyms.at (ps := ["_law_pen_here", "_law_most"]) X G fun _ _ _ _ _ _ us hl => match us, hl with | [_, _], _ => rfl
  obtain ⟨_, _, D_law_goal⟩ := r_law_goal.at (ps := ["_law_pen_here", "_law_nyms_here"]) X G fun _ _ _ _ _ _ us hl => match us, hl with | [_, _], _ => rfl
  obtain ⟨_, _, D_law_at⟩ := r_law_at.at (ps := ["_law_held", "_law_thing"]) X G fun _ _ _ _ _ _ us hl => match us, hl with | [_, _], _ => rfl
  obtain ⟨_, _, D_law_gaps⟩ := r_law_gaps.at (ps := ["_law_pen_here", "_law_nyms_here", "_law_goals", "_law_most"]) X G fun _ _ _ _ _ _ us hl => match us, hl with | [_, _, _, _], _ => rfl
  obtain ⟨_, _, D_law_key⟩ := r_law_key.at (ps := ["_law_ask"]) X G fun _ _ _ _ _ _ us hl => match us, hl with | [_], _ => rfl
  obtain ⟨_, _, D_law_sorted⟩ := r_law_sorted.at (ps := ["_law_gaps_here"]) X G fun _ _ _ _ _ _ us hl => match us, hl with | [_], _ => rfl
  obtain ⟨_, _, D_law_short⟩ := r_law_short.at (ps := ["_law_held", "_law_ask"]) X G fun _ _ _ _ _ _ us hl => match us, hl with | [_, _], _ => rfl
  obtain ⟨_, _, D_law_broken⟩ := r_law_broken.at (ps := ["_law_gaps_here", "_law_held"]) X G fun _ _ _ _ _ _ us hl => match us, hl with | [_, _], _ => rfl
  obtain ⟨_, _, D_law_torn_gaps⟩ := r_law_torn_gaps.at (ps := ["_law_pen_here", "_law_nyms_here", "_law_gaps_here"]) X G fun _ _ _ _ _ _ us hl => match us, hl with | [_, _, _], _ => rfl
  obtain ⟨_, _, D_law⟩ := r_law.at (ps := ["_law_script"]) X G fun _ _ _ _ _ _ us hl => match us, hl with | [_], _ => rfl
  obtain ⟨fI, fdI, FI, bI, iI, isI⟩ := mI.at (ps := ["self", "names", "rules"]) fun _ _ _ _ _ _ us hl => match us, hl with | [_, _, _], _ => rfl
  obtain ⟨fE, fdE, FE, bE, iE, isE⟩ := mE.at (ps := ["self", "other"]) fun _ _ _ _ _ _ us hl => match us, hl with | [_, _], _ => rfl
  obtain ⟨mc, pR, fR, fdR, FR, bR, rdR, smR⟩ := mR.at (ps := ["thing"]) fun _ _ _ _ _ _ us hl => match us, hl with | [_], _ => rfl
  obtain ⟨pN, gN, fdN, FN, bN, iN⟩ := mN.at (ps := ["self"]) fun _ _ _ _ _ _ us hl => match us, hl with | [_], _ => rfl
  obtain ⟨pU, gU, fdU, FU, bU, iU⟩ := mU.at (ps := ["self"]) fun _ _ _ _ _ _ us hl => match us, hl with | [_], _ => rfl
  have e := hfa.symm.trans D_law.at_
  cases e
  intro base H s a ns hl kb nb env seq
  have o1 := ok_is_integer (P := l.prog) (w := w) (base := base) D_is_integer B.toBlt2
  have o2 := ok_is_integer_within D_is_integer_within B.toBlt2 o1
  have o3 := ok_is_name (P := l.prog) (w := w) (base := base) D_is_name B.toBlt2 k1
  have o4 := ok_is_end D_is_end o3
  have o5 : OkS l.prog w K mg base C 3 "is_rule" ["thing"] (spIsRule K) := ⟨mc, pR, fR, fdR, rdR, smR, bR, ok_is_rule FR B.toBlt2 k2 o4 o2⟩
  have o6 := ok_diff D_are_different_names B.toBlt2 o3
  have o7 := ok_rules D_are_rules_between B.toBlt2 T.mgC o5
  have o8 : Ok l.prog w K mg base 1 "rank" ["rule"] spRank := D_rank.ok (ok_rank D_rank)
  have o9 := ok_ascending D_ascending B.toBlt2 o8
  have o10 : OkMk l.prog w K mg base C 5 ["self", "names", "rules"] (spInit C) := ⟨fI, fdI, ⟨rS.mks, iI, isI, rS.kc⟩, bI, ok_init FI T.toSysC B.toBlt2 o6 o7 o9⟩
  have o11 : OkEq l.prog w K mg base C 1 (spEq K C) := ⟨fE, fdE, _, ⟨iE, isE, rS.ne, rS.ob⟩, bE, ok_eq FE T.toSysC T.isC B.toBlt2⟩
  have p1 := ok_pen (P := l.prog) (w := w) (base := base) D_law_pen B.toBlt
  have p2 := ok_next (P := l.prog) (w := w) (base := base) D_law_next B.toBlt
  have p3 := ok_draw D_law_draw p2
  have p4 := ok_some D_law_some B.toBlt p3
  have p5 := ok_nyms D_law_nyms B.toBlt p4
  have p6 := ok_goal D_law_goal B.toBlt p3
  have p7 := ok_at (P := l.prog) (w := w) (base := base) D_law_at
  have p8 := ok_gaps D_law_gaps B.toBlt p3 p7
  have oN : OkP l.prog w K mg base C 1 "names" (spNames C) := ⟨pN, gN, fdN, _, T.cl, iN, bN, ok_names FN T.toSysC B.toBlt⟩
  have oU : OkP l.prog w K mg base C 1 "rules" (spRulesP C) := ⟨pU, gU, fdU, _, T.cl, iU, bU, ok_rulesP FU T.toSysC B.toBlt⟩
  have f1 := ok_is_number D_is_number k3 o2
  have f1b := ok_areNums D_are_numbers B.toBlt2 oN f1
  have f2 := ok_check D_check_numbers f1b
  have f3 := ok_numOf (P := l.prog) (w := w) (base := base) D_number_of
  have f4 := ok_shortOf D_shortfall_of f3
  have f5b := ok_breachOf D_breach_of oU f4
  have f5 := ok_breach D_first_breach f2 f5b
  have f6 := ok_admitted D_is_admitted f5
  have q1 := ok_lshort D_law_short p7
  have p9 := ok_key (P := l.prog) (w := w) (base := base) D_law_key
  have p10 := ok_sorted D_law_sorted B.toBlt p9
  have q2 := ok_broken D_law_broken p10 q1
  have q3 := ok_torn D_law_torn_gaps B p3 p4
  have f7 := ok_smaller D_smaller B.toBlt2 f2 oN
  have f8 := ok_greater D_greater B.toBlt2 f2 oN
  exact run_law D_law.fn D_law.bi ⟨rfl, by decide, by decide⟩ T B p1 p5 p6 p8 q3 q2 f6 f7 f8 o10 o11 (vs := [V.ref a]) (us := [Value.ref a]) env rfl (.cons rfl .nil) ⟨a, ns, rfl, seq, hl, fun _ => rfl⟩
end Wnd
open PySem PySem.W PyProof.Rows in
set_option maxRecDepth 100000 in
set_option maxHeartbeats 0 in
theorem PySem.Challenge.cw_windowsteps_k10_smaller_and_greater_holds : PySem.Challenge.rw_windowsteps_k10_smaller_and_greater.Holds := by
  w_on; o_law; k_head; (case hw => w_witness2)
  k_fill
  refine Wnd.top_walk (l := PySem.Challenge.rw_windowsteps_k10_smaller_and_greater) (n := 63) rfl (by decide) rfl (fun w h Y => PySem.W.kIn_of Y) ?F
  case F =>
    intro w mg fa h KX G hmg
    refine' Wnd.all_mk KX G hmg ?rS ?c1 ?c2 ?c3 ?mI ?mE ?mN ?mU ?mR ?r_is_integer ?r_is_integer_within ?r_is_name ?r_is_end ?r_are_different_names ?r_are_rules_between ?r_ascending ?r_rank ?r_check_numbers ?r_are_numbers ?r_breach_of ?r_number_of ?r_shortfall_of ?r_is_number ?r_first_breach ?r_is_admitted ?r_smaller ?r_greater ?r_law_pen ?r_law_next ?r_law_draw ?r_law_some ?r_law_nyms ?r_law_goal ?r_law_at ?r_law_gaps ?r_law_key ?r_law_sorted ?r_law_short ?r_law_broken ?r_law_torn_gaps ?r_law ?z_len ?z_list ?z_range ?z_min ?z_max ?z_dict ?z_sorted ?z_isinstance ?z_int ?z_bool ?z_str ?z_tuple ?z_all ?z_set ?z_sum ?z_repr
    (case rS => refine' ⟨?at_, ?pg, ?hd, ?po, ?sa, ?nN, ?nR, ?ha, ?hn, ?htk, ?hm, ?ic, ?tc, ?nf, ?kList, ?kTuple, ?kNone, ?kStr, ?kInt, ?fList, ?fTuple, ?fNone, ?fStr, ?fInt, ?ne, ?ob, ?mks, ?kc⟩; (case at_ => k_is); all_goals k_is)
    (case c1 => k_is)
    (case c2 => k_is)
    (case c3 => k_is)
    (case mI => refine' Wnd.metRaw_mk ?a ?b ?c ?d ?e; (case a => k_is); (case b => k_is); (case c => k_is); (case d => k_is); (case e => k_is))
    (case mE => refine' Wnd.metRaw_mk ?a ?b ?c ?d ?e; (case a => k_is); (case b => k_is); (case c => k_is); (case d => k_is); (case e => k_is))
    (case mN => refine' Wnd.propRaw_mk ?a ?b ?c ?d ?e ?f ?g; (case a => k_is); (case b => k_is); (case c => k_is); (case d => k_is); (case e => k_is); (case f => k_is); (case g => k_is))
    (case mU => refine' Wnd.propRaw_mk ?a ?b ?c ?d ?e ?f ?g; (case a => k_is); (case b => k_is); (case c => k_is); (case d => k_is); (case e => k_is); (case f => k_is); (case g => k_is))
    (case mR => refine' Wnd.statRaw_mk ?a ?b ?c ?d ?e ?f ?g; (case a => k_is); (case b => k_is); (case c => k_is); (case d => k_is); (case e => k_is); (case f => k_is); (case g => k_is))
    (case r_is_integer => refine' Wnd.defRaw_mk ?a ?b ?c ?d; (case a => k_is); (case b => k_is); (case c => k_is); (case d => k_is))
    (case r_is_integer_within => refine' Wnd.defRaw_mk ?a ?b ?c ?d; (case a => k_is); (case b => k_is); (case c => k_is); (case d => k_is))
    (case r_is_name => refine' Wnd.defRaw_mk ?a ?b ?c ?d; (case a => k_is); (case b => k_is); (case c => k_is); (case d => k_is))
    (case r_is_end => refine' Wnd.defRaw_mk ?a ?b ?c ?d; (case a => k_is); (case b => k_is); (case c => k_is); (case d => k_is))
    (case r_are_different_names => refine' Wnd.defRaw_mk ?a ?b ?c ?d; (case a => k_is); (case b => k_is); (case c => k_is); (case d => k_is))
    (case r_are_rules_between => refine' Wnd.defRaw_mk ?a ?b ?c ?d; (case a => k_is); (case b => k_is); (case c => k_is); (case d => k_is))
    (case r_ascending => refine' Wnd.defRaw_mk ?a ?b ?c ?d; (case a => k_is); (case b => k_is); (case c => k_is); (case d => k_is))
    (case r_rank => refine' Wnd.defRaw_mk ?a ?b ?c ?d; (case a => k_is); (case b => k_is); (case c => k_is); (case d => k_is))
    (case r_check_numbers => refine' Wnd.defRaw_mk ?a ?b ?c ?d; (case a => k_is); (case b => k_is); (case c => k_is); (case d => k_is))
    (case r_are_numbers => refine' Wnd.defRaw_mk ?a ?b ?c ?d; (case a => k_is); (case b => k_is); (case c => k_is); (case d => k_is))
    (case r_breach_of => refine' Wnd.defRaw_mk ?a ?b ?c ?d; (case a => k_is); (case b => k_is); (case c => k_is); (case d => k_is))
    (case r_number_of => refine' Wnd.defRaw_mk ?a ?b ?c ?d; (case a => k_is); (case b => k_is); (case c => k_is); (case d => k_is))
    (case r_shortfall_of => refine' Wnd.defRaw_mk ?a ?b ?c ?d; (case a => k_is); (case b => k_is); (case c => k_is); (case d => k_is))
    (case r_is_number => refine' Wnd.defRaw_mk ?a ?b ?c ?d; (case a => k_is); (case b => k_is); (case c => k_is); (case d => k_is))
    (case r_first_breach => refine' Wnd.defRaw_mk ?a ?b ?c ?d; (case a => k_is); (case b => k_is); (case c => k_is); (case d => k_is))
    (case r_is_admitted => refine' Wnd.defRaw_mk ?a ?b ?c ?d; (case a => k_is); (case b => k_is); (case c => k_is); (case d => k_is))
    (case r_smaller => refine' Wnd.defRaw_mk ?a ?b ?c ?d; (case a => k_is); (case b => k_is); (case c => k_is); (case d => k_is))
    (case r_greater => refine' Wnd.defRaw_mk ?a ?b ?c ?d; (case a => k_is); (case b => k_is); (case c => k_is); (case d => k_is))
    (case r_law_pen => refine' Wnd.defRaw_mk ?a ?b ?c ?d; (case a => k_is); (case b => k_is); (case c => k_is); (case d => k_is))
    (case r_law_next => refine' Wnd.defRaw_mk ?a ?b ?c ?d; (case a => k_is); (case b => k_is); (case c => k_is); (case d => k_is))
    (case r_law_draw => refine' Wnd.defRaw_mk ?a ?b ?c ?d; (case a => k_is); (case b => k_is); (case c => k_is); (case d => k_is))
    (case r_law_some => refine' Wnd.defRaw_mk ?a ?b ?c ?d; (case a => k_is); (case b => k_is); (case c => k_is); (case d => k_is))
    (case r_law_nyms => refine' Wnd.defRaw_mk ?a ?b ?c ?d; (case a => k_is); (case b => k_is); (case c => k_is); (case d => k_is))
    (case r_law_goal => refine' Wnd.defRaw_mk ?a ?b ?c ?d; (case a => k_is); (case b => k_is); (case c => k_is); (case d => k_is))
    (case r_law_at => refine' Wnd.defRaw_mk ?a ?b ?c ?d; (case a => k_is); (case b => k_is); (case c => k_is); (case d => k_is))
    (case r_law_gaps => refine' Wnd.defRaw_mk ?a ?b ?c ?d; (case a => k_is); (case b => k_is); (case c => k_is); (case d => k_is))
    (case r_law_key => refine' Wnd.defRaw_mk ?a ?b ?c ?d; (case a => k_is); (case b => k_is); (case c => k_is); (case d => k_is))
    (case r_law_sorted => refine' Wnd.defRaw_mk ?a ?b ?c ?d; (case a => k_is); (case b => k_is); (case c => k_is); (case d => k_is))
    (case r_law_short => refine' Wnd.defRaw_mk ?a ?b ?c ?d; (case a => k_is); (case b => k_is); (case c => k_is); (case d => k_is))
    (case r_law_broken => refine' Wnd.defRaw_mk ?a ?b ?c ?d; (case a => k_is); (case b => k_is); (case c => k_is); (case d => k_is))
    (case r_law_torn_gaps => refine' Wnd.defRaw_mk ?a ?b ?c ?d; (case a => k_is); (case b => k_is); (case c => k_is); (case d => k_is))
    (case r_law => refine' Wnd.defRaw_mk ?a ?b ?c ?d; (case a => k_is); (case b => k_is); (case c => k_is); (case d => k_is))
    (case z_len => k_is)
    (case z_list => k_is)
    (case z_range => k_is)
    (case z_min => k_is)
    (case z_max => k_is)
    (case z_dict => k_is)
    (case z_sorted => k_is)
    (case z_isinstance => k_is)
    (case z_int => k_is)
    (case z_bool => k_is)
    (case z_str => k_is)
    (case z_tuple => k_is)
    (case z_all => k_is)
    (case z_set => k_is)
    (case z_sum => k_is)
    (case z_repr => k_is)
#print axioms PySem.Challenge.cw_windowsteps_k10_smaller_and_greater_holds

