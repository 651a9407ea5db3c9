import PyProof.Rows.All
import Wide.All
import OpenK.AllK
import Wide.FinOn
import HandS.ForMost
import HandS.Codes
import HandS.Style
import HandS.Property
import HandS.IsInst
import HandS.DictComp
import HandS.Conv
import KE.KDictKeyed
import KE.SortKeyHeap
import HandS.SortKw
import HandS.ExcValue
import HandS.OwnEq
import HandS.ClsMeth
import HandS.Strs
import HandS.TupSets
import HandS.Walk
import HandS.Flow
import HandS.Star
import KE.OsSortAny
import HandS.Deep
import HandS.SetFor
import HandS.NoneIn
import HandS.Ends
import PyProof.ReprRoads
import PyProof.CallFns
import PyProof.DictUpdate
import PyProof.DictDisplay
import HandS.Finally
import HandS.Dict
import HandS.Defaults
import HandS.MakeKwOnly
import HandS.ListItems
import HandS.DeepEq
import PyProof.NeKinds
import HandS.ExcIs
import HandS.WordsExc
import HandS.ExcOwn
import HandS.ExcInit
import KE.KExcSuper
import KE.KExcIs
import KE.KSuper
import HandS.ExcField
import PySem.Challenge.RW_windowsteps_k43_totals
set_option Elab.async false
set_option linter.all false
set_option maxRecDepth 100000
/-! Windowsteps: what every law's proof begins with. Defs as bundles, heaps that change at one place, the pen that draws. -/
namespace Wnd
open PySem PySem.Spec PyProof.Rows L2

/-! ### a def of the text, bundled with its promise -/
structure DefAt (K : PySem.W.Frag) (mg : Str → Option Value) (x : Str) (st : Stmt) (ps : List Str) (f : Addr) (fd : FuncData) : Prop where
  fn : Fun K x x st f fd
  bi : Binds K fd ps []
  at_ : mg x = some (.ref f)
structure Ok (P : Program) (w : World) (K : PySem.W.Frag) (mg : Str → Option Value) (base : Heap) (k : Nat) (x : Str) (ps : List Str) (sp : Sp) : Prop where
  ex : ∃ (f : Addr) (fd : FuncData), mg x = some (.ref f) ∧ PySem.W.keepIn K (.ref f) = true ∧ Binds K fd ps [] ∧ FnOk P w K mg base CX0 k f fd ps sp
section
variable {P : Program} {w : World} {K : PySem.W.Frag} {mg : Str → Option Value} {base : Heap}
theorem DefAt.ok {x : Str} {st : Stmt} {ps : List Str} {f : Addr} {fd : FuncData} {k : Nat} {sp : Sp} (D : DefAt K mg x st ps f fd) (h : FnOk P w K mg base CX0 k f fd ps sp) : Ok P w K mg base k x ps sp :=
  ⟨⟨f, fd, D.at_, D.fn.kp, D.bi, h⟩⟩
theorem Ok.mono {x : Str} {ps : List Str} {j k : Nat} {sp : Sp} (O : Ok P w K mg base j x ps sp) (h : j ≤ k) : Ok P w K mg base k x ps sp := by
  obtain ⟨f, fd, a, b, c, d⟩ := O.ex
  exact ⟨⟨f, fd, a, b, c, d.mono h⟩⟩
end
section
variable {X : Cx} {k : Nat} {x : Str} {ps : List Str} {sp : Sp} {p pos : Pos} {e : Expr} {es : List Expr} {t : TA}
/-- a call of an own def -/
theorem pe_own (O : Ok X.prog X.w X.K X.mg X.base k x ps sp) (hr : Room k X.A) (ha : PA X (e :: es) t) (hg : Gl X x := by rfl) (hdb : (x == ("__debug__" : Str)) = false := by decide)
    (he : starEach (e :: es) X.env = (false, eval e X.env) :: starEach es X.env := by rfl) (hpl : (backTo pos (starEach es X.env)).any (·.1) = false := by rfl) :
    PE X (.Call (.Name x p) (e :: es) [] pos) (tCall sp [] E0 t) := by
  obtain ⟨f, fd, h1, h2, h3, h4⟩ := O.ex
  exact pe_call h4 hr hg h1 h2 h3 .nil pass0 ha hdb he hpl
end

/-! ### heaps that change at one place -/
def But (p : Addr) (H H' : Hp) : Prop := ∀ b o, H b = some o → b ≠ p → H' b = some o
theorem But.refl (p : Addr) (H : Hp) : But p H H := fun _ _ h _ => h
theorem But.trans {p : Addr} {H H1 H2 : Hp} (a : But p H H1) (b : But p H1 H2) : But p H H2 := fun c o h n => b c o (a c o h n) n
theorem But.of {p : Addr} {H H' : Hp} (h : Same H H') : But p H H' := fun b o e _ => h b o e
theorem But.upd {p : Addr} {H : Hp} {o : HO} : But p H (upd H p o) := fun b u e n => by
  rw [upd_ne n]
  exact e
theorem same_new {H : Hp} {p : Addr} {o : HO} (h : H p = none) : Same H (upd H p o) := fun b u e => by
  rw [upd_ne (ne_of_none e h)]
  exact e
theorem But.new {p q : Addr} {H : Hp} {o : HO} (h : H q = none) : But p H (L2.upd H q o) := But.of (same_new h)
/-- what is gone neither before nor behind -/
theorem But.free {p q : Addr} {H H' : Hp} (e : But p H H') (hp : q ≠ p) (h : H' q = none) : H q = none := by
  cases z : H q with
  | none => rfl
  | some o =>
    rw [e q o z hp] at h
    cases h
theorem But.seq {K : PySem.W.Frag} {p a : Addr} {H H' : Hp} {xs : List V} (e : But p H H') (n : ∀ o, H p = some o → a ≠ p) (hp : ∃ o, H p = some o) (h : SqL K H a xs) : SqL K H' a xs := by
  obtain ⟨o, hp⟩ := hp
  have n' := n o hp
  rcases h with (h | ⟨o, h⟩) | h
  · exact .inl (.inl (e _ _ h n'))
  · exact .inl (.inr ⟨o, e _ _ h n'⟩)
  · exact .inr h

theorem hu_of64 {A : Around} {k : Nat} (hr : Room k A) : A.units + 64 < cLine := hr.units
/-! ### the pen: a list of the script's cells, how many numbers were asked for, what is left of the last one -/
def PenAt (H : Hp) (p c : Addr) (n : Nat) : Prop := ∃ (cs : List Int) (i : Nat) (h : Int), cs.length ≤ 63 ∧ i ≤ n ∧ H c = some (.lst (cs.map V.int)) ∧ H p = some (.lst [.ref c, .int i, .int h])
theorem PenAt.ne {H : Hp} {p c : Addr} {n : Nat} (h : PenAt H p c n) : c ≠ p := by
  obtain ⟨cs, i, z, _, _, hc, hp⟩ := h
  refine ne_of hc hp fun e => ?_
  cases cs with
  | nil => cases e
  | cons x r => cases e
theorem PenAt.le {H : Hp} {p c : Addr} {m n : Nat} (h : PenAt H p c m) (l : m ≤ n) : PenAt H p c n := by
  obtain ⟨cs, i, z, a, b, hc, hp⟩ := h
  exact ⟨cs, i, z, a, Nat.le_trans b l, hc, hp⟩
theorem PenAt.same {H H' : Hp} {p c : Addr} {n : Nat} (h : PenAt H p c n) (s : Same H H') : PenAt H' p c n := by
  obtain ⟨cs, i, z, a, b, hc, hp⟩ := h
  exact ⟨cs, i, z, a, b, s _ _ hc, s _ _ hp⟩
theorem PenAt.some {H : Hp} {p c : Addr} {n : Nat} (h : PenAt H p c n) : ∃ o, H p = some o := by
  obtain ⟨cs, i, z, a, b, hc, hp⟩ := h
  exact ⟨_, hp⟩

def spPen (K : PySem.W.Frag) : Sp := fun vs H Q _ => ∃ (a : Addr) (ns : List Int), vs = [.ref a] ∧ SqL K H a (ns.map V.int) ∧ ns.length ≤ 63 ∧ ∀ p c H', Same H H' → H p = none → H c = none → PenAt H' p c 0 → Q (.ref p) H'
def spNext : Sp := fun vs H Q _ => ∃ (p c : Addr) (n : Nat), vs = [.ref p] ∧ PenAt H p c n ∧ n ≤ 1000000 ∧ ∀ (r : Int) H', But p H H' → PenAt H' p c (n + 1) → Q (.int r) H'
def spDraw : Sp := fun vs H Q _ => ∃ (p c : Addr) (n : Nat) (u : Int), vs = [.ref p, .int u] ∧ PenAt H p c n ∧ n ≤ 1000000 ∧ 0 < u ∧ u < 1000000000 ∧ ∀ (d : Int) H', 0 ≤ d → d < u → But p H H' → PenAt H' p c (n + 1) → Q (.int d) H'
end Wnd

/-! Windowsteps: rules (low, high, gap) as Python has them: tuples with None in them; dicts with such keys. -/
namespace Wnd
open PySem PySem.Spec PyProof.Rows L2

structure Rule where
  low : Option Str
  high : Option Str
  gap : Int
  deriving DecidableEq
def endV : Option Str → V
  | none => .non
  | some x => .str x
def ruleV (r : Rule) : List V := [endV r.low, endV r.high, .int r.gap]
def endK : Option Str → NestedKey
  | none => .none
  | some x => .text x
def ruleK (r : Rule) : NestedKey := .tup [endK r.low, endK r.high, .num r.gap]
theorem endK_inj : ∀ {a b : Option Str}, endK a = endK b → a = b
  | none, none, _ => rfl
  | none, some _, h => NestedKey.noConfusion h
  | some _, none, h => NestedKey.noConfusion h
  | some x, some y, h => by
    injection h with h
    rw [h]
theorem ruleK_inj {a b : Rule} (h : ruleK a = ruleK b) : a = b := by
  cases a with | mk l1 h1 g1 =>
  cases b with | mk l2 h2 g2 =>
  unfold ruleK at h
  injection h with h
  injection h with e1 h
  injection h with e2 h
  injection h with e3 h
  injection e3 with e3
  have f1 : l1 = l2 := endK_inj e1
  have f2 : h1 = h2 := endK_inj e2
  have f3 : g1 = g2 := e3
  rw [f1, f2, f3]
theorem endV_inj : ∀ {a b : Option Str}, endV a = endV b → a = b
  | none, none, _ => rfl
  | none, some _, h => V.noConfusion h
  | some _, none, h => V.noConfusion h
  | some x, some y, h => by
    injection h with h
    rw [h]
theorem endK_depth (a : Option Str) : (endK a).depth = 0 := by
  cases a <;> simp [endK, NestedKey.depth]
theorem ruleK_depth (r : Rule) : (ruleK r).depth = 1 := by
  simp [ruleK, NestedKey.depth, NestedKey.depthAll, endK_depth]
theorem endK_is {h : Heap} {a : Option Str} {u : Value} (r : RelV (endV a) u) : NestedIs h (endK a) u := by
  cases a with
  | none =>
    cases r
    exact .none
  | some x =>
    obtain ⟨t, rfl⟩ := r
    exact .text x t

section
variable {P : Program} {w : World} {H : Hp} {h : Heap}
theorem rule_is {q : Addr} {r : Rule} (ok : HOk P w H h) (e : H q = some (.tup (ruleV r))) : (nestedKind P w).is h (ruleK r) q := by
  obtain ⟨_, its, rel, o, h1, h2, n, h3⟩ := (show ObjOk P w H h q (.tup (ruleV r)) from ok q _ e)
  refine ⟨?_, by rw [ruleK_depth]; decide⟩
  refine NestedIs.tup h1 h2 h3 ?_
  rw [List.toList_toArray]
  cases rel with
  | cons r1 t1 =>
    cases t1 with
    | cons r2 t2 =>
      cases t2 with
      | cons r3 t3 =>
        cases t3
        obtain ⟨t, rfl⟩ := r3
        exact .cons (endK_is r1) (.cons (endK_is r2) (.cons (.int _ t) .nil))
end

/-! ### a dict of rules, each with True -/
def rdX (L : List (Rule × Addr)) : List (NestedKey × Addr × Value) := L.map fun p => (ruleK p.1, p.2, Value.bool true)
structure RdAt (P : Program) (w : World) (h : Heap) (d : Addr) (L : List (Rule × Addr)) : Prop where
  lo : (d == sysModules) = false
  sz : L.length ≤ sizeLine
  raw : ∃ o es ep, h.get? d = some o ∧ o.ExactDict ∧ o.data = .dict es ep ∧ es.toList = (rdX L).map (entryOfKey (nestedKind P w))
  nd : (L.map (·.1)).Nodup
def rdO (P : Program) (w : World) (d : Addr) (L : List (Rule × Addr)) : HO := .ext fun h => RdAt P w h d L
/-- the keys' own tuples -/
def KeyTups (H : Hp) (L : List (Rule × Addr)) : Prop := ∀ p, p ∈ L → H p.2 = some (.tup (ruleV p.1))
theorem KeyTups.same {H H' : Hp} {L : List (Rule × Addr)} (k : KeyTups H L) (s : ∀ b xs, H b = some (.tup xs) → H' b = some (.tup xs)) : KeyTups H' L := fun p hp => s _ _ (k p hp)
def putR (L : List (Rule × Addr)) (r : Rule) (q : Addr) : List (Rule × Addr) := if r ∈ L.map (·.1) then L else L ++ [(r, q)]
section
variable {P : Program} {w : World} {H : Hp} {h : Heap} {d : Addr} {L : List (Rule × Addr)}
theorem rdO_ok (R : RdAt P w h d L) : ObjOk P w H h d (rdO P w d L) := by
  refine ⟨R, ?_, fun h1 h2 R1 k => ?_⟩
  · obtain ⟨o, _, _, e, _⟩ := R.raw
    exact ⟨o, e⟩
  · obtain ⟨o, es, ep, e, c⟩ := R1.raw
    exact ⟨R1.lo, R1.sz, ⟨o, es, ep, k o e, c⟩, R1.nd⟩
theorem rd_at (ok : HOk P w H h) (e : H d = some (rdO P w d L)) : RdAt P w h d L := (ok d _ e).1
theorem rd_rd (ok : HOk P w H h) (e : Rd H d (rdO P w d L)) : RdAt P w h d L := (e.ok ok).1
theorem rdX_nodup (hn : (L.map (·.1)).Nodup) : ((rdX L).map (·.1)).Nodup := by
  unfold rdX
  rw [List.map_map]
  rw [show ((fun x : NestedKey × Addr × Value => x.1) ∘ fun p : Rule × Addr => (ruleK p.1, p.2, Value.bool true)) = ruleK ∘ (fun p : Rule × Addr => p.1) from rfl, ← List.map_map]
  exact List.Pairwise.map ruleK (fun a b hab e => hab (ruleK_inj e)) hn
theorem RdAt.full (ok : HOk P w H h) (R : RdAt P w h d L) (k : KeyTups H L) : h.DictOfH (nestedKind P w) d (rdX L) := by
  obtain ⟨o, es, ep, e, x, dd, en⟩ := R.raw
  refine ⟨o, es, ep, e, x, dd, en, fun y hy => ?_, rdX_nodup R.nd⟩
  obtain ⟨p, hp, rfl⟩ := List.mem_map.mp hy
  exact rule_is ok (k p hp)
theorem RdAt.of (D : h.DictOfH (nestedKind P w) d (rdX L)) (lo : (d == sysModules) = false) (sz : L.length ≤ sizeLine) (nd : (L.map (·.1)).Nodup) : RdAt P w h d L := by
  obtain ⟨o, es, ep, e, x, dd, en, _⟩ := D
  exact ⟨lo, sz, ⟨o, es, ep, e, x, dd, en⟩, nd⟩
theorem atKey_rdX (r : Rule) : ∀ L : List (Rule × Addr), (atKey (rdX L) (ruleK r)).isSome = decide (r ∈ L.map (·.1))
  | [] => by simp [rdX, atKey]
  | p :: L => by
    have ih := atKey_rdX r L
    by_cases e : p.1 = r
    · subst e
      simp [rdX, atKey]
    · have e' : ¬ ruleK p.1 = ruleK r := fun z => e (ruleK_inj z)
      have e2 : ¬ r = p.1 := fun z => e z.symm
      have h1 : atKey (rdX (p :: L)) (ruleK r) = atKey (rdX L) (ruleK r) := by
        unfold rdX atKey
        rw [List.map_cons, List.find?_cons]
        simp [e']
      rw [h1, ih]
      simp [e2]
theorem putAt_true (r : Rule) : ∀ L : List (Rule × Addr), (rdX L).map (putAt (ruleK r) (Value.bool true)) = rdX L
  | [] => rfl
  | p :: L => by
    have ih := putAt_true r L
    unfold rdX at ih ⊢
    rw [List.map_cons, List.map_cons, ih]
    unfold putAt
    split <;> rfl
theorem storedH_rdX (L : List (Rule × Addr)) (r : Rule) (q : Addr) : storedH (rdX L) (ruleK r) q (Value.bool true) = rdX (putR L r q) := by
  unfold storedH putR
  rw [atKey_rdX]
  by_cases e : r ∈ L.map (·.1)
  · rw [decide_eq_true e, if_pos rfl, if_pos e, putAt_true]
  · rw [decide_eq_false e, if_neg Bool.false_ne_true, if_neg e]
    unfold rdX
    rw [List.map_append]
    rfl
theorem putR_nodup {r : Rule} {q : Addr} (nd : (L.map (·.1)).Nodup) : ((putR L r q).map (·.1)).Nodup := by
  unfold putR
  by_cases e : r ∈ L.map (·.1)
  · rw [if_pos e]
    exact nd
  · rw [if_neg e, List.map_append]
    refine List.nodup_append.mpr ⟨nd, by simp, fun a ha b hb => ?_⟩
    have hb' : b = r := by simpa using hb
    subst hb'
    intro z
    subst z
    exact e ha
theorem putR_len {r : Rule} {q : Addr} : (putR L r q).length ≤ L.length + 1 := by
  unfold putR
  split
  · omega
  · rw [List.length_append, List.length_singleton]
    omega
theorem KeyTups.put {r : Rule} {q : Addr} (k : KeyTups H L) (hq : H q = some (.tup (ruleV r))) : KeyTups H (putR L r q) := by
  unfold putR
  split
  · exact k
  · intro p hp
    rcases List.mem_append.mp hp with hp | hp
    · exact k p hp
    · have e : p = (r, q) := by simpa using hp
      subst e
      exact hq
end
section
variable {X : Cx} {pins : List (Addr × Obj)} {σ : L2.St} {H : Hp} {s : Shared} {E : Value → Shared → Prop}
theorem rdO_ne_tup {P : Program} {w : World} {d : Addr} {L : List (Rule × Addr)} {xs : List V} : rdO P w d L ≠ .tup xs := fun z => nomatch z
theorem rd_dictSet {A : Around} {d q : Addr} {L : List (Rule × Addr)} {r : Rule} {Q : Unit → Shared → Prop} (hu : A.units + 8 < cLine) (I : Inv X pins σ H s) (hd : H d = some (rdO X.prog X.w d L)) (k : KeyTups H L) (hq : H q = some (.tup (ruleV r)))
    (hz : L.length < sizeLine) (hQ : ∀ s', Inv X pins σ (upd H d (rdO X.prog X.w d (putR L r q))) s' → Q () s') :
    wpAny (model X.prog X.w) A (dictSet d (.ref q) (.bool true)) Q E s := by
  have R := rd_at I.hok hd
  have hl : (rdX L).length = L.length := by unfold rdX; rw [List.length_map]
  refine wpAny_dictSet_heap (hsz := by rw [hl]; exact R.sz) (knd := nestedKind X.prog X.w) hu (rule_is I.hok hq) (R.full I.hok k) fun h' D' sb => hQ _ ?_
  rw [storedH_rdX] at D'
  have he : ∃ z, h'.get? d = some z := let ⟨z, _, _, e, _⟩ := D'; ⟨z, e⟩
  exact d_write I (by rw [hd]; exact True.intro) sb he (rdO_ok (RdAt.of D' R.lo (Nat.le_trans putR_len hz) (putR_nodup R.nd)))
end
end Wnd

/-! Windowsteps: {rule: True for rule in rules}. -/
namespace Wnd
open PySem PySem.Spec PyProof.Rows L2
section
variable {X : Cx}
/-- what the comprehension asks: D is the new dict of rules -/
def tDcR (P : Program) (w : World) (wi : TI) (g : TG) (tk : TE) (vs : List Nat) : TE := fun σ H Q => wi σ H fun J H1 =>
  ∀ D, H1 D = none → ∃ W : Nat → Nat → Hp → Prop, (∃ m, W 0 m (upd H1 D (rdO P w D []))) ∧ ∀ i m Hi, W i m Hi →
    (J.stop i Hi ∧ Q (.ref D) Hi) ∨ (J.go i Hi ∧ ∃ Nx : Hp → Prop, (∀ Hn, Nx Hn → ∃ m', m' < m ∧ W (i + 1) m' Hn) ∧
      ∀ x Hx, J.yld i Hi x Hx → g x (wipe σ vs) Hx fun σ2 H2 => wipe σ2 vs = wipe σ vs ∧
        tk σ2 H2 fun y H3 => ∃ (q : Addr) (r : Rule) (L : List (Rule × Addr)), y = .ref q ∧ H3 D = some (rdO P w D L) ∧ KeyTups H3 L ∧ H3 q = some (.tup (ruleV r)) ∧ L.length < sizeLine ∧ Nx (upd H3 D (rdO P w D (putR L r q))))
theorem rd_empty {P : Program} {w : World} {H : Hp} (h : Heap) (big : sysModules < h.objs.size) :
    ObjOk P w H (h.push { cls := .type "dict", data := .dict #[] }) h.objs.size (rdO P w h.objs.size []) :=
  rdO_ok (RdAt.of (Heap.DictOfH.new (knd := nestedKind P w) h) (beq_eq_false_iff_ne.mpr (Nat.ne_of_gt big)) (Nat.zero_le _) List.nodup_nil)
/-- the block's keys may be laid down while D stands -/
theorem dcR_core {pins : List (Addr × Obj)} {s : Shared} {σ : L2.St} {H : Hp} {Q : VK} {kx tg iter : Expr} {c : Nat} {cp : Pos} {scope : Scope} {own : List (Str × Nat)} {pos pos' : Pos} {wi : TI} {g : TG} {tk : TE}
    {use : Option (Value → Sem Unit)} {Qf : Value → Shared → Prop} (room : X.A.units + 8 < cLine) (calm : X.calm = true) (nd : X.N.Nodup) (I : Inv X pins σ H s) (hi : PI X tg iter wi) (ok : BlkOk X.N X.env.scope scope own)
    (hg : ∀ (s : Shared) (H : Hp) (C : Addr) (cl : List (Str × Addr)) (fp : List Addr), PG (X.blk s H scope (compEnvC scope cl C X.env) fp) tg g)
    (hk : ∀ (s : Shared) (H : Hp) (C : Addr) (cl : List (Str × Addr)) (fp : List Addr), PE (X.blk s H scope (compEnvC scope cl C X.env) fp) kx tk)
    (plain : ∀ x, foldedSetIterable iter X.env x = pure x) (ask : tDcR X.prog X.w wi g tk (own.map (·.2)) σ H Q)
    (last : ∀ D C s' m H', Inv X pins σ H' s' → Q (.ref D) H' → s'.heap.Ns C m → FpOk X pins H' C → compPost (model X.prog X.w) X.A X.xe use Qf (.ref D) C (.ok .next) s') :
    wpAny (model X.prog X.w) X.A (comprehension (.DictComp kx (.Constant (.bool true) c cp) [⟨tg, iter, [], 0⟩] scope pos) scope X.env pos' newDict false (eval iter X.env) use) Qf X.xe s := by
  have cells : ∀ y ∈ scope.names, y.2 = .free → ∃ c, X.env.cells.lookup y.1 = some c := by
    intro y hy e
    rcases ok.free y hy e with k | k
    · exact I.ok.has _ (.inl k)
    · exact I.ok.has _ (.inr k)
  refine wpAny_comprehension_free (use := use) rfl plain (closure_ok cells) ok.kind (fun y hy e => by rw [ok.uniq y hy, e]) (thn (hi.run pins s σ H _ I ask) ?_)
  intro xv s1 hx
  refine thn hx ?_
  rintro itv s2 ⟨it, fp, tn, J, Ha, rfl, I2, T, t0, fz, asks⟩
  refine wpAny_newObj_type (newEnv_comp ?_)
  generalize eD : s2.heap.objs.size = D
  have dNew : Ha D = none := I2.hok.fresh (Nat.le_of_eq eD)
  obtain ⟨W, ⟨m0, w0⟩, turn⟩ := asks D dNew
  -- the new dict is laid down
  generalize e3 : ({ s2 with heap := s2.heap.push { cls := .type "dict", data := .dict #[] } } : Shared) = s3
  have I3 : Inv X pins σ (upd Ha D (rdO X.prog X.w D [])) s3 := by
    rw [← e3]
    refine I2.laid (t' := s2.toks) (fun b o e => Heap.get?_push_of_some _ e) (Nat.le_of_eq eD) ?_
    rw [← eD]
    exact rd_empty s2.heap I2.big
  have h3 : s3.heap = s2.heap.push { cls := .type "dict", data := .dict #[] } := by rw [← e3]
  have below : ∀ b ∈ fp, b < s2.heap.objs.size := by
    intro b hb
    obtain ⟨o, e, _⟩ := T.obj _ _ t0 b hb
    exact Heap.lt_size e
  have away : ∀ b ∈ fp, FpOk X pins (upd Ha D (rdO X.prog X.w D [])) b ∧ b < s3.heap.objs.size := by
    intro b hb
    have lt := below b hb
    refine ⟨⟨?_, (fz b hb).2⟩, ?_⟩
    · rw [upd_ne (by rw [← eD]; exact Nat.ne_of_lt lt)]
      exact (fz b hb).1
    · rw [h3, Heap.size_push]
      exact Nat.lt_succ_of_lt lt
  have t3 : tn 0 s3.heap := T.keep _ _ _ t0 fun b _ o e => by
    rw [h3]
    exact Heap.get?_push_of_some _ e
  have I4 := block_start I3 ok nd away
  generalize eH : upd Ha D (rdO X.prog X.w D []) = Hb at I3 I4 w0 away
  have pg := hg s3 Hb s3.heap.objs.size (cellsFrom (s3.heap.objs.size + 1) scope.names (cloFrom X.env.cells scope.names [])) fp
  have pk := hk s3 Hb s3.heap.objs.size (cellsFrom (s3.heap.objs.size + 1) scope.names (cloFrom X.env.cells scope.names [])) fp
  generalize eE : compEnvC scope (cellsFrom (s3.heap.objs.size + 1) scope.names (cloFrom X.env.cells scope.names [])) s3.heap.objs.size X.env = be at I4 pg pk
  show codeAny _ _ (.compStart (.DictComp kx (.Constant (.bool true) c cp) [⟨tg, iter, [], 0⟩] scope pos) 0 (.ref it) (.ref D)
    (compEnvC scope (cellsFrom (s3.heap.objs.size + 1) scope.names (cloFrom X.env.cells scope.names [])) s3.heap.objs.size X.env))
    (compPost (model X.prog X.w) X.A X.xe use Qf (.ref D) s3.heap.objs.size) { s3 with heap := pushCells (s3.heap.push { cls := .type "dict", data := .dict #[] }) scope.names }
  rw [eE]
  have locs : be.locals = s3.heap.objs.size := by
    subst eE
    rfl
  have none0 : ∀ b ∈ fp, Hb b = none := fun b hb => (away b hb).1.1
  generalize e4 : ({ s3 with heap := pushCells (s3.heap.push { cls := .type "dict", data := .dict #[] }) scope.names } : Shared) = s4 at I4 ⊢
  have t4 : tn 0 s4.heap := T.keep _ _ _ t3 fun b _ o e => by
    rw [← e4]
    exact pushCells_keeps _ _ _ _ (Heap.get?_push_of_some _ e)
  have stat : ∀ {σ' : L2.St} {Hc : Hp} {s' : Shared}, Inv (X.blk s3 Hb scope be fp) [] σ' Hc s' → (∀ b ∈ fp, Hc b = none) → ∀ b ∈ fp, FpOk (X.blk s3 Hb scope be fp) [] Hc b := by
    intro σ' Hc s' J' hn b hb
    exact ⟨hn b hb, (J'.ok.exf b hb).1, J'.ok.exfs b hb, .inl hb, fun x c e => (J'.ok.exf b hb).2 x c e, fun p hp => absurd (show p ∈ ([] : List (Addr × Obj)) ++ [] from hp) (by simp)⟩
  have loop : codeAny (model X.prog X.w) X.A (.compLoop (.DictComp kx (.Constant (.bool true) c cp) [⟨tg, iter, [], 0⟩] scope pos) 0 (.ref it) (.ref D) be) (compPost (model X.prog X.w) X.A X.xe use Qf (.ref D) s3.heap.objs.size) s4 := by
    refine compLoop_anyD (fun n s' => ∃ i Hc, Inv (X.blk s3 Hb scope be fp) [] (wipe σ (own.map (·.2))) Hc s' ∧ tn i s'.heap ∧ (∀ b ∈ fp, Hc b = none) ∧ W i n Hc) ?_ m0 ⟨0, Hb, I4, t4, none0, w0⟩
    rintro n s5 ⟨i, Hc, I5, t5, n5, w5⟩
    rcases turn i n Hc w5 with ⟨stop, fin⟩ | ⟨go, Nx, less, step⟩
    · refine thnF (T.done (X.blk s3 Hb scope be fp) rfl rfl rfl calm i [] s5 _ Hc (fun _ _ => False) I5 (stat I5 n5) t5 stop) ?_
      rintro r s6 ⟨rfl, I6⟩
      have I7 : Inv X pins σ Hc s6 := I3.call' (ch := fp) I6.os I6.base I6.hok I6.bare fun b hb => ⟨(away b hb).1.2.2.2.1, (away b hb).1.2.1, (away b hb).1.2.2.2.2.1, (away b hb).1.2.2.2.2.2⟩
      have nC : Hc s3.heap.objs.size = none := by
        have z : Hc be.locals = none := I6.free
        rw [locs] at z
        exact z
      obtain ⟨m, hn, _⟩ := I6.loc
      have hn : s6.heap.Ns be.locals m := hn
      rw [locs] at hn
      exact last D s3.heap.objs.size s6 m Hc I7 fin hn (I3.fpOk (Nat.le_refl _) nC)
    · refine thnF (T.item (X.blk s3 Hb scope be fp) rfl rfl rfl calm i [] s5 _ Hc (fun _ _ => False) I5 (stat I5 n5) t5 go) ?_
      rintro r s6 ⟨u, rfl, h6⟩
      refine thnF h6 ?_
      rintro _ s7 ⟨x, Hx, I7, r7, y7, t7, n7⟩
      have I7' := I7.pinned (stat I7 n7) (T.obj _ _ t7)
      refine thnF (pg.run _ s7 _ Hx x u _ I7' r7 (step x Hx y7)) ?_
      rintro _ s8 ⟨σ8, H8, I8, hw8, q8⟩
      refine thnF (wpAny_tests_nil (Q := fun b s9 => b = true ∧ s9 = s8) ⟨rfl, rfl⟩) ?_
      rintro b s9 ⟨rfl, rfl⟩
      rw [if_pos rfl]
      refine thnF (pk.run _ s9 σ8 H8 _ I8 q8) ?_
      rintro z s10 ⟨y, H9, I9, ry, q, rr, L, rfl, hD9, kt, hq, hz, nx⟩
      cases ry
      have pb : PE (X.blk s3 Hb scope be fp) (.Constant (.bool true) c cp) (tC (.bl true)) := pe_bl
      refine thnF (pb.run _ s10 σ8 H9 (fun v H' => v = .bl true ∧ H' = H9) I9 ⟨rfl, rfl⟩) ?_
      rintro z2 s11 ⟨yv, H11, I11, rv, rfl, rfl⟩
      cases rv
      refine rd_dictSet (X := X.blk s3 Hb scope be fp) room I11 hD9 kt hq hz fun s12 I12 => ?_
      obtain ⟨m', hm, w'⟩ := less _ nx
      have pinned : ∀ b ∈ fp, ∀ o, s7.heap.get? b = some o → s12.heap.get? b = some o ∧ (upd H11 D (rdO X.prog X.w D (putR L rr q))) b = none := by
        intro b hb o e
        have z := I12.pin (b, o) (List.mem_append_right _ (List.mem_append_right _ (mem_pinsAt hb e)))
        exact ⟨z.1, z.2.1⟩
      have len : (wipe σ (own.map (·.2))).length = σ8.length := by rw [← hw8, wipe_length]
      refine ⟨m', hm, i + 1, _, (I12.unpinned (pins := [])).weak len (fun j v e => ?_), T.keep _ _ _ t7 fun b hb o e => (pinned b hb o e).1, fun b hb => ?_, w'⟩
      · rw [← hw8] at e
        exact (wipe_some e).1
      · obtain ⟨o, e, _⟩ := T.obj _ _ t7 b hb
        exact (pinned b hb o e).2
  exact codeAny_compStart_dict loop (T.self X.A 0 _ _ _ t4 loop)
/-- d = {rule: True for rule in rules} on one line, d a local -/
theorem ps_setDcR {i : Nat} {y : Str} {py : Pos} {kx tg iter : Expr} {c : Nat} {cp : Pos} {scope : Scope} {own : List (Str × Nat)} {pos spos : Pos} {wi : TI} {g : TG} {tk : TE} (room : X.A.units + 8 < cLine) (calm : X.calm = true) (nd : X.N.Nodup)
    (hy : X.N[i]? = some y) (hyl : X.env.scope.names.lookup y = some .local) (sw : swapsWith (.DictComp kx (.Constant (.bool true) c cp) [⟨tg, iter, [], 0⟩] scope pos) (some (.Name y py)) spos.line X.env = pure true)
    (hi : PI X tg iter wi) (ok : BlkOk X.N X.env.scope scope own)
    (hg : ∀ (s : Shared) (H : Hp) (C : Addr) (cl : List (Str × Addr)) (fp : List Addr), PG (X.blk s H scope (compEnvC scope cl C X.env) fp) tg g)
    (hk : ∀ (s : Shared) (H : Hp) (C : Addr) (cl : List (Str × Addr)) (fp : List Addr), PE (X.blk s H scope (compEnvC scope cl C X.env) fp) kx tk)
    (plain : ∀ x, foldedSetIterable iter X.env x = pure x := by intro _; rfl) :
    PS X (.Assign [.Name y py] (.DictComp kx (.Constant (.bool true) c cp) [⟨tg, iter, [], 0⟩] scope pos) spos) (tAsg (tDcR X.prog X.w wi g tk (own.map (·.2))) (gName i)) := by
  refine ⟨fun pins s σ H D I h => ?_⟩
  rw [exec_Assign_Name_used _ _ _ _ sw]
  refine wpAny_bind (wpAny_standAt (wpAny_bind ?_))
  show wpAny _ X.A (do
    let _ ← comprehension (.DictComp kx (.Constant (.bool true) c cp) [⟨tg, iter, [], 0⟩] scope pos) scope X.env (firstIterPos [⟨tg, iter, [], 0⟩] pos) newDict false (eval iter X.env) (some (assign (.Name y py) X.env))) _ _ s
  have h' : tDcR X.prog X.w wi g tk (own.map (·.2)) σ H (fun x H1 => gName i x σ H1 D.nx) := h
  refine wpAny_bind (thn (dcR_core (Qf := fun _ s' => SP X pins D .next s') room calm nd I hi ok hg hk plain h' ?_) fun _ s' hq => wpAny_pure (wpAny_pure hq))
  intro L C s' m H' I' q hn fo
  show wpAny _ _ (assign (.Name y py) X.env (.ref L)) _ _ _
  obtain ⟨f0, f1, f2, f3, f4, f5⟩ := fo
  refine wpAny_assign_Name (store_ok2 (v := V.ref L) I' nd hy (.inl hyl) rfl (fun s2 I2 => ?_) (.inr hyl))
  rintro ⟨a, sb, ha⟩
  have apart : C ≠ a := by
    rcases ha with z | z
    · rw [z]
      exact f1
    · exact fun e => f4 y a z e.symm
  refine ⟨m, hn.sameBut sb apart, fun h3 sb3 => ⟨_, H', ?_, q⟩⟩
  exact I2.turned (t' := s2.toks) (fun b o hb e => (sb3.2 b hb).trans e) f0 f1 f3 f4 f5
theorem sw_dict {kx vx : Expr} {gs : List Comprehension} {scope : Scope} {pos py : Pos} {y : Str} {l : Nat} {env : Env} (hk : env.scope.kind = .function) (hy : env.scope.names.lookup y = some .local) (hl : (py.line == pos.line) = true)
    (ha : (scope.names.any fun (n, k) => n == y && (k == .local || k == .cell)) = false) : swapsWith (.DictComp kx vx gs scope pos) (some (.Name y py)) l env = pure true := by
  have ky : env.kindOf y = some .local := hy
  have kb : env.blockKind = .function := by
    unfold Env.blockKind
    rw [hk]
    rfl
  unfold swapsWith
  simp only [kb, ky, ha, Expr.pos, hl]
  rfl
/-- over a list of rules that stays: in the end D holds each of them once, in the order of their first coming -/
def putAll (rs : List (Rule × Addr)) (L : List (Rule × Addr)) : List (Rule × Addr) := rs.foldl (fun L p => putR L p.1 p.2) L
theorem dcR_list {P : Program} {w : World} {K : PySem.W.Frag} {a : Addr} {rs : List (Rule × Addr)} {i : Nat} {σ : L2.St} {vs : List Nat} {H1 : Hp} {D : Addr} {Qd : Hp → Prop} (hD : H1 D = none) (hl : SqL K H1 a (rs.map fun p => V.ref p.2)) (hk : KeyTups H1 rs) (hz : rs.length < sizeLine)
    (hi : i < (wipe σ vs).length) (hv : ∀ v, wipe ((wipe σ vs).set i (some v)) vs = wipe σ vs) (hd : Qd (upd H1 D (rdO P w D (putAll rs [])))) :
    ∃ W : Nat → Nat → Hp → Prop, (∃ m, W 0 m (upd H1 D (rdO P w D []))) ∧ ∀ j m Hj, W j m Hj →
      ((Itl K a).stop j Hj ∧ Qd Hj) ∨ ((Itl K a).go j Hj ∧ ∃ Nx : Hp → Prop, (∀ Hn, Nx Hn → ∃ m', m' < m ∧ W (j + 1) m' Hn) ∧
        ∀ x Hx, (Itl K a).yld j Hj x Hx → gName i x (wipe σ vs) Hx fun σ2 H2 => wipe σ2 vs = wipe σ vs ∧
          tVar i σ2 H2 fun y H3 => ∃ (q : Addr) (r : Rule) (L : List (Rule × Addr)), y = .ref q ∧ H3 D = some (rdO P w D L) ∧ KeyTups H3 L ∧ H3 q = some (.tup (ruleV r)) ∧ L.length < sizeLine ∧ Nx (upd H3 D (rdO P w D (putR L r q)))) := by
  have keepT : ∀ L : List (Rule × Addr), ∀ b xs, H1 b = some (.tup xs) → upd H1 D (rdO P w D L) b = some (.tup xs) := fun L b xs e => by
    rw [upd_ne (ne_of_none e hD)]
    exact e
  have keepL : ∀ L : List (Rule × Addr), SqL K (upd H1 D (rdO P w D L)) a (rs.map fun p => V.ref p.2) := fun L => by
    have sm : Same H1 (upd H1 D (rdO P w D L)) := same_new hD
    exact sm.seq hl
  have memP : ∀ (rs' L : List (Rule × Addr)), (∀ p ∈ rs', H1 p.2 = some (.tup (ruleV p.1))) → KeyTups H1 L → KeyTups H1 (putAll rs' L) := by
    intro rs'
    induction rs' with
    | nil => exact fun L _ k => k
    | cons p r ih => exact fun L h k => ih _ (fun z hz => h z (List.mem_cons_of_mem _ hz)) (k.put (h p (List.mem_cons_self ..)))
  have lenP : ∀ (rs' L : List (Rule × Addr)), (putAll rs' L).length ≤ L.length + rs'.length := by
    intro rs'
    induction rs' with
    | nil => exact fun L => Nat.le_refl _
    | cons p r ih =>
      intro L
      have h1 := ih (putR L p.1 p.2)
      have h2 := @putR_len L p.1 p.2
      show (putAll r (putR L p.1 p.2)).length ≤ L.length + (r.length + 1)
      omega
  refine ⟨fun j m Hj => m = rs.length - j ∧ j ≤ rs.length ∧ Hj = upd H1 D (rdO P w D (putAll (rs.take j) [])), ⟨rs.length, by simp, Nat.zero_le _, rfl⟩, ?_⟩
  rintro j m Hj ⟨rfl, hj, rfl⟩
  by_cases lt : j < rs.length
  · refine .inr ⟨⟨_, .ref rs[j].2, keepL _, by rw [List.getElem?_map, List.getElem?_eq_getElem lt]; rfl⟩, fun Hn => Hn = upd H1 D (rdO P w D (putAll (rs.take (j + 1)) [])), fun Hn e => ⟨rs.length - (j + 1), by omega, rfl, lt, e⟩, ?_⟩
    rintro x Hx ⟨rfl, y⟩
    have ex := y _ (keepL _)
    rw [List.getElem?_map, List.getElem?_eq_getElem lt] at ex
    have ex' : V.ref rs[j].2 = x := Option.some.inj ex
    subst ex'
    refine ⟨hv _, .ref rs[j].2, ?_, rs[j].2, rs[j].1, putAll (rs.take j) [], rfl, upd_same, ?_, ?_, ?_, ?_⟩
    · rw [List.getElem?_set_self hi]
    · exact (memP _ _ (fun p hp => hk p (List.mem_of_mem_take hp)) (fun p hp => absurd hp (List.not_mem_nil))).same (keepT _)
    · exact keepT _ _ _ (hk _ (List.getElem_mem lt))
    · have h1 := lenP (rs.take j) []
      have h2 : (rs.take j).length ≤ rs.length := by
        rw [List.length_take]
        omega
      simp only [List.length_nil] at h1
      omega
    · have e1 : rs.take (j + 1) = rs.take j ++ [rs[j]] := by
        rw [List.take_add_one, List.getElem?_eq_getElem lt]
        rfl
      rw [upd_upd, e1]
      unfold putAll
      rw [List.foldl_append]
      rfl
  · have e : j = rs.length := by omega
    subst e
    refine .inl ⟨⟨_, keepL _, by rw [List.length_map]; exact Nat.le_refl _⟩, ?_⟩
    rw [List.take_length]
    exact hd
end
end Wnd

/-! Windowsteps: sorted(rules, key=f), f a def of the text; sorted of pairs of a key and a rule. -/
namespace Wnd
open PySem PySem.Spec PyProof.Rows L2

def endS (e : Option Str) : Str := e.getD ⟨#[]⟩
/-- the key that orders rules: None ahead of all names -/
def rankV (r : Rule) : List V := [.str (endS r.low), .str (endS r.high), .int r.gap]
def rankD (r : Rule) : PyData := .tuple [.str (endS r.low), .str (endS r.high), .int r.gap]
/-- its texts are no longer than a line of the store -/
def Short (r : Rule) : Prop := (∀ t : Str, r.low = some t → t.length ≤ sizeLine) ∧ ∀ t : Str, r.high = some t → t.length ≤ sizeLine
def spRank : Sp := fun vs H Q _ => ∃ (q : Addr) (r : Rule), vs = [.ref q] ∧ H q = some (.tup (ruleV r)) ∧ Short r ∧ ∀ t, H t = none → Q (.ref t) (upd H t (.tup (rankV r)))
/-- the rules in ascending order (each with its address) -/
def inOrder (L : List (Rule × Addr)) : List (Rule × Addr) := L.mergeSort (W.dataLe false fun p => rankD p.1)

section
variable {P : Program} {w : World} {H : Hp} {h : Heap}
theorem rank_reads {t : Addr} {r : Rule} (ok : HOk P w H h) (e : H t = some (.tup (rankV r))) : Reads h (.ref t) (rankD r) [] := by
  obtain ⟨_, its, rel, o, h1, h2, n, h3⟩ := (show ObjOk P w H h t (.tup (rankV r)) from ok t _ e)
  cases rel with
  | cons r1 t1 =>
    cases t1 with
    | cons r2 t2 =>
      cases t2 with
      | cons r3 t3 =>
        cases t3
        obtain ⟨a, rfl⟩ := r1
        obtain ⟨b, rfl⟩ := r2
        obtain ⟨c, rfl⟩ := r3
        refine Reads.tuple (as := []) h1 h2 h3 ?_
        rw [List.toList_toArray]
        exact ReadsAll.cons (.str _ _) (ReadsAll.cons (.str _ _) (ReadsAll.cons (.int _ _) .nil))
end
theorem rank_alike (L : List (Rule × Addr)) : W.AllAlike (L.map fun p => rankD p.1) := W.AllAlike.of fun _ _ => by simp [W.alike, W.alikeAll, rankD]
theorem rank_sortable (L : List (Rule × Addr)) : W.Sortable (L.map fun p => rankD p.1) := W.Sortable.tuples fun _ => ⟨_, _, rfl⟩
theorem rank_depth (r : Rule) : (rankD r).depth = 1 := by simp [rankD, PyData.depth, PyData.depthAll]

section
variable {X : Cx}
/-- sorted(d, key=f): d a dict of rules -/
def rSortRank (P : Program) (w : World) (f : Addr) : List V → List V → Hp → VK → Prop := fun vs zs H Q => ∃ (d : Addr) (L : List (Rule × Addr)), vs = [.ref d] ∧ zs = [.ref f] ∧ H d = some (rdO P w d L) ∧ KeyTups H L ∧ (∀ p ∈ L, Short p.1) ∧ L.length < 1000000 ∧
  ∀ p H', Same H H' → H p = none → H' p = some (.lst ((inOrder L).map fun x => V.ref x.2)) → Q (.ref p) H'
/-- what stands while the keys are asked for -/
structure Asked (X : Cx) (pins : List (Addr × Obj)) (σ : L2.St) (H : Hp) (L : List (Rule × Addr)) (a kS : Addr) (e1 j : Nat) (s : Shared) : Prop where
  ex : ∃ (Hc : Hp) (kA : Array Value) (e : Nat), Inv X pins σ Hc s ∧ Same H Hc ∧ FpOk X pins Hc a ∧ FpOk X pins Hc kS ∧ s.heap.get? a = some (seqObj "list" #[] e1) ∧ s.heap.get? kS = some (seqObj "list" kA e) ∧
    W.EachIs (fun v (x : Rule × Addr) => ∃ t, v = Value.ref t ∧ Hc t = some (.tup (rankV x.1))) kA.toList (L.take j)

theorem ask_key {pins : List (Addr × Obj)} {σ : L2.St} {H : Hp} {s : Shared} {A : Around} {f a kS : Addr} {fd : FuncData} {k e1 j : Nat} {L : List (Rule × Addr)} {E : Value → Shared → Prop} (F : FnOk X.prog X.w X.K X.mg X.base CX0 k f fd ["rule"] spRank) (hb : Binds X.K fd ["rule"] []) (hr : Room k A) (fr : A.frames = X.A.frames)
    (kt : KeyTups H L) (sh : ∀ p ∈ L, Short p.1) (ne : kS ≠ a) (lt : j < L.length) (st : Asked X pins σ H L a kS e1 j s) :
    wpAny (model X.prog X.w) A (call (.ref f) [.ref L[j].2]) (fun u s' => ∃ (Hc : Hp) (kA : Array Value) (e : Nat) (t : Addr), u = .ref t ∧ Inv X pins σ Hc s' ∧ Same H Hc ∧ FpOk X pins Hc a ∧ FpOk X pins Hc kS ∧ s'.heap.get? a = some (seqObj "list" #[] e1) ∧
      s'.heap.get? kS = some (seqObj "list" kA e) ∧ Hc t = some (.tup (rankV L[j].1)) ∧ W.EachIs (fun v (x : Rule × Addr) => ∃ t, v = Value.ref t ∧ Hc t = some (.tup (rankV x.1))) kA.toList (L.take j)) E s := by
  obtain ⟨Hc, kA, e, I, sm, fa, fk, ha, hk, ks⟩ := st.ex
  have hq : Hc L[j].2 = some (.tup (ruleV L[j].1)) := sm _ _ (kt _ (List.getElem_mem lt))
  have both : ∀ b ∈ [a, kS], FpOk X pins Hc b := by
    intro b hb
    rcases List.mem_cons.mp hb with z | hb
    · rw [z]
      exact fa
    · rw [List.mem_singleton.mp hb]
      exact fk
  have stand : ∀ b ∈ [a, kS], ∃ o, s.heap.get? b = some o ∧ ∀ v, o.data ≠ .cell v := by
    intro b hb
    rcases List.mem_cons.mp hb with z | hb
    · rw [z]
      exact ⟨_, ha, fun v z => nomatch z⟩
    · rw [List.mem_singleton.mp hb]
      exact ⟨_, hk, fun v z => nomatch z⟩
  have Ip := I.pinned both stand
  have env : Env0 X.prog X.w X.K X.mg X.base A X.stack s Hc := by
    have z := I.env0
    exact ⟨fr.trans z.frames, z.mod, z.bs, z.bsz, z.funs, z.frf, z.hok, z.bare⟩
  refine wpAny_call (codeAny_mono (F.run A X.stack s Hc ⟨[.ref L[j].2], []⟩ [.ref L[j].2] [.ref L[j].2] (fun v H' => ∃ t, v = .ref t ∧ Hc t = none ∧ H' = upd Hc t (.tup (rankV L[j].1))) (fun _ _ _ => False) hr env
    (by have z := hb s [.ref L[j].2] I.kIn rfl; rwa [List.append_nil] at z) (.cons rfl .nil) ⟨_, _, rfl, hq, sh _ (List.getElem_mem lt), fun t ht => ⟨t, rfl, ht, rfl⟩⟩) fun r s' hr' => ?_)
  cases r with
  | error e => exact hr'.elim
  | ok fl =>
    cases fl with
    | next => exact False.elim hr'
    | brk => exact False.elim hr'
    | cont => exact False.elim hr'
    | ret u =>
      obtain ⟨v, H', I', rv, t, rfl, ht, rfl⟩ := Ip.after hr'
      cases rv
      have pa := I'.pin (a, seqObj "list" #[] e1) (List.mem_append_right _ (List.mem_append_right _ (mem_pinsAt (by simp) ha)))
      have pk := I'.pin (kS, seqObj "list" kA e) (List.mem_append_right _ (List.mem_append_right _ (mem_pinsAt (by simp) hk)))
      have s2 : Same Hc (upd Hc t (.tup (rankV L[j].1))) := same_new ht
      refine ⟨_, kA, e, t, rfl, I'.unpinned, sm.trans s2, ⟨pa.2.1, fa.2⟩, ⟨pk.2.1, fk.2⟩, pa.1, pk.1, upd_same, ks.mono fun v x => ?_⟩
      rintro ⟨t', rfl, ht'⟩
      exact ⟨t', rfl, s2 _ _ ht'⟩
theorem each_refs : ∀ L : List (Rule × Addr), W.EachIs (fun v (x : Rule × Addr) => v = Value.ref x.2) (L.map fun x => Value.ref x.2) L
  | [] => .nil
  | _ :: r => .cons rfl (each_refs r)
theorem each_refs_eq : ∀ {vs : List Value} {L : List (Rule × Addr)}, W.EachIs (fun v (x : Rule × Addr) => v = Value.ref x.2) vs L → vs = L.map fun x => Value.ref x.2
  | _, _, .nil => rfl
  | _, _, .cons h t => by
    rw [List.map_cons, h, each_refs_eq t]
theorem vals_addrs : ∀ L : List (Rule × Addr), Vals (L.map fun x => V.ref x.2) (L.map fun x => Value.ref x.2)
  | [] => .nil
  | _ :: r => .cons rfl (vals_addrs r)
theorem ask_keys {pins : List (Addr × Obj)} {σ : L2.St} {H : Hp} {s : Shared} {A : Around} {f a kS : Addr} {fd : FuncData} {k e1 : Nat} {L : List (Rule × Addr)} {E : Value → Shared → Prop} {R : PySem.Fin → Shared → Prop}
    (F : FnOk X.prog X.w X.K X.mg X.base CX0 k f fd ["rule"] spRank) (hb : Binds X.K fd ["rule"] []) (hr : Room k A) (fr : A.frames = X.A.frames)
    (kt : KeyTups H L) (sh : ∀ p ∈ L, Short p.1) (ne : kS ≠ a) (sz : L.length < 1000000) (st : Asked X pins σ H L a kS e1 0 s) (hu : A.units + 8 < cLine)
    (h : ∀ s' Hc (vs : List Value), Inv X pins σ Hc s' → Same H Hc → Hc a = none → vs.length = L.length → W.EachIs (fun v (x : Rule × Addr) => v = Value.ref x.2) vs (inOrder L) → (∃ c, s'.heap.get? a = some (seqObj "list" vs.toArray c)) → FpOk X pins Hc a → R (.done (.ret .none)) s') :
    wpAny (model X.prog X.w) A (ksk_rest a (.ref f) false (L.map fun x => Value.ref x.2).toArray e1 (.ref kS)) R E s := by
  unfold ksk_rest
  refine wpAny_bind (wpAny_rule ?_)
  rw [List.forIn_toArray]
  refine wpAny_bind (ksk_fold (fun j s' => Asked X pins σ H L a kS e1 j s') (L.map fun x => Value.ref x.2) 0 s st ?turn ?last)
  case turn =>
    intro j x s' hx st'
    rw [Nat.zero_add] at st' ⊢
    have lt : j < L.length := by
      have q := (List.getElem?_eq_some_iff.mp hx).1
      rwa [List.length_map] at q
    have ex : x = Value.ref L[j].2 := by
      rw [List.getElem?_map, List.getElem?_eq_getElem lt] at hx
      exact (Option.some.inj hx).symm
    subst ex
    refine wpAny_bind (wpAny_attempt (wpAny_mono (ask_key F hb hr fr kt sh ne lt st') ?_ fun _ _ z => z))
    rintro u s2 ⟨Hc, kA, e, t, rfl, I, sm, fa, fk, ha, hk, ht, ks⟩
    have len : kA.size ≤ 1000000 := by
      have q := ks.length
      rw [Array.length_toList, List.length_take] at q
      omega
    have sb := Heap.SameBut.update s2.heap kS (Obj.mapSeq (·.push (Value.ref t)))
    obtain ⟨c2, hc2⟩ : ∃ c2, (s2.heap.update kS (Obj.mapSeq (·.push (Value.ref t)))).get? kS = some (seqObj "list" (kA.push (Value.ref t)) c2) := ⟨_, get?_update_seq hk (·.push (Value.ref t))⟩
    refine wpAny_bind (listUpdate_at hk rfl ?_ (by rw [sizeLine_eq]; omega) (by rw [Array.size_push, sizeLine_eq]; omega))
    refine wpAny_pure ⟨rfl, ⟨Hc, kA.push (Value.ref t), c2, ?_, sm, fa, fk, (sb.2 a ne.symm).trans ha, hc2, ?_⟩⟩
    · obtain ⟨f0, f1, f2, f3, f4, f5⟩ := fk
      exact I.turned (t' := s2.toks) (fun b o hb e => (sb.2 b hb).trans e) f0 f1 f3 f4 f5
    · have e1 : L.take (j + 1) = L.take j ++ [L[j]] := by
        rw [List.take_add_one, List.getElem?_eq_getElem lt]
        rfl
      have e2 : (kA.push (Value.ref t)).toList = kA.toList ++ [Value.ref t] := by simp
      rw [e1, e2]
      exact W.each_snoc ⟨t, rfl, ht⟩ ks
  case last =>
    intro s' st'
    rw [Nat.zero_add, List.length_map] at st'
    obtain ⟨Hc, kA, e, I, sm, fa, fk, ha, hk, ks⟩ := st'.ex
    rw [List.take_length] at ks
    have sz1 : kA.size = L.length := by
      have q := ks.length
      rwa [Array.length_toList] at q
    refine wpAny_bind (listItems_at hk rfl ?_)
    obtain ⟨G, g1, g2⟩ := restrict s'.heap fun b => decide (b ≠ kS)
    have gk : G.get? kS = none := g2 kS (decide_eq_false fun z => z rfl)
    have kp : W.KeepsBut a G s'.heap := fun b o _ e => by
      by_cases hb : b = kS
      · rw [hb, gk] at e
        cases e
      · rw [← g1 b (decide_eq_true hb)]
        exact e
    have rd : W.EachIs (fun v (x : Rule × Addr) => ∃ as, Reads s'.heap v (rankD x.1) as) kA.toList L := ks.mono fun v x => by
      rintro ⟨t, rfl, ht⟩
      exact ⟨[], rank_reads I.hok ht⟩
    have rd' : W.EachIs (fun v d => ∃ as, Reads s'.heap v d as) kA.toList (L.map fun p => rankD p.1) := W.each_map (R := fun v d => ∃ as, Reads s'.heap v d as) (fun p : Rule × Addr => rankD p.1) rd
    have so : W.SortsAt X.prog X.w A s' (W.dataKind s'.heap (L.map fun p => rankD p.1)) kA.toList := W.SortsAt.data rd' (rank_alike L) (rank_sortable L) (by
      intro d hd
      obtain ⟨p, _, rfl⟩ := List.mem_map.mp hd
      rw [rank_depth]
      omega)
    have vl : (L.map fun x => Value.ref x.2).length = L.length := List.length_map ..
    refine W.keyH_end (vs := L.map fun x => Value.ref x.2) kp gk hk ha ne so (by rw [sz1, vl]) (by rw [vl, sizeLine_eq]; omega) fun h' tk c kh hn => ?_
    have ko : W.KeyedOut false (L.map fun p => rankD p.1) (L.map fun x => Value.ref x.2) (W.sortVals (W.dataKind s'.heap (L.map fun p => rankD p.1)) false kA.toList (L.map fun x => Value.ref x.2)) := ⟨_, _, rank_alike L, rfl, rd'⟩
    have e0 : W.EachIs (fun v (x : Rule × Addr) => v = Value.ref x.2) (L.map fun x => Value.ref x.2) L := each_refs L
    have I2 : Inv X pins σ Hc { s' with heap := h', toks := tk } := by
      refine I.turnedL (ch := [a, kS]) (fun b o hb e => ?_) (fun b hb => ?_)
      · have n1 : b ≠ a := fun z => hb (by rw [z]; simp)
        have n2 : b ≠ kS := fun z => hb (by rw [z]; simp)
        exact kh b o n1 ((g1 b (decide_eq_true n2)).trans e)
      · rcases List.mem_cons.mp hb with z | hb
        · rw [z]
          exact fa
        · rw [List.mem_singleton.mp hb]
          exact fk
    exact h _ Hc _ I2 sm fa.1 (by rw [ko.length (by rw [List.length_map, vl]), vl]) (W.keyedOut_each (fun p : Rule × Addr => rankD p.1) ko e0) ⟨c, hn⟩ fa
theorem inOrder_len (L : List (Rule × Addr)) : (inOrder L).length = L.length := List.length_mergeSort _
/-- sorted(d, key=f), d a dict of rules, f a def of the text that gives the ranks -/
theorem cr_sortedRank {f : Addr} {fd : FuncData} {k : Nat} (F : FnOk X.prog X.w X.K X.mg X.base CX0 k f fd ["rule"] spRank) (hb : Binds X.K fd ["rule"] []) (hr : Room (k + 2) X.A) (calm : X.calm = true) :
    CallRK X (.builtin "sorted") [Str.ofString "key"] (rSortRank X.prog X.w f) := by
  intro pins s σ H xs zs us ws Q I rx rz h
  obtain ⟨d, L, rfl, rfl, hd, kt, sh, sz, q⟩ := h
  obtain ⟨u, rfl, ru⟩ := rx.one
  cases ru
  obtain ⟨z, rfl, rw'⟩ := rz.one
  cases rw'
  have R := rd_at I.hok hd
  obtain ⟨o, es, ep, ho, hx, hdt, hes⟩ := R.raw
  have len : es.size = L.length := by
    rw [size_of_entries hes]
    unfold rdX
    rw [List.length_map]
  have r1 : Room (k + 1) X.A.in1 := hr.in1
  have r2 : Room k X.A.in1.in1 := r1.in1
  show wpAny _ _ (call (.builtin "sorted") [.ref d] [(Str.ofString "key", .ref f)]) _ _ s
  refine PyProof.Rows.call_function_entry_kw PyProof.Rows.kind_sorted PyProof.Rows.plain_sorted PyProof.Rows.entry_sorted (PyProof.Rows.ksk_s1 _ _) ?_
  unfold Builtin.«sorted»
  refine wpAny_bind (m := checkCount "sorted" 1 1 _) (wpAny_pure ?_)
  refine wpAny_bind (W.kdu_collect (A := X.A.in1) (KdlSrc.rawDict (es := es) (ep := ep) R.lo) (I.ok.hd calm) ⟨o, ho, hx, hdt⟩ (by rw [len, sizeLine_eq]; omega) ?_)
  intro h1 tk1 acc kp1 it
  have eacc : acc.toList = L.map fun x => Value.ref x.2 := by
    apply List.ext_getElem?
    intro j
    have l1 : acc.toList.length = L.length := by rw [Array.length_toList, it.1, len]
    by_cases hj : j < L.length
    · have hv : acc.toList[j]? = some acc.toList[j] := List.getElem?_eq_getElem (by omega)
      obtain ⟨hi, e⟩ := it.2 j acc.toList[j] (by rw [← Array.getElem?_toList]; exact hv)
      have q1 := entry_at hes j
      rw [Array.getElem?_eq_getElem hi] at q1
      unfold rdX at q1
      rw [List.getElem?_map, List.getElem?_eq_getElem hj] at q1
      have q2 : es[j] = entryOfKey (nestedKind X.prog X.w) (ruleK L[j].1, L[j].2, Value.bool true) := Option.some.inj q1
      rw [hv, e, q2, List.getElem?_map, List.getElem?_eq_getElem hj]
      rfl
    · rw [List.getElem?_eq_none (by omega), List.getElem?_eq_none (by rw [List.length_map]; omega)]
  rw [eacc]
  have vl : (L.map fun x => Value.ref x.2).length = L.length := List.length_map ..
  refine wpAny_bind (wpAny_newList ?_ (by rw [vl, sizeLine_eq]; omega))
  generalize ea : h1.objs.size = a
  have I1 : Inv X pins σ H { s with heap := h1, toks := tk1 } := I.kept kp1
  have ha0 : (h1.push (seqObj "list" (L.map fun x => Value.ref x.2).toArray 0)).get? a = some (seqObj "list" (L.map fun x => Value.ref x.2).toArray 0) := by
    rw [← ea]
    exact Heap.get?_push_size _ rfl
  refine wpAny_bind (wpAny_holding (PyProof.Rows.wpAny_call_entry_kw PyProof.Rows.slot_list_sort ⟨_, ha0, rfl⟩ PyProof.Rows.entry_list_sort ?_ (PyProof.Rows.ksk_l1 _ _)))
  rw [ksk_t1]
  unfold ksk_tree
  obtain ⟨e1, ha1⟩ : ∃ e1, ((h1.push (seqObj "list" (L.map fun x => Value.ref x.2).toArray 0)).update a (Obj.mapSeq fun _ => (#[] : Array Value))).get? a = some (seqObj "list" #[] e1) := ⟨_, get?_update_seq ha0 fun _ => #[]⟩
  have sb := Heap.SameBut.update (h1.push (seqObj "list" (L.map fun x => Value.ref x.2).toArray 0)) a (Obj.mapSeq fun _ => (#[] : Array Value))
  generalize eh2 : ((h1.push (seqObj "list" (L.map fun x => Value.ref x.2).toArray 0)).update a (Obj.mapSeq fun _ => (#[] : Array Value))) = h2 at ha1 sb
  have kp2 : ∀ b u, s.heap.get? b = some u → h2.get? b = some u := by
    intro b u e
    have lt := Heap.lt_size (kp1 b u e)
    exact (sb.2 b (Nat.ne_of_lt (by rw [← ea]; exact lt))).trans (Heap.get?_push_of_some _ (kp1 b u e))
  refine wpAny_bind (listItems_at ha0 rfl ?_)
  refine wpAny_bind (listUpdate_at ha0 rfl ?_ (by rw [List.size_toArray, vl, sizeLine_eq]; omega) (Nat.zero_le _))
  simp only [eh2]
  refine wpAny_bind (seqEpoch_at ha1 rfl ?_)
  refine wpAny_bind (wpAny_newTuple ?_ (by show (L.map fun x => Value.ref x.2).length ≤ _; rw [vl, sizeLine_eq]; omega))
  refine wpAny_bind (wpAny_newList ?_ (Nat.zero_le _))
  refine wpAny_holding ?_
  have kp4 : ∀ b u, s.heap.get? b = some u → ((h2.push (seqObj "tuple" (L.map fun x => Value.ref x.2).toArray 0)).push (seqObj "list" #[] 0)).get? b = some u := fun b u e =>
    Heap.get?_push_of_some _ (Heap.get?_push_of_some _ (kp2 b u e))
  have I4 : Inv X pins σ H { s with heap := (h2.push (seqObj "tuple" (L.map fun x => Value.ref x.2).toArray 0)).push (seqObj "list" #[] 0), toks := tk1 } := I.kept kp4
  have lt2 : a < h2.objs.size := Heap.lt_size ha1
  have s2 : (h2.push (seqObj "tuple" (L.map fun x => Value.ref x.2).toArray 0)).objs.size = h2.objs.size + 1 := size_push' ..
  have nH : H a = none := I1.hok.fresh (Nat.le_of_eq ea)
  have fa : FpOk X pins H a := I1.fpOk (Nat.le_of_eq ea) nH
  have I3 : Inv X pins σ H { s with heap := h2.push (seqObj "tuple" (L.map fun x => Value.ref x.2).toArray 0), toks := tk1 } := I.kept fun b u e => Heap.get?_push_of_some _ (kp2 b u e)
  have fk : FpOk X pins H (h2.push (seqObj "tuple" (L.map fun x => Value.ref x.2).toArray 0)).objs.size := I3.fpOk (Nat.le_refl _) (I3.hok.fresh (Nat.le_refl _))
  refine ask_keys (H := H) (L := L) (k := k) (σ := σ) (pins := pins) F hb r2 rfl kt sh (Nat.ne_of_gt (by rw [s2]; exact Nat.lt_succ_of_lt lt2)) sz ⟨⟨H, #[], 0, I4, Same.refl H, fa, fk, Heap.get?_push_of_some _ (Heap.get?_push_of_some _ ha1), Heap.get?_push_size _ rfl, .nil⟩⟩ (by have := r2.units; omega) ?_
  intro s' Hc vs Ic sm na vlen ev ⟨c, hac⟩ fac
  refine ⟨.none, rfl, wpAny_pure ⟨_, rfl, ?_⟩⟩
  have evs : vs = (inOrder L).map fun x => Value.ref x.2 := each_refs_eq ev
  subst evs
  -- the list is tracked from here on
  obtain ⟨G, g1, g2⟩ := restrict s'.heap fun b => decide (b ≠ a)
  have ga : G.get? a = none := g2 a (decide_eq_false fun z => z rfl)
  have gk : ∀ b u, G.get? b = some u → s'.heap.get? b = some u := by
    intro b u e
    by_cases hb : b = a
    · rw [hb, ga] at e
      cases e
    · rw [← g1 b (decide_eq_true hb)]
      exact e
  have Ig : Inv X pins σ Hc { s' with heap := G } := by
    obtain ⟨f0, f1, f2, f3, f4, f5⟩ := fac
    exact Ic.turned (t' := s'.toks) (fun b o hb e => (g1 b (decide_eq_true hb)).trans e) f0 f1 f3 f4 f5
  have Il : Inv X pins σ (upd Hc a (.lst ((inOrder L).map fun x => V.ref x.2))) s' := by
    refine Ig.laidN (h' := s'.heap) (t' := s'.toks) gk ga na ⟨?_, _, c, vals_addrs _, hac⟩
    rw [List.length_map, inOrder_len, sizeLine_eq]
    omega
  exact ⟨.ref a, _, Il, rfl, q a _ (fun b u e => by rw [upd_ne (fun z => by rw [z, nH] at e; cases e)]; exact sm b u e) nH upd_same⟩
end
end Wnd

/-! Windowsteps: sorted of pairs (rank, rule). -/
namespace Wnd
open PySem PySem.Spec PyProof.Rows L2

/-- a pair (rank, rule): its address, the rule, the rule's own address -/
abbrev Pr := Addr × Rule × Addr
def PairAt' (H : Hp) (x : Pr) : Prop := ∃ k, H x.1 = some (.tup [.ref k, .ref x.2.2]) ∧ H k = some (.tup (rankV x.2.1)) ∧ H x.2.2 = some (.tup (ruleV x.2.1))
theorem PairAt'.same {H H' : Hp} {x : Pr} (p : PairAt' H x) (s : ∀ b xs, H b = some (.tup xs) → H' b = some (.tup xs)) : PairAt' H' x := by
  obtain ⟨k, a, b, c⟩ := p
  exact ⟨k, s _ _ a, s _ _ b, s _ _ c⟩
/-- no name is the empty text -/
def Named (r : Rule) : Prop := r.low ≠ some ⟨#[]⟩ ∧ r.high ≠ some ⟨#[]⟩
theorem endS_inj : ∀ {a b : Option Str}, a ≠ some ⟨#[]⟩ → b ≠ some ⟨#[]⟩ → endS a = endS b → a = b
  | none, none, _, _, _ => rfl
  | none, some y, _, h, e => absurd (congrArg some (show y = ⟨#[]⟩ from e.symm)) h
  | some x, none, h, _, e => absurd (congrArg some (show x = ⟨#[]⟩ from e)) h
  | some x, some y, _, _, e => congrArg some e
theorem eqv_rank (a b : Rule) : PyData.eqv (rankD a) (rankD b) = (endS a.low == endS b.low && (endS a.high == endS b.high && (a.gap == b.gap && true))) := by
  simp [rankD, PyData.eqv, PyData.eqvAll]
theorem rank_inj {a b : Rule} (ha : Named a) (hb : Named b) (e : PyData.eqv (rankD a) (rankD b) = true) : a = b := by
  rw [eqv_rank] at e
  simp only [Bool.and_eq_true, beq_iff_eq] at e
  obtain ⟨e1, e2, e3, _⟩ := e
  cases a with | mk l1 h1 g1 =>
  cases b with | mk l2 h2 g2 =>
  have f1 : l1 = l2 := endS_inj ha.1 hb.1 e1
  have f2 : h1 = h2 := endS_inj ha.2 hb.2 e2
  have f3 : g1 = g2 := e3
  rw [f1, f2, f3]
theorem eqv_rank_self (a : Rule) : PyData.eqv (rankD a) (rankD a) = true := by
  rw [eqv_rank]
  simp
theorem alike_rank (a b : Rule) : W.alike (rankD a) (rankD b) = true := by simp [W.alike, W.alikeAll, rankD]

noncomputable def pairKind (L : List Pr) : PyProof.Rows.KeyKind where
  toKeyOrd := listOrd itemOrd
  keyOf v := open Classical in if q : ∃ x, x ∈ L ∧ v = Value.ref x.1 then some (W.keyToks (rankD q.choose.2.1)) else none
  dflt := ([] : List (Int ⊕ List Nat))
section
variable {P : Program} {w : World} {H : Hp} {h : Heap} {L : List Pr}
theorem pair_same {x y : Pr} (hx : PairAt' H x) (hy : PairAt' H y) (nx : Named x.2.1) (ny : Named y.2.1) (e : x.1 = y.1) : x.2.1 = y.2.1 := by
  obtain ⟨k, a, b, c⟩ := hx
  obtain ⟨k', a', b', c'⟩ := hy
  rw [e, a'] at a
  injection a with a
  injection a with a
  injection a with a1 a2
  injection a2 with a2 a3
  injection a2 with a2
  rw [← a2, c'] at c
  injection c with c
  injection c with c
  unfold ruleV at c
  injection c with c1 c
  injection c with c2 c
  injection c with c3 _
  injection c3 with c3
  cases hx : x.2.1 with | mk l1 h1 g1 =>
  cases hy : y.2.1 with | mk l2 h2 g2 =>
  rw [hx, hy] at c1 c2 c3
  have f1 : l2 = l1 := endV_inj c1
  have f2 : h2 = h1 := endV_inj c2
  have f3 : g2 = g1 := c3
  rw [f1, f2, f3]
theorem pairKind_some (hp : ∀ x ∈ L, PairAt' H x) (hn : ∀ x ∈ L, Named x.2.1) {x : Pr} (hx : x ∈ L) : (pairKind L).keyOf (Value.ref x.1) = some (W.keyToks (rankD x.2.1)) := by
  have q : ∃ y, y ∈ L ∧ Value.ref x.1 = Value.ref y.1 := ⟨x, hx, rfl⟩
  have e : (pairKind L).keyOf (Value.ref x.1) = some (W.keyToks (rankD q.choose.2.1)) := by
    show (open Classical in if q : ∃ y, y ∈ L ∧ Value.ref x.1 = Value.ref y.1 then some (W.keyToks (rankD q.choose.2.1)) else none) = _
    rw [dif_pos q]
  obtain ⟨h1, h2⟩ := q.choose_spec
  injection h2 with h2
  rw [e, pair_same (hp _ h1) (hp _ hx) (hn _ h1) (hn _ hx) h2.symm]
theorem pairKind_inv {v : Value} {k : List (Int ⊕ List Nat)} (e : (pairKind L).keyOf v = some k) : ∃ x, x ∈ L ∧ v = Value.ref x.1 ∧ k = W.keyToks (rankD x.2.1) := by
  by_cases q : ∃ y, y ∈ L ∧ v = Value.ref y.1
  · have e' : (pairKind L).keyOf v = some (W.keyToks (rankD q.choose.2.1)) := by
      show (open Classical in if q : ∃ y, y ∈ L ∧ v = Value.ref y.1 then some (W.keyToks (rankD q.choose.2.1)) else none) = _
      rw [dif_pos q]
    obtain ⟨h1, h2⟩ := q.choose_spec
    rw [e'] at e
    exact ⟨_, h1, h2, (Option.some.inj e).symm⟩
  · have e' : (pairKind L).keyOf v = none := by
      show (open Classical in if q : ∃ y, y ∈ L ∧ v = Value.ref y.1 then some (W.keyToks (rankD q.choose.2.1)) else none) = _
      rw [dif_neg q]
      rfl
    rw [e'] at e
    cases e
end
section
variable {X : Cx} {pins : List (Addr × Obj)} {σ : L2.St} {H : Hp} {s : Shared} {L : List Pr} {A : Around}
theorem tup_at {P : Program} {w : World} {h : Heap} {a : Addr} {xs : List V} (ok : HOk P w H h) (e : H a = some (.tup xs)) : ∃ o its n, h.get? a = some o ∧ o.cls = .type "tuple" ∧ o.data = .seq its n ∧ Vals xs its.toList := by
  obtain ⟨_, its, rel, o, h1, h2, n, h3⟩ := (show ObjOk P w H h a (.tup xs) from ok a _ e)
  exact ⟨o, its.toArray, n, h1, h2, h3, by rw [List.toList_toArray]; exact rel⟩
theorem pair_tups {P : Program} {w : World} {h : Heap} (ok : HOk P w H h) : ∀ {L : List Pr}, (∀ x ∈ L, PairAt' H x) → ∃ fs, W.KatTups h (L.map fun x => Value.ref x.1) fs ∧ fs.length = L.length ∧ ∀ f ∈ fs, ∃ k xs, f = Value.ref k ∧ H k = some (.tup xs)
  | [], _ => ⟨[], .nil, rfl, fun f hf => nomatch hf⟩
  | x :: r, hp => by
    obtain ⟨fs, h1, h2, h3⟩ := pair_tups ok (L := r) fun y hy => hp y (List.mem_cons_of_mem _ hy)
    obtain ⟨k, a, b, c⟩ := hp x (List.mem_cons_self ..)
    obtain ⟨o, its, n, q1, q2, q3, rel⟩ := tup_at ok a
    cases hl : its.toList with
    | nil =>
      rw [hl] at rel
      cases rel
    | cons u t =>
      rw [hl] at rel
      cases rel with
      | cons r1 t1 =>
        cases r1
        refine ⟨_ :: fs, .cons q1 q2 q3 (by rw [← Array.getElem?_toList, hl]; rfl) h1, by rw [List.length_cons, List.length_cons, h2], fun f hf => ?_⟩
        rcases List.mem_cons.mp hf with rfl | hf
        · exact ⟨k, _, rfl, b⟩
        · exact h3 f hf
theorem pair_lt (ok : HOk X.prog X.w H s.heap) (hu : A.units + 8 < cLine) {x y : Pr} (hx : PairAt' H x) (hy : PairAt' H y) (nx : Named x.2.1) (ny : Named y.2.1) {E : Value → Shared → Prop} {Q : Bool → Shared → Prop} {b : Bool} (hb : b = false)
    (q : Q (PyProof.Rows.lexLt itemOrd (W.keyToks (rankD x.2.1)) (W.keyToks (rankD y.2.1))) s) : wpAny (model X.prog X.w) A (keyLt' (tuples' b) (.ref x.1) (.ref y.1)) Q E s := by
  subst hb
  obtain ⟨k, a, c, d⟩ := hx
  obtain ⟨k', a', c', d'⟩ := hy
  obtain ⟨o, its, n, q1, q2, q3, rel⟩ := tup_at ok a
  obtain ⟨o', its', n', q1', q2', q3', rel'⟩ := tup_at ok a'
  have sz : its.size = 2 := by rw [← Array.length_toList, ← rel.length]; rfl
  have sz' : its'.size = 2 := by rw [← Array.length_toList, ← rel'.length]; rfl
  refine W.kat_lt q1 q3 q1' q3' ?_
  rw [sz, sz']
  have dx := rank_depth x.2.1
  have rk := rank_reads ok c
  have rk' := rank_reads ok c'
  cases hl : its.toList with
  | nil => rw [hl] at rel; cases rel
  | cons u t =>
    rw [hl] at rel
    cases rel with
    | cons r1 t1 =>
      cases r1
      cases t1 with
      | cons r2 t2 =>
        cases r2
        cases t2
        cases hl' : its'.toList with
        | nil => rw [hl'] at rel'; cases rel'
        | cons u' t' =>
          rw [hl'] at rel'
          cases rel' with
          | cons r1' t1' =>
            cases r1'
            cases t1' with
            | cons r2' t2' =>
              cases r2'
              cases t2'
              rw [List.zip_cons_cons]
              have room : A.units + min (rankD x.2.1).depth (rankD y.2.1).depth < cLine := by rw [rank_depth, rank_depth]; show A.units + 1 < _; omega
              refine W.kat_cons (W.eqAt_alike (rankD x.2.1) (rankD y.2.1) A s _ _ _ _ rk rk' (alike_rank _ _) room X.prog X.w _ _ ?_)
              cases he : PyData.eqv (rankD x.2.1) (rankD y.2.1) with
              | true =>
                have er := rank_inj nx ny he
                refine W.kat_yes ?_
                rw [List.zip_cons_cons]
                refine W.kat_cons ?_
                have k1 : NestedIs s.heap (ruleK x.2.1) (.ref x.2.2) := (rule_is ok d).1
                have k2 : NestedIs s.heap (ruleK y.2.1) (.ref y.2.2) := (rule_is ok d').1
                have ke := eqAt_key (ruleK x.2.1) (ruleK y.2.1) A s _ _ k1 k2 (by rw [ruleK_depth, ruleK_depth]; show A.units + 1 < _; omega) X.prog X.w
                  (fun _ _ => False) (W.KatGo X.prog X.w A false (decide (2 < 2)) Q (.ref x.2.2) (.ref y.2.2) ([].zip []) (0 + 1)) ?_
                · exact ke
                · rw [er, NestedKey.beq_self]
                  refine W.kat_yes ?_
                  refine W.kat_nil ?_
                  rw [er, PyProof.Rows.lex_irrefl] at q
                  exact q
              | false =>
                refine W.kat_no (W.oneLt_alike (fun hbi t => ?_) rk rk' (alike_rank _ _) (fun z => nomatch z) room q)
                rw [Bool.and_eq_true] at hbi
                exact absurd hbi.1 Bool.false_ne_true
/-- the pairs in ascending order -/
def pairsInOrder (L : List Pr) : List Pr := L.mergeSort (W.dataLe false fun x => rankD x.2.1)
theorem pairs_sort (ok : HOk X.prog X.w H s.heap) (hu : A.units + 8 < cLine) (hp : ∀ x ∈ L, PairAt' H x) (hn : ∀ x ∈ L, Named x.2.1) : W.SortsAt X.prog X.w A s (pairKind L) (L.map fun x => Value.ref x.1) := by
  refine ⟨fun v hv => ?_, tuples' (Value.type "tuple" != Value.type "tuple"), fun E x y a b Q ha hb q => ?_, fun h2 E Q q => ?_⟩
  · obtain ⟨x, hx, rfl⟩ := List.mem_map.mp hv
    exact ⟨_, pairKind_some hp hn hx⟩
  · obtain ⟨x', hx, rfl, rfl⟩ := pairKind_inv ha
    obtain ⟨y', hy, rfl, rfl⟩ := pairKind_inv hb
    exact pair_lt ok hu (hp _ hx) (hp _ hy) (hn _ hx) (hn _ hy) (by decide) q
  · obtain ⟨fs, t1, t2, t3⟩ := pair_tups ok hp
    rw [List.length_map] at h2
    refine W.kat_kind (T := .type "tuple") t1 (by omega) (fun f hf => ?_) (beq_self_eq_true _) q
    obtain ⟨k, xs, rfl, e⟩ := t3 f hf
    obtain ⟨o, its, n, q1, q2, _⟩ := tup_at ok e
    show W.Looks _ _ (typeOf (Value.ref k)) (Value.type "tuple")
    exact q2 ▸ (W.Looks.ld q1).andThen .now
def rSortPairs (K : PySem.W.Frag) : List V → Hp → VK → Prop := fun vs H Q => ∃ (a : Addr) (L : List Pr), vs = [.ref a] ∧ SqL K H a (L.map fun x => V.ref x.1) ∧ (∀ x ∈ L, PairAt' H x) ∧ (∀ x ∈ L, Named x.2.1) ∧ L.length < 1000000 ∧
  ∀ p, H p = none → Q (.ref p) (upd H p (.lst ((pairsInOrder L).map fun x => V.ref x.1)))
theorem pairs_refs : ∀ L : List Pr, Vals (L.map fun x => V.ref x.1) (L.map fun x => Value.ref x.1)
  | [] => .nil
  | _ :: r => .cons rfl (pairs_refs r)
theorem pairs_refs_eq : ∀ {L : List Pr} {us : List Value}, Vals (L.map fun x => V.ref x.1) us → us = L.map fun x => Value.ref x.1
  | [], _, .nil => rfl
  | x :: r, _, .cons h t => by
    cases h
    rw [List.map_cons, pairs_refs_eq t]
theorem each_prs : ∀ L : List Pr, W.EachIs (fun v (x : Pr) => v = Value.ref x.1) (L.map fun x => Value.ref x.1) L
  | [] => .nil
  | _ :: r => .cons rfl (each_prs r)
theorem each_prs_eq : ∀ {vs : List Value} {L : List Pr}, W.EachIs (fun v (x : Pr) => v = Value.ref x.1) vs L → vs = L.map fun x => Value.ref x.1
  | _, _, .nil => rfl
  | _, _, .cons h t => by
    rw [List.map_cons, h, each_prs_eq t]
theorem each_keys' {L0 : List Pr} (hp : ∀ x ∈ L0, PairAt' H x) (hn : ∀ x ∈ L0, Named x.2.1) : ∀ {L : List Pr}, (∀ x ∈ L, x ∈ L0) → W.EachIs (fun v (x : Pr) => (pairKind L0).keyOf v = some (W.keyToks (rankD x.2.1))) (L.map fun x => Value.ref x.1) L
  | [], _ => .nil
  | x :: r, h => .cons (pairKind_some hp hn (h x (List.mem_cons_self ..))) (each_keys' hp hn fun y hy => h y (List.mem_cons_of_mem _ hy))
/-- sorted(ps), ps pairs of a rank and a rule -/
theorem cr_sortedPairs {k : Nat} (hr : Room k X.A) : CallR X (.builtin "sorted") (rSortPairs X.K) := by
  intro pins s σ H xs us Q I rx h
  obtain ⟨a, L, rfl, hs, hp, hn, sz, q⟩ := h
  obtain ⟨u, rfl, ru⟩ := rx.one
  cases ru
  obtain ⟨its, rel, pl, hz⟩ := I.list hs
  have hl := pl.isList
  have ei := pairs_refs_eq rel
  subst ei
  have vl : (L.map fun x => Value.ref x.1).length = L.length := List.length_map ..
  have big : ∀ b u, s.heap.get? b = some u → (W.sortingHeap (W.copyHeap s.heap (L.map fun x => Value.ref x.1)) (s.heap.objs.size + 1) (L.map fun x => Value.ref x.1)).get? b = some u := fun b u e => W.sorting_copy_old e
  have ok2 : HOk X.prog X.w H (W.sortingHeap (W.copyHeap s.heap (L.map fun x => Value.ref x.1)) (s.heap.objs.size + 1) (L.map fun x => Value.ref x.1)) := I.hok.kept big
  refine W.sorted_vals hl (pairs_sort (s := { s with heap := _ }) ok2 (by have := hr.un; show X.A.units + 1 + 1 + 8 < _; omega) hp hn) (by rw [vl, sizeLine_eq]; omega) ?_
  have e2 : W.EachIs (fun v (x : Pr) => v = Value.ref x.1) (W.sortVals (pairKind L) false (L.map fun x => Value.ref x.1) (L.map fun x => Value.ref x.1)) (pairsInOrder L) :=
    W.sortVals_each (κ := pairKind L) (fun x : Pr => W.keyToks (rankD x.2.1)) (each_prs L) (each_keys' hp hn fun y hy => hy)
  have e3 := each_prs_eq e2
  rw [e3]
  obtain ⟨ep, he⟩ := PyProof.Rows.sortedAll_at s.heap (L.map fun x => Value.ref x.1) ((pairsInOrder L).map fun x => Value.ref x.1).toArray
  have nH : H (s.heap.objs.size + 1) = none := I.hok.fresh (Nat.le_succ _)
  refine ⟨.ref _, upd H (s.heap.objs.size + 1) (.lst ((pairsInOrder L).map fun x => V.ref x.1)), I.laid (t' := s.toks) (fun _ _ => PyProof.Rows.sortedAll_old) (Nat.le_succ _) ⟨?_, _, ep, pairs_refs _, he⟩, rfl, q _ nH⟩
  have l1 : (pairsInOrder L).length = L.length := List.length_mergeSort _
  rw [List.length_map, l1, sizeLine_eq]
  omega
end
end Wnd

/-! Windowsteps: dict([(rule, True) for ..]); walks over a dict of rules. -/
namespace Wnd
open PySem PySem.Spec PyProof.Rows L2
theorem putAll_nodup : ∀ (rs L : List (Rule × Addr)), (L.map (·.1)).Nodup → ((putAll rs L).map (·.1)).Nodup
  | [], _, h => h
  | _ :: r, _, h => putAll_nodup r _ (putR_nodup h)
theorem putAll_len : ∀ (rs L : List (Rule × Addr)), (putAll rs L).length ≤ L.length + rs.length
  | [], L => Nat.le_refl _
  | p :: r, L => by
    have h1 := putAll_len r (putR L p.1 p.2)
    have h2 := @putR_len L p.1 p.2
    show (putAll r (putR L p.1 p.2)).length ≤ L.length + (r.length + 1)
    omega
theorem putAll_tups {H : Hp} : ∀ (rs L : List (Rule × Addr)), KeyTups H rs → KeyTups H L → KeyTups H (putAll rs L)
  | [], _, _, h => h
  | p :: r, _, k, h => putAll_tups r _ (fun z hz => k z (List.mem_cons_of_mem _ hz)) (h.put (k p (List.mem_cons_self ..)))
theorem storedAll_rdX : ∀ (rs L : List (Rule × Addr)), storedAllH (rdX L) (rdX rs) = rdX (putAll rs L)
  | [], L => rfl
  | p :: r, L => by
    show storedAllH (storedH (rdX L) (ruleK p.1) p.2 (Value.bool true)) (rdX r) = rdX (putAll r (putR L p.1 p.2))
    rw [storedH_rdX, storedAll_rdX r]
/-- a pair (rule, True): its address, the rule, the rule's own address -/
def TrueAt (H : Hp) (x : Pr) : Prop := H x.1 = some (.tup [.ref x.2.2, .bl true]) ∧ H x.2.2 = some (.tup (ruleV x.2.1))
def rDictT (P : Program) (w : World) (K : PySem.W.Frag) : List V → Hp → VK → Prop := fun vs H Q => ∃ (a : Addr) (L : List Pr), vs = [.ref a] ∧ SqL K H a (L.map fun x => V.ref x.1) ∧ (∀ x ∈ L, TrueAt H x) ∧ L.length < 1000000 ∧
  ∀ p, H p = none → Q (.ref p) (upd H p (rdO P w p (putAll (L.map (·.2)) [])))
section
variable {X : Cx}
theorem cr_dictT {k : Nat} (hr : Room k X.A) (calm : X.calm = true) : CallR X (.type "dict") (rDictT X.prog X.w X.K) := by
  intro pins s σ H xs us Q I rx h
  obtain ⟨a, L, rfl, hs, hp, sz, q⟩ := h
  obtain ⟨u, rfl, ru⟩ := rx.one
  cases ru
  obtain ⟨its, rel, pl, hz⟩ := I.list hs
  have ei := pairs_refs_eq rel
  subst ei
  have kt : KeyTups H (L.map (·.2)) := by
    intro p hp'
    obtain ⟨x, hx, rfl⟩ := List.mem_map.mp hp'
    exact (hp x hx).2
  have ok : PlainSeq "list" s.heap a (L.map fun x => Value.ref x.1).toArray ∧ PairItems s.heap (L.map fun x => Value.ref x.1).toArray (fun j => (L.map (·.1)).getD j 0) (L.map fun x => (Value.ref x.2.2, Value.bool true)) := by
    refine ⟨?_, by simp, fun j k v hj => ?_⟩
    · exact pl
    · rw [List.getElem?_map] at hj
      cases hx : L[j]? with
      | none =>
        rw [hx] at hj
        cases hj
      | some x =>
        rw [hx] at hj
        have e := Option.some.inj hj
        have e1 : Value.ref x.2.2 = k := congrArg Prod.fst e
        have e2 : Value.bool true = v := congrArg Prod.snd e
        subst e1 e2
        have g : (L.map (·.1)).getD j 0 = x.1 := by
          rw [List.getD_eq_getElem?_getD, List.getElem?_map, hx]
          rfl
        refine ⟨?_, .inl ?_⟩
        · show (L.map fun x => Value.ref x.1).toArray[j]? = _
          rw [List.getElem?_toArray, List.getElem?_map, hx]
          exact congrArg (fun z => some (Value.ref z)) g.symm
        · show s.heap.IsTuple ((L.map (·.1)).getD j 0) _
          rw [g]
          obtain ⟨o, its, n, q1, q2, q3, rel'⟩ := tup_at I.hok (hp x (List.mem_of_getElem? hx)).1
          have ea : its = #[.ref x.2.2, .bool true] := by
            apply Array.toList_inj.mp
            cases hl : its.toList with
            | nil => rw [hl] at rel'; cases rel'
            | cons u t =>
              rw [hl] at rel'
              cases rel' with
              | cons r1 t1 =>
                cases r1
                cases t1 with
                | cons r2 t2 =>
                  cases r2
                  cases t2
                  rfl
          subst ea
          exact ⟨o, q1, q2, n, q3⟩
  have P := PairArg.list (prog := X.prog) (w := X.w) a (L.map fun x => Value.ref x.1).toArray (fun j => (L.map (·.1)).getD j 0) (L.map fun x => (Value.ref x.2.2, Value.bool true))
  refine call_dict_pairsH (knd := nestedKind X.prog X.w) (ps := rdX (L.map (·.2))) P (I.ok.hd calm) (by have := hr.un; show X.A.units + 1 + 1 + 8 < _; omega) ok ?_ ?_ ?_ ?_
  · refine ⟨by unfold rdX; rw [List.length_map, List.length_map, List.length_map], fun i key v hr' => ?_⟩
    have hr2 : (L.map fun x => (Value.ref x.2.2, Value.bool true))[i]? = some (key, v) := hr'
    rw [List.getElem?_map] at hr2
    cases hx : L[i]? with
    | none =>
      rw [hx] at hr2
      cases hr2
    | some x =>
      rw [hx] at hr2
      have e := Option.some.inj hr2
      have e1 : Value.ref x.2.2 = key := congrArg Prod.fst e
      have e2 : Value.bool true = v := congrArg Prod.snd e
      subst e1 e2
      refine ⟨ruleK x.2.1, x.2.2, ?_, rfl⟩
      unfold rdX
      rw [List.getElem?_map, List.getElem?_map, hx]
      rfl
  · intro h' hk x hx
    obtain ⟨p, hp', rfl⟩ := List.mem_map.mp hx
    have r0 := rule_is I.hok (kt p hp')
    refine (nestedKind_stays (prog := X.prog) (w := X.w)).stays (h := s.heap) (fun b o vs n e d => hk b o (Nat.ne_of_lt (Heap.lt_size e)) (List.not_mem_nil) e) r0
  · rw [List.length_map, sizeLine_eq]
    omega
  · intro h' tk D kp
    have D2 : h'.DictOfH (nestedKind X.prog X.w) s.heap.objs.size (rdX (putAll (L.map (·.2)) [])) := by
      have e := storedAll_rdX (L.map (·.2)) []
      rw [← e]
      exact D
    have big : (s.heap.objs.size == sysModules) = false := beq_eq_false_iff_ne.mpr (Nat.ne_of_gt I.big)
    have len := putAll_len (L.map (·.2)) []
    rw [List.length_map] at len
    have len' : (putAll (L.map (·.2)) []).length ≤ L.length := by
      simpa using len
    have R : RdAt X.prog X.w h' s.heap.objs.size (putAll (L.map (·.2)) []) := RdAt.of D2 big (by rw [sizeLine_eq]; omega) (putAll_nodup _ _ List.nodup_nil)
    refine ⟨.ref _, _, I.laid (t' := tk) (fun b u e => kp b u (List.not_mem_nil) e) (Nat.le_refl _) (rdO_ok R), rfl, q _ (I.hok.fresh (Nat.le_refl _))⟩
/-- the keys of a locked dict of rules -/
def Itr' (P : Program) (w : World) (d : Addr) (o : Obj) (L : List (Rule × Addr)) : It :=
  ⟨fun i H => H d = some (.frz o (rdO P w d L)) ∧ i < L.length, fun i H x H' => H' = H ∧ ∃ p, L[i]? = some p ∧ x = .ref p.2, fun i H => H d = some (.frz o (rdO P w d L)) ∧ L.length ≤ i⟩
theorem frz_rd {pins : List (Addr × Obj)} {σ : L2.St} {H : Hp} {s : Shared} {d : Addr} {o : Obj} {L : List (Rule × Addr)} (I : Inv X pins σ H s) (h : H d = some (.frz o (rdO X.prog X.w d L))) :
    (d == sysModules) = false ∧ s.heap.get? d = some o ∧ o.ExactDict ∧ ∃ (es : Array DictEntry) (ep : Nat), o.data = .dict es ep ∧ es.size = L.length ∧ ∀ (i : Nat) (p : Rule × Addr), L[i]? = some p → ∃ en : DictEntry, es[i]? = some en ∧ en.key = .ref p.2 := by
  obtain ⟨hd, R, _⟩ := I.hok d _ h
  obtain ⟨o', es, ep, ho, hx, hdt, he⟩ := R.raw
  rw [hd] at ho
  cases ho
  refine ⟨R.lo, hd, hx, es, ep, hdt, ?_, fun i p e => ?_⟩
  · rw [size_of_entries he]
    unfold rdX
    rw [List.length_map]
  · have q := entry_at he i
    unfold rdX at q
    rw [List.getElem?_map, e] at q
    exact ⟨_, q, rfl⟩
theorem turn_rd {P : Program} {w : World} {K : PySem.W.Frag} {tg : Expr} {d : Addr} {o : Obj} {es : Array DictEntry} {ep : Nat} {L : List (Rule × Addr)} (it : Addr) (hod : o.data = .dict es ep) :
    Turn P w K tg (Itr' P w d o L) [it] it (fun i h => h.IsKeyIter it d i L.length ep) where
  mem := List.mem_cons_self ..
  obj := fun i h st b hb => by
    rw [List.mem_singleton.mp hb]
    obtain ⟨oi, e, c, dd⟩ := st
    refine ⟨oi, e, fun v z => ?_⟩
    rw [dd] at z
    cases z
  keep := fun i h h' st k => by
    obtain ⟨oi, e, r⟩ := st
    exact ⟨oi, k it (List.mem_cons_self ..) oi e, r⟩
  item := by
    intro X' hP hw hK calm i pins s σ H E I hf st go
    subst hP hw hK
    obtain ⟨f0, f1, f2, f3, f4, f5⟩ := hf it (List.mem_cons_self ..)
    obtain ⟨lo, hg, hx, es', ep', hdt, sz, ent⟩ := frz_rd I go.1
    obtain ⟨rfl, rfl⟩ := dict_ep hod hdt
    have lt : i < L.length := go.2
    obtain ⟨en, hen, hkey⟩ := ent i L[i] (List.getElem?_eq_getElem lt)
    refine next_key_item st hg hdt sz hen fun h' st' sb => ?_
    have I1 : Inv X' pins σ H { s with heap := h' } := I.turned (t' := s.toks) (fun b ob nb e => (sb.2 b nb).trans e) f0 f1 f3 f4 f5
    obtain ⟨oi, e, c, dd⟩ := id st'
    refine ⟨en.key, rfl, go_of (s := { s with heap := h' }) e c dd (by decide) ⟨.ref L[i].2, H, I1, hkey, ⟨rfl, _, List.getElem?_eq_getElem lt, rfl⟩, st', fun b hb => (hf b hb).1⟩⟩
  done := by
    intro X' hP hw hK calm i pins s σ H E I hf st stop
    subst hP hw hK
    obtain ⟨f0, f1, f2, f3, f4, f5⟩ := hf it (List.mem_cons_self ..)
    obtain ⟨lo, hg, hx, es', ep', hdt, sz, ent⟩ := frz_rd I stop.1
    obtain ⟨rfl, rfl⟩ := dict_ep hod hdt
    exact next_key_end (I.ok.hd calm) st hg hdt sz stop.2 fun h' eb => ⟨rfl, I.turned (t' := s.toks) (fun b ob nb e => eb b ob nb e) f0 f1 f3 f4 f5⟩
  self := fun A i s Q E st h => by
    refine wpAny_pyIter_slot st.typeIs F.slot_dict_keyiterator_iter (wpAny_call_entry F.slot_dict_keyiterator_iter st.typeIs F.entry_dict_keyiterator_iter ?_ (F.args_dict_keyiterator_iter_1 _))
    exact wpAny_pure ⟨_, rfl, "dict_keyiterator", _, st.typeIs, F.slot_dict_keyiterator_next.lookup, h⟩
def iRd (P : Program) (w : World) (td : TE) : TI := fun σ H R => td σ H fun x H1 => ∃ (d : Addr) (o : Obj) (L : List (Rule × Addr)), x = .ref d ∧ H1 d = some (.frz o (rdO P w d L)) ∧ R (Itr' P w d o L) H1
theorem pi_rd {tg e : Expr} {td : TE} (he : PE X e td) : PI X tg e (iRd X.prog X.w td) := by
  refine ⟨fun pins s σ H R I h => thn (he.run pins s σ H _ I h) ?_⟩
  rintro u s1 ⟨x, H1, I1, rx, d, o, L, rfl, hd, q⟩
  cases rx
  obtain ⟨lo, hg, hx, es, ep, hdt, sz, ent⟩ := frz_rd I1 hd
  refine iter_keys lo hg hx hdt (pi_one (tk := s1.toks) I1 _ (turn_rd _ hdt) ⟨_, Heap.get?_push_size _ rfl, rfl, ?_⟩ q)
  rw [sz]
  rfl
/-- a list comprehension over a dict of rules that stays locked -/
theorem lc_rd {P : Program} {w : World} {d : Addr} {o : Obj} {L : List (Rule × Addr)} {g : TG} {tt : TT} {te : TE} {vs : List Nat} {σ : L2.St} {H1 : Hp} {D : Addr} {Qd : Hp → Prop} (Pv : Nat → Hp → Prop) (h0 : Pv 0 (upd H1 D (.lst [])))
    (hl : ∀ i H, i ≤ L.length → Pv i H → H d = some (.frz o (rdO P w d L)))
    (hs : ∀ i (hi : i < L.length) H, Pv i H → g (.ref L[i].2) (wipe σ vs) H fun σ2 H2 => wipe σ2 vs = wipe σ vs ∧ tt σ2 H2 fun b H3 =>
      if b = true then te σ2 H3 fun y H4 => ∃ acc, H4 D = some (.lst acc) ∧ acc.length < sizeLine ∧ Pv (i + 1) (upd H4 D (.lst (acc ++ [y]))) else Pv (i + 1) H3) (hd : ∀ H, Pv L.length H → Qd H) :
    ∃ W : Nat → Nat → Hp → Prop, (∃ m, W 0 m (upd H1 D (.lst []))) ∧ ∀ i m H, W i m H →
      ((Itr' P w d o L).stop i H ∧ Qd H) ∨ ((Itr' P w d o L).go i H ∧ ∃ Nx : Hp → Prop, (∀ H', Nx H' → ∃ m', m' < m ∧ W (i + 1) m' H') ∧ ∀ x H', (Itr' P w d o L).yld i H x H' → g x (wipe σ vs) H' fun σ2 H2 => wipe σ2 vs = wipe σ vs ∧ tt σ2 H2 fun b H3 =>
        if b = true then te σ2 H3 fun y H4 => ∃ acc, H4 D = some (.lst acc) ∧ acc.length < sizeLine ∧ Nx (upd H4 D (.lst (acc ++ [y]))) else Nx H3) := by
  refine ⟨fun i m H => m = L.length - i ∧ i ≤ L.length ∧ Pv i H, ⟨L.length, by simp, Nat.zero_le _, h0⟩, ?_⟩
  rintro i m H ⟨rfl, hi, p⟩
  have fz := hl i H hi p
  by_cases lt : i < L.length
  · refine .inr ⟨⟨fz, lt⟩, Pv (i + 1), fun H' p' => ⟨L.length - (i + 1), by omega, rfl, lt, p'⟩, ?_⟩
    rintro x H' ⟨rfl, z, hz, rfl⟩
    rw [List.getElem?_eq_getElem lt] at hz
    cases hz
    exact hs i lt _ p
  · have e : i = L.length := by omega
    subst e
    exact .inl ⟨⟨fz, Nat.le_refl _⟩, hd H p⟩
end
end Wnd

/-! Windowsteps: a == b and a != b, a an instance of an own class that says __eq__ and no __ne__. -/
namespace Wnd
open PySem PySem.Spec PyProof.Rows L2

section
variable {prog : Program} {w : World} {A : Around} {E : Value → Shared → Prop} {s : Shared} {K : W.Frag} {x C L f : Addr} {h₀ : Heap} {m : Str → Option Value} {ox : Obj} {od : Option Obj} {b tb : Value}
/-- the slot that object gives, called on an instance of an own class -/
theorem obj_ne {Q : Value → Shared → Prop} (hu : A.units + 1 < cLine) (X : K.In s.heap) (I : W.InstAt s.heap x ox C od) (ho : W.subIn K (.ref C) (.type "object") = some true)
    (hs : W.findIn K (.ref C) "__eq__" = some (some (.ref f))) (hf : W.isFn K (.ref f) = true)
    (h : wpAny (model prog w) A.in1 (call (.ref f) [.ref x, b]) (fun v s' => ∃ k, v = .bool k ∧ Q (.bool (!k)) s') E s) :
    wpAny (model prog w) A (call (.builtin "object.__ne__") [.ref x, b]) Q E s := by
  refine wpAny_call (codeAny_call_builtin F.cmp_object.ne.plain F.cmpEntry_ne ?_)
  have body : ∀ {R : Result → Shared → Prop}, (∀ v s', Q v s' → R (.ok (.ret v)) s') → (∀ e s', E e s' → R (.error e) s') → wpAny (model prog w) A.in1 (Builtin.«object.__ne__» ⟨[.ref x, b], []⟩)
      (fun fin s' => match fin with | .done f => R (.ok f) s' | .again c' => c'.quiet = true ∧ codeAny (model prog w) A c' R s') (fun e s' => R (.error e) s') s := by
    intro R hR hE
    unfold Builtin.«object.__ne__»
    have ask : wpAny (model prog w) A.in1 (callSpecialIfBound? (.ref x) (Str.ofString "__eq__") [b]) (fun r s' => ∃ k, r = some (.bool k) ∧ Q (.bool (!k)) s') (fun e s' => R (.error e) s') s :=
      W.ifBound_K X I hs hf (wpAny_mono h (fun v s' ⟨k, e, q⟩ => ⟨k, by rw [e], q⟩) hE)
    repeat (first
      | with_reducible refine wpAny_cRoomFor hu ?_
      | (refine wpAny_bind (m := callSpecialIfBound? (.ref x) (Str.ofString "__eq__") [b]) (wpAny_mono ask (fun r s' hr => by
          obtain ⟨k, rfl, q⟩ := hr
          refine wpAny_bind (m := truthy (.bool _)) (wpAny_truthy_bool ?_)
          first
            | exact wpAny_pure (hR _ _ q)
            | exact wpAny_pure (wpAny_pure (hR _ _ q))
            | exact wpAny_bind (wpAny_pure (wpAny_pure (hR _ _ q)))) fun _ _ e => e))
      | wp_step)
  have chk : ∀ {Q' : Unit → Shared → Prop} {E' : Value → Shared → Prop}, Q' () s → wpAny (model prog w) A.in1 (checkBuiltinCall "object.__ne__" ⟨[.ref x, b], []⟩) Q' E' s := by
    intro Q' E' q
    have ha := F.cmpArgs_ne (.ref x) b
    simp only [checkBuiltinCall, F.cmpKind_ne, F.cmpSplit_ne]
    refine wpAny_bind ?_
    unfold isInstance
    refine wpAny_bind (I.type.here ((W.looks_subIn X ho).here ?_))
    show wpAny _ _ (match Manifest.signature? "object.__ne__" with | some sig => Bind.checkArgs "object.__ne__" sig ⟨[.ref x, b], []⟩ | _ => pure ()) _ _ _
    cases hsig : Manifest.signature? "object.__ne__" with
    | none => exact wpAny_pure q
    | some sig =>
      simp only [argsOk, hsig] at ha
      have h2 : Bind.checkArgs "object.__ne__" sig ⟨[.ref x, b], []⟩ = pure () := ha
      show wpAny _ _ (Bind.checkArgs "object.__ne__" sig ⟨[.ref x, b], []⟩) _ _ _
      rw [h2]
      exact wpAny_pure q
  exact chk (body (R := fun r s' => match r with | .ok (.ret v) => Q v s' | .ok _ => False | .error e => E e s') (fun v s' q => q) fun e s' z => z)
theorem ne_own {Q : Value → Shared → Prop} (hu : A.units + 1 < cLine) (F₀ : Fr h₀ L s.heap m) (X₀ : K.In h₀) (I : W.InstAt s.heap x ox C od) (hb : W.Looks (model prog w) s.heap (typeOf b) tb) (hn : W.notFirst K C tb = true)
    (ho : W.subIn K (.ref C) (.type "object") = some true) (hne : W.findIn K (.ref C) "__ne__" = some (some (.builtin "object.__ne__")))
    (hs : W.findIn K (.ref C) "__eq__" = some (some (.ref f))) (hf : W.isFn K (.ref f) = true)
    (h : wpAny (model prog w) A.in1 (call (.ref f) [.ref x, b]) (fun v s' => ∃ k, v = .bool k ∧ Q (.bool (!k)) s') E s) : wpAny (model prog w) A (richCompare .NotEq (.ref x) b) Q E s := by
  have X := X₀.keeps F₀.keep
  have c := obj_ne (E := E) (Q := fun v s' => ∃ k, v = .bool k ∧ Q (.bool k) s') hu X I ho hs hf (wpAny_mono h (fun v s' ⟨k, e, q⟩ => ⟨k, e, !k, rfl, q⟩) fun _ _ z => z)
  have one : wpAny (model prog w) A (tryCompare (.ref x) (cmpInfo .NotEq).2.1 b) (fun r s' => ∃ v, r = some v ∧ Q v s') E s := by
    unfold tryCompare
    refine wpAny_bind ?_
    simp only [callSpecialIfBound?, bindSpecialIfBound?]
    refine wpAny_holding (wpAny_bind (wpAny_bind (wpAny_bind (I.type.here ((W.looks_findIn X hne).here ?_)))))
    simp only [F.cmp_object.ne.bind]
    refine wpAny_bind (wpAny_askSetting (wpAny_ite ?_))
    have fin : wpAny (model prog w) A (call (.builtin "object.__ne__") ([.ref x] ++ [b]) >>= fun v => pure (some v)) (fun a s' => wpAny (model prog w) A (match a with
        | some .notImplemented => pure none
        | none => pure none
        | some v => pure (some v)) (fun r s' => ∃ v, r = some v ∧ Q v s') E s') E s := by
      refine wpAny_bind (wpAny_mono c ?_ fun _ _ z => z)
      rintro v s' ⟨k, rfl, q⟩
      exact wpAny_pure (wpAny_pure ⟨_, rfl, q⟩)
    split
    · exact wpAny_bind (wpAny_pure (wpAny_pure fin))
    · exact wpAny_tryCatch (wpAny_bind (wpAny_pure (wpAny_pure fin)))
  unfold richCompare
  simp only [oneThing_ref]
  refine wpAny_holding (wpAny_bind (wpAny_cRoomFor (Nat.lt_of_succ_lt hu) ?_))
  refine wpAny_bind (I.type.here (wpAny_bind (hb.here ?_)))
  have rest : wpAny (model prog w) A (tryCompare (.ref x) (cmpInfo .NotEq).2.1 b) (fun r s' => ∃ v, r = some v ∧ Q v s') E s := one
  split
  · rename_i q
    have e : W.subIn K tb (.ref C) = some false := by
      rcases Bool.or_eq_true_iff.mp hn with e | e
      · rw [beq_iff_eq.mp e] at q
        simp at q
      · exact beq_iff_eq.mp e
    refine wpAny_bind ((W.looks_subIn X e).here ?_)
    simp only [Bool.false_eq_true, if_false]
    refine wpAny_bind (wpAny_mono rest ?_ fun _ _ z => z)
    rintro r s' ⟨v, rfl, hq⟩
    exact wpAny_pure hq
  · refine wpAny_bind (wpAny_pure ?_)
    simp only [Bool.false_eq_true, if_false]
    refine wpAny_bind (wpAny_mono rest ?_ fun _ _ z => z)
    rintro r s' ⟨v, rfl, hq⟩
    exact wpAny_pure hq
end
/-- what the text has of a class with its own == -/
structure EqC (K : PySem.W.Frag) (C f : Addr) : Prop where
  eq : W.findIn K (.ref C) "__eq__" = some (some (.ref f))
  fn : W.isFn K (.ref f) = true
  ne : W.findIn K (.ref C) "__ne__" = some (some (.builtin "object.__ne__"))
  ob : W.subIn K (.ref C) (.type "object") = some true
/-- a value whose type isn't a subtype of C's own below it -/
def Plain2 (K : PySem.W.Frag) (C : Addr) (H : Hp) (y : V) : Prop := ∃ t, TyX K H y t ∧ W.notFirst K C t = true
def rOwnEq (K : PySem.W.Frag) (C : Addr) (sp : Sp) : R2 := fun x y H Q => ∃ (a dx : Addr) (fs : List (Str × V)), x = .ref a ∧ H a = some (.ins C dx fs) ∧ Plain2 K C H y ∧ sp [.ref a, y] H (fun v H' => ∃ k, v = .bl k ∧ Q (.bl k) H') (fun _ _ _ => False)
def rOwnNe (K : PySem.W.Frag) (C : Addr) (sp : Sp) : R2 := fun x y H Q => ∃ (a dx : Addr) (fs : List (Str × V)), x = .ref a ∧ H a = some (.ins C dx fs) ∧ Plain2 K C H y ∧ sp [.ref a, y] H (fun v H' => ∃ k, v = .bl k ∧ Q (.bl (!k)) H') (fun _ _ _ => False)
section
variable {X : Cx} {C f : Addr} {fd : FuncData} {k : Nat} {ps : List Str} {sp : Sp}
theorem run_eq {A : Around} (F : FnOk X.prog X.w X.K X.mg X.base CX0 k f fd ps sp) (hb : Binds X.K fd ps []) (hr : Room k A) (fr : A.frames = X.A.frames) {pins : List (Addr × Obj)} {σ : L2.St} {H : Hp} {s : Shared} (I : Inv X pins σ H s)
    {vs : List V} {us : List Value} (r : Vals vs us) {Q : VK} {E : Value → Shared → Prop} (h : sp vs H Q (fun _ _ _ => False)) : wpAny (model X.prog X.w) A (call (.ref f) us) (EP X pins σ Q) E s := by
  have env : Env0 X.prog X.w X.K X.mg X.base A X.stack s H := by
    have z := I.env0
    exact ⟨fr.trans z.frames, z.mod, z.bs, z.bsz, z.funs, z.frf, z.hok, z.bare⟩
  have hl := F.len _ _ _ _ h
  refine wpAny_call (codeAny_mono (F.run A X.stack s H ⟨us, []⟩ us vs Q (fun _ _ _ => False) hr env (by
    have z := hb s us I.kIn (by rw [List.append_nil, ← r.length]; exact hl)
    rwa [List.append_nil] at z) r h) fun r s' hq => ?_)
  cases r with
  | error e => exact hq.elim
  | ok fl =>
    cases fl with
    | ret u => exact I.after hq
    | next => exact False.elim hq
    | brk => exact False.elim hq
    | cont => exact False.elim hq
theorem op_ownEq (F : FnOk X.prog X.w X.K X.mg X.base CX0 k f fd ps sp) (hb : Binds X.K fd ps []) (hr : Room k X.A) (T : EqC X.K C f) : OpR X (compareOp .Eq) (rOwnEq X.K C sp) := by
  intro pins s σ H x y v u Q I rx ry h
  obtain ⟨a, dx, fs, rfl, ha, ⟨t, ty, nf⟩, q⟩ := h
  cases rx
  obtain ⟨mA, J, _⟩ := ins_get I.hok ha
  obtain ⟨od, J, _⟩ := J.look
  obtain ⟨m, hF⟩ := I.fr
  obtain ⟨P, Z, p, _⟩ := kit_of I ry ty
  show wpAny _ _ (richCompare .Eq (.ref a) u) _ _ s
  refine PySem.W.cmp_K (op := .Eq) (tb := t) hr.units0 hF I.ok.mod.kin J (Z.ty _ _ I.kIn p) nf T.eq T.fn ?_
  refine wpAny_mono (run_eq F hb hr rfl I (show Vals [V.ref a, y] [Value.ref a, u] from .cons rfl (.cons ry .nil)) q) ?_ fun _ _ z => z
  rintro w s' ⟨z, H', I', rz, k, rfl, q'⟩
  cases rz
  exact ⟨.bl k, H', I', rfl, q'⟩
theorem op_ownNe (F : FnOk X.prog X.w X.K X.mg X.base CX0 k f fd ps sp) (hb : Binds X.K fd ps []) (hr : Room (k + 1) X.A) (T : EqC X.K C f) : OpR X (compareOp .NotEq) (rOwnNe X.K C sp) := by
  intro pins s σ H x y v u Q I rx ry h
  obtain ⟨a, dx, fs, rfl, ha, ⟨t, ty, nf⟩, q⟩ := h
  cases rx
  obtain ⟨mA, J, _⟩ := ins_get I.hok ha
  obtain ⟨od, J, _⟩ := J.look
  obtain ⟨m, hF⟩ := I.fr
  obtain ⟨P, Z, p, _⟩ := kit_of I ry ty
  show wpAny _ _ (richCompare .NotEq (.ref a) u) _ _ s
  refine ne_own (hu_of hr) hF I.ok.mod.kin J (Z.ty _ _ I.kIn p) nf T.ob T.ne T.eq T.fn ?_
  refine wpAny_mono (run_eq F hb hr.in1 rfl I (show Vals [V.ref a, y] [Value.ref a, u] from .cons rfl (.cons ry .nil)) q) ?_ fun _ _ z => z
  rintro w s' ⟨z, H', I', rz, k, rfl, q'⟩
  cases rz
  exact ⟨k, rfl, .bl (!k), H', I', rfl, q'⟩
end
end Wnd

/-! Windowsteps: C.m(..), m a static method. -/
namespace Wnd
open PySem PySem.Spec PyProof.Rows L2
/-- C.m is a static method: its record at p, its def at g -/
structure SMet (K : PySem.W.Frag) (C : Addr) (mc : Value) (m : Str) (p g : Addr) : Prop where
  at_ : W.findCls K (.ref C) mc m = some (.get (.builtin "staticmethod.__get__") (.ref p) .none (.ref C))
  rc : ∃ rest, W.recIn K p "staticmethod" = some (.ref g :: rest)
  kp : W.keepIn K (.ref g) = true
section
variable {X : Cx} {k : Nat} {C p g : Addr} {mc : Value} {sp : Sp} {fd : FuncData} {ps : List Str} {o e : Expr} {es : List Expr} {m : Str} {pos apos : Pos} {ta : TE} {t : TA} {pl : Sem Bool}
theorem getstat_ok {A : Around} {E : Value → Shared → Prop} {pins : List (Addr × Obj)} {σ : L2.St} {H : Hp} {s : Shared} {b : Bool} {Q : Value → Shared → Prop} (I : Inv X pins σ H s) (r : ClX.CRead X.K C mc) (c : SMet X.K C mc m p g)
    (h : ∀ s', Inv X pins σ H s' → Q (.ref g) s') : wpAny (model X.prog X.w) A (getAttr (.ref C) m b) Q E s := by
  obtain ⟨rest, hp⟩ := c.rc
  refine PySem.W.cls_bind I.kIn r.rd c.at_ ?_
  exact wpAny_call (PySem.W.sm_get (s := { s with toks := s.toks + 1 }) I.kIn hp (PySem.W.handed_on rfl (h _ (I.tok _))))
def tStat (C : Addr) (sp : Sp) (ta : TE) (t : TA) : TE := fun σ H Q => ta σ H fun x H1 => x = .ref C ∧ t σ H1 fun vs H2 => sp vs H2 Q E0
theorem pe_stat (he : PE X o ta) (r : ClX.CRead X.K C mc) (c : SMet X.K C mc m p g) (F : FnOk X.prog X.w X.K X.mg X.base CX0 k g fd ps sp) (hb : Binds X.K fd ps []) (hr : Room k X.A) (ha : PA X (e :: es) t)
    (hst : starEach (e :: es) X.env = (false, eval e X.env) :: starEach es X.env := by rfl) (hpl : (backTo pos (starEach es X.env)).any (·.1) = false := by rfl)
    (ht : eval (.Call (.Attribute o m apos) (e :: es) [] pos) X.env = (do
      let ov ← eval o X.env
      standAt apos.atName
      let (f, first) ← holding [ov] (getMethod ov m pl)
      callWith pos f first (backTo pos (starEach (e :: es) X.env)) (backToKw pos (keywordEach [] X.env))) := by rfl) :
    PE X (.Call (.Attribute o m apos) (e :: es) [] pos) (tStat C sp ta t) := by
  refine ⟨fun pins s σ H Q I h => ?_⟩
  refine PySem.W.methodCall_KW (pl := pl) (thn (he.run pins s σ H _ I h) ?_) ht
  rintro u s1 ⟨x, H1, I1, rx, rfl, q⟩
  cases rx
  refine PySem.W.method_cls I1.kIn r.ga (getstat_ok I1 r c fun s2 I2 => ?_)
  refine PySem.W.callWith_K (h₀ := X.base) (first := []) I2.ok.mod.kin c.kp (thn (ha.run pos _ s2 σ H1 _ I2 q) ?_) hst hpl
  rintro us s3 ⟨vs, H2, I3, rv, q2⟩
  refine ⟨I3.kIn, ?_⟩
  exact run_fn F hr hb .nil (pass0 (X := X)) I3 rv (by rw [List.append_nil]; exact q2)
end
end Wnd

/-! Windowsteps: len(set(names)), names all different. -/
namespace Wnd
open PySem PySem.Spec PyProof.Rows L2

/-- what set() has taken of different texts: they, and no more -/
def setOfTexts (xs : List Str) (i : Nat) : Str → Bool := fun y => (xs.take i).any (· == y)
theorem setOfTexts_more {xs : List Str} {i : Nat} (hi : i < xs.length) (y : Str) : (setOfTexts xs i y || decide (y = xs.getD i Str.empty)) = setOfTexts xs (i + 1) y := by
  unfold setOfTexts
  rw [List.take_add_one, List.any_append, List.getElem?_eq_getElem hi, List.getD_eq_getElem?_getD, List.getElem?_eq_getElem hi]
  show (_ || decide (y = xs[i])) = (_ || [xs[i]].any (· == y))
  congr 1
  simp only [List.any_cons, List.any_nil, Bool.or_false]
  by_cases e : y = xs[i]
  · subst e
    simp
  · rw [decide_eq_false e]
    exact (beq_eq_false_iff_ne.mpr fun z => e z.symm).symm
theorem setOfTexts_new {xs : List Str} (nd : xs.Nodup) {i : Nat} (hi : i < xs.length) : setOfTexts xs i (xs.getD i Str.empty) = false := by
  unfold setOfTexts
  rw [List.getD_eq_getElem?_getD, List.getElem?_eq_getElem hi]
  show (xs.take i).any (· == xs[i]) = false
  rw [List.any_eq_false]
  intro z hz e
  have ez : z = xs[i] := by simpa using e
  subst ez
  obtain ⟨j, hj, ej⟩ := List.getElem_of_mem hz
  rw [List.length_take] at hj
  rw [List.getElem_take] at ej
  have := (List.getElem_inj (h₀ := by omega) (h₁ := hi) nd).mp ej
  omega
section
variable {prog : Program} {w : World} {A : Around} {R : Result → Shared → Prop} {I : Addr} {fp wr : List Addr} {G : Array GenState → Array GenState → Prop} {n : Nat} {Pv : Nat → Value → Prop} {St' : Nat → Shared → Prop}
/-- the loop that fills the set: its turns by induction on how many are left -/
theorem fill_texts (W : WalksS prog w A.in1 I fp wr G n Pv St') (D : Addr) (out : D ∉ fp) (xs : List Str) (len : xs.length = n) (nd : xs.Nodup) (few : n < 1000) (val : ∀ i v, Pv i v → ∃ t, v = .str (xs.getD i Str.empty) t) :
    ∀ (left i : Nat) (s : Shared), n - i = left → i ≤ n → St' i s → s.heap.SetOf (PySem.strKind prog w) D (setOfTexts xs i) i →
      (∀ s', Moved (D :: wr) G s s' → s'.heap.SetOf (PySem.strKind prog w) D (setOfTexts xs n) n → R (.ok (.ret .none)) s') →
      codeAny (model prog w) A (.builtin "set.update.loop" ⟨[.ref D, .ref I], []⟩) R s := by
  have outw : D ∉ wr := fun h => out (W.sub _ h)
  have sub : ∀ b ∈ wr, b ∈ D :: wr := fun b hb => List.mem_cons_of_mem _ hb
  intro left
  induction left with
  | zero =>
    intro i s eq le st so done
    obtain rfl : i = n := by omega
    refine codeAny_builtin PyProof.Rows.F.entry_set_update_loop ?_
    rw [Around.under_plainId PyProof.Rows.F.plain_set_update_loop _]
    refine wpAny_bind (W.done s _ _ st fun s' mv => ?_)
    refine wpAny_pure (done s' (mv.mono sub) ?_)
    obtain ⟨o, es, ep, t, ho, more⟩ := so
    exact ⟨o, es, ep, t, mv.heap D _ outw ho, more⟩
  | succ left ih =>
    intro i s eq le st so done
    have lt : i < n := by omega
    refine codeAny_builtin PyProof.Rows.F.entry_set_update_loop ?_
    rw [Around.under_plainId PyProof.Rows.F.plain_set_update_loop _]
    refine wpAny_bind (W.item i s _ _ lt st fun v s' pv st' mv => ?_)
    obtain ⟨t, rfl⟩ := val i v pv
    have so' : s'.heap.SetOf (PySem.strKind prog w) D (setOfTexts xs i) i := by
      obtain ⟨o, es, ep, tb, ho, more⟩ := so
      exact ⟨o, es, ep, tb, mv.heap D _ outw ho, more⟩
    show wpAny _ A.in1 (holding [Value.str (xs.getD i Str.empty) t] (setAdd D (.str (xs.getD i Str.empty) t)) >>= _) _ _ s'
    refine wpAny_bind (wpAny_holding ?_)
    unfold setAdd
    refine wpAny_holding (wpAny_bind ((PySem.strKind prog w).pyHash (k := xs.getD i Str.empty) (strKind_is _ _ _ _) ?_))
    refine wpAny_setAddHashed_of (knd := PySem.strKind prog w) (s := { s' with toks := s'.toks + 1 }) (strKind_is _ _ _ _) rfl so' (by unfold scanBound; omega) fun h' sb s2 => ?_
    have s3 : h'.SetOf (PySem.strKind prog w) D (setOfTexts xs (i + 1)) (i + 1) := by
      refine PyProof.Rows.SetOf_congr s2 (fun y => setOfTexts_more (by omega) y) ?_
      rw [setOfTexts_new nd (by omega)]
      rfl
    refine wpAny_pure ⟨plainId_quiet PyProof.Rows.F.plain_set_update_loop _, ih (i + 1) _ (by omega) lt (W.frame _ s' _ _ st' (Nat.le_succ _) fun b hb o e => ?_) s3 fun s'' mv2 so2 => ?_⟩
    · rw [sb.2 b fun z => out (by rw [← z]; exact hb)]
      exact e
    · refine done s'' (Moved.trans W.gtrans ((mv.mono sub).then_heap (Nat.le_succ _) fun b o hb e => ?_) mv2) so2
      rw [sb.2 b fun z => hb (by rw [z]; exact List.mem_cons_self)]
      exact e
end
section
variable {prog : Program} {w : World} {A : Around} {E : Value → Shared → Prop} {s : Shared}
set_option maxHeartbeats 3200000 in
theorem set_of_texts {l : Addr} {items : Array Value} {xs : List Str} {Q : Value → Shared → Prop} (free : A.handled = none) (isl : s.heap.IsList l items) (are : PyProof.Rows.StrsAre items.toList xs) (nd : xs.Nodup) (few : xs.length < 1000)
    (hq : ∀ (h' : Heap) (tk : Nat), h'.SetOf (PySem.strKind prog w) s.heap.objs.size (setOfTexts xs xs.length) xs.length → (∀ b o, s.heap.get? b = some o → h'.get? b = some o) → Q (.ref s.heap.objs.size) { s with heap := h', toks := tk }) :
    wpAny (model prog w) A (call (.type "set") [.ref l]) Q E s := by
  have len : items.size = xs.length := by
    rw [← Array.length_toList]
    exact StrsAre.len_eq are
  obtain ⟨c, tl, mro⟩ := PySem.F.called_set.mro
  have k1 := PySem.F.called_set.made
  have k2 := PySem.F.called_set.sub
  have k3 := PySem.F.called_set.notType
  have k4 := PySem.F.called_set.canCreate
  have k5 := PySem.F.typeCall_set_1 (.ref l)
  refine wpAny_call (codeAny_of_tree (show wpAny _ _ (callAny (.type "set") _) _ _ _ from wpAny_pure ⟨Code.quiet_builtin _ (by decide +kernel), codeAny_builtin PySem.F.entry_type_call ?_⟩))
  rw [Around.under_plain (weight_type_call_type "set" [.ref l] []) rfl]
  repeat (any_goals (first | assumption | wp_step))
  refine codeAny_mono (code_set_new_1 (.ref l) (E := E)
    (Q₁ := fun obj s₁ => ∃ led : Bool, obj = .ref s.heap.objs.size ∧ s₁ = { s with heap := s.heap.push { cls := .type "set", dict := none, data := .set #[] 0 (.fresh 0 0 led) } })
    fun led => ⟨led, rfl, rfl⟩) ?_
  intro r s₁ hr
  cases r with
  | error e => exact hr
  | ok fl =>
    cases fl with
    | ret obj =>
      obtain ⟨led, rfl, rfl⟩ := hr
      have atS : (s.heap.push { cls := .type "set", dict := none, data := .set #[] 0 (.fresh 0 0 led) }).get? s.heap.objs.size = some { cls := .type "set", dict := none, data := .set #[] 0 (.fresh 0 0 led) } := Heap.get?_push_size _ rfl
      have tyS : Shared.TypeIs { s with heap := s.heap.push { cls := .type "set", dict := none, data := .set #[] 0 (.fresh 0 0 led) } } (.ref s.heap.objs.size) "set" := ⟨_, atS, rfl⟩
      have i1 := PySem.F.called_set.init.lookup
      have i2 := PySem.F.called_set.init.bind (.ref s.heap.objs.size)
      repeat (any_goals (first | assumption | wp_step))
      refine codeAny_mono (codeAny_call_builtin (R := wants (fun r s₂ => r = .none ∧ ∃ h' tk, s₂ = { s with heap := h', toks := tk } ∧
        h'.SetOf (PySem.strKind prog w) s.heap.objs.size (setOfTexts xs xs.length) xs.length ∧
        ∀ b o, s.heap.get? b = some o → h'.get? b = some o) E) PySem.F.called_set.init.plain PySem.F.entry_set_init (check_set_init_1 tyS ?_)) ?_
      · obtain ⟨ol, gl, cl, nl, dl⟩ := isl
        obtain ⟨ocls, odict, odata, oslots⟩ := ol
        simp only at cl dl
        subst cl
        subst dl
        have gl' : (s.heap.push { cls := .type "set", dict := none, data := .set #[] 0 (.fresh 0 0 led) }).get? l = some { cls := .type "list", dict := odict, data := .seq items nl, slots := oslots } := Heap.get?_push_of_some _ gl
        have n1 := PySem.F.sub_list_set
        have n2 := PySem.F.sub_list_frozenset
        have n3 : (Value.type "list" == Value.type "dict") = false := by decide
        have isl' : (s.heap.push { cls := .type "set", dict := none, data := .set #[] 0 (.fresh 0 0 led) }).IsList l items := ⟨_, gl', rfl, nl, rfl⟩
        unfold Builtin.«set.__init__» noKeywords Builtin.Frozenset.updateFrom
        generalize eIt : pyIter = It0
        wp_walk
        subst eIt
        refine wpAny_pyIter_list isl' (wpAny_bind (wpAny_runValue ?_))
        have ltl : l < s.heap.objs.size := Heap.lt_size gl
        have fr3 : A.in1.in1.in1.handled = none := by simp [free]
        have sz1 : (s.heap.push { cls := .type "set", dict := none, data := .set #[] 0 (.fresh 0 0 led) }).objs.size = s.heap.objs.size + 1 := Heap.size_push ..
        have nl1 : l ≠ (s.heap.push { cls := .type "set", dict := none, data := .set #[] 0 (.fresh 0 0 led) }).objs.size := by
          rw [sz1]
          exact Nat.ne_of_lt (Nat.lt_succ_of_lt ltl)
        have outS : s.heap.objs.size ∉ [(s.heap.push { cls := .type "set", dict := none, data := .set #[] 0 (.fresh 0 0 led) }).objs.size, l] := by
          rw [sz1]
          simp only [List.mem_cons, List.not_mem_nil, or_false, not_or]
          exact ⟨Nat.ne_of_lt (Nat.lt_succ_self _), Nat.ne_of_gt ltl⟩
        refine fill_texts ((Walks.list fr3 _ l nl1 items).toS) s.heap.objs.size outS xs len.symm nd (by omega) (fun i v hv => SS.strs_at are i v (by rw [Array.getElem?_toList]; exact hv)) (items.size - 0) 0 _ (by omega) (Nat.zero_le _)
          ⟨⟨_, Heap.get?_push_size _ rfl, rfl, rfl⟩, isl'.push _⟩ ?first ?after
        case first =>
          have g2 : ((s.heap.push { cls := .type "set", dict := none, data := .set #[] 0 (.fresh 0 0 led) }).push { cls := .type "list_iterator", data := .fields #[.ref l, .int 0 0] }).get? s.heap.objs.size
              = some { cls := .type "set", dict := none, data := .set #[] 0 (.fresh 0 0 led) } := Heap.get?_push_of_some _ atS
          exact PyProof.Rows.SetOf_congr ((PyProof.Rows.setObjOf_fresh (knd := PySem.strKind prog w) led).setOf g2 (by unfold scanBound; omega)) (fun _ => rfl) rfl
        case after =>
          intro s' mv so
          obtain ⟨h', g', d', tk', os'⟩ := s'
          obtain rfl : g' = s.gens := mv.gens
          obtain rfl : d' = s.drawn := mv.drawn
          obtain rfl : os' = s.os := mv.os
          refine wpAny_pure (wpAny_pure ⟨rfl, h', tk', rfl, by rw [← len]; exact so, fun b o e => ?_⟩)
          have lt := Heap.lt_size e
          refine mv.heap b o ?_ (Heap.get?_push_of_some _ (Heap.get?_push_of_some _ e))
          simp only [List.mem_cons, List.not_mem_nil, or_false, not_or]
          refine ⟨Nat.ne_of_lt lt, ?_⟩
          rw [sz1]
          exact Nat.ne_of_lt (Nat.lt_succ_of_lt lt)
      · intro r₂ s₂ hr₂
        cases r₂ with
        | error e => exact hr₂
        | ok fl₂ =>
          cases fl₂ with
          | ret r =>
            obtain ⟨rfl, h', tk, rfl, so, kp⟩ := hr₂
            repeat (any_goals (first | assumption | wp_step))
            exact hq _ _ so kp
          | _ => exact hr₂.elim
    | _ => exact hr.elim
end
section
variable {X : Cx}
/-- len(set(names)), different names -/
def tLenSetT (K : PySem.W.Frag) (ta : TE) : TE := fun σ H Q => ta σ H fun x H1 => ∃ (l : Addr) (xs : List Str), x = V.ref l ∧ SqL K H1 l (xs.map V.str) ∧ xs.length < 1000 ∧ xs.Nodup ∧ Q (.int xs.length) H1
theorem pe_lenSetT {a : Expr} {ta : TE} {p p2 q pos : Pos} (calm : X.calm = true) (hm : X.mg "len" = none) (hm2 : X.mg "set" = none) (ha : PE X a ta) (hg : Gl X "len" := by rfl) (hg2 : Gl X "set" := by rfl)
    (na : starEach [a] X.env = (false, eval a X.env) :: starEach [] X.env := by rfl) : PE X (.Call (.Name "len" p) [.Call (.Name "set" p2) [a] [] q] [] pos) (tLenSetT X.K ta) := by
  refine ⟨fun pins s σ H Q I h => Call_ (ld_blt I hg hm PySem.boot_len (PyProof.Rows.callWith_builtin1 (PyProof.Rows.args_cons (Call_ (ld_blt I hg2 hm2 PyProof.Rows.boot_set ?_)) rfl) rfl rfl))⟩
  refine PyProof.Rows.callWith_type1 (PyProof.Rows.args_cons (thn (ha.run pins s σ H _ I h) ?_) na) na rfl
  rintro v s1 ⟨x, H1, I1, r1, l, xs, rfl, hs, few, nd, q1⟩
  refine PyProof.Rows.args_nil ?_
  cases r1
  obtain ⟨its, r, pl, hz⟩ := I1.list hs
  refine set_of_texts (I1.ok.hd calm) pl.isList (xs := xs) (by simpa using r.strs) nd few fun h' tk so kp => ?_
  refine PyProof.Rows.args_nil ?_
  obtain ⟨o, es, ep, t, ho, hex, hd, _, _, _, hf, hn⟩ := so
  have I2 : Inv X pins σ H1 { s1 with heap := h', toks := tk } := I1.kept kp
  exact call_len_set ho hex hd hf (by rw [hn]; omega) ⟨.int xs.length, H1, I2.tok _, ⟨_, by rw [hn]⟩, q1⟩
end
end Wnd

/-! Windowsteps: comprehensions that change nothing that was there. -/
namespace Wnd
open PySem PySem.Spec PyProof.Rows L2
variable {J : It} {n : Nat} {G : Hp → Prop} {Y : Nat → Hp → V → Hp → Prop}
/-- what the list holds is said turn by turn by F; what was there stays -/
theorem lc_acc (w : Walk J n G Y) {g : TG} {tt : TT} {te : TE} {vs : List Nat} {σ : L2.St} {H1 : Hp} {D : Addr} {Qd : Hp → Prop} (hD : H1 D = none) (F : Nat → List V) (h0 : F 0 = []) (hz : n < sizeLine) (hl : ∀ i, (F i).length ≤ i)
    (hG : ∀ H, Same H1 H → G H)
    (hs : ∀ i x H H' (R : V → Hp → Prop) (L : Hp → Prop), i < n → Same H1 H → Y i H x H' → (∀ y H4, F (i + 1) = F i ++ [y] → Same H H4 → R y H4) → (∀ H4, F (i + 1) = F i → Same H H4 → L H4) →
      g x (wipe σ vs) H' fun σ2 H2 => wipe σ2 vs = wipe σ vs ∧ tt σ2 H2 fun b H3 => if b = true then te σ2 H3 R else L H3) (hd : ∀ H, Same H1 H → H D = some (.lst (F n)) → Qd H) :
    ∃ W : Nat → Nat → Hp → Prop, (∃ m, W 0 m (upd H1 D (.lst []))) ∧ ∀ i m H, W i m H →
      (J.stop i H ∧ Qd H) ∨ (J.go i H ∧ ∃ Nx : Hp → Prop, (∀ H', Nx H' → ∃ m', m' < m ∧ W (i + 1) m' H') ∧ ∀ x H', J.yld i H x H' → g x (wipe σ vs) H' fun σ2 H2 => wipe σ2 vs = wipe σ vs ∧ tt σ2 H2 fun b H3 =>
        if b = true then te σ2 H3 fun y H4 => ∃ acc, H4 D = some (.lst acc) ∧ acc.length < sizeLine ∧ Nx (upd H4 D (.lst (acc ++ [y]))) else Nx H3) := by
  refine lc_it w (fun i H => Same H1 H ∧ H D = some (.lst (F i))) ⟨same_new hD, by rw [h0]; exact upd_same⟩ (fun i H _ p => hG H p.1) ?_ (fun H p => hd H p.1 p.2)
  rintro i x H H' hi ⟨s, hd⟩ y
  refine hs i x H H' _ _ hi s y (fun v H4 e s4 => ⟨F i, s4 _ _ hd, by have := hl i; omega, ?_, ?_⟩) fun H4 e s4 => ⟨s.trans s4, by rw [e]; exact s4 _ _ hd⟩
  · intro b o hb
    rw [upd_ne (ne_of_none hb hD)]
    exact s4 _ _ (s _ _ hb)
  · rw [e]
    exact upd_same
/-- one item for each turn -/
theorem lc_map (w : Walk J n G Y) {g : TG} {tt : TT} {te : TE} {vs : List Nat} {σ : L2.St} {H1 : Hp} {D : Addr} {Qd : Hp → Prop} (hD : H1 D = none) (ys : List V) (hn : ys.length = n) (hz : n < sizeLine)
    (hG : ∀ H, Same H1 H → G H)
    (hs : ∀ i x H H' (hi : i < ys.length) (R : V → Hp → Prop) (L : Hp → Prop), Same H1 H → Y i H x H' → (∀ H4, Same H H4 → R ys[i] H4) →
      g x (wipe σ vs) H' fun σ2 H2 => wipe σ2 vs = wipe σ vs ∧ tt σ2 H2 fun b H3 => if b = true then te σ2 H3 R else L H3) (hd : ∀ H, Same H1 H → H D = some (.lst ys) → Qd H) :
    ∃ W : Nat → Nat → Hp → Prop, (∃ m, W 0 m (upd H1 D (.lst []))) ∧ ∀ i m H, W i m H →
      (J.stop i H ∧ Qd H) ∨ (J.go i H ∧ ∃ Nx : Hp → Prop, (∀ H', Nx H' → ∃ m', m' < m ∧ W (i + 1) m' H') ∧ ∀ x H', J.yld i H x H' → g x (wipe σ vs) H' fun σ2 H2 => wipe σ2 vs = wipe σ vs ∧ tt σ2 H2 fun b H3 =>
        if b = true then te σ2 H3 fun y H4 => ∃ acc, H4 D = some (.lst acc) ∧ acc.length < sizeLine ∧ Nx (upd H4 D (.lst (acc ++ [y]))) else Nx H3) := by
  refine lc_acc w hD (fun i => ys.take i) rfl hz (fun i => by rw [List.length_take]; omega) hG ?_ (fun H s h => hd H s (by rw [h, ← hn, List.take_length]))
  intro i x H H' R L hi s y hR hL
  have hi' : i < ys.length := by omega
  exact hs i x H H' hi' R L s y fun H4 s4 => hR _ H4 (by rw [List.take_add_one, List.getElem?_eq_getElem hi']; rfl) s4
/-- in a block: the class's frame said -/
theorem op_inK {X : Cx} (K : PySem.W.Frag) (h : X.K = K := by rfl) : OpR X (compareOp .In) (rIn K false) := by
  subst h
  exact op_in_seq
theorem pg_tupK {X : Cx} {pos : Pos} {es : List Expr} {k : Nat} {t : TGs} (K : PySem.W.Frag) (n : Nat) (hc : X.calm = true) (h : PGs X es t) (hK : X.K = K := by rfl)
    (hn : (assignEach es X.env).length = n := by rfl) (hst : (assignEach es X.env).findIdx? (·.1) = none := by rfl) : PG X (.Tuple es k pos) (gTup K n t) := by
  subst hK
  exact pg_tup hc h hn hst
def rLenSeq (K : PySem.W.Frag) : List V → Hp → VK → Prop := fun xs H Q => ∃ p ys, xs = [.ref p] ∧ (SqL K H p ys ∨ SqT K H p ys) ∧ Q (.int ys.length) H
theorem call_lenK {X : Cx} (K : PySem.W.Frag) (h : X.K = K := by rfl) : CallR X (.builtin "len") (rLenSeq K) := by
  subst h
  exact call_len_seq
theorem op_neDK {X : Cx} (K : PySem.W.Frag) (hu : X.A.units + 64 < cLine) (h : X.K = K := by rfl) : OpR X (compareOp .NotEq) (rNeD K) := by
  subst h
  exact op_neD hu
theorem op_eqDK {X : Cx} (K : PySem.W.Frag) (hu : X.A.units + 64 < cLine) (h : X.K = K := by rfl) : OpR X (compareOp .Eq) (rEqD K) := by
  subst h
  exact op_eqD hu
theorem ix_listK {X : Cx} (K : PySem.W.Frag) (h : X.K = K := by rfl) : IxR X (rIxL K) := by
  subst h
  exact ix_list
theorem ix_tupK {X : Cx} (K : PySem.W.Frag) (h : X.K = K := by rfl) : IxR X (rIxT K) := by
  subst h
  exact ix_tup
theorem cons_erase {α : Type} : ∀ (l : List α) (k : Nat) (h : k < l.length), (l[k] :: l.eraseIdx k).Perm l
  | x :: l, 0, _ => List.Perm.refl _
  | x :: l, k + 1, h => (List.Perm.swap ..).trans ((cons_erase l k (Nat.lt_of_succ_lt_succ h)).cons x)
theorem pe_bmB {X : Cx} {o e : Expr} {es : List Expr} {to : TE} {t : TA} {name : Str} {apos cpos : Pos} {T id : String} {r : V → List V → Hp → VK → Prop} (K : PySem.W.Frag) (pa : PlainAttrs T) (slot : Slot T name id) (hty : typeOf (.builtin id) = pure (.type "method_descriptor")) (hm : MtR X id r) (ho : PE X o to) (ha : PA X (e :: es) t) (hK : X.K = K := by rfl)
    (hbase : attributeBase o name X.env (eval o X.env) = eval o X.env := by rfl)
    (hfew : ((backTo cpos (starEach (e :: es) X.env)).all (fun x => !x.1) && (backToKw cpos (keywordEach [] X.env)).all (fun x => x.1.isSome)
      && decide ((e :: es).length + ([] : List Keyword).length + (if ([] : List Keyword).isEmpty then 0 else 1) < 30)) = true := by rfl)
    (hline : (apos.endLine == cpos.line) = true := by rfl) (hs : starEach (e :: es) X.env = (false, eval e X.env) :: starEach es X.env := by rfl) (hplain : (backTo cpos (starEach es X.env)).any (·.1) = false := by rfl) :
    PE X (.Call (.Attribute o name apos) (e :: es) [] cpos) (tBM K T r to t) := by
  subst hK
  exact pe_bm pa slot hty hm ho ha hbase hfew hline hs hplain
theorem same_back {H H' : Hp} {p : Addr} (s : Same H H') (h : H' p = none) : H p = none := s.free h
end Wnd

/-! Windowsteps: the order of the rules, one answer for each set of them. -/
namespace Wnd
open PySem PySem.Spec PyProof.Rows L2
/-- a comes no later than b -/
def leR (a b : Rule) : Bool := W.dataLe false rankD a b
theorem leR_not (a b : Rule) : leR a b = !W.dataLt (rankD b) (rankD a) := rfl
theorem leR_total (a b : Rule) : (leR a b || leR b a) = true := by
  rw [leR_not, leR_not]
  cases h1 : W.dataLt (rankD b) (rankD a) with
  | false => rfl
  | true =>
    cases h2 : W.dataLt (rankD a) (rankD b) with
    | false => rfl
    | true =>
      have h := PyProof.Rows.lex_trans _ _ _ h1 h2
      rw [PyProof.Rows.lex_irrefl] at h
      cases h
theorem leR_trans (a b c : Rule) (h1 : leR a b = true) (h2 : leR b c = true) : leR a c = true := by
  rw [leR_not, Bool.not_eq_true'] at h1 h2 ⊢
  cases h : W.dataLt (rankD c) (rankD a) with
  | false => rfl
  | true =>
    rcases PyProof.Rows.lex_negTrans _ (W.keyToks (rankD b)) _ h with h | h
    · rw [show W.dataLt (rankD c) (rankD b) = true from h] at h2
      cases h2
    · rw [show W.dataLt (rankD b) (rankD a) = true from h] at h1
      cases h1
theorem leR_anti {a b : Rule} (ha : Named a) (hb : Named b) (h1 : leR a b = true) (h2 : leR b a = true) : a = b := by
  rw [leR_not, Bool.not_eq_true'] at h1 h2
  have h := PyProof.Rows.lex_total _ _ h2 h1
  refine rank_inj ha hb ?_
  cases e : PyData.eqv (rankD a) (rankD b) with
  | true => rfl
  | false =>
    rw [eqv_rank] at e
    simp [W.keyToks, W.keyToksAll, rankD] at h
    obtain ⟨x1, x2, x3⟩ := h
    have sx : ∀ {a b : Str}, a.cps = b.cps → a = b := fun {a b} z => by
      cases a
      cases b
      exact congrArg Str.mk z
    rw [sx x1, sx x2, x3] at e
    simp at e
/-- the rules in ascending order -/
def sortR (rs : List Rule) : List Rule := rs.mergeSort leR
theorem sortR_perm (rs : List Rule) : (sortR rs).Perm rs := List.mergeSort_perm _ _
theorem sortR_pair (rs : List Rule) : (sortR rs).Pairwise fun a b => leR a b = true := List.pairwise_mergeSort leR_trans leR_total rs
theorem sortR_one {a b : List Rule} (ha : ∀ r ∈ a, Named r) (hp : a.Perm b) : sortR a = sortR b := by
  have q : (sortR a).Perm (sortR b) := (sortR_perm a).trans (hp.trans (sortR_perm b).symm)
  refine List.Perm.eq_of_pairwise (fun x y hx hy => leR_anti (ha x ((sortR_perm a).mem_iff.mp hx)) (ha y (hp.mem_iff.mpr ((sortR_perm b).mem_iff.mp hy)))) (sortR_pair a) (sortR_pair b) q
theorem sortR_of {a : List Rule} (h : a.Pairwise fun a b => leR a b = true) : sortR a = a := List.mergeSort_of_pairwise h
theorem inOrder_map (L : List (Rule × Addr)) : (inOrder L).map (·.1) = sortR (L.map (·.1)) := List.map_mergeSort fun _ _ _ _ => rfl
theorem pairs_map (L : List Pr) : (pairsInOrder L).map (·.2.1) = sortR (L.map (·.2.1)) := List.map_mergeSort fun _ _ _ _ => rfl
/-- each rule once -/
def nubR (rs : List Rule) : List Rule := (putAll (rs.map fun r => (r, 0)) []).map (·.1)
theorem putR_map {r : Rule} {q q' : Addr} {L L' : List (Rule × Addr)} (h : L.map (·.1) = L'.map (·.1)) : (putR L r q).map (·.1) = (putR L' r q').map (·.1) := by
  unfold putR
  rw [h]
  split
  · exact h
  · rw [List.map_append, List.map_append, h]
    rfl
theorem putAll_map : ∀ {rs rs' L L' : List (Rule × Addr)}, rs.map (·.1) = rs'.map (·.1) → L.map (·.1) = L'.map (·.1) → (putAll rs L).map (·.1) = (putAll rs' L').map (·.1)
  | [], [], _, _, _, h => h
  | [], _ :: _, _, _, h, _ => nomatch h
  | _ :: _, [], _, _, h, _ => nomatch h
  | r :: rs, r' :: rs', L, L', h, h2 => by
    injection h with h1 h3
    show (putAll rs (putR L r.1 r.2)).map (·.1) = (putAll rs' (putR L' r'.1 r'.2)).map (·.1)
    refine putAll_map h3 ?_
    rw [show r'.1 = r.1 from h1.symm]
    exact putR_map h2
theorem nub_put (rs : List (Rule × Addr)) : (putAll rs []).map (·.1) = nubR (rs.map (·.1)) := by
  refine putAll_map ?_ rfl
  rw [List.map_map, List.map_map]
  rfl
theorem nubR_nodup (rs : List Rule) : (nubR rs).Nodup := putAll_nodup _ _ List.nodup_nil
theorem putR_mem {L : List (Rule × Addr)} {r x : Rule} {q : Addr} : x ∈ (putR L r q).map (·.1) ↔ x ∈ L.map (·.1) ∨ x = r := by
  unfold putR
  split
  · rename_i h
    exact ⟨.inl, fun z => z.elim id fun e => e ▸ h⟩
  · rw [List.map_append, List.mem_append]
    simp
theorem putAll_mem1 : ∀ (rs L : List (Rule × Addr)) (x : Rule), x ∈ (putAll rs L).map (·.1) ↔ x ∈ L.map (·.1) ∨ x ∈ rs.map (·.1)
  | [], L, x => by simp [putAll]
  | r :: rs, L, x => by
    show x ∈ (putAll rs (putR L r.1 r.2)).map (·.1) ↔ _
    rw [putAll_mem1 rs, putR_mem, List.map_cons, List.mem_cons]
    constructor
    · rintro ((h | h) | h)
      · exact .inl h
      · exact .inr (.inl h)
      · exact .inr (.inr h)
    · rintro (h | h | h)
      · exact .inl (.inl h)
      · exact .inl (.inr h)
      · exact .inr h
theorem nubR_mem (rs : List Rule) (x : Rule) : x ∈ nubR rs ↔ x ∈ rs := by
  unfold nubR
  rw [putAll_mem1, List.map_map]
  simp
theorem nubR_of {rs : List Rule} (h : rs.Nodup) : (nubR rs).Perm rs := (List.perm_ext_iff_of_nodup (nubR_nodup rs) h).mpr fun x => nubR_mem rs x
/-- the different rules in ascending order -/
def canon (rs : List Rule) : List Rule := sortR (nubR rs)
theorem canon_mem (rs : List Rule) (x : Rule) : x ∈ canon rs ↔ x ∈ rs := (sortR_perm _).mem_iff.trans (nubR_mem rs x)
theorem canon_nodup (rs : List Rule) : (canon rs).Nodup := (sortR_perm _).nodup_iff.mpr (nubR_nodup rs)
theorem canon_len (rs : List Rule) : (canon rs).length ≤ rs.length := by
  unfold canon
  rw [(sortR_perm _).length_eq, nubR, List.length_map]
  have := putAll_len (rs.map fun r => (r, 0)) []
  rw [List.length_map, List.length_nil] at this
  omega
theorem canon_same {a b : List Rule} (ha : ∀ r ∈ a, Named r) (h : ∀ x, x ∈ a ↔ x ∈ b) : canon a = canon b := by
  refine sortR_one (fun r hr => ha r ((nubR_mem a r).mp hr)) ((List.perm_ext_iff_of_nodup (nubR_nodup a) (nubR_nodup b)).mpr fun x => ?_)
  rw [nubR_mem, nubR_mem, h]
theorem canon_of {a : List Rule} (ha : ∀ r ∈ a, Named r) (nd : a.Nodup) (h : a.Pairwise fun a b => leR a b = true) : canon a = a := by
  have : sortR (nubR a) = sortR a := sortR_one (fun r hr => ha r ((nubR_mem a r).mp hr)) (nubR_of nd)
  rw [canon, this, sortR_of h]
theorem canon_canon {a : List Rule} (ha : ∀ r ∈ a, Named r) : canon (canon a) = canon a := canon_same (fun r hr => ha r ((canon_mem a r).mp hr)) (canon_mem a)
theorem canon_pair (a : List Rule) : (canon a).Pairwise fun a b => leR a b = true := sortR_pair _
theorem inOrder_canon (rs : List (Rule × Addr)) : (inOrder (putAll rs [])).map (·.1) = canon (rs.map (·.1)) := by
  rw [inOrder_map, nub_put]
  rfl

/-! ### names in ascending order -/
def leS (a b : Str) : Bool := !decide (b.cps.toList < a.cps.toList)
theorem leS_iff (a b : Str) : leS a b = true ↔ a.cps.toList ≤ b.cps.toList := by
  unfold leS
  rw [Bool.not_eq_true', decide_eq_false_iff_not]
  exact List.not_lt
theorem leS_total (a b : Str) : (leS a b || leS b a) = true := by
  rw [Bool.or_eq_true, leS_iff, leS_iff]
  exact List.le_total _ _
theorem leS_trans (a b c : Str) (h1 : leS a b = true) (h2 : leS b c = true) : leS a c = true := by
  rw [leS_iff] at h1 h2 ⊢
  exact List.le_trans h1 h2
theorem leS_anti {a b : Str} (h1 : leS a b = true) (h2 : leS b a = true) : a = b := by
  rw [leS_iff] at h1 h2
  have := List.le_antisymm h1 h2
  obtain ⟨⟨x⟩⟩ := a
  obtain ⟨⟨y⟩⟩ := b
  exact congrArg (fun l => Str.mk (Array.mk l)) this
theorem rising_pair : ∀ (p : Str) (l : List Str), PyProof.Rows.risingS p l = true → (p :: l).Pairwise fun a b => leS a b = true
  | p, [], _ => List.pairwise_singleton _ _
  | p, x :: r, h => by
    unfold PyProof.Rows.risingS at h
    rw [Bool.and_eq_true] at h
    have ih := rising_pair x r h.2
    have px : leS p x = true := by
      have h1 := h.1
      rw [PyProof.Rows.ltCps_eq] at h1
      exact h1
    refine List.pairwise_cons.mpr ⟨fun y hy => ?_, ih⟩
    rcases List.mem_cons.mp hy with rfl | hy
    · exact px
    · exact leS_trans p x y px ((List.pairwise_cons.mp ih).1 y hy)
theorem sorted_pair {l : List Str} (h : PyProof.Rows.sortedS l = true) : l.Pairwise fun a b => leS a b = true := by
  cases l with
  | nil => exact List.Pairwise.nil
  | cons x r => exact rising_pair x r h
def sortN (ts : List Str) : List Str := ts.mergeSort leS
theorem sortN_perm (ts : List Str) : (sortN ts).Perm ts := List.mergeSort_perm _ _
theorem sortN_of {ys ts : List Str} (hp : ys.Perm ts) (h : PyProof.Rows.sortedS ys = true) : ys = sortN ts :=
  List.Perm.eq_of_pairwise (fun x y _ _ => leS_anti) (sorted_pair h) (List.pairwise_mergeSort leS_trans leS_total ts) (hp.trans (sortN_perm ts).symm)
theorem sortN_one {a b : List Str} (h : a.Perm b) : sortN a = sortN b :=
  List.Perm.eq_of_pairwise (fun x y _ _ => leS_anti) (List.pairwise_mergeSort leS_trans leS_total a) (List.pairwise_mergeSort leS_trans leS_total b) ((sortN_perm a).trans (h.trans (sortN_perm b).symm))
theorem sortN_sortN (a : List Str) : sortN (sortN a) = sortN a := sortN_one (sortN_perm a)
end Wnd

/-! Windowsteps: l.count(x), items and x data of any depth. -/
namespace Wnd
open PySem PySem.Spec PyProof.Rows L2
variable {X : Cx}
def rCountD (K : PySem.W.Frag) : V → List V → Hp → VK → Prop := fun x xs H Q => ∃ (a : Addr) (y : V) (d : PyData) (ds : List PyData), x = V.ref a ∧ xs = [y] ∧ Dp K H (V.ref a) (.list ds) ∧ Dp K H y d ∧
  SeqAt.shaped (.list ds) = true ∧ SeqAt.shaped d = true ∧ Q (.int (ds.countP fun z => PyData.eqv z d : Nat)) H
theorem mt_countD (hu : X.A.units + 65 < cLine) : MtR X "list.count" (rCountD X.K) := by
  intro pins s σ H x xs v us Q I rx rxs h
  obtain ⟨a, y, d, ds, rfl, rfl, hl, hy, sl, sd, q⟩ := h
  cases rx
  obtain ⟨uy, rfl, ry⟩ := rxs.one
  obtain ⟨bs, r1⟩ := Dp.reads I d y uy hy ry
  have hxs : PyData.canLayAll0 ds = true := SeqAt.canLay_of_shaped sl
  have hroom : X.A.units + 1 + min (PyData.depthAll ds) d.depth < cLine := room_in_shaped sd hu
  cases hl with
  | lst hs ha =>
    obtain ⟨its, rv, ⟨⟨cls, dd, data, sls⟩, n, ho, hc, hdn, hdt⟩, hlen⟩ := I.list hs
    simp only at hc hdt
    subst hc hdt
    obtain ⟨as, h4⟩ := Dp.readsAll I ds _ its ha rv
    have hmap : its.map (SeqAt.readOf s.heap) = ds := SeqAt.readsAll_map ds its as hxs h4
    refine call_meets PySem.F.slot_list_count ⟨_, ho, rfl⟩ PySem.F.entry_list_count (PySem.F.args_list_count_2 _ _)
      (SeqAt.list_countAt a its.toArray n dd sls uy (fun u => PyData.eqv (SeqAt.readOf s.heap u) d)) ⟨ho, SeqAt.items_eqAt (vs := its.toArray) (show ReadsAll s.heap its.toArray.toList ds as from h4) r1 hxs (SeqAt.canLay_of_shaped sd) hroom, ?_⟩
    have ec : its.toArray.toList.countP (fun u => PyData.eqv (SeqAt.readOf s.heap u) d) = ds.countP fun z => PyData.eqv z d := by
      rw [← hmap, List.countP_map]
      rfl
    refine ⟨.int (ds.countP fun z => PyData.eqv z d : Nat), H, I.tok _, ⟨s.toks, ?_⟩, q⟩
    show Value.int ((its.toArray.toList.countP (fun u => PyData.eqv (SeqAt.readOf s.heap u) d) : Nat) : Int) s.toks = Value.int ((ds.countP fun z => PyData.eqv z d : Nat) : Int) s.toks
    rw [ec]
end Wnd

/-! Windowsteps: what the head of a law's proof finds of defs, methods, constants. -/
namespace Wnd
open PySem PySem.Spec PyProof.Rows L2
section
variable {K : PySem.W.Frag} {mg : Str → Option Value} {h : Heap}
/-- a def of the text, where the top has put it -/
def DefRaw (K : PySem.W.Frag) (x : Str) (st : Stmt) : Prop := ∃ (f : Addr) (oc : Value) (od an : Option Addr) (kV dc pm cd ct : Value) (sl : Array (Option Value)), PySem.W.nsIn K mainGlobals x = some (some (.ref f)) ∧
  K.lookup f = some ⟨oc, od, .func (PySem.W.fnOf x x (defArgs st) (defBody st) (defScope st) .none kV dc pm an cd ct), sl⟩ ∧ PySem.W.codeIn K cd x = true ∧ PySem.W.keepIn K (.ref f) = true
theorem defRaw_mk {x : Str} {st : Stmt} {f : Addr} {oc : Value} {od an : Option Addr} {kV dc pm cd ct : Value} {sl : Array (Option Value)} (a : PySem.W.nsIn K mainGlobals x = some (some (.ref f)))
    (b : K.lookup f = some ⟨oc, od, .func (PySem.W.fnOf x x (defArgs st) (defBody st) (defScope st) .none kV dc pm an cd ct), sl⟩) (c : PySem.W.codeIn K cd x = true) (d : PySem.W.keepIn K (.ref f) = true) : DefRaw K x st := ⟨f, oc, od, an, kV, dc, pm, cd, ct, sl, a, b, c, d⟩
theorem DefRaw.at {x : Str} {st : Stmt} {ps : List Str} (R : DefRaw K x st) (X : K.In h) (G : h.Ns mainGlobals mg)
    (hb : ∀ (kV doc pm : Value) (an : Option Addr) (cdv ct : Value) (us : List Value), us.length = ps.length → bindArgs (PySem.W.fnOf x x (defArgs st) (defBody st) (defScope st) .none kV doc pm an cdv ct) ⟨us, []⟩ = pure (ps.zip us)) :
    ∃ (f : Addr) (fd : FuncData), DefAt K mg x st ps f fd := by
  obtain ⟨f, oc, od, an, kV, dc, pm, cd, ct, sl, h1, h2, h3, h4⟩ := R
  have F := fun_mk (st := st) h2 h3 h4
  exact ⟨f, _, F, F.binds hb, PySem.W.mg_of X G h1⟩
/-- a method of a class -/
def MetRaw (K : PySem.W.Frag) (C : Addr) (x q : Str) (st : Stmt) : Prop := ∃ (f : Addr) (oc : Value) (od an : Option Addr) (kV dc pm cd ct : Value) (sl : Array (Option Value)), PySem.W.findIn K (.ref C) x = some (some (.ref f)) ∧ PySem.W.isFn K (.ref f) = true ∧
  K.lookup f = some ⟨oc, od, .func (PySem.W.fnOf x q (defArgs st) (defBody st) (defScope st) .none kV dc pm an cd ct), sl⟩ ∧ PySem.W.codeIn K cd q = true ∧ PySem.W.keepIn K (.ref f) = true
theorem metRaw_mk {C : Addr} {x q : Str} {st : Stmt} {f : Addr} {oc : Value} {od an : Option Addr} {kV dc pm cd ct : Value} {sl : Array (Option Value)} (a : PySem.W.findIn K (.ref C) x = some (some (.ref f))) (b : PySem.W.isFn K (.ref f) = true)
    (c : K.lookup f = some ⟨oc, od, .func (PySem.W.fnOf x q (defArgs st) (defBody st) (defScope st) .none kV dc pm an cd ct), sl⟩) (d : PySem.W.codeIn K cd q = true) (e : PySem.W.keepIn K (.ref f) = true) : MetRaw K C x q st := ⟨f, oc, od, an, kV, dc, pm, cd, ct, sl, a, b, c, d, e⟩
theorem MetRaw.at {C : Addr} {x q : Str} {st : Stmt} {ps : List Str} (R : MetRaw K C x q st)
    (hb : ∀ (kV doc pm : Value) (an : Option Addr) (cdv ct : Value) (us : List Value), us.length = ps.length → bindArgs (PySem.W.fnOf x q (defArgs st) (defBody st) (defScope st) .none kV doc pm an cdv ct) ⟨us, []⟩ = pure (ps.zip us)) :
    ∃ (f : Addr) (fd : FuncData), Fun K x q st f fd ∧ Binds K fd ps [] ∧ PySem.W.findIn K (.ref C) x = some (some (.ref f)) ∧ PySem.W.isFn K (.ref f) = true := by
  obtain ⟨f, oc, od, an, kV, dc, pm, cd, ct, sl, h1, h2, h3, h4, h5⟩ := R
  have F := fun_mk (st := st) h3 h4 h5
  exact ⟨f, _, F, F.binds hb, h1, h2⟩
/-- a static method of a class, as it is read off the class -/
def StatRaw (K : PySem.W.Frag) (C : Addr) (x q : Str) (st : Stmt) : Prop := ∃ (mc : Value) (p f : Addr) (oc : Value) (od an : Option Addr) (kV dc pm cd ct : Value) (sl : Array (Option Value)), PySem.W.readsIn K C mc = true ∧
  PySem.W.specialIn K (.ref C) "__getattribute__" = some (some (.builtin "type.__getattribute__")) ∧ PySem.W.findCls K (.ref C) mc x = some (.get (.builtin "staticmethod.__get__") (.ref p) .none (.ref C)) ∧ (∃ rest, PySem.W.recIn K p "staticmethod" = some (.ref f :: rest)) ∧
  K.lookup f = some ⟨oc, od, .func (PySem.W.fnOf x q (defArgs st) (defBody st) (defScope st) .none kV dc pm an cd ct), sl⟩ ∧ PySem.W.codeIn K cd q = true ∧ PySem.W.keepIn K (.ref f) = true
theorem statRaw_mk {C p : Addr} {x q : Str} {st : Stmt} {f : Addr} {oc : Value} {od an : Option Addr} {kV dc pm cd ct : Value} {sl : Array (Option Value)} {rest : List Value} (a : PySem.W.readsIn K C (.type "type") = true)
    (b : PySem.W.specialIn K (.ref C) "__getattribute__" = some (some (.builtin "type.__getattribute__"))) (c : PySem.W.findCls K (.ref C) (.type "type") x = some (.get (.builtin "staticmethod.__get__") (.ref p) .none (.ref C))) (d : PySem.W.recIn K p "staticmethod" = some (.ref f :: rest))
    (e : K.lookup f = some ⟨oc, od, .func (PySem.W.fnOf x q (defArgs st) (defBody st) (defScope st) .none kV dc pm an cd ct), sl⟩) (g : PySem.W.codeIn K cd q = true) (i : PySem.W.keepIn K (.ref f) = true) : StatRaw K C x q st :=
  ⟨.type "type", p, f, oc, od, an, kV, dc, pm, cd, ct, sl, a, b, c, ⟨rest, d⟩, e, g, i⟩
theorem StatRaw.at {C : Addr} {x q : Str} {st : Stmt} {ps : List Str} (R : StatRaw K C x q st)
    (hb : ∀ (kV doc pm : Value) (an : Option Addr) (cdv ct : Value) (us : List Value), us.length = ps.length → bindArgs (PySem.W.fnOf x q (defArgs st) (defBody st) (defScope st) .none kV doc pm an cdv ct) ⟨us, []⟩ = pure (ps.zip us)) :
    ∃ (mc : Value) (p g : Addr) (fd : FuncData), Fun K x q st g fd ∧ Binds K fd ps [] ∧ ClX.CRead K C mc ∧ SMet K C mc x p g := by
  obtain ⟨mc, p, f, oc, od, an, kV, dc, pm, cd, ct, sl, h1, h2, h3, h4, h5, h6, h7⟩ := R
  have F := fun_mk (st := st) h5 h6 h7
  exact ⟨mc, p, f, _, F, F.binds hb, ⟨h1, h2⟩, ⟨h3, h4, h7⟩⟩
/-- a property of a class: its getter's def -/
def PropRaw (K : PySem.W.Frag) (C : Addr) (x q : Str) (st : Stmt) : Prop := ∃ (p f : Addr) (oc : Value) (od an : Option Addr) (kV dc pm cd ct : Value) (sl : Array (Option Value)), PySem.W.findIn K (.ref C) x = some (some (.ref p)) ∧ PySem.W.specialIn K (.ref p) "__get__" = some (some (.builtin "property.__get__")) ∧
  PySem.W.takesIn K (.ref p) = some true ∧ (∃ rest, PySem.W.recIn K p "property" = some (.ref f :: rest)) ∧ K.lookup f = some ⟨oc, od, .func (PySem.W.fnOf x q (defArgs st) (defBody st) (defScope st) .none kV dc pm an cd ct), sl⟩ ∧ PySem.W.codeIn K cd q = true ∧ PySem.W.keepIn K (.ref f) = true
theorem propRaw_mk {C p : Addr} {x q : Str} {st : Stmt} {f : Addr} {oc : Value} {od an : Option Addr} {kV dc pm cd ct : Value} {sl : Array (Option Value)} {rest : List Value} (a : PySem.W.findIn K (.ref C) x = some (some (.ref p))) (b : PySem.W.specialIn K (.ref p) "__get__" = some (some (.builtin "property.__get__")))
    (c : PySem.W.takesIn K (.ref p) = some true) (d : PySem.W.recIn K p "property" = some (.ref f :: rest)) (e : K.lookup f = some ⟨oc, od, .func (PySem.W.fnOf x q (defArgs st) (defBody st) (defScope st) .none kV dc pm an cd ct), sl⟩) (g : PySem.W.codeIn K cd q = true) (i : PySem.W.keepIn K (.ref f) = true) : PropRaw K C x q st :=
  ⟨p, f, oc, od, an, kV, dc, pm, cd, ct, sl, a, b, c, ⟨rest, d⟩, e, g, i⟩
theorem PropRaw.at {C : Addr} {x q : Str} {st : Stmt} {ps : List Str} (R : PropRaw K C x q st)
    (hb : ∀ (kV doc pm : Value) (an : Option Addr) (cdv ct : Value) (us : List Value), us.length = ps.length → bindArgs (PySem.W.fnOf x q (defArgs st) (defBody st) (defScope st) .none kV doc pm an cdv ct) ⟨us, []⟩ = pure (ps.zip us)) :
    ∃ (p g : Addr) (fd : FuncData), Fun K x q st g fd ∧ Binds K fd ps [] ∧ PropOf K C x p g := by
  obtain ⟨p, f, oc, od, an, kV, dc, pm, cd, ct, sl, h1, h2, h3, h4, h5, h6, h7⟩ := R
  have F := fun_mk (st := st) h5 h6 h7
  exact ⟨p, f, _, F, F.binds hb, ⟨h1, h2, h3, h4⟩⟩
end
end Wnd

namespace Wnd
open PySem PySem.Spec PyProof.Rows L2
def top (i : Nat) : Stmt := PySem.Challenge.pw_windowsteps_k43_totals.main.body.getD i (.Pass ⟨0, 0, 0, 0⟩)
abbrev s_law_pen : Stmt := top 41
theorem sc_law_pen : FnScope ["_law_script"] ["_law_script"] (defScope s_law_pen) := ⟨rfl, rfl, rfl, by decide +kernel, rfl, by decide +kernel, by decide +kernel⟩
abbrev s_law_next : Stmt := top 42
theorem sc_law_next : FnScope ["_law_pen_here", "_law_index", "_law_cell", "_law_some_here", "_law_more", "_law_top"] ["_law_pen_here"] (defScope s_law_next) := ⟨rfl, rfl, rfl, by decide +kernel, rfl, by decide +kernel, by decide +kernel⟩
abbrev s_law_draw : Stmt := top 43
theorem sc_law_draw : FnScope ["_law_pen_here", "_law_under", "_law_digit"] ["_law_pen_here", "_law_under"] (defScope s_law_draw) := ⟨rfl, rfl, rfl, by decide +kernel, rfl, by decide +kernel, by decide +kernel⟩
structure Blt (mg : Str → Option Value) : Prop where
  len : mg "len" = none
  list : mg "list" = none
  range : mg "range" = none
  min : mg "min" = none
  max : mg "max" = none
  dict : mg "dict" = none
  sorted : mg "sorted" = none
section
variable {P : Program} {w : World} {K : PySem.W.Frag} {mg : Str → Option Value} {base : Heap}
theorem ok_pen {f : Addr} {fd : FuncData} (D : DefAt K mg "_law_pen" s_law_pen ["_law_script"] f fd) (B : Blt mg) : Ok P w K mg base 1 "_law_pen" ["_law_script"] (spPen K) := by
  refine D.ok (D.fn.ok sc_law_pen (fun vs H Q E h => ?_) (fun cdv A outer s H vs Q E hr h => ?_))
  · obtain ⟨a, ns, rfl, _⟩ := h
    rfl
  · obtain ⟨a, ns, rfl, hS, hlen, q⟩ := h
    refine ⟨_, (pss_one (ps_ret (pe_lst (pa_cons (pe_callTy call_list_of (by rfl) B.list (by decide +kernel) (pa_cons (pe_slice sl_list (pv 0) po_none (po_some pe_int)) pa_nil)) (pa_cons pe_int (pa_cons pe_int pa_nil)))))), ?_⟩
    refine ⟨_, rfl, 60, rfl, a, _, rfl, hS, fun c1 n1 => ?_⟩
    have s1 : Same H _ := same_new (o := .lst (cutV (ns.map V.int) none (some 60))) n1
    refine ⟨c1, _, rfl, .inl (SqL.of upd_same), fun c n2 => ?_⟩
    have s2 := s1.trans (same_new (o := .lst (cutV (ns.map V.int) none (some 60))) n2)
    refine ⟨by show 3 ≤ sizeLine; decide, fun p n3 => ?_⟩
    have s3 := s2.trans (same_new (o := .lst [.ref c, .int 0, .int 0]) n3)
    have ncp : c ≠ p := fun e => by
      rw [e, upd_same] at n3
      cases n3
    refine q p c _ s3 (s2.free n3) (s1.free n2) ⟨ns.take 60, 0, 0, ?_, Nat.le_refl _, ?_, upd_same⟩
    · rw [List.length_take]
      omega
    · rw [upd_ne ncp, upd_same]
      congr 2
      rw [List.map_take]
      unfold cutV
      rw [HT.sIx_none, show HT.sIx (ns.map V.int).length (ns.map V.int).length (some 60) = min 60 (ns.map V.int).length from HT.sIx_nat _ _ 60, List.drop_zero, Nat.sub_zero]
      by_cases hl : (ns.map V.int).length ≤ 60
      · rw [Nat.min_eq_right hl, List.take_length, List.take_of_length_le hl]
      · rw [Nat.min_eq_left (by omega)]
theorem dp_ints {H : Hp} : ∀ cs : List Int, DpAll K H (cs.map V.int) (cs.map PyData.int)
  | [] => .nil
  | c :: r => .cons (.int c) (dp_ints r)
theorem lay_ints : ∀ cs : List Int, PyData.canLayAll0 (cs.map PyData.int) = true ∧ PyData.depthAll (cs.map PyData.int) = 0
  | [] => ⟨by simp [PyData.canLayAll0], by simp [PyData.depthAll]⟩
  | c :: r => by
    obtain ⟨h1, h2⟩ := lay_ints r
    refine ⟨?_, ?_⟩
    · simp [PyData.canLayAll0, PyData.canLay0, h1]
    · simp [PyData.depthAll, PyData.depth, h2]
theorem shaped_ints (cs : List Int) : SeqAt.shaped (.list (cs.map PyData.int)) = true := by
  obtain ⟨h1, h2⟩ := lay_ints cs
  simp [SeqAt.shaped, PyData.canLay0, h1, PyData.depth, h2]
theorem mod_sm {a m : Int} (h0 : 0 < m) (h : m < 2 ^ 64) : -(2 ^ 64) < a % m ∧ a % m < 2 ^ 64 := by
  have h1 := Int.emod_nonneg a (show m ≠ 0 by omega)
  have h2 := Int.emod_lt_of_pos a h0
  omega
theorem ok_next {f : Addr} {fd : FuncData} (D : DefAt K mg "_law_next" s_law_next ["_law_pen_here"] f fd) (B : Blt mg) : Ok P w K mg base 1 "_law_next" ["_law_pen_here"] spNext := by
  refine D.ok (D.fn.ok sc_law_next (fun vs H Q E h => ?_) (fun cdv A outer s H vs Q E hr h => ?_))
  · obtain ⟨p, c, n, rfl, _⟩ := h
    rfl
  · obtain ⟨p, c, n, rfl, hP, hn, q⟩ := h
    have ncp := hP.ne
    obtain ⟨cs, i, z, hcs, hi, hc, hp⟩ := hP
    have nd := sc_law_next.nd
    refine ⟨_, (pss_cons (ps_set (i := 1) nd rfl (Or.inl rfl) (pe_ix ix_list (pv 0) pe_int (fun _ _ => rfl)))
      (pss_cons (ps_asg (pe_op op_add (pv 1) pe_int) (pg_sub (pv 0) pe_int set_list))
      (pss_cons (ps_set (i := 2) nd rfl (Or.inl rfl) (pe_op op_add (pe_op op_mul (pv 1) pe_int) pe_int))
      (C8.pss_cut (ps_if (pt_cmpR (op_neD (hu_of64 hr)) (pe_ix ix_list (pv 0) pe_int (fun _ _ => rfl)) (pe_lst pa_nil) (nomark _)) (pss_one (ps_set (i := 2) nd rfl (Or.inl rfl) (pe_ix ix_list (pe_ix ix_list (pv 0) pe_int (fun _ _ => rfl)) (pe_op op_mod (pv 1) (pe_callB call_len_seq (by rfl) B.len PySem.boot_len (pa_cons (pe_ix ix_list (pv 0) pe_int (fun _ _ => rfl)) pa_nil))) (fun _ _ => rfl)))) pss_nil)
      (C8.pss_cut (ps_if (PW.pt (pw_and (pt_cmpR op_lt (pv 1) (pe_callB call_len_seq (by rfl) B.len PySem.boot_len (pa_cons (pe_ix ix_list (pv 0) pe_int (fun _ _ => rfl)) pa_nil)) (nomark _)) (pw_and1 (pt_cmpR op_ge (pv 2) (pe_op op_pow pe_int pe_int) (nomark _))))) (pss_one (ps_ret (pv 2))) pss_nil)
      (pss_cons (ps_set (i := 3) nd rfl (Or.inl rfl) (pe_op op_mod (pe_op op_add (pe_op op_add (pe_op op_mod (pv 2) pe_int) (pe_op op_mul (pv 1) pe_int)) pe_int) pe_int))
      (pss_cons (ps_set (i := 4) nd rfl (Or.inl rfl) (pe_op op_mod (pe_op op_add (pe_op op_add (pe_op op_mul (pv 3) (pv 3)) (pe_op op_mul (pv 1) pe_int)) pe_int) pe_int))
      (pss_cons (ps_set (i := 5) nd rfl (Or.inl rfl) (pe_op op_mod (pe_op op_add (pe_op op_add (pe_op op_mul (pv 4) (pv 4)) (pv 3)) (pe_op op_mul (pe_op op_mul (pv 1) (pv 1)) pe_int)) pe_int))
      (pss_one (ps_ret (pe_op op_add (pe_op op_mul (pe_op op_add (pe_op op_mul (pv 5) pe_int) (pv 4)) pe_int) (pv 3)))))))))))), ?_⟩
    -- index
    refine ⟨_, rfl, p, _, 1, _, rfl, rfl, SqL.of hp, rfl, ?_⟩
    -- pen[1] = index + 1
    refine ⟨_, rfl, i, 1, rfl, rfl, _, rfl, p, _, 1, 1, rfl, rfl, hp, rfl, ?_⟩
    -- cell = index * 1061 + 37
    refine ⟨_, rfl, i, 1061, rfl, rfl, .inr ⟨by decide, by decide⟩, _, 37, rfl, rfl, ?_⟩
    have hp1 : (upd H p (.lst [.ref c, .int (i + 1), .int z])) p = some (.lst [.ref c, .int (i + 1), .int z]) := upd_same
    have hc1 : (upd H p (.lst [.ref c, .int (i + 1), .int z])) c = some (.lst (cs.map V.int)) := by
      rw [upd_ne ncp]
      exact hc
    have b1 : But p H (upd H p (.lst [.ref c, .int (i + 1), .int z])) := But.upd
    generalize hH1 : upd H p (.lst [.ref c, .int (i + 1), .int z]) = H1 at hp1 hc1 b1
    -- if pen[0] != []
    refine ⟨fun σ H2 => ∃ cell : Int, σ = [some (.ref p), some (.int i), some (.int cell), none, none, none] ∧ Same H1 H2, ?_, ?_⟩
    · rw [← hH1] at hp1 hc1 ⊢
      refine ⟨_, rfl, p, _, 0, _, rfl, rfl, SqL.of hp1, rfl, Nat.zero_le _, fun t nt => ?_⟩
      have s1 := same_new (o := .lst []) nt
      have hp2 := s1 _ _ hp1
      have hc2 := s1 _ _ hc1
      refine ⟨_, _, .lst (SqL.of hc2) (dp_ints cs), .lst (SqL.of upd_same) (dp_ints []), shaped_ints cs, shaped_ints [], _, rfl, ?_⟩
      cases cs with
      | nil =>
        refine iteF ?_
        exact ⟨_, rfl, s1⟩
      | cons x r =>
        refine iteT ?_
        refine ⟨_, rfl, p, _, 0, _, rfl, rfl, SqL.of hp2, rfl, _, rfl, _, rfl, p, _, 0, _, rfl, rfl, SqL.of hp2, rfl, c, _, rfl, .inl (SqL.of hc2), _, _, rfl, rfl, ?_, ?_⟩
        · show (0 : Int) < (((x :: r).map V.int).length : Nat)
          rw [List.length_map, List.length_cons]
          omega
        · have hm0 : 0 ≤ (i : Int) % (((x :: r).map V.int).length : Nat) := Int.emod_nonneg _ (by rw [List.length_map, List.length_cons]; omega)
          have hm1 : (i : Int) % (((x :: r).map V.int).length : Nat) < (((x :: r).map V.int).length : Nat) := Int.emod_lt_of_pos _ (by rw [List.length_map, List.length_cons]; omega)
          generalize hj : (i : Int) % (((x :: r).map V.int).length : Nat) = j at hm0 hm1
          obtain ⟨k, rfl⟩ := Int.eq_ofNat_of_zero_le hm0
          have hk : k < (x :: r).length := by
            rw [List.length_map] at hm1
            omega
          refine ⟨c, _, k, .int (x :: r)[k], rfl, congrArg V.int hj, SqL.of hc2, atI_nat (by rw [List.getElem?_map, List.getElem?_eq_getElem hk]; rfl), ?_⟩
          exact ⟨_, rfl, s1⟩
    · rintro σ H2 ⟨cell, rfl, s2⟩
      have hp2 := s2 _ _ hp1
      have hc2 := s2 _ _ hc1
      have b2 : But p H H2 := b1.trans (But.of s2)
      have fin : ∀ r : Int, Q (.int r) H2 := fun r => q r H2 b2 ⟨cs, i + 1, z, hcs, by omega, hc2, hp2⟩
      -- if index < len(pen[0]) and cell >= 10 ** 18: return cell
      refine ⟨fun σ H3 => σ = [some (.ref p), some (.int i), some (.int cell), none, none, none] ∧ H3 = H2, ?_, ?_⟩
      · refine ⟨_, rfl, _, rfl, p, _, 0, _, rfl, rfl, SqL.of hp2, rfl, c, _, rfl, .inl (SqL.of hc2), _, _, rfl, rfl, _, rfl, ?_⟩
        refine ite2 (fun _ => ?_) (fun _ => ?_)
        · refine ⟨_, rfl, 10, 18, rfl, rfl, ⟨by decide, by decide, by decide⟩, _, _, rfl, rfl, _, rfl, ?_⟩
          refine ite2 (fun _ => ?_) (fun _ => ⟨rfl, rfl⟩)
          exact ⟨_, rfl, fin _⟩
        · exact iteF ⟨rfl, rfl⟩
      · rintro σ H3 ⟨rfl, rfl⟩
        refine ⟨_, rfl, cell, 2147483587, rfl, rfl, (by show (0 : Int) < 2147483587; decide), _, rfl, i, 50069, rfl, rfl, .inr ⟨by decide, by decide⟩, _, _, rfl, rfl, _, 61, rfl, rfl, _, 2147483587, rfl, rfl, (by show (0 : Int) < 2147483587; decide), ?_⟩
        refine ⟨_, rfl, _, rfl, _, _, rfl, rfl, .inl (mod_sm (by decide) (by decide)), _, rfl, i, 40013, rfl, rfl, .inr ⟨by decide, by decide⟩, _, _, rfl, rfl, _, 43, rfl, rfl, _, 2147483563, rfl, rfl, (by show (0 : Int) < 2147483563; decide), ?_⟩
        refine ⟨_, rfl, _, rfl, _, _, rfl, rfl, .inl (mod_sm (by decide) (by decide)), _, rfl, _, _, rfl, rfl, _, rfl, _, rfl, i, i, rfl, rfl, .inl ⟨by omega, by omega⟩, _, 19, rfl, rfl, .inr ⟨by decide, by decide⟩, _, _, rfl, rfl, _, 2147483549, rfl, rfl, (by show (0 : Int) < 2147483549; decide), ?_⟩
        refine ⟨_, rfl, _, 2147483587, rfl, rfl, .inr ⟨by decide, by decide⟩, _, rfl, _, _, rfl, rfl, _, 2147483563, rfl, rfl, .inr ⟨by decide, by decide⟩, _, rfl, _, _, rfl, rfl, ?_⟩
        exact fin _
theorem ok_draw {f : Addr} {fd : FuncData} (D : DefAt K mg "_law_draw" s_law_draw ["_law_pen_here", "_law_under"] f fd) (O_law_next : Ok P w K mg base 1 "_law_next" ["_law_pen_here"] spNext) : Ok P w K mg base 2 "_law_draw" ["_law_pen_here", "_law_under"] spDraw := by
  refine D.ok (D.fn.ok sc_law_draw (fun vs H Q E h => ?_) (fun cdv A outer s H vs Q E hr h => ?_))
  · obtain ⟨p, c, n, u, rfl, _⟩ := h
    rfl
  · obtain ⟨p, c, n, u, rfl, hP, hn, hu0, hu1, q⟩ := h
    have ncp := hP.ne
    have nd := sc_law_draw.nd
    refine ⟨_, (C8.pss_cut (ps_if (pt_cmpR op_lt (pe_ix ix_list (pv 0) pe_int (fun _ _ => rfl)) (pv 1) (nomark _)) (pss_one (ps_asg (pe_own O_law_next (hr.mono (by decide)) (pa_cons (pv 0) pa_nil)) (pg_sub (pv 0) pe_int set_list))) pss_nil)
      (pss_cons (ps_set (i := 2) nd rfl (Or.inl rfl) (pe_op op_mod (pe_ix ix_list (pv 0) pe_int (fun _ _ => rfl)) (pv 1)))
      (pss_cons (ps_asg (pe_op op_fdiv (pe_ix ix_list (pv 0) pe_int (fun _ _ => rfl)) (pv 1)) (pg_sub (pv 0) pe_int set_list))
      (pss_one (ps_ret (pv 2)))))), ?_⟩
    refine ⟨fun σ H2 => σ = [some (.ref p), some (.int u), none] ∧ But p H H2 ∧ PenAt H2 p c (n + 1), ?_, ?_⟩
    · have hP' := hP
      obtain ⟨cs, i, z, hcs, hi, hc, hp⟩ := hP
      refine ⟨_, rfl, p, _, 2, _, rfl, rfl, SqL.of hp, rfl, _, rfl, _, _, rfl, rfl, _, rfl, ?_⟩
      refine ite2 (fun _ => ?_) (fun _ => ⟨rfl, But.refl _ _, hP'.le (Nat.le_succ _)⟩)
      refine ⟨_, rfl, p, c, n, rfl, hP', hn, fun r H2 b2 hP2 => ?_⟩
      obtain ⟨cs, i, z, hcs, hi, hc, hp⟩ := hP2
      refine ⟨_, rfl, p, _, 2, 2, rfl, rfl, hp, rfl, ?_⟩
      refine ⟨rfl, b2.trans But.upd, cs, i, r, hcs, hi, ?_, upd_same⟩
      rw [upd_ne ncp]
      exact hc
    · rintro σ H2 ⟨rfl, b2, cs, i, z, hcs, hi, hc, hp⟩
      refine ⟨_, rfl, p, _, 2, _, rfl, rfl, SqL.of hp, rfl, _, rfl, z, u, rfl, rfl, hu0, ?_⟩
      refine ⟨_, rfl, p, _, 2, _, rfl, rfl, SqL.of hp, rfl, _, rfl, z, u, rfl, rfl, ⟨hu0, by omega⟩, _, rfl, p, _, 2, 2, rfl, rfl, hp, rfl, ?_⟩
      refine ⟨_, rfl, q _ _ (Int.emod_nonneg _ (by omega)) (Int.emod_lt_of_pos _ hu0) (b2.trans But.upd) ⟨cs, i, z / u, hcs, hi, ?_, upd_same⟩⟩
      rw [upd_ne ncp]
      exact hc
end
end Wnd

namespace Wnd
open PySem PySem.Spec PyProof.Rows L2
abbrev s_is_integer : Stmt := top 9
theorem sc_is_integer : FnScope ["thing"] ["thing"] (defScope s_is_integer) := ⟨rfl, rfl, rfl, by decide +kernel, rfl, by decide +kernel, by decide +kernel⟩
abbrev s_is_integer_within : Stmt := top 10
theorem sc_is_integer_within : FnScope ["thing", "least", "greatest"] ["thing", "least", "greatest"] (defScope s_is_integer_within) := ⟨rfl, rfl, rfl, by decide +kernel, rfl, by decide +kernel, by decide +kernel⟩
abbrev s_is_name : Stmt := top 11
theorem sc_is_name : FnScope ["thing", "letter"] ["thing"] (defScope s_is_name) := ⟨rfl, rfl, rfl, by decide +kernel, rfl, by decide +kernel, by decide +kernel⟩
abbrev s_System___init : Stmt := inClass (top 29) 0
theorem sc_System___init : FnScope ["self", "names", "rules"] ["self", "names", "rules"] (defScope s_System___init) := ⟨rfl, rfl, rfl, by decide +kernel, rfl, by decide +kernel, by decide +kernel⟩
abbrev s_System_names : Stmt := inClass (top 29) 1
theorem sc_System_names : FnScope ["self"] ["self"] (defScope s_System_names) := ⟨rfl, rfl, rfl, by decide +kernel, rfl, by decide +kernel, by decide +kernel⟩
abbrev s_System_rules : Stmt := inClass (top 29) 2
theorem sc_System_rules : FnScope ["self"] ["self"] (defScope s_System_rules) := ⟨rfl, rfl, rfl, by decide +kernel, rfl, by decide +kernel, by decide +kernel⟩
abbrev s_System___eq : Stmt := inClass (top 29) 7
theorem sc_System___eq : FnScope ["self", "other"] ["self", "other"] (defScope s_System___eq) := ⟨rfl, rfl, rfl, by decide +kernel, rfl, by decide +kernel, by decide +kernel⟩
abbrev s_System_is_rule : Stmt := inClass (top 29) 8
theorem sc_System_is_rule : FnScope ["thing", "low", "high", "gap"] ["thing"] (defScope s_System_is_rule) := ⟨rfl, rfl, rfl, by decide +kernel, rfl, by decide +kernel, by decide +kernel⟩
abbrev s_is_end : Stmt := top 30
theorem sc_is_end : FnScope ["thing"] ["thing"] (defScope s_is_end) := ⟨rfl, rfl, rfl, by decide +kernel, rfl, by decide +kernel, by decide +kernel⟩
abbrev s_are_different_names : Stmt := top 31
theorem sc_are_different_names : FnScope ["things", "thing"] ["things"] (defScope s_are_different_names) := ⟨rfl, rfl, rfl, by decide +kernel, rfl, by decide +kernel, by decide +kernel⟩
abbrev s_are_rules_between : Stmt := top 32
theorem sc_are_rules_between : FnScope ["things", "names", "ends", "low", "high", "_", "thing"] ["things", "names"] (defScope s_are_rules_between) := ⟨rfl, rfl, rfl, by decide +kernel, rfl, by decide +kernel, by decide +kernel⟩
abbrev s_ascending : Stmt := top 33
theorem sc_ascending : FnScope ["rules", "different", "rule"] ["rules"] (defScope s_ascending) := ⟨rfl, rfl, rfl, by decide +kernel, rfl, by decide +kernel, by decide +kernel⟩
abbrev s_rank : Stmt := top 34
theorem sc_rank : FnScope ["rule", "low", "high", "gap"] ["rule"] (defScope s_rank) := ⟨rfl, rfl, rfl, by decide +kernel, rfl, by decide +kernel, by decide +kernel⟩
structure Blt2 (mg : Str → Option Value) : Prop extends Blt mg where
  isinstance : mg "isinstance" = none
  int : mg "int" = none
  bool : mg "bool" = none
  str : mg "str" = none
  tuple : mg "tuple" = none
  all : mg "all" = none
  set : mg "set" = none
section
variable {P : Program} {w : World} {K : PySem.W.Frag} {mg : Str → Option Value} {base : Heap}
/-! ### kinds -/
/-- is x an integer -/
def IntQ (K : PySem.W.Frag) (H : Hp) (x : V) (b : Bool) : Prop := (∃ i, x = .int i ∧ b = true) ∨ (∃ k, x = .bl k ∧ b = false) ∨ (∃ t, TyX K H x t ∧ PySem.W.kitOne K t (.type "int") = some false ∧ b = false)
def spIsInt (K : PySem.W.Frag) : Sp := fun vs H Q _ => ∃ x b, vs = [x] ∧ IntQ K H x b ∧ Q (.bl b) H
theorem ok_is_integer {f : Addr} {fd : FuncData} (D : DefAt K mg "is_integer" s_is_integer ["thing"] f fd) (B : Blt2 mg) : Ok P w K mg base 1 "is_integer" ["thing"] (spIsInt K) := by
  refine D.ok (D.fn.ok sc_is_integer (fun vs H Q E h => ?_) (fun cdv A outer s H vs Q E hr h => ?_))
  · obtain ⟨x, b, rfl, _⟩ := h
    rfl
  · obtain ⟨x, b, rfl, hx, q⟩ := h
    refine ⟨_, (pss_one (ps_ret (pe_and (pe_callB call_isi (by rfl) B.isinstance (by decide +kernel) (pa_cons (pv 0) (pa_cons (pe_bltn (v := .ty "int") (by rfl) B.int (by decide +kernel) rfl) pa_nil))) (pe_one (pe_not (pe_callB call_isi (by rfl) B.isinstance (by decide +kernel) (pa_cons (pv 0) (pa_cons (pe_bltn (v := .ty "bool") (by rfl) B.bool (by decide +kernel) rfl) pa_nil)))))))), ?_⟩
    rcases hx with ⟨i, rfl, rfl⟩ | ⟨k, rfl, rfl⟩ | ⟨t, ty, kt, rfl⟩
    · refine ⟨_, rfl, _, _, _, _, true, rfl, .ty _, .base (.int i), kit_ty (by decide +kernel), true, rfl, ?_⟩
      refine ⟨_, rfl, _, _, _, _, false, rfl, .ty _, .base (.int i), kit_ty (by decide +kernel), false, rfl, ?_⟩
      exact q
    · refine ⟨_, rfl, _, _, _, _, true, rfl, .ty _, .base (.bl k), kit_ty (by decide +kernel), true, rfl, ?_⟩
      refine ⟨_, rfl, _, _, _, _, true, rfl, .ty _, .base (.bl k), kit_ty (by decide +kernel), true, rfl, ?_⟩
      exact q
    · refine ⟨_, rfl, _, _, _, _, false, rfl, .ty _, ty, kt, false, rfl, ?_⟩
      exact q
/-- is x an integer from lo to hi -/
def InQ (K : PySem.W.Frag) (H : Hp) (x : V) (lo hi : Int) (b : Bool) : Prop := (∃ i, x = .int i ∧ b = (decide (lo ≤ i) && decide (i ≤ hi))) ∨ (IntQ K H x false ∧ b = false)
def spIsIn (K : PySem.W.Frag) : Sp := fun vs H Q _ => ∃ x lo hi b, vs = [x, .int lo, .int hi] ∧ InQ K H x lo hi b ∧ Q (.bl b) H
theorem ok_is_integer_within {f : Addr} {fd : FuncData} (D : DefAt K mg "is_integer_within" s_is_integer_within ["thing", "least", "greatest"] f fd) (B : Blt2 mg) (O_is_integer : Ok P w K mg base 1 "is_integer" ["thing"] (spIsInt K)) :
    Ok P w K mg base 2 "is_integer_within" ["thing", "least", "greatest"] (spIsIn K) := by
  refine D.ok (D.fn.ok sc_is_integer_within (fun vs H Q E h => ?_) (fun cdv A outer s H vs Q E hr h => ?_))
  · obtain ⟨x, lo, hi, b, rfl, _⟩ := h
    rfl
  · obtain ⟨x, lo, hi, b, rfl, hx, q⟩ := h
    refine ⟨_, (pss_one (ps_ret (pe_and (pe_own O_is_integer (hr.mono (by decide)) (pa_cons (pv 0) pa_nil)) (pe_one (pe_chain op_le op_le (pv 1) (pv 0) (pv 2)))))), ?_⟩
    rcases hx with ⟨i, rfl, rfl⟩ | ⟨hn, rfl⟩
    · refine ⟨_, rfl, _, true, rfl, .inl ⟨i, rfl, rfl⟩, true, rfl, ?_⟩
      refine ⟨_, rfl, _, rfl, lo, i, rfl, rfl, _, rfl, ?_⟩
      refine ite2 (fun e => ?_) (fun e => ?_)
      · refine ⟨_, rfl, i, hi, rfl, rfl, ?_⟩
        rw [e, Bool.true_and] at q
        exact q
      · rw [Bool.not_eq_true] at e
        rw [e, Bool.false_and] at q
        exact q
    · exact ⟨_, rfl, x, false, rfl, hn, false, rfl, q⟩

/-! ### names -/
def letterOk (c : Nat) : Bool := !decide ([c] < [97]) && !decide ([122] < [c])
def nameB (t : Str) : Bool := decide ((1 : Int) ≤ t.length) && decide ((t.length : Int) ≤ 8) && t.cps.toList.all letterOk
def NamQ (K : PySem.W.Frag) (H : Hp) (x : V) (b : Bool) : Prop := (∃ t : Str, x = .str t ∧ t.length ≤ sizeLine ∧ b = nameB t) ∨ (∃ t, TyX K H x t ∧ PySem.W.kitOne K t (.type "str") = some false ∧ b = false)
def spIsName (K : PySem.W.Frag) : Sp := fun vs H Q _ => ∃ x b, vs = [x] ∧ NamQ K H x b ∧ ∀ H', Same H H' → Q (.bl b) H'
theorem ok_is_name {f : Addr} {fd : FuncData} (D : DefAt K mg "is_name" s_is_name ["thing"] f fd) (B : Blt2 mg) (C_LONGEST_NAME : ∃ t, mg "LONGEST_NAME" = some (.int 8 t)) : Ok P w K mg base 1 "is_name" ["thing"] (spIsName K) := by
  obtain ⟨lt, C_LONGEST_NAME⟩ := C_LONGEST_NAME
  refine D.ok (D.fn.ok sc_is_name (fun vs H Q E h => ?_) (fun cdv A outer s H vs Q E hr h => ?_))
  · obtain ⟨x, b, rfl, _⟩ := h
    rfl
  · obtain ⟨x, b, rfl, hx, q⟩ := h
    have nd := sc_is_name.nd
    refine ⟨_, (pss_cons (ps_if (PW.pt (pw_or (pt_not (pt_val (pe_callB call_isi (by rfl) B.isinstance (by decide +kernel) (pa_cons (pv 0) (pa_cons (pe_bltn (v := .ty "str") (by rfl) B.str (by decide +kernel) rfl) pa_nil))))) (pw_or1 (pt_not (pt_chain op_le op_le pe_int (pe_callB call_len_str (by rfl) B.len PySem.boot_len (pa_cons (pv 0) pa_nil)) (pe_glob (v := .int 8) rfl C_LONGEST_NAME ⟨_, rfl⟩)))))) (pss_one (ps_ret pe_bl)) pss_nil)
      (pss_one (ps_ret (pe_callB (cr_all rfl) (by rfl) B.all (by decide +kernel) (pa_cons (pe_lc (own := [("letter", 1)]) (g := gName 1) (tt := tYes) (by rfl) nd (pi_str (pv 0)) (blkOk_by (own := [("letter", 1)]) (N := ["thing", "letter"]) (sc := defScope s_is_name) (by decide +kernel)) (fun _ _ _ _ _ => (pg_name (i := 1) nd rfl (Or.inl rfl))) (fun _ _ _ _ _ => pts_nil) (fun _ _ _ _ _ => (pe_chain op_le_str op_le_str pe_str (pv 1) pe_str))) pa_nil))))), ?_⟩
    rcases hx with ⟨t, rfl, hz, rfl⟩ | ⟨ty, hty, kt, rfl⟩
    · refine ⟨_, rfl, _, _, _, _, true, rfl, .ty _, .base (.str t), kit_ty (by decide +kernel), true, rfl, ?_⟩
      refine ⟨_, rfl, t, rfl, hz, 1, t.length, rfl, rfl, _, rfl, ?_⟩
      refine ite2 (fun e1 => ?_) (fun e1 => ?_)
      · refine ⟨t.length, 8, rfl, rfl, _, rfl, ?_⟩
        refine ite2 (fun e2 => ?_) (fun e2 => ?_)
        · rw [Bool.not_eq_true'] at e2
          have : nameB t = false := by unfold nameB; rw [e2]; simp
          rw [this] at q
          exact q _ (Same.refl _)
        · rw [Bool.not_eq_true, Bool.not_eq_false'] at e2
          refine ⟨_, rfl, t, rfl, fun D hD => ?_⟩
          refine lc_map walk_str hD (t.cps.toList.map fun c => V.bl (letterOk c)) (by rw [List.length_map, Array.length_toList]) (by
            have h8 := of_decide_eq_true e2
            have : t.length = t.cps.size := rfl
            have : sizeLine > 8 := by decide
            omega) (fun _ _ => True.intro) ?_ ?_
          · rintro i x H2 H' hi R L s1 ⟨rfl, c, hc, rfl⟩ hR
            have hR := hR _ (Same.refl _)
            have ec : (t.cps.toList.map fun c => V.bl (letterOk c))[i] = V.bl (letterOk c) := by
              rw [List.getElem_map]
              have h2 : t.cps.toList[i]? = some c := by rw [← hc]; simp
              obtain ⟨h3, h4⟩ := List.getElem?_eq_some_iff.mp h2
              rw [h4]
            rw [ec] at hR
            refine ⟨rfl, ?_⟩
            refine iteT (B := L H') ?_
            refine ⟨_, rfl, ?_⟩
            refine ⟨_, _, rfl, rfl, _, rfl, ?_⟩
            refine ite2 (fun e3 => ?_) (fun e3 => ?_)
            · refine ⟨_, _, rfl, rfl, ?_⟩
              unfold letterOk at hR
              rw [show (!decide ([c] < [97])) = true from e3, Bool.true_and] at hR
              exact hR
            · rw [Bool.not_eq_true] at e3
              unfold letterOk at hR
              rw [show (!decide ([c] < [97])) = false from e3, Bool.false_and] at hR
              exact hR
          · intro H2 s2 h2
            refine ⟨D, t.cps.toList.map letterOk, rfl, SqL.of (by rw [List.map_map]; exact h2), ?_⟩
            have e : nameB t = (t.cps.toList.map letterOk).all id := by
              unfold nameB
              rw [show decide ((1 : Int) ≤ t.length) = true from e1, show decide ((t.length : Int) ≤ 8) = true from e2, List.all_map]
              rfl
            rw [e] at q
            exact q _ s2
      · rw [Bool.not_eq_true] at e1
        have : nameB t = false := by unfold nameB; rw [e1]; simp
        rw [this] at q
        exact ⟨_, rfl, q _ (Same.refl _)⟩
    · refine ⟨_, rfl, _, _, _, _, false, rfl, .ty _, hty, kt, false, rfl, ?_⟩
      exact q _ (Same.refl _)

/-- is x an end of a rule -/
def EndQ (K : PySem.W.Frag) (H : Hp) (x : V) (b : Bool) : Prop := (x = .non ∧ b = true) ∨ (x ≠ .non ∧ NamQ K H x b)
def spIsEnd (K : PySem.W.Frag) : Sp := fun vs H Q _ => ∃ x b, vs = [x] ∧ EndQ K H x b ∧ ∀ H', Same H H' → Q (.bl b) H'
theorem ok_is_end {f : Addr} {fd : FuncData} (D : DefAt K mg "_is_end" s_is_end ["thing"] f fd) (O_is_name : Ok P w K mg base 1 "is_name" ["thing"] (spIsName K)) : Ok P w K mg base 2 "_is_end" ["thing"] (spIsEnd K) := by
  refine D.ok (D.fn.ok sc_is_end (fun vs H Q E h => ?_) (fun cdv A outer s H vs Q E hr h => ?_))
  · obtain ⟨x, b, rfl, _⟩ := h
    rfl
  · obtain ⟨x, b, rfl, hx, q⟩ := h
    refine ⟨_, (pss_one (ps_ret (pe_or (pe_cmpR op_isN (pv 0) pe_non (nomark _)) (pe_one (pe_own O_is_name (hr.mono (by decide)) (pa_cons (pv 0) pa_nil)))))), ?_⟩
    rcases hx with ⟨rfl, rfl⟩ | ⟨hn, hx⟩
    · exact ⟨_, rfl, rfl, _, rfl, q _ (Same.refl _)⟩
    · refine ⟨_, rfl, rfl, _, rfl, ?_⟩
      rw [if_neg (by rw [decide_eq_false hn]; exact Bool.false_ne_true)]
      exact ⟨_, rfl, x, b, rfl, hx, q⟩
/-- is x a rule between any names -/
def RulQ (K : PySem.W.Frag) (H : Hp) (x : V) (b : Bool) : Prop := (∃ t, TyX K H x t ∧ PySem.W.kitOne K t (.type "tuple") = some false ∧ b = false) ∨
  (∃ q xs, x = .ref q ∧ H q = some (.tup xs) ∧ xs.length ≠ 3 ∧ b = false) ∨
  (∃ q l h g bl bh bg, x = .ref q ∧ H q = some (.tup [l, h, g]) ∧ (∀ H', Same H H' → EndQ K H' l bl ∧ EndQ K H' h bh ∧ InQ K H' g (-999) 999 bg) ∧ b = (bl && bh && !decide (l = h) && bg))
def spIsRule (K : PySem.W.Frag) : Sp := fun vs H Q _ => ∃ x b, vs = [x] ∧ RulQ K H x b ∧ ∀ H', Same H H' → Q (.bl b) H'
theorem ends_scal {H : Hp} {l h : V} (a : EndQ K H l true) (b : EndQ K H h true) : scal l h = true := by
  rcases a with ⟨rfl, _⟩ | ⟨_, ⟨t, rfl, _⟩ | ⟨_, _, _, e⟩⟩
  · rcases b with ⟨rfl, _⟩ | ⟨_, ⟨t, rfl, _⟩ | ⟨_, _, _, e⟩⟩
    · rfl
    · rfl
    · cases e
  · rcases b with ⟨rfl, _⟩ | ⟨_, ⟨t, rfl, _⟩ | ⟨_, _, _, e⟩⟩
    · rfl
    · rfl
    · cases e
  · cases e
theorem ok_is_rule {qn : Str} {f : Addr} {fd : FuncData} (F : Fun K "is_rule" qn s_System_is_rule f fd) (B : Blt2 mg) (C_GREATEST_GAP : ∃ t, mg "GREATEST_GAP" = some (.int 999 t)) (O_is_end : Ok P w K mg base 2 "_is_end" ["thing"] (spIsEnd K))
    (O_is_integer_within : Ok P w K mg base 2 "is_integer_within" ["thing", "least", "greatest"] (spIsIn K)) : FnOk P w K mg base CX0 3 f fd ["thing"] (spIsRule K) := by
  obtain ⟨lt, C_GREATEST_GAP⟩ := C_GREATEST_GAP
  refine F.ok sc_System_is_rule (fun vs H Q E h => ?_) (fun cdv A outer s H vs Q E hr h => ?_)
  · obtain ⟨x, b, rfl, _⟩ := h
    rfl
  · obtain ⟨x, b, rfl, hx, q⟩ := h
    have nd := sc_System_is_rule.nd
    refine ⟨_, (pss_cons (ps_if (PW.pt (pw_or (pt_not (pt_val (pe_callB call_isi (by rfl) B.isinstance (by decide +kernel) (pa_cons (pv 0) (pa_cons (pe_bltn (v := .ty "tuple") (by rfl) B.tuple (by decide +kernel) rfl) pa_nil))))) (pw_or1 (pt_cmpR op_ne (pe_callB call_len_seq (by rfl) B.len PySem.boot_len (pa_cons (pv 0) pa_nil)) pe_int (nomark _))))) (pss_one (ps_ret pe_bl)) pss_nil)
      (pss_cons (ps_asg (pv 0) (pg_tup rfl (pgs_cons (pg_name (i := 1) nd rfl (Or.inl rfl)) (pgs_cons (pg_name (i := 2) nd rfl (Or.inl rfl)) (pgs_cons (pg_name (i := 3) nd rfl (Or.inl rfl)) pgs_nil)))))
      (pss_cons (ps_if (PW.pt (pw_or (pt_not (pt_val (pe_own O_is_end (hr.mono (by decide)) (pa_cons (pv 1) pa_nil)))) (pw_or (pt_not (pt_val (pe_own O_is_end (hr.mono (by decide)) (pa_cons (pv 2) pa_nil)))) (pw_or1 (pt_cmpR op_eq (pv 1) (pv 2) (nomark _)))))) (pss_one (ps_ret pe_bl)) pss_nil)
      (pss_one (ps_ret (pe_own O_is_integer_within (hr.mono (by decide)) (pa_cons (pv 3) (pa_cons (pe_un un_neg (pe_glob (v := .int 999) rfl C_GREATEST_GAP ⟨_, rfl⟩)) (pa_cons (pe_glob (v := .int 999) rfl C_GREATEST_GAP ⟨_, rfl⟩) pa_nil))))))))), ?_⟩
    rcases hx with ⟨ty, hty, kt, rfl⟩ | ⟨t, xs, rfl, ht, hl, rfl⟩ | ⟨t, l, h, g, bl, bh, bg, rfl, ht, hq, rfl⟩
    · refine ⟨_, rfl, _, _, _, _, false, rfl, .ty _, hty, kt, false, rfl, ?_⟩
      exact q _ (Same.refl _)
    · refine ⟨_, rfl, _, _, _, _, true, rfl, .ty _, .base (.tup ht), kit_ty (by decide +kernel), true, rfl, ?_⟩
      refine ⟨_, rfl, t, xs, rfl, .inr (SqT.of ht), rfl, _, rfl, ?_⟩
      have e : (!decide (V.int (xs.length : Nat) = V.int 3)) = true := by
        rw [Bool.not_eq_true', decide_eq_false_iff_not]
        intro z
        injection z with z
        omega
      refine ite2 (fun _ => q _ (Same.refl _)) (fun n => (n e).elim)
    · refine ⟨_, rfl, _, _, _, _, true, rfl, .ty _, .base (.tup ht), kit_ty (by decide +kernel), true, rfl, ?_⟩
      refine ⟨_, rfl, t, _, rfl, .inr (SqT.of ht), rfl, _, rfl, ?_⟩
      refine ite2 (fun z => by
        rw [Bool.not_eq_true', decide_eq_false_iff_not] at z
        exact (z rfl).elim) (fun _ => ?_)
      refine ⟨_, rfl, t, _, rfl, SqT.of ht, rfl, l, _, rfl, h, _, rfl, g, _, rfl, rfl, ?_⟩
      refine ⟨_, rfl, l, bl, rfl, (hq H (Same.refl _)).1, fun H1 s1 => ⟨_, rfl, ?_⟩⟩
      cases bl with
      | false => exact q _ s1
      | true =>
        refine ⟨_, rfl, h, bh, rfl, (hq H1 s1).2.1, fun H2 s2 => ⟨_, rfl, ?_⟩⟩
        have s12 := s1.trans s2
        cases bh with
        | false => exact q _ s12
        | true =>
          refine ⟨_, rfl, _, rfl, ends_scal (hq H2 s12).1 (hq H2 s12).2.1, _, rfl, ?_⟩
          cases e : decide (l = h) with
          | true =>
            rw [e] at q
            exact q _ s12
          | false =>
            rw [e] at q
            refine ⟨_, rfl, _, rfl, g, -999, 999, bg, rfl, (hq H2 s12).2.2, ?_⟩
            exact q _ s12

/-! ### lists of names -/
def DiffQ (K : PySem.W.Frag) (H : Hp) (x : V) (b : Bool) : Prop := (∃ t, TyX K H x t ∧ PySem.W.kitOne K t (.type "list") = some false ∧ b = false) ∨
  (∃ (a : Addr) (xs : List V) (bs : List Bool), x = .ref a ∧ TyX K H x (.type "list") ∧ SqL K H a xs ∧ xs.length < 1000 ∧ bs.length = xs.length ∧ (∀ (i : Nat) (y : V) (c : Bool), xs[i]? = some y → bs[i]? = some c → ∀ H', Same H H' → NamQ K H' y c) ∧
    ((bs.all id = false ∧ b = false) ∨ (∃ ts : List Str, xs = ts.map V.str ∧ bs.all id = true ∧ ts.Nodup ∧ b = true)))
def spDiff (K : PySem.W.Frag) : Sp := fun vs H Q _ => ∃ x b, vs = [x] ∧ DiffQ K H x b ∧ ∀ H', Same H H' → Q (.bl b) H'
theorem get_map {α β : Type} {f : α → β} {xs : List α} {i : Nat} {y : β} (h : (xs.map f)[i]? = some y) : ∃ x, xs[i]? = some x ∧ y = f x := by
  rw [List.getElem?_map] at h
  cases e : xs[i]? with
  | none => rw [e] at h; cases h
  | some x => rw [e] at h; cases h; exact ⟨x, rfl, rfl⟩
theorem get_bl {bs : List Bool} {i : Nat} (hi : i < (bs.map V.bl).length) : ∃ c, bs[i]? = some c ∧ (bs.map V.bl)[i] = V.bl c := by
  have h : i < bs.length := by rwa [List.length_map] at hi
  exact ⟨bs[i], List.getElem?_eq_getElem h, by rw [List.getElem_map]⟩
theorem ok_diff {f : Addr} {fd : FuncData} (D : DefAt K mg "_are_different_names" s_are_different_names ["things"] f fd) (B : Blt2 mg) (O_is_name : Ok P w K mg base 1 "is_name" ["thing"] (spIsName K)) :
    Ok P w K mg base 2 "_are_different_names" ["things"] (spDiff K) := by
  refine D.ok (D.fn.ok sc_are_different_names (fun vs H Q E h => ?_) (fun cdv A outer s H vs Q E hr h => ?_))
  · obtain ⟨x, b, rfl, _⟩ := h
    rfl
  · obtain ⟨x, b, rfl, hx, q⟩ := h
    have nd := sc_are_different_names.nd
    refine ⟨_, (pss_cons (ps_if (PW.pt (pw_or (pt_not (pt_val (pe_callB call_isi (by rfl) B.isinstance (by decide +kernel) (pa_cons (pv 0) (pa_cons (pe_bltn (v := .ty "list") (by rfl) B.list (by decide +kernel) rfl) pa_nil))))) (pw_or1 (pt_not (pt_val (pe_callB (cr_all rfl) (by rfl) B.all (by decide +kernel) (pa_cons (pe_lc (own := [("thing", 1)]) (g := gName 1) (tt := tYes) (by rfl) nd (pi_list (pv 0)) (blkOk_by (own := [("thing", 1)]) (N := ["things", "thing"]) (sc := defScope s_are_different_names) (by decide +kernel)) (fun _ _ _ _ _ => (pg_name (i := 1) nd rfl (Or.inl rfl))) (fun _ _ _ _ _ => pts_nil) (fun _ _ _ _ _ => (pe_own O_is_name (hr.mono (by decide)) (pa_cons (pv 1) pa_nil)))) pa_nil))))))) (pss_one (ps_ret pe_bl)) pss_nil)
      (pss_one (ps_ret (pe_cmpR op_eq (pe_lenSetT rfl B.len B.set (pv 0)) (pe_callB call_len_seq (by rfl) B.len PySem.boot_len (pa_cons (pv 0) pa_nil)) (nomark _))))), ?_⟩
    rcases hx with ⟨ty, hty, kt, rfl⟩ | ⟨a, xs, bs, rfl, hty, hS, hz, hb, hn, hcase⟩
    · refine ⟨_, rfl, _, _, _, _, false, rfl, .ty _, hty, kt, false, rfl, ?_⟩
      exact q _ (Same.refl _)
    · refine ⟨_, rfl, _, _, _, _, true, rfl, .ty _, hty, kit_ty (by decide +kernel), true, rfl, ?_⟩
      refine ⟨_, rfl, a, rfl, ⟨_, hS⟩, fun D hD => ?_⟩
      refine lc_map walk_list hD (bs.map V.bl) (by rw [List.length_map, hb]) (by have : sizeLine > 1000 := by decide
                                                                                 omega) (fun H2 s2 => s2.seq hS) ?_ ?_
      · rintro i x H2 H' hi R L s1 ⟨rfl, hx⟩ hR
        refine ⟨rfl, ?_⟩
        refine iteT (B := L H') ?_
        obtain ⟨c, hc, ec⟩ := get_bl hi
        rw [ec] at hR
        exact ⟨_, rfl, x, c, rfl, hn i x c hx hc _ s1, fun H4 s4 => hR H4 s4⟩
      · intro H2 s2 h2
        refine ⟨D, bs, rfl, SqL.of h2, bs.all id, rfl, ?_⟩
        rcases hcase with ⟨e, rfl⟩ | ⟨ts, rfl, e, nodup, rfl⟩
        · rw [e]
          exact q _ s2
        · rw [e]
          refine ⟨_, rfl, a, ts, rfl, s2.seq hS, by rwa [List.length_map] at hz, nodup, _, rfl, a, _, rfl, .inl (s2.seq hS), rfl, ?_⟩
          rw [List.length_map, decide_eq_true rfl]
          exact q _ s2

/-! ### the static method, asked off the class -/
structure OkS (P : Program) (w : World) (K : PySem.W.Frag) (mg : Str → Option Value) (base : Heap) (C : Addr) (k : Nat) (m : Str) (ps : List Str) (sp : Sp) : Prop where
  ex : ∃ (mc : Value) (p g : Addr) (fd : FuncData), ClX.CRead K C mc ∧ SMet K C mc m p g ∧ Binds K fd ps [] ∧ FnOk P w K mg base CX0 k g fd ps sp
theorem pe_statO {X : Cx} {C : Addr} {k : Nat} {m x : Str} {ps : List Str} {sp : Sp} {e : Expr} {es : List Expr} {pos apos p : Pos} {t : TA} {pl : Sem Bool} (O : OkS X.prog X.w X.K X.mg X.base C k m ps sp) (hm : X.mg x = some (.ref C)) (hr : Room k X.A) (ha : PA X (e :: es) t)
    (hg : Gl X x := by rfl) (hst : starEach (e :: es) X.env = (false, eval e X.env) :: starEach es X.env := by rfl) (hpl : (backTo pos (starEach es X.env)).any (·.1) = false := by rfl) (hd : (x == ("__debug__" : Str)) = false := by decide)
    (ht : eval (.Call (.Attribute (.Name x p) m apos) (e :: es) [] pos) X.env = (do
      let ov ← eval (.Name x p) X.env
      standAt apos.atName
      let (f, first) ← holding [ov] (getMethod ov m pl)
      callWith pos f first (backTo pos (starEach (e :: es) X.env)) (backToKw pos (keywordEach [] X.env))) := by rfl) :
    PE X (.Call (.Attribute (.Name x p) m apos) (e :: es) [] pos) (tStat C sp (tC (.ref C)) t) := by
  obtain ⟨mc, q, g, fd, h1, h2, h3, h4⟩ := O.ex
  exact pe_stat (pe_glob hg hm rfl hd) h1 h2 h4 h3 hr ha hst hpl ht
/-! ### rules between names -/
def endIn (ts : List Str) : Option Str → Bool
  | none => true
  | some t => ts.any (· == t)
def RulesQ (K : PySem.W.Frag) (H : Hp) (x y : V) (b : Bool) : Prop := (∃ t, TyX K H x t ∧ PySem.W.kitOne K t (.type "list") = some false ∧ b = false) ∨
  (∃ (a : Addr) (xs : List V) (bs : List Bool), x = .ref a ∧ TyX K H x (.type "list") ∧ SqL K H a xs ∧ xs.length < 100000 ∧ bs.length = xs.length ∧ (∀ (i : Nat) (y : V) (c : Bool), xs[i]? = some y → bs[i]? = some c → ∀ H', Same H H' → RulQ K H' y c) ∧
    ((bs.all id = false ∧ b = false) ∨ (∃ (rs : List (Rule × Addr)) (n : Addr) (ts : List Str), xs = rs.map (fun p => V.ref p.2) ∧ KeyTups H rs ∧ bs.all id = true ∧ y = .ref n ∧ SqL K H n (ts.map V.str) ∧ ts.length < 1000 ∧ b = rs.all fun p => endIn ts p.1.low && endIn ts p.1.high)))
def spRules (K : PySem.W.Frag) : Sp := fun vs H Q _ => ∃ x y b, vs = [x, y] ∧ RulesQ K H x y b ∧ ∀ H', Same H H' → Q (.bl b) H'
theorem end_in (ts : List Str) (e : Option Str) : inV (endV e) (V.non :: ts.map V.str) = endIn ts e := by
  cases e with
  | none => rfl
  | some t =>
    show (eqV V.non (V.str t) || (ts.map V.str).any fun y => eqV y (V.str t)) = ts.any (· == t)
    rw [List.any_map, show eqV V.non (V.str t) = false from rfl, Bool.false_or]
    rfl
theorem end_flat (e : Option Str) : flatV (endV e) = true := by cases e <;> rfl
theorem ends_flat (ts : List Str) : (V.non :: ts.map V.str).all flatV = true := by
  rw [List.all_cons, show flatV V.non = true from rfl, Bool.true_and, List.all_map]
  exact List.all_eq_true.mpr fun _ _ => rfl
theorem ok_rules {C : Addr} {f : Addr} {fd : FuncData} (D : DefAt K mg "_are_rules_between" s_are_rules_between ["things", "names"] f fd) (B : Blt2 mg) (C_System : mg "System" = some (.ref C)) (O_is_rule : OkS P w K mg base C 3 "is_rule" ["thing"] (spIsRule K)) :
    Ok P w K mg base 4 "_are_rules_between" ["things", "names"] (spRules K) := by
  refine D.ok (D.fn.ok sc_are_rules_between (fun vs H Q E h => ?_) (fun cdv A outer s H vs Q E hr h => ?_))
  · obtain ⟨x, y, b, rfl, _⟩ := h
    rfl
  · obtain ⟨x, y, b, rfl, hx, q⟩ := h
    have nd := sc_are_rules_between.nd
    refine ⟨_, (pss_cons (ps_if (PW.pt (pw_or (pt_not (pt_val (pe_callB call_isi (by rfl) B.isinstance (by decide +kernel) (pa_cons (pv 0) (pa_cons (pe_bltn (v := .ty "list") (by rfl) B.list (by decide +kernel) rfl) pa_nil))))) (pw_or1 (pt_not (pt_val (pe_callB (cr_all rfl) (by rfl) B.all (by decide +kernel) (pa_cons (pe_lc (own := [("thing", 6)]) (g := gName 6) (tt := tYes) (by rfl) nd (pi_list (pv 0)) (blkOk_by (own := [("thing", 6)]) (N := ["things", "names", "ends", "low", "high", "_", "thing"]) (sc := defScope s_are_rules_between) (by decide +kernel)) (fun _ _ _ _ _ => (pg_name (i := 6) nd rfl (Or.inl rfl))) (fun _ _ _ _ _ => pts_nil) (fun _ _ _ _ _ => (pe_statO O_is_rule C_System (hr.mono (by decide)) (pa_cons (pv 6) pa_nil)))) pa_nil))))))) (pss_one (ps_ret pe_bl)) pss_nil)
      (pss_cons (ps_set (i := 2) nd rfl (Or.inr rfl) (pe_lst (pa_cons pe_non (StX.pa_star (pv 1) pa_nil))))
      (pss_one (ps_ret (pe_callB (cr_all rfl) (by rfl) B.all (by decide +kernel) (pa_cons (pe_lc (own := [("low", 3), ("high", 4), ("_", 5)]) (g := gTup K 3 (gCons (gName 3) (gCons (gName 4) (gCons (gName 5) (gNil))))) (tt := tYes) (by rfl) nd (pi_list (pv 0)) (blkOk_by (own := [("low", 3), ("high", 4), ("_", 5)]) (N := ["things", "names", "ends", "low", "high", "_", "thing"]) (sc := defScope s_are_rules_between) (by decide +kernel)) (fun _ _ _ _ _ => (pg_tupK K 3 rfl (pgs_cons (pg_name (i := 3) nd rfl (Or.inl rfl)) (pgs_cons (pg_name (i := 4) nd rfl (Or.inl rfl)) (pgs_cons (pg_name (i := 5) nd rfl (Or.inl rfl)) pgs_nil))))) (fun _ _ _ _ _ => pts_nil) (fun _ _ _ _ _ => (pe_and (pe_cmpR (op_inK K) (pv 3) (pv 2) rfl) (pe_one (pe_cmpR (op_inK K) (pv 4) (pv 2) rfl))))) pa_nil)))))), ?_⟩
    rcases hx with ⟨ty, hty, kt, rfl⟩ | ⟨a, xs, bs, rfl, hty, hS, hz, hb, hn, hcase⟩
    · refine ⟨_, rfl, _, _, _, _, false, rfl, .ty _, hty, kt, false, rfl, ?_⟩
      exact q _ (Same.refl _)
    · refine ⟨_, rfl, _, _, _, _, true, rfl, .ty _, hty, kit_ty (by decide +kernel), true, rfl, ?_⟩
      refine ⟨_, rfl, a, rfl, ⟨_, hS⟩, fun D hD => ?_⟩
      refine lc_map walk_list hD (bs.map V.bl) (by rw [List.length_map, hb]) (by have : sizeLine > 100000 := by decide
                                                                                 omega) (fun H2 s2 => s2.seq hS) ?_ ?_
      · rintro i x H2 H' hi R L s1 ⟨rfl, hx⟩ hR
        refine ⟨rfl, ?_⟩
        refine iteT (B := L H') ?_
        obtain ⟨c, hc, ec⟩ := get_bl hi
        rw [ec] at hR
        exact ⟨rfl, _, rfl, x, c, rfl, hn i x c hx hc _ s1, fun H4 s4 => hR H4 s4⟩
      · intro H2 s2 h2
        refine ⟨D, bs, rfl, SqL.of h2, bs.all id, rfl, ?_⟩
        rcases hcase with ⟨e, rfl⟩ | ⟨rs, n, ts, rfl, hk, e, rfl, hN, hzt, rfl⟩
        · rw [e]
          exact q _ s2
        · rw [e]
          refine ⟨_, rfl, n, _, rfl, .inr (s2.seq hN), ?_⟩
          refine ⟨by
            have : sizeLine > 100000 := by decide
            simp only [List.append_nil, List.length_cons, List.length_map]
            omega, fun M hM => ?_⟩
          have s3 := s2.trans (same_new (o := .lst (V.non :: ((ts.map V.str) ++ []))) hM)
          refine ⟨_, rfl, a, rfl, ⟨_, s3.seq hS⟩, fun D2 hD2 => ?_⟩
          refine lc_map walk_list hD2 (rs.map fun p => V.bl (endIn ts p.1.low && endIn ts p.1.high)) (by rw [List.length_map, List.length_map]) (by
            have : sizeLine > 100000 := by decide
            omega) (fun H4 s4 => (s3.trans s4).seq hS) ?_ ?_
          · rintro i x H4 H' hi R L s4 ⟨rfl, hx⟩ hR
            have hi' : i < rs.length := by rwa [List.length_map] at hi
            rw [List.getElem?_map, List.getElem?_eq_getElem hi'] at hx
            cases hx
            rw [List.getElem_map] at hR
            have hR := hR _ (Same.refl _)
            have hM4 : H' M = some (.lst (V.non :: ts.map V.str)) := by
              have z : (upd H2 M (.lst (V.non :: ((ts.map V.str) ++ [])))) M = some (.lst (V.non :: ts.map V.str)) := by rw [upd_same, List.append_nil]
              exact s4 _ _ z
            refine ⟨_, _, rfl, SqT.of ((s3.trans s4) _ _ (hk _ (List.getElem_mem hi'))), rfl, _, _, rfl, _, _, rfl, _, _, rfl, rfl, rfl, ?_⟩
            refine ⟨_, rfl, _, rfl, M, _, rfl, .inl (SqL.of hM4), end_flat _, ends_flat _, _, rfl, ?_⟩
            rw [← end_in, ← end_in] at hR
            cases e1 : inV (endV rs[i].1.low) (V.non :: ts.map V.str) with
            | false =>
              rw [e1, Bool.false_and] at hR
              exact hR
            | true =>
              rw [e1, Bool.true_and] at hR
              exact ⟨_, rfl, _, rfl, M, _, rfl, .inl (SqL.of hM4), end_flat _, ends_flat _, hR⟩
          · intro H4 s4 h4
            refine ⟨D2, rs.map fun p => endIn ts p.1.low && endIn ts p.1.high, rfl, SqL.of (by rw [List.map_map]; exact h4), ?_⟩
            have e2 : (rs.map fun p => endIn ts p.1.low && endIn ts p.1.high).all id = rs.all fun p => endIn ts p.1.low && endIn ts p.1.high := by
              rw [List.all_map]
              rfl
            rw [e2]
            exact q _ (s3.trans s4)

/-! ### rules in ascending order -/
theorem ok_rank {f : Addr} {fd : FuncData} (D : DefAt K mg "rank" s_rank ["rule"] f fd) : FnOk P w K mg base CX0 1 f fd ["rule"] spRank := by
  refine D.fn.ok sc_rank (fun vs H Q E h => ?_) (fun cdv A outer s H vs Q E hr h => ?_)
  · obtain ⟨t, r, rfl, _⟩ := h
    rfl
  · obtain ⟨t, r, rfl, ht, ⟨sl, sh⟩, q⟩ := h
    have nd := sc_rank.nd
    refine ⟨_, (pss_cons (ps_asg (pv 0) (pg_tup rfl (pgs_cons (pg_name (i := 1) nd rfl (Or.inl rfl)) (pgs_cons (pg_name (i := 2) nd rfl (Or.inl rfl)) (pgs_cons (pg_name (i := 3) nd rfl (Or.inl rfl)) pgs_nil)))))
      (pss_one (ps_ret (pe_tup (pa_cons (pe_orT (pv 1) (pe_one pe_str)) (pa_cons (pe_orT (pv 2) (pe_one pe_str)) (pa_cons (pv 3) pa_nil))))))), ?_⟩
    refine ⟨_, rfl, t, _, rfl, SqT.of ht, rfl, _, _, rfl, _, _, rfl, _, _, rfl, rfl, ?_⟩
    obtain ⟨low, high, gap⟩ := r
    have one : ∀ (e : Option Str) (i : Nat) (σ : L2.St) (W : VK), σ[i]? = some (some (endV e)) → (∀ t, e = some t → t.length ≤ sizeLine) → W (.str (endS e)) H → tOrT K (tVar i) (tC (.str (Str.ofString ""))) σ H W := by
      intro e i σ W hi hs hW
      refine ⟨endV e, hi, ?_⟩
      cases e with
      | none => exact ⟨false, rfl, iteF hW⟩
      | some t =>
        cases z : ((t.length : Int) != 0) with
        | true => exact ⟨true, ⟨hs t rfl, z.symm⟩, iteT hW⟩
        | false =>
          refine ⟨false, ⟨hs t rfl, z.symm⟩, iteF ?_⟩
          have : t = Str.ofString "" := by
            rw [bne_eq_false_iff_eq] at z
            obtain ⟨c⟩ := t
            have : c.size = 0 := by
              have : ((c.size : Nat) : Int) = 0 := z
              omega
            rw [Array.eq_empty_of_size_eq_zero this]
            rfl
          rw [← this]
          exact hW
    refine one low 1 _ _ rfl sl ?_
    refine one high 2 _ _ rfl sh ?_
    refine ⟨_, rfl, by show 3 ≤ sizeLine; decide, fun p hp => q p hp⟩

def spAscending (K : PySem.W.Frag) : Sp := fun vs H Q _ => ∃ (a : Addr) (rs : List (Rule × Addr)), vs = [.ref a] ∧ SqL K H a (rs.map fun p => V.ref p.2) ∧ KeyTups H rs ∧ (∀ p ∈ rs, Short p.1) ∧ rs.length < 100000 ∧
  ∀ p H', Same H H' → H p = none → H' p = some (.lst ((inOrder (putAll rs [])).map fun x => V.ref x.2)) → Q (.ref p) H'
theorem putAll_mem : ∀ (rs L : List (Rule × Addr)) (x : Rule × Addr), x ∈ putAll rs L → x ∈ L ∨ x ∈ rs
  | [], _, _, h => .inl h
  | r :: rs, L, x, h => by
    rcases putAll_mem rs (putR L r.1 r.2) x h with h | h
    · unfold putR at h
      split at h
      · exact .inl h
      · rcases List.mem_append.mp h with h | h
        · exact .inl h
        · exact .inr (List.mem_cons.mpr (.inl (List.mem_singleton.mp h)))
    · exact .inr (List.mem_cons_of_mem _ h)
theorem ok_ascending {f : Addr} {fd : FuncData} (D : DefAt K mg "_ascending" s_ascending ["rules"] f fd) (B : Blt2 mg) (O_rank : Ok P w K mg base 1 "rank" ["rule"] spRank) : Ok P w K mg base 4 "_ascending" ["rules"] (spAscending K) := by
  obtain ⟨fr, fdr, h1, h2, h3, h4⟩ := O_rank.ex
  refine D.ok (D.fn.ok sc_ascending (fun vs H Q E h => ?_) (fun cdv A outer s H vs Q E hr h => ?_))
  · obtain ⟨a, rs, rfl, _⟩ := h
    rfl
  · obtain ⟨a, rs, rfl, hS, hk, sh, hz, q⟩ := h
    have nd := sc_ascending.nd
    have hu := hu_of hr
    refine ⟨_, (pss_cons (ps_setDcR (i := 1) (own := [("rule", 2)]) (g := gName 2) (tk := tVar 2) (Nat.lt_of_le_of_lt (Nat.add_le_add_left (by decide) _) (hu_of64 hr)) rfl nd rfl rfl (sw_dict rfl rfl rfl (by decide +kernel)) (pi_list (pv 0)) (blkOk_by (own := [("rule", 2)]) (N := ["rules", "different", "rule"]) (sc := defScope s_ascending) (by decide +kernel)) (fun _ _ _ _ _ => (pg_name (i := 2) nd rfl (Or.inl rfl))) (fun _ _ _ _ _ => (pv 2)))
      (pss_one (ps_ret (pe_callBK (cr_sortedRank h4 h3 (hr.mono (by decide)) rfl) rfl B.sorted (by decide +kernel) (pa_cons (pv 1) pa_nil) (pk_cons (pe_glob (v := .ref fr) rfl h1 rfl) pk_nil))))), ?_⟩
    refine ⟨_, rfl, a, rfl, ⟨_, hS⟩, fun D hD => ?_⟩
    refine dcR_list hD hS hk (by have : sizeLine > 100000 := by decide
                                 omega) (by show 2 < 3; decide) (fun v => rfl) ?_
    have s1 := same_new (o := rdO P w D (putAll rs [])) hD
    have mem : ∀ p ∈ putAll rs [], p ∈ rs := fun p hp => (putAll_mem rs [] p hp).elim (fun z => (List.not_mem_nil z).elim) id
    refine ⟨_, rfl, D, putAll rs [], rfl, rfl, upd_same, fun p hp => s1 _ _ (hk p (mem p hp)), fun p hp => sh p (mem p hp), ?_, fun p H' s2 n2 h2 => q p H' (s1.trans s2) (s1.free n2) h2⟩
    have := putAll_len rs []
    rw [List.length_nil] at this
    omega

/-! ### a system -/
theorem ps_never {X : Cx} {st : Stmt} : PS X st (fun _ _ _ => False) := ⟨fun _ _ _ _ _ _ h => h.elim⟩
def NamesOk (ts : List Str) : Prop := ts.Nodup ∧ (∀ t ∈ ts, nameB t = true) ∧ ts.length < 64
structure RuleOk (ts : List Str) (r : Rule) : Prop where
  low : endIn ts r.low = true
  high : endIn ts r.high = true
  ne : r.low ≠ r.high
  ge : -999 ≤ r.gap
  le : r.gap ≤ 999
theorem name_len {t : Str} (h : nameB t = true) : 1 ≤ t.length ∧ t.length ≤ 8 := by
  unfold nameB at h
  rw [Bool.and_eq_true, Bool.and_eq_true, decide_eq_true_iff, decide_eq_true_iff] at h
  omega
theorem name_line {t : Str} (h : nameB t = true) : t.length ≤ sizeLine := by
  have := (name_len h).2
  have : sizeLine > 8 := by decide
  omega
theorem end_name {ts : List Str} (N : NamesOk ts) {e : Option Str} (h : endIn ts e = true) : ∀ t, e = some t → nameB t = true := by
  rintro t rfl
  unfold endIn at h
  obtain ⟨x, hx, e⟩ := List.any_eq_true.mp h
  rw [← eq_of_beq e]
  exact N.2.1 x hx
theorem end_q {ts : List Str} (N : NamesOk ts) {H : Hp} {e : Option Str} (h : endIn ts e = true) : EndQ K H (endV e) true := by
  cases e with
  | none => exact .inl ⟨rfl, rfl⟩
  | some t =>
    have n := end_name N h t rfl
    exact .inr ⟨(fun z => nomatch z), .inl ⟨t, rfl, name_line n, n.symm⟩⟩
theorem RuleOk.short {ts : List Str} {r : Rule} (N : NamesOk ts) (h : RuleOk ts r) : Short r := ⟨fun t e => name_line (end_name N h.low t e), fun t e => name_line (end_name N h.high t e)⟩
theorem RuleOk.named {ts : List Str} {r : Rule} (N : NamesOk ts) (h : RuleOk ts r) : Named r := by
  refine ⟨fun e => ?_, fun e => ?_⟩
  · exact absurd (name_len (end_name N h.low _ e)).1 (by decide)
  · exact absurd (name_len (end_name N h.high _ e)).1 (by decide)
theorem RuleOk.rulQ {ts : List Str} {r : Rule} (N : NamesOk ts) (h : RuleOk ts r) {H : Hp} {q : Addr} (hq : H q = some (.tup (ruleV r))) : RulQ K H (.ref q) true := by
  refine .inr (.inr ⟨q, _, _, _, true, true, true, rfl, hq, fun H' s => ⟨end_q N h.low, end_q N h.high, .inl ⟨r.gap, rfl, ?_⟩⟩, ?_⟩)
  · rw [decide_eq_true h.ge, decide_eq_true h.le]
    rfl
  · rw [decide_eq_false fun e => h.ne (endV_inj e)]
    rfl
theorem diffQ {ts : List Str} (N : NamesOk ts) {H : Hp} {a : Addr} (ty : TyX K H (.ref a) (.type "list")) (hS : SqL K H a (ts.map V.str)) : DiffQ K H (.ref a) true := by
  refine .inr ⟨a, ts.map V.str, ts.map fun _ => true, rfl, ty, hS, ?_, ?_, ?_, .inr ⟨ts, rfl, ?_, N.1, rfl⟩⟩
  · rw [List.length_map]
    have := N.2.2
    omega
  · rw [List.length_map, List.length_map]
  · intro i y c hy hc H' _
    obtain ⟨t, ht, rfl⟩ := get_map hy
    obtain ⟨_, _, rfl⟩ := get_map hc
    have n := N.2.1 t (List.mem_of_getElem? ht)
    exact .inl ⟨t, rfl, name_line n, n.symm⟩
  · rw [List.all_map]
    exact List.all_eq_true.mpr fun _ _ => rfl
theorem rulesQ {ts : List Str} (N : NamesOk ts) {H : Hp} {a b : Addr} {rs : List (Rule × Addr)} (ty : TyX K H (.ref b) (.type "list")) (hS : SqL K H b (rs.map fun p => V.ref p.2)) (hk : KeyTups H rs) (hr : ∀ p ∈ rs, RuleOk ts p.1) (hz : rs.length < 100000)
    (hA : SqL K H a (ts.map V.str)) : RulesQ K H (.ref b) (.ref a) true := by
  refine .inr ⟨b, _, rs.map fun _ => true, rfl, ty, hS, ?_, ?_, ?_, .inr ⟨rs, a, ts, rfl, hk, ?_, rfl, hA, ?_, ?_⟩⟩
  · rwa [List.length_map]
  · rw [List.length_map, List.length_map]
  · intro i y c hy hc H' s
    obtain ⟨t, ht, rfl⟩ := get_map hy
    obtain ⟨_, _, rfl⟩ := get_map hc
    have m := List.mem_of_getElem? ht
    exact (hr t m).rulQ N (s _ _ (hk t m))
  · rw [List.all_map]
    exact List.all_eq_true.mpr fun _ _ => rfl
  · have := N.2.2
    omega
  · refine (List.all_eq_true.mpr fun p hp => ?_).symm
    rw [(hr p hp).low, (hr p hp).high]
    rfl
def sysF (ln lr : Addr) : List (Str × V) := putF "_rules" (.ref lr) (putF "_names" (.ref ln) [])
theorem sysF_names (ln lr : Addr) : (sysF ln lr).lookup ("_names" : Str) = some (.ref ln) := by
  unfold sysF
  rw [lookup_putF, if_neg (by decide +kernel), lookup_putF, if_pos rfl]
theorem sysF_rules (ln lr : Addr) : (sysF ln lr).lookup ("_rules" : Str) = some (.ref lr) := by
  unfold sysF
  rw [lookup_putF, if_pos rfl]
theorem sysF_no {ln lr : Addr} {m : Str} (h1 : ¬ m = "_names") (h2 : ¬ m = "_rules") : (sysF ln lr).lookup m = none := by
  unfold sysF
  rw [lookup_putF, if_neg h2, lookup_putF, if_neg h1]
  rfl
structure SysOk (ns : List Str) (L : List (Rule × Addr)) : Prop where
  names : NamesOk ns
  rules : ∀ p ∈ L, RuleOk ns p.1
  len : L.length < 100000
  ord : sortN ns = ns
  can : canon (L.map (·.1)) = L.map (·.1)
/-- a system with the names ns and the rules L stands at x -/
def SysAt (C : Addr) (H : Hp) (x : Addr) (ns : List Str) (L : List (Rule × Addr)) : Prop :=
  ∃ dx ln lr, H x = some (.ins C dx (sysF ln lr)) ∧ H ln = some (.lst (ns.map V.str)) ∧ H lr = some (.lst (L.map fun p => V.ref p.2)) ∧ KeyTups H L ∧ SysOk ns L
theorem SysAt.same {C x : Addr} {H H' : Hp} {ns : List Str} {L : List (Rule × Addr)} (h : SysAt C H x ns L) (s : Same H H') : SysAt C H' x ns L := by
  obtain ⟨dx, ln, lr, h1, h2, h3, h4, h5⟩ := h
  exact ⟨dx, ln, lr, s _ _ h1, s _ _ h2, s _ _ h3, fun p hp => s _ _ (h4 p hp), h5⟩
theorem NamesOk.perm {a b : List Str} (h : NamesOk a) (p : a.Perm b) : NamesOk b :=
  ⟨p.nodup_iff.mp h.1, fun t ht => h.2.1 t (p.mem_iff.mpr ht), by rw [← p.length_eq]; exact h.2.2⟩
theorem endIn_perm {a b : List Str} (p : ∀ t, t ∈ a → t ∈ b) {e : Option Str} (h : endIn a e = true) : endIn b e = true := by
  cases e with
  | none => rfl
  | some t =>
    unfold endIn at h ⊢
    obtain ⟨x, hx, e⟩ := List.any_eq_true.mp h
    exact List.any_eq_true.mpr ⟨x, p x hx, e⟩
theorem RuleOk.perm {a b : List Str} {r : Rule} (h : RuleOk a r) (p : ∀ t, t ∈ a → t ∈ b) : RuleOk b r := ⟨endIn_perm p h.low, endIn_perm p h.high, h.ne, h.ge, h.le⟩
/-- .. and it and its lists were laid after H -/
def SysNew (C : Addr) (H H' : Hp) (x : Addr) (ns : List Str) (L : List (Rule × Addr)) : Prop :=
  ∃ dx ln lr, H' x = some (.ins C dx (sysF ln lr)) ∧ H' ln = some (.lst (ns.map V.str)) ∧ H' lr = some (.lst (L.map fun p => V.ref p.2)) ∧ KeyTups H' L ∧ SysOk ns L ∧ H ln = none ∧ H lr = none
theorem SysNew.at_ {C x : Addr} {H H' : Hp} {ns : List Str} {L : List (Rule × Addr)} (h : SysNew C H H' x ns L) : SysAt C H' x ns L := by
  obtain ⟨dx, ln, lr, h1, h2, h3, h4, h5, _⟩ := h
  exact ⟨dx, ln, lr, h1, h2, h3, h4, h5⟩
theorem SysNew.from_ {C x : Addr} {H H0 H' : Hp} {ns : List Str} {L : List (Rule × Addr)} (h : SysNew C H H' x ns L) (s : Same H0 H) : SysNew C H0 H' x ns L := by
  obtain ⟨dx, ln, lr, h1, h2, h3, h4, h5, h6, h7⟩ := h
  exact ⟨dx, ln, lr, h1, h2, h3, h4, h5, s.free h6, s.free h7⟩
/-- .. and it, its lists and its rules are elsewhere than F -/
def SysOff (F : Addr → Prop) (C : Addr) (H : Hp) (x : Addr) (ns : List Str) (L : List (Rule × Addr)) : Prop :=
  ∃ dx ln lr, H x = some (.ins C dx (sysF ln lr)) ∧ H ln = some (.lst (ns.map V.str)) ∧ H lr = some (.lst (L.map fun p => V.ref p.2)) ∧ KeyTups H L ∧ SysOk ns L ∧ ¬ F x ∧ ¬ F ln ∧ ¬ F lr ∧ ∀ p ∈ L, ¬ F p.2
theorem SysOff.at_ {F : Addr → Prop} {C x : Addr} {H : Hp} {ns : List Str} {L : List (Rule × Addr)} (h : SysOff F C H x ns L) : SysAt C H x ns L := by
  obtain ⟨dx, ln, lr, h1, h2, h3, h4, h5, _⟩ := h
  exact ⟨dx, ln, lr, h1, h2, h3, h4, h5⟩
/-- nothing outside F has changed -/
def Out (F : Addr → Prop) (H H' : Hp) : Prop := ∀ b o, H b = some o → ¬ F b → H' b = some o
theorem Out.of {F : Addr → Prop} {H H' : Hp} (s : Same H H') : Out F H H' := fun b o h _ => s b o h
theorem Out.trans {F : Addr → Prop} {H H1 H2 : Hp} (a : Out F H H1) (b : Out F H1 H2) : Out F H H2 := fun c o h n => b c o (a c o h n) n
theorem Out.upd {F : Addr → Prop} {H : Hp} {a : Addr} {o : HO} (h : F a) : Out F H (L2.upd H a o) := fun b u e n => by
  rw [upd_ne (show b ≠ a from fun z => n (by rw [z]; exact h))]
  exact e
theorem Out.but {F : Addr → Prop} {H H' : Hp} {p : Addr} (b : But p H H') (hp : F p) : Out F H H' := fun c o h n => b c o h fun z => n (by rw [z]; exact hp)
theorem SysOff.out {F : Addr → Prop} {C x : Addr} {H H' : Hp} {ns : List Str} {L : List (Rule × Addr)} (h : SysOff F C H x ns L) (s : Out F H H') : SysOff F C H' x ns L := by
  obtain ⟨dx, ln, lr, h1, h2, h3, h4, h5, n1, n2, n3, n4⟩ := h
  exact ⟨dx, ln, lr, s _ _ h1 n1, s _ _ h2 n2, s _ _ h3 n3, fun p hp => s _ _ (h4 p hp) (n4 p hp), h5, n1, n2, n3, n4⟩
/-- F holds lists that stood before it was made -/
theorem SysNew.off {F : Addr → Prop} {C x : Addr} {H H' : Hp} {ns : List Str} {L : List (Rule × Addr)} (h : SysNew C H H' x ns L) (s : Same H H') (hF : ∀ a, F a → ∃ xs, H a = some (.lst xs)) : SysOff F C H' x ns L := by
  obtain ⟨dx, ln, lr, h1, h2, h3, h4, h5, n2, n3⟩ := h
  refine ⟨dx, ln, lr, h1, h2, h3, h4, h5, fun z => ?_, fun z => ?_, fun z => ?_, fun p hp z => ?_⟩
  · obtain ⟨xs, e⟩ := hF _ z
    rw [s _ _ e] at h1
    cases h1
  · obtain ⟨xs, e⟩ := hF _ z
    rw [n2] at e
    cases e
  · obtain ⟨xs, e⟩ := hF _ z
    rw [n3] at e
    cases e
  · obtain ⟨xs, e⟩ := hF _ z
    have := h4 p hp
    rw [s _ _ e] at this
    cases this
structure SysC (K : PySem.W.Frag) (mg : Str → Option Value) (C : Addr) : Prop where
  cl : Cls K C
  nN : NoAttr K C "_names"
  nR : NoAttr K C "_rules"
  mgC : mg "System" = some (.ref C)
def spInit (C : Addr) : Sp := fun vs H Q _ => ∃ (x a b dx : Addr) (ts : List Str) (rs : List (Rule × Addr)), vs = [.ref x, .ref a, .ref b] ∧ H x = some (.ins C dx []) ∧ H a = some (.lst (ts.map V.str)) ∧ NamesOk ts ∧
  H b = some (.lst (rs.map fun p => V.ref p.2)) ∧ KeyTups H rs ∧ (∀ p ∈ rs, RuleOk ts p.1) ∧ rs.length < 100000 ∧ ∀ H', But x H H' → SysNew C H H' x (sortN ts) (inOrder (putAll rs [])) → Q .non H'
theorem ok_init {C : Addr} {qn : Str} {f : Addr} {fd : FuncData} (F : Fun K "__init__" qn s_System___init f fd) (T : SysC K mg C) (B : Blt2 mg) (O_are_different_names : Ok P w K mg base 2 "_are_different_names" ["things"] (spDiff K))
    (O_are_rules_between : Ok P w K mg base 4 "_are_rules_between" ["things", "names"] (spRules K)) (O_ascending : Ok P w K mg base 4 "_ascending" ["rules"] (spAscending K)) : FnOk P w K mg base CX0 5 f fd ["self", "names", "rules"] (spInit C) := by
  refine F.ok sc_System___init (fun vs H Q E h => ?_) (fun cdv A outer s H vs Q E hr h => ?_)
  · obtain ⟨x, a, b, dx, ts, rs, rfl, _⟩ := h
    rfl
  · obtain ⟨x, a, b, dx, ts, rs, rfl, hx, hA, N, hB, hk, hro, hz, q⟩ := h
    have nd := sc_System___init.nd
    refine ⟨_, (pss_cons (ps_if (pt_not (pt_val (pe_own O_are_different_names (hr.mono (by decide)) (pa_cons (pv 1) pa_nil)))) (pss_one ps_never) pss_nil)
      (pss_cons (ps_if (pt_not (pt_val (pe_own O_are_rules_between (hr.mono (by decide)) (pa_cons (pv 2) (pa_cons (pv 1) pa_nil))))) (pss_one ps_never) pss_nil)
      (pss_cons (ps_fld (pv 0) (pe_callB cr_sortedS (by rfl) B.sorted (by decide +kernel) (pa_cons (pv 1) pa_nil)) rfl)
      (pss_one (ps_fld (pv 0) (pe_own O_ascending (hr.mono (by decide)) (pa_cons (pv 2) pa_nil)) rfl))))), ?_⟩
    refine ⟨_, rfl, _, true, rfl, diffQ N (.base (.lst hA)) (SqL.of hA), fun H1 s1 => ⟨_, rfl, ?_⟩⟩
    refine ⟨_, rfl, _, rfl, _, _, true, rfl, rulesQ N (.base (.lst (s1 _ _ hB))) (SqL.of (s1 _ _ hB)) (fun p hp => s1 _ _ (hk p hp)) hro hz (SqL.of (s1 _ _ hA)), fun H2 s2 => ⟨_, rfl, ?_⟩⟩
    have s12 := s1.trans s2
    refine ⟨_, rfl, a, ts, rfl, SqL.of (s12 _ _ hA), N.2.2, fun ys ln hp hy nln => ?_⟩
    rw [sortN_of hp hy] at *
    have s3 := s12.trans (same_new (o := .lst ((sortN ts).map V.str)) nln)
    have hx3 := s3 _ _ hx
    have nlx : x ≠ ln := ne_of_none (s12 _ _ hx) nln
    refine ⟨_, rfl, x, C, dx, [], rfl, hx3, T.cl, T.nN, by show 0 < 1000; decide, ?_⟩
    have b4 : But x H (upd (upd H2 ln (.lst ((sortN ts).map V.str))) x (.ins C dx (putF (Str.ofString "_names") (.ref ln) []))) := (But.of s3).trans But.upd
    have hx4 : (upd (upd H2 ln (.lst ((sortN ts).map V.str))) x (.ins C dx (putF (Str.ofString "_names") (.ref ln) []))) x = some (.ins C dx (putF (Str.ofString "_names") (.ref ln) [])) := upd_same
    have hl4 : (upd (upd H2 ln (.lst ((sortN ts).map V.str))) x (.ins C dx (putF (Str.ofString "_names") (.ref ln) []))) ln = some (.lst ((sortN ts).map V.str)) := by
      rw [upd_ne nlx.symm, upd_same]
    generalize upd (upd H2 ln (.lst ((sortN ts).map V.str))) x (.ins C dx (putF (Str.ofString "_names") (.ref ln) [])) = H4 at b4 hx4 hl4 ⊢
    have hB4 := b4 _ _ hB (ne_of hB hx (fun z => nomatch z))
    have hk4 : KeyTups H4 rs := fun p hp => b4 _ _ (hk p hp) (ne_of (hk p hp) hx (fun z => nomatch z))
    refine ⟨_, rfl, b, rs, rfl, SqL.of hB4, hk4, fun p hp => (hro p hp).short N, hz, fun lr H5 s5 nlr hlr => ?_⟩
    refine ⟨_, rfl, x, C, dx, _, rfl, s5 _ _ hx4, T.cl, T.nR, by show 1 < 1000; decide, ?_⟩
    have nrx : lr ≠ x := (ne_of_none hx4 nlr).symm
    have mem : ∀ p ∈ inOrder (putAll rs []), p ∈ rs := fun p hp => (putAll_mem rs [] p ((List.mergeSort_perm _ _).mem_iff.mp hp)).elim (fun z => (List.not_mem_nil z).elim) id
    refine q _ ((b4.trans (But.of s5)).trans But.upd) ⟨dx, ln, lr, upd_same, ?_, ?_, fun p hp => ?_, ⟨N.perm (sortN_perm ts).symm, fun p hp => (hro p (mem p hp)).perm fun t ht => (sortN_perm ts).mem_iff.mpr ht, ?_, sortN_sortN ts, ?_⟩, s12.free nln, b4.free nrx nlr⟩
    rotate_left 3
    · rw [inOrder_len]
      have := putAll_len rs []
      rw [List.length_nil] at this
      omega
    · rw [inOrder_canon]
      exact canon_canon fun r hr => by
        obtain ⟨p, hp, e⟩ := List.mem_map.mp hr
        exact e ▸ (hro p hp).named N
    · rw [upd_ne nlx.symm]
      exact s5 _ _ hl4
    · rw [upd_ne nrx]
      exact hlr
    · have h5 := s5 _ _ (hk4 p (mem p hp))
      rw [upd_ne (ne_of h5 (s5 _ _ hx4) (fun z => nomatch z))]
      exact h5

/-! ### == -/
def endD : Option Str → PyData
  | none => .none
  | some t => .str t
def ruleD (r : Rule) : PyData := .tuple [endD r.low, endD r.high, .int r.gap]
theorem dp_end {H : Hp} : ∀ e : Option Str, Dp K H (endV e) (endD e)
  | none => .non
  | some t => .str t
theorem dp_rules {H : Hp} : ∀ {L : List (Rule × Addr)}, KeyTups H L → DpAll K H (L.map fun p => V.ref p.2) (L.map fun p => ruleD p.1)
  | [], _ => .nil
  | p :: r, h => .cons (.tup (SqT.of (h p (List.mem_cons_self ..))) (.cons (dp_end _) (.cons (dp_end _) (.cons (.int _) .nil)))) (dp_rules fun q hq => h q (List.mem_cons_of_mem _ hq))
theorem dp_strs {H : Hp} : ∀ ts : List Str, DpAll K H (ts.map V.str) (ts.map PyData.str)
  | [] => .nil
  | t :: r => .cons (.str t) (dp_strs r)
theorem name_strOk {t : Str} (h : nameB t = true) : PyData.strOk t = true := by
  unfold nameB at h
  rw [Bool.and_eq_true, List.all_eq_true] at h
  unfold PyData.strOk
  rw [← Array.all_toList, List.all_eq_true]
  intro c hc
  have := h.2 c hc
  unfold letterOk at this
  rw [Bool.and_eq_true, Bool.not_eq_true', Bool.not_eq_true', decide_eq_false_iff_not, decide_eq_false_iff_not] at this
  rw [decide_eq_true_iff]
  have h2 : ¬ (122 < c) := fun z => this.2 (List.Lex.rel z)
  omega
theorem lay_strs : ∀ ts : List Str, (∀ t ∈ ts, PyData.strOk t = true) → PyData.canLayAll0 (ts.map PyData.str) = true ∧ PyData.depthAll (ts.map PyData.str) = 0
  | [], _ => ⟨by simp [PyData.canLayAll0], by simp [PyData.depthAll]⟩
  | c :: r, h => by
    obtain ⟨h1, h2⟩ := lay_strs r fun t ht => h t (List.mem_cons_of_mem _ ht)
    have h3 := h c (List.mem_cons_self ..)
    refine ⟨?_, ?_⟩
    · simp [PyData.canLayAll0, PyData.canLay0, h1, h3]
    · simp [PyData.depthAll, PyData.depth, h2]
theorem shaped_strs (ts : List Str) (h : ∀ t ∈ ts, PyData.strOk t = true) : SeqAt.shaped (.list (ts.map PyData.str)) = true := by
  obtain ⟨h1, h2⟩ := lay_strs ts h
  simp [SeqAt.shaped, PyData.canLay0, h1, PyData.depth, h2]
/-- its texts can be laid -/
def ROk (r : Rule) : Prop := (∀ t, r.low = some t → PyData.strOk t = true) ∧ ∀ t, r.high = some t → PyData.strOk t = true
theorem RuleOk.rok {ts : List Str} {r : Rule} (N : NamesOk ts) (h : RuleOk ts r) : ROk r := ⟨fun t e => name_strOk (end_name N h.low t e), fun t e => name_strOk (end_name N h.high t e)⟩
theorem lay_rule (r : Rule) (h : ROk r) : PyData.canLay0 (ruleD r) = true ∧ (ruleD r).depth = 1 := by
  obtain ⟨l, g, n⟩ := r
  obtain ⟨h1, h2⟩ := h
  have hl : PyData.canLay0 (endD l) = true ∧ (endD l).depth = 0 := by
    cases l with
    | none => exact ⟨by simp [endD, PyData.canLay0], by simp [endD, PyData.depth]⟩
    | some t => exact ⟨by simp [endD, PyData.canLay0, h1 t rfl], by simp [endD, PyData.depth]⟩
  have hg : PyData.canLay0 (endD g) = true ∧ (endD g).depth = 0 := by
    cases g with
    | none => exact ⟨by simp [endD, PyData.canLay0], by simp [endD, PyData.depth]⟩
    | some t => exact ⟨by simp [endD, PyData.canLay0, h2 t rfl], by simp [endD, PyData.depth]⟩
  refine ⟨?_, ?_⟩
  · simp [ruleD, PyData.canLay0, PyData.canLayAll0, hl.1, hg.1]
  · simp [ruleD, PyData.depth, PyData.depthAll, hl.2, hg.2]
theorem lay_rules : ∀ L : List (Rule × Addr), (∀ p ∈ L, ROk p.1) → PyData.canLayAll0 (L.map fun p => ruleD p.1) = true ∧ PyData.depthAll (L.map fun p => ruleD p.1) ≤ 1
  | [], _ => ⟨by simp [PyData.canLayAll0], by simp [PyData.depthAll]⟩
  | c :: r, h => by
    obtain ⟨h1, h2⟩ := lay_rules r fun t ht => h t (List.mem_cons_of_mem _ ht)
    obtain ⟨h3, h4⟩ := lay_rule c.1 (h c (List.mem_cons_self ..))
    refine ⟨?_, ?_⟩
    · simp [PyData.canLayAll0, h1, h3]
    · simp only [List.map_cons, PyData.depthAll, h4]
      omega
theorem shaped_rules (L : List (Rule × Addr)) (h : ∀ p ∈ L, ROk p.1) : SeqAt.shaped (.list (L.map fun p => ruleD p.1)) = true := by
  obtain ⟨h1, h2⟩ := lay_rules L h
  simp [SeqAt.shaped, PyData.canLay0, h1, PyData.depth]
  omega
theorem eqv_strs : ∀ a b : List Str, PyData.eqvAll (a.map PyData.str) (b.map PyData.str) = decide (a = b)
  | [], [] => by simp [PyData.eqvAll]
  | [], _ :: _ => by simp [PyData.eqvAll]
  | _ :: _, [] => by simp [PyData.eqvAll]
  | x :: a, y :: b => by
    rw [List.map_cons, List.map_cons, PyData.eqvAll, eqv_strs a b]
    rw [Bool.eq_iff_iff]
    simp [PyData.eqv]
theorem eqv_end (a b : Option Str) : PyData.eqv (endD a) (endD b) = decide (a = b) := by
  rw [Bool.eq_iff_iff]
  cases a <;> cases b <;> simp [endD, PyData.eqv]
theorem eqv_rule (a b : Rule) : PyData.eqv (ruleD a) (ruleD b) = decide (a = b) := by
  unfold ruleD
  rw [PyData.eqv, PyData.eqvAll, PyData.eqvAll, PyData.eqvAll, PyData.eqvAll, eqv_end, eqv_end]
  rw [Bool.eq_iff_iff]
  obtain ⟨a1, a2, a3⟩ := a
  obtain ⟨b1, b2, b3⟩ := b
  simp [PyData.eqv]
theorem eqv_rules : ∀ a b : List (Rule × Addr), PyData.eqvAll (a.map fun p => ruleD p.1) (b.map fun p => ruleD p.1) = decide (a.map (·.1) = b.map (·.1))
  | [], [] => by simp [PyData.eqvAll]
  | [], _ :: _ => by simp [PyData.eqvAll]
  | _ :: _, [] => by simp [PyData.eqvAll]
  | x :: a, y :: b => by
    rw [List.map_cons, List.map_cons, PyData.eqvAll, eqv_rules a b, eqv_rule]
    rw [Bool.eq_iff_iff]
    simp

/-- the answer of == to a system with the names ns and the rules L -/
def EqAns (K : PySem.W.Frag) (C : Addr) (H : Hp) (ns : List Str) (L : List (Rule × Addr)) (y : V) (b : Bool) : Prop :=
  (∃ (z : Addr) (ns' : List Str) (L' : List (Rule × Addr)), y = .ref z ∧ SysAt C H z ns' L' ∧ b = (decide (ns = ns') && decide (L.map (·.1) = L'.map (·.1)))) ∨ (∃ t, TyX K H y t ∧ PySem.W.kitOne K t (.ref C) = some false ∧ b = false)
def spEq (K : PySem.W.Frag) (C : Addr) : Sp := fun vs H Q _ => ∃ (x : Addr) (y : V) (ns : List Str) (L : List (Rule × Addr)) (b : Bool), vs = [.ref x, y] ∧ SysAt C H x ns L ∧ EqAns K C H ns L y b ∧ Q (.bl b) H
theorem ok_eq {C : Addr} {qn : Str} {f : Addr} {fd : FuncData} (F : Fun K "__eq__" qn s_System___eq f fd) (T : SysC K mg C) (I : C8.InsC K C) (B : Blt2 mg) : FnOk P w K mg base CX0 1 f fd ["self", "other"] (spEq K C) := by
  have C_System := T.mgC
  refine F.ok sc_System___eq (fun vs H Q E h => ?_) (fun cdv A outer s H vs Q E hr h => ?_)
  · obtain ⟨x, y, ns, L, b, rfl, _⟩ := h
    rfl
  · obtain ⟨x, y, ns, L, b, rfl, hx, hy, q⟩ := h
    refine ⟨_, (pss_one (ps_ret (pe_and (pe_callB call_isi (by rfl) B.isinstance (by decide +kernel) (pa_cons (pv 1) (pa_cons (pe_glob (v := .ref C) rfl C_System rfl) pa_nil))) (pe_and (pe_cmpR (op_eqD (hu_of64 hr)) (pe_fld (pv 0) rfl) (pe_fld (pv 1) rfl) (nomark _)) (pe_one (pe_cmpR (op_eqD (hu_of64 hr)) (pe_fld (pv 0) rfl) (pe_fld (pv 1) rfl) (nomark _))))))), ?_⟩
    rcases hy with ⟨z, ns', L', rfl, hz, rfl⟩ | ⟨t, ty, kt, rfl⟩
    · obtain ⟨dx, ln, lr, h1, h2, h3, h4, h5⟩ := hx
      obtain ⟨dx', ln', lr', g1, g2, g3, g4, g5⟩ := hz
      refine ⟨_, rfl, _, _, _, _, true, rfl, .own C, .base (.ins g1 I.cl I.ha I.hn I.htk I.hm), I.me, true, rfl, ?_⟩
      refine ⟨_, rfl, x, C, dx, _, _, rfl, h1, T.cl, T.nN, sysF_names _ _, _, rfl, z, C, dx', _, _, rfl, g1, T.cl, T.nN, sysF_names _ _, ?_⟩
      refine ⟨_, _, .lst (SqL.of h2) (dp_strs ns), .lst (SqL.of g2) (dp_strs ns'), shaped_strs ns (fun t ht => name_strOk (h5.names.2.1 t ht)), shaped_strs ns' (fun t ht => name_strOk (g5.names.2.1 t ht)), _, rfl, ?_⟩
      rw [PyData.eqv, eqv_strs]
      cases e : decide (ns = ns') with
      | false =>
        rw [e, Bool.false_and] at q
        exact q
      | true =>
        rw [e, Bool.true_and] at q
        refine ⟨_, rfl, x, C, dx, _, _, rfl, h1, T.cl, T.nR, sysF_rules _ _, _, rfl, z, C, dx', _, _, rfl, g1, T.cl, T.nR, sysF_rules _ _, ?_⟩
        refine ⟨_, _, .lst (SqL.of h3) (dp_rules h4), .lst (SqL.of g3) (dp_rules g4), shaped_rules L (fun t ht => (h5.rules t ht).rok h5.names), shaped_rules L' (fun t ht => (g5.rules t ht).rok g5.names), ?_⟩
        rw [PyData.eqv, eqv_rules]
        exact q
    · refine ⟨_, rfl, _, _, _, _, false, rfl, .own C, ty, kt, false, rfl, ?_⟩
      exact q
end
end Wnd

namespace Wnd
open PySem PySem.Spec PyProof.Rows L2
abbrev s_law_some : Stmt := top 44
theorem sc_law_some : FnScope ["_law_pen_here", "_law_pool", "_law_most", "_law_left", "_law_turn"] ["_law_pen_here", "_law_pool", "_law_most"] (defScope s_law_some) := ⟨rfl, rfl, rfl, by decide +kernel, rfl, by decide +kernel, by decide +kernel⟩
abbrev s_law_nyms : Stmt := top 45
theorem sc_law_nyms : FnScope ["_law_pen_here", "_law_most"] ["_law_pen_here", "_law_most"] (defScope s_law_nyms) := ⟨rfl, rfl, rfl, by decide +kernel, rfl, by decide +kernel, by decide +kernel⟩
abbrev s_law_goal : Stmt := top 46
theorem sc_law_goal : FnScope ["_law_pen_here", "_law_nyms_here", "_law_wide", "_law_nym"] ["_law_pen_here", "_law_nyms_here"] (defScope s_law_goal) := ⟨rfl, rfl, rfl, by decide +kernel, rfl, by decide +kernel, by decide +kernel⟩
abbrev s_law_at : Stmt := top 47
theorem sc_law_at : FnScope ["_law_held", "_law_thing"] ["_law_held", "_law_thing"] (defScope s_law_at) := ⟨rfl, rfl, rfl, by decide +kernel, rfl, by decide +kernel, by decide +kernel⟩
abbrev s_law_gaps : Stmt := top 48
theorem sc_law_gaps : FnScope ["_law_pen_here", "_law_nyms_here", "_law_goals", "_law_most", "_law_found", "_law_things", "_law_turn", "_law_left", "_law_first", "_law_second", "_law_spans", "_law_gap", "_law_goal_here"] ["_law_pen_here", "_law_nyms_here", "_law_goals", "_law_most"] (defScope s_law_gaps) := ⟨rfl, rfl, rfl, by decide +kernel, rfl, by decide +kernel, by decide +kernel⟩
section
variable {P : Program} {w : World} {K : PySem.W.Frag} {mg : Str → Option Value} {base : Heap}
/-- the pool at a keeps as it is -/
def spSome (K : PySem.W.Frag) : Sp := fun vs H Q _ => ∃ (p c a : Addr) (n m : Nat) (xs : List V), vs = [.ref p, .ref a, .int m] ∧ PenAt H p c n ∧ n ≤ 900000 ∧ SqL K H a xs ∧ xs.length < 1000 ∧ m ≤ 1000 ∧
  ∀ r H' n' (ys rest : List V), But p H H' → H r = none → H' r = some (.lst ys) → (ys ++ rest).Perm xs → ys.length ≤ m → PenAt H' p c n' → n' ≤ n + m + 1 → Q (.ref r) H'
theorem perm_pop {ys rest xs : List V} {k : Nat} (hk : k < rest.length) (h : (ys ++ rest).Perm xs) : ((ys ++ [rest[k]]) ++ rest.eraseIdx k).Perm xs := by
  refine List.Perm.trans ?_ h
  rw [List.append_assoc]
  refine List.Perm.append_left ys ?_
  rw [List.singleton_append]
  exact cons_erase rest k hk
theorem PenAt.upd {H : Hp} {p c a : Addr} {n : Nat} {o : HO} (h : PenAt H p c n) (hp : a ≠ p) (hc : a ≠ c) : PenAt (L2.upd H a o) p c n := by
  obtain ⟨cs, i, z, g1, g2, g3, g4⟩ := h
  exact ⟨cs, i, z, g1, g2, by rw [upd_ne hc.symm]; exact g3, by rw [upd_ne hp.symm]; exact g4⟩
theorem PenAt.cells {H : Hp} {p c : Addr} {n : Nat} (h : PenAt H p c n) : ∃ o, H c = Option.some o := by
  obtain ⟨cs, i, z, g1, g2, g3, g4⟩ := h
  exact ⟨_, g3⟩
theorem PenAt.out {H : Hp} {p c a : Addr} {n : Nat} (h : PenAt H p c n) (ha : H a = none) : a ≠ p ∧ a ≠ c := by
  obtain ⟨o, ho⟩ := h.some
  obtain ⟨o', ho'⟩ := h.cells
  exact ⟨(ne_of_none ho ha).symm, (ne_of_none ho' ha).symm⟩
theorem PenAt.ne_strs {H : Hp} {p c a : Addr} {n : Nat} {ts : List Str} (h : PenAt H p c n) (ha : H a = Option.some (.lst (ts.map V.str))) : a ≠ p := by
  obtain ⟨cs, i, z, g1, g2, g3, g4⟩ := h
  refine L2.ne_of ha g4 fun e => ?_
  cases ts with
  | nil => cases e
  | cons x r => cases e
theorem PenAt.ne_refs {H : Hp} {p c a : Addr} {n : Nat} {L : List Addr} (h : PenAt H p c n) (ha : H a = Option.some (.lst (L.map V.ref))) : a ≠ p := by
  obtain ⟨cs, i, z, g1, g2, g3, g4⟩ := h
  refine L2.ne_of ha g4 fun e => ?_
  cases L with
  | nil => cases e
  | cons x r =>
    cases r with
    | nil => cases e
    | cons y r => cases e
theorem PenAt.ne_of {H : Hp} {p c a : Addr} {n : Nat} {o : HO} (h : PenAt H p c n) (ha : H a = Option.some o) (no : ∀ xs, o ≠ .lst xs) : a ≠ p := by
  obtain ⟨cs, i, z, g1, g2, g3, g4⟩ := h
  exact L2.ne_of ha g4 fun e => no _ e
theorem seqIx_nat {k n : Nat} (h : k < n) : seqIndex? (k : Int) n = some k := by
  unfold seqIndex?
  have h0 : ¬ ((k : Int) < 0) := by omega
  simp [h0, h]
theorem ok_some {f : Addr} {fd : FuncData} (D : DefAt K mg "_law_some" s_law_some ["_law_pen_here", "_law_pool", "_law_most"] f fd) (B : Blt mg) (O_law_draw : Ok P w K mg base 2 "_law_draw" ["_law_pen_here", "_law_under"] spDraw) : Ok P w K mg base 3 "_law_some" ["_law_pen_here", "_law_pool", "_law_most"] (spSome K) := by
  refine D.ok (D.fn.ok sc_law_some (fun vs H Q E h => ?_) (fun cdv A outer s H vs Q E hr h => ?_))
  · obtain ⟨p, c, a, n, m, xs, rfl, _⟩ := h
    rfl
  · obtain ⟨p, c, a, n, m, xs, rfl, hP, hn, hS, hz, hm, q⟩ := h
    have nd := sc_law_some.nd
    refine ⟨_, (pss_cons (ps_set (i := 3) nd rfl (Or.inr rfl) (pe_callTy call_list_of (by rfl) B.list (by decide +kernel) (pa_cons (pv 1) pa_nil)))
      (pss_one (ps_ret (pe_lc (own := [("_law_turn", 4)]) (g := gName 4) (tt := tYes) (by rfl) nd (pi_range1 (by rfl) B.range (pa_cons (pe_own O_law_draw (hr.mono (by decide)) (pa_cons (pv 0) (pa_cons (pe_op op_add (pe_callB (call_min2 rfl) (by rfl) B.min (by decide +kernel) (pa_cons (pv 2) (pa_cons (pe_callB call_len_seq (by rfl) B.len PySem.boot_len (pa_cons (pv 3) pa_nil)) pa_nil))) pe_int) pa_nil))) pa_nil)) (blkOk_by (own := [("_law_turn", 4)]) (N := ["_law_pen_here", "_law_pool", "_law_most", "_law_left", "_law_turn"]) (sc := defScope s_law_some) (by decide +kernel)) (fun _ _ _ _ _ => (pg_name (i := 4) nd rfl (Or.inl rfl))) (fun _ _ _ _ _ => pts_nil) (fun _ _ _ _ _ => (pe_bmB K PySem.F.plainAttrs_list PySem.F.slot_list_pop PySem.F.type_list_pop mt_popAt (pv 3) (pa_cons (pe_own O_law_draw (hr.mono (by decide)) (pa_cons (pv 0) (pa_cons (pe_callB (call_lenK K) (by rfl) B.len PySem.boot_len (pa_cons (pv 3) pa_nil)) pa_nil))) pa_nil))))))), ?_⟩
    refine ⟨_, rfl, a, xs, rfl, .inl hS, fun l hl => ?_⟩
    have s1 : Same H (upd H l (.lst xs)) := same_new hl
    have hP1 := hP.same s1
    have hL1 : (upd H l (.lst xs)) l = some (.lst xs) := upd_same
    obtain ⟨npl, ncl⟩ := hP.out hl
    generalize upd H l (.lst xs) = H1 at s1 hP1 hL1 ⊢
    refine ⟨_, rfl, _, rfl, _, rfl, l, xs, rfl, .inl (SqL.of hL1), m, xs.length, rfl, _, _, rfl, rfl, ?_⟩
    obtain ⟨u, hu⟩ : ∃ u : Int, (if (xs.length : Int) < (m : Int) then (xs.length : Int) else (m : Int)) = u := ⟨_, rfl⟩
    have hu0 : 0 ≤ u ∧ u ≤ m ∧ u ≤ xs.length := by
      rw [← hu]
      split <;> omega
    rw [hu]
    refine ⟨p, c, n, u + 1, rfl, hP1, by omega, by omega, by omega, fun d H2 hd0 hd1 b2 hP2 => ?_⟩
    refine ⟨d, rfl, by omega, by omega, fun D hD => ?_⟩
    obtain ⟨nDp, nDc⟩ := hP2.out hD
    have hD1 : H1 D = none := b2.free nDp hD
    have nlD : l ≠ D := ne_of_none hL1 hD1
    have hD0 : H D = none := s1.free hD1
    have hL2 : H2 l = some (.lst xs) := b2 _ _ hL1 npl
    have b02 : But p H H2 := (But.of s1).trans b2
    refine lc_it walk_range (fun i Hc => ∃ ys rest, ys.length = i ∧ (ys ++ rest).Perm xs ∧ Hc l = some (.lst rest) ∧ Hc D = some (.lst ys) ∧ But p H Hc ∧ PenAt Hc p c (n + 1 + i)) ⟨[], xs, rfl, List.Perm.refl _, by rw [upd_ne nlD, hL2], upd_same, b02.trans (But.new hD), hP2.same (same_new hD)⟩ (fun _ _ _ _ => True.intro) ?_ ?_
    · rintro i x Hc H' hi ⟨ys, rest, rfl, hp, h1, h2, b, hPc⟩ ⟨rfl, rfl⟩
      have hlen : ys.length + rest.length = xs.length := by
        have := hp.length_eq
        rwa [List.length_append] at this
      refine ⟨rfl, ?_⟩
      refine ⟨_, rfl, .inl ⟨rfl, _, SqL.of h1⟩, ?_⟩
      refine ⟨_, rfl, _, rfl, l, rest, rfl, .inl (SqL.of h1), ?_⟩
      refine ⟨p, c, _, rest.length, rfl, hPc, by omega, by omega, by omega, fun e H3 he0 he1 b3 hP3 => ?_⟩
      obtain ⟨k, rfl⟩ := Int.eq_ofNat_of_zero_le he0
      have hk : k < rest.length := by omega
      have h1' := b3 _ _ h1 npl
      have h2' := b3 _ _ h2 nDp
      refine ⟨l, rest, k, k, rest[k], rfl, rfl, h1', by omega, by omega, ?_, List.getElem?_eq_getElem hk, ?_⟩
      · exact seqIx_nat hk
      · refine ⟨ys, by rw [upd_ne nlD.symm]; exact h2', by have : sizeLine > 1000 := by decide
                                                           omega, ?_⟩
        refine ⟨ys ++ [rest[k]], rest.eraseIdx k, by rw [List.length_append]; rfl, perm_pop hk hp, ?_, upd_same, ?_, ?_⟩
        · rw [upd_ne nlD, upd_same]
        · intro z o hz nz
          rw [upd_ne (ne_of_none hz hD0), upd_ne (ne_of_none hz hl)]
          exact b3 _ _ (b _ _ hz nz) nz
        · have := (hP3.upd (o := .lst (rest.eraseIdx k)) npl ncl).upd (o := .lst (ys ++ [rest[k]])) nDp nDc
          exact this.le (by omega)
    · rintro Hc ⟨ys, rest, hy, hp, h1, h2, b, hPc⟩
      exact q D Hc _ ys rest b hD0 h2 hp (by omega) hPc (by omega)

def nymPool : List Str := ["a", "ab", "b", "c", "none", "x", "abcdefgh", "settings", "zz"]
theorem pool_nodup : nymPool.Nodup := by decide +kernel
theorem pool_names : ∀ t ∈ nymPool, nameB t = true := by decide +kernel
def spNyms : Sp := fun vs H Q _ => ∃ (p c : Addr) (n m : Nat), vs = [.ref p, .int m] ∧ PenAt H p c n ∧ n ≤ 900000 ∧ m ≤ 1000 ∧
  ∀ r H' n' (ts : List Str), But p H H' → H r = none → H' r = some (.lst (ts.map V.str)) → ts.Nodup → (∀ t ∈ ts, t ∈ nymPool) → ts.length ≤ m → PenAt H' p c n' → n' ≤ n + m + 1 → Q (.ref r) H'
theorem map_of_perm {ys rest : List V} {ts : List Str} (h : (ys ++ rest).Perm (ts.map V.str)) (nd : ts.Nodup) : ∃ us : List Str, ys = us.map V.str ∧ us.Nodup ∧ ∀ t ∈ us, t ∈ ts := by
  have all : ∀ y ∈ ys, ∃ t ∈ ts, V.str t = y := fun y hy => List.mem_map.mp (h.mem_iff.mp (List.mem_append_left _ hy))
  have ndm : (ys ++ rest).Nodup := h.nodup_iff.mpr (by
    refine List.Pairwise.map V.str (fun a b ne e => ne (by injection e)) nd)
  have ndy := (List.nodup_append.mp ndm).1
  clear h ndm
  induction ys with
  | nil => exact ⟨[], rfl, List.nodup_nil, fun _ h => nomatch h⟩
  | cons y r ih =>
    obtain ⟨us, rfl, h1, h2⟩ := ih (fun y hy => all y (List.mem_cons_of_mem _ hy)) (List.nodup_cons.mp ndy).2
    obtain ⟨t, ht, rfl⟩ := all y (List.mem_cons_self ..)
    refine ⟨t :: us, rfl, List.nodup_cons.mpr ⟨fun m => (List.nodup_cons.mp ndy).1 (List.mem_map.mpr ⟨t, m, rfl⟩), h1⟩, fun x hx => ?_⟩
    rcases List.mem_cons.mp hx with rfl | hx
    · exact ht
    · exact h2 x hx
theorem ok_nyms {f : Addr} {fd : FuncData} (D : DefAt K mg "_law_nyms" s_law_nyms ["_law_pen_here", "_law_most"] f fd) (B : Blt mg) (O_law_some : Ok P w K mg base 3 "_law_some" ["_law_pen_here", "_law_pool", "_law_most"] (spSome K)) : Ok P w K mg base 4 "_law_nyms" ["_law_pen_here", "_law_most"] spNyms := by
  refine D.ok (D.fn.ok sc_law_nyms (fun vs H Q E h => ?_) (fun cdv A outer s H vs Q E hr h => ?_))
  · obtain ⟨p, c, n, m, rfl, _⟩ := h
    rfl
  · obtain ⟨p, c, n, m, rfl, hP, hn, hm, q⟩ := h
    refine ⟨_, (pss_one (ps_ret (pe_own O_law_some (hr.mono (by decide)) (pa_cons (pv 0) (pa_cons (pe_lst (pa_cons pe_str (pa_cons pe_str (pa_cons pe_str (pa_cons pe_str (pa_cons pe_str (pa_cons pe_str (pa_cons pe_str (pa_cons pe_str (pa_cons pe_str pa_nil)))))))))) (pa_cons (pv 1) pa_nil)))))), ?_⟩
    refine ⟨_, rfl, by show 9 ≤ sizeLine; decide, fun l hl => ?_⟩
    have s1 : Same H (upd H l (.lst (nymPool.map V.str))) := same_new hl
    refine ⟨_, rfl, p, c, l, n, m, nymPool.map V.str, rfl, hP.same s1, hn, SqL.of upd_same, by decide, hm, fun r H' n' ys rest b nr hr hp hy hP' hn' => ?_⟩
    obtain ⟨us, rfl, h1, h2⟩ := map_of_perm hp pool_nodup
    exact q r H' n' us ((But.of s1).trans b) (s1.free nr) hr h1 h2 (by rwa [List.length_map] at hy) hP' hn'

/-! ### numbers of the settings -/
def goalKV (g : List (Str × Int)) : List (Key × V) := g.map fun x => (Sum.inr x.1, V.int x.2)
theorem mergeK_app : ∀ (more acc : List (Key × V)), ((acc ++ more).map (·.1)).Nodup → mergeK acc more = acc ++ more
  | [], acc, _ => (List.append_nil acc).symm
  | x :: r, acc, h => by
    have h2 : acc ++ x :: r = (acc ++ [x]) ++ r := by rw [List.append_assoc]; rfl
    rw [h2] at h ⊢
    have e : putK acc x.1 x.2 = acc ++ [x] := by
      unfold putK
      rw [if_neg]
      intro z
      obtain ⟨y, hy, e⟩ := List.any_eq_true.mp z
      have e := of_decide_eq_true e
      rw [List.map_append, List.map_append] at h
      have h3 := (List.nodup_append.mp (List.nodup_append.mp h).1).2.2
      exact h3 y.1 (List.mem_map.mpr ⟨y, hy, rfl⟩) x.1 (List.mem_singleton.mpr rfl) e
    show mergeK (putK acc x.1 x.2) r = _
    rw [e]
    exact mergeK_app r (acc ++ [x]) h
theorem goal_keys (g : List (Str × Int)) : (goalKV g).map (·.1) = (g.map (·.1)).map Sum.inr := by
  unfold goalKV
  rw [List.map_map, List.map_map]
  rfl
theorem goal_merge {g : List (Str × Int)} (h : (g.map (·.1)).Nodup) : mergeK [] (goalKV g) = goalKV g := by
  refine (mergeK_app (goalKV g) [] ?_).trans (List.nil_append _)
  rw [List.nil_append, goal_keys]
  exact List.Pairwise.map Sum.inr (fun a b ne e => ne (by injection e)) h
def spGoal (K : PySem.W.Frag) : Sp := fun vs H Q _ => ∃ (p c a : Addr) (n : Nat) (ts : List Str), vs = [.ref p, .ref a] ∧ PenAt H p c n ∧ n ≤ 900000 ∧ H a = some (.lst (ts.map V.str)) ∧ ts.Nodup ∧ ts.length < 1000 ∧
  ∀ r H' n' (g : List (Str × Int)), But p H H' → H r = none → H' r = some (.dK (goalKV g)) → g.map (·.1) = ts → (∀ x ∈ g, -900 ≤ x.2 ∧ x.2 ≤ 900) → PenAt H' p c n' → n' ≤ n + ts.length + 1 → Q (.ref r) H'
theorem pick {xs : List Int} {d : Int} (h0 : 0 ≤ d) (h1 : d < xs.length) : ∃ w, w ∈ xs ∧ atI (xs.map V.int) d = some (.int w) := by
  obtain ⟨k, rfl⟩ := Int.eq_ofNat_of_zero_le h0
  have hk : k < xs.length := by omega
  exact ⟨xs[k], List.getElem_mem hk, atI_nat (by rw [List.getElem?_map, List.getElem?_eq_getElem hk]; rfl)⟩
theorem ok_goal {f : Addr} {fd : FuncData} (D : DefAt K mg "_law_goal" s_law_goal ["_law_pen_here", "_law_nyms_here"] f fd) (B : Blt mg) (O_law_draw : Ok P w K mg base 2 "_law_draw" ["_law_pen_here", "_law_under"] spDraw) : Ok P w K mg base 3 "_law_goal" ["_law_pen_here", "_law_nyms_here"] (spGoal K) := by
  refine D.ok (D.fn.ok sc_law_goal (fun vs H Q E h => ?_) (fun cdv A outer s H vs Q E hr h => ?_))
  · obtain ⟨p, c, a, n, ts, rfl, _⟩ := h
    rfl
  · obtain ⟨p, c, a, n, ts, rfl, hP, hn, hS, nodup, hz, q⟩ := h
    have nd := sc_law_goal.nd
    refine ⟨_, (pss_cons (ps_set (i := 2) nd rfl (Or.inr rfl) (pe_ix ix_list (pe_lst (pa_cons pe_int (pa_cons pe_int (pa_cons pe_int (pa_cons pe_int pa_nil))))) (pe_own O_law_draw (hr.mono (by decide)) (pa_cons (pv 0) (pa_cons pe_int pa_nil))) (fun _ _ => rfl)))
      (pss_one (ps_ret (pe_callTy (call_dictP rfl) (by rfl) B.dict (by decide +kernel) (pa_cons (pe_lc (own := [("_law_nym", 3)]) (g := gName 3) (tt := tYes) (by rfl) nd (pi_list (pv 1)) (blkOk_by (own := [("_law_nym", 3)]) (N := ["_law_pen_here", "_law_nyms_here", "_law_wide", "_law_nym"]) (sc := defScope s_law_goal) (by decide +kernel)) (fun _ _ _ _ _ => (pg_name (i := 3) nd rfl (Or.inl rfl))) (fun _ _ _ _ _ => pts_nil) (fun _ _ _ _ _ => (pe_tup (pa_cons (pv 3) (pa_cons (pe_op op_sub (pe_own O_law_draw (hr.mono (by decide)) (pa_cons (pv 0) (pa_cons (pv 2) pa_nil))) (pe_op op_fdiv (pv 2) pe_int)) pa_nil))))) pa_nil))))), ?_⟩
    refine ⟨by show 4 ≤ sizeLine; decide, fun l hl => ?_⟩
    obtain ⟨npl, ncl⟩ := hP.out hl
    have s1 : Same H (upd H l (.lst ([3, 5, 11, 1801].map V.int))) := same_new hl
    refine ⟨_, rfl, p, c, n, 4, rfl, hP.same s1, by omega, by omega, by omega, fun d H2 hd0 hd1 b2 hP2 => ?_⟩
    obtain ⟨wd, hw, he⟩ := pick (xs := [3, 5, 11, 1801]) hd0 hd1
    have hw0 : 3 ≤ wd ∧ wd ≤ 1801 := by
      simp only [List.mem_cons, List.not_mem_nil, or_false] at hw
      omega
    refine ⟨l, _, d, _, rfl, rfl, SqL.of (b2 _ _ upd_same npl), he, ?_⟩
    have b02 := (But.of s1).trans b2
    have nap := hP.ne_strs hS
    have hS2 := b02 _ _ hS nap
    refine ⟨_, rfl, a, rfl, ⟨_, SqL.of hS2⟩, fun D hD => ?_⟩
    obtain ⟨nDp, nDc⟩ := hP2.out hD
    have hD0 : H D = none := b02.free nDp hD
    refine lc_it walk_list (fun i Hc => ∃ (ps : List Addr) (g : List (Str × Int)), g.map (·.1) = ts.take i ∧ (∀ x ∈ g, -900 ≤ x.2 ∧ x.2 ≤ 900) ∧ Paired (fun u x => Hc u = some (.tup [.str x.1, .int x.2])) ps g ∧ Hc D = some (.lst (ps.map V.ref)) ∧ But p H Hc ∧ PenAt Hc p c (n + 1 + i))
      ⟨[], [], rfl, (fun _ h => nomatch h), .nil, upd_same, b02.trans (But.new hD), hP2.same (same_new hD)⟩ (fun i Hc _ ⟨_, _, _, _, _, _, b, _⟩ => SqL.of (b _ _ hS nap)) ?_ ?_
    · rintro i x Hc H' hi ⟨ps, g, hg, hb, hp, h2, b, hPc⟩ ⟨rfl, hx⟩
      obtain ⟨t, ht, rfl⟩ := get_map hx
      have hpl : ps.length = i := by
        have h1 := hp.length
        have h2 : (g.map (·.1)).length = (ts.take i).length := by rw [hg]
        rw [List.length_map, List.length_take] at h2
        rw [List.length_map] at hi
        omega
      refine ⟨rfl, ?_⟩
      refine ⟨_, rfl, ?_⟩
      have hi' : i < ts.length := by rwa [List.length_map] at hi
      refine ⟨_, rfl, _, rfl, p, c, _, wd, rfl, hPc, by omega, by omega, by omega, fun e H3 he0 he1 b3 hP3 => ?_⟩
      refine ⟨_, rfl, wd, 2, rfl, rfl, ⟨by decide, by decide⟩, _, _, rfl, rfl, by show 2 ≤ sizeLine; decide, fun T hT => ?_⟩
      have h2' := b3 _ _ h2 nDp
      have nDT : D ≠ T := ne_of_none h2' hT
      obtain ⟨nTp, nTc⟩ := hP3.out hT
      refine ⟨ps.map V.ref, by rw [upd_ne nDT]; exact h2', by rw [List.length_map]; have : sizeLine > 1000 := by decide
                                                              omega, ps ++ [T], g ++ [(t, e - wd / 2)], ?_, ?_, ?_, ?_, ?_, ?_⟩
      · rw [List.map_append, hg, List.take_add_one, ht]
        rfl
      · intro x hx
        rcases List.mem_append.mp hx with hx | hx
        · exact hb x hx
        · rw [List.mem_singleton.mp hx]
          show -900 ≤ e - wd / 2 ∧ e - wd / 2 ≤ 900
          omega
      · refine Paired.snoc (Paired.mono (fun u x hu => ?_) hp) ?_
        · have hu3 := b3 _ _ hu (hPc.ne_of hu fun xs z => nomatch z)
          rw [upd_ne (ne_of hu3 h2' fun z => nomatch z), upd_ne (ne_of_none hu3 hT)]
          exact hu3
        · rw [upd_ne nDT.symm]
          exact upd_same
      · rw [upd_same, List.map_append]
        rfl
      · intro z o hz nz
        rw [upd_ne (ne_of_none hz hD0), upd_ne (ne_of_none (b3 _ _ (b _ _ hz nz) nz) hT)]
        exact b3 _ _ (b _ _ hz nz) nz
      · exact ((hP3.same (same_new hT)).upd nDp nDc).le (by omega)
    · rintro Hc ⟨ps, g, hg, hb, hp, h2, b, hPc⟩
      rw [List.length_map, List.take_length] at hg
      have nodg : (g.map (·.1)).Nodup := by rw [hg]; exact nodup
      have hp2 : ∀ {ps : List Addr} {g : List (Str × Int)}, Paired (fun u x => Hc u = some (.tup [.str x.1, .int x.2])) ps g → Paired (fun u (kv : Key × V) => SqT K Hc u [kV kv.1, kv.2]) ps (goalKV g) := by
        intro ps g h
        induction h with
        | nil => exact .nil
        | cons h1 h2 ih => exact .cons (SqT.of h1) ih
      refine ⟨D, ps, goalKV g, rfl, SqL.of h2, hp2 hp, fun r hr' => ?_⟩
      rw [goal_merge nodg]
      exact q r _ _ g (b.trans (But.new hr')) ((b.trans (But.refl _ _)).free (hPc.out hr').1 hr') upd_same hg hb (hPc.same (same_new hr')) (by rw [List.length_map]; omega)

/-- the number of an end -/
def valG (g : List (Str × Int)) : Option Str → Int
  | none => 0
  | some t => (g.lookup t).getD 0
def spAt : Sp := fun vs H Q _ => ∃ (d : Addr) (g : List (Str × Int)) (e : Option Str), vs = [.ref d, endV e] ∧ H d = some (.dK (goalKV g)) ∧ (∀ t, e = some t → t ∈ g.map (·.1)) ∧ Q (.int (valG g e)) H
theorem goal_val {t : Str} : ∀ {g : List (Str × Int)}, t ∈ g.map (·.1) → valV (goalKV g) (Sum.inr t) = some (.int (valG g (some t)))
  | [], h => nomatch h
  | (a, b) :: r, h => by
    by_cases e : a = t
    · have h1 : valV (goalKV ((a, b) :: r)) (Sum.inr t) = some (.int b) := valV_pos (κ := Key) (p := (Sum.inr a, V.int b)) (r := goalKV r) (congrArg Sum.inr e)
      rw [h1]
      show some (V.int b) = some (V.int ((List.lookup t ((a, b) :: r)).getD 0))
      rw [List.lookup_cons, show (t == a) = true from beq_iff_eq.mpr e.symm]
      rfl
    · have h2 : t ∈ r.map (·.1) := by
        rcases List.mem_cons.mp h with h | h
        · exact absurd h.symm e
        · exact h
      have h1 : valV (goalKV ((a, b) :: r)) (Sum.inr t) = valV (goalKV r) (Sum.inr t) := by
        unfold goalKV valV
        rw [List.map_cons, List.find?_cons]
        have : decide ((Sum.inr a : Key) = Sum.inr t) = false := decide_eq_false fun z => e (by injection z)
        simp only [this]
      rw [h1, goal_val h2]
      show some (V.int ((List.lookup t r).getD 0)) = some (V.int ((List.lookup t ((a, b) :: r)).getD 0))
      rw [List.lookup_cons, show (t == a) = false from beq_eq_false_iff_ne.mpr fun z => e z.symm]
theorem ok_at {f : Addr} {fd : FuncData} (D : DefAt K mg "_law_at" s_law_at ["_law_held", "_law_thing"] f fd) : Ok P w K mg base 1 "_law_at" ["_law_held", "_law_thing"] spAt := by
  refine D.ok (D.fn.ok sc_law_at (fun vs H Q E h => ?_) (fun cdv A outer s H vs Q E hr h => ?_))
  · obtain ⟨d, g, e, rfl, _⟩ := h
    rfl
  · obtain ⟨d, g, e, rfl, hd, hm, q⟩ := h
    have hu := hu_of hr
    refine ⟨_, (pss_one (ps_ret (pe_ifExp (pt_cmpR op_isN (pv 1) pe_non (nomark _)) pe_int (pe_dget hu (pv 0) (pv 1) (fun _ _ => rfl))))), ?_⟩
    refine ⟨_, rfl, rfl, _, rfl, ?_⟩
    cases e with
    | none => exact q
    | some t =>
      refine iteF ?_
      exact ⟨_, rfl, _, rfl, d, _, rfl, by
        have := DGet.k (k := Sum.inr t) hd
        rwa [goal_val (hm t rfl)] at this, q⟩

/-! ### rules that all of some numbers keep -/
def Holds (g : List (Str × Int)) (r : Rule) : Prop := valG g r.low + r.gap ≤ valG g r.high
def GoalsAt (H : Hp) (b : Addr) (gs : List (Addr × List (Str × Int))) : Prop := H b = some (.lst (gs.map fun x => V.ref x.1)) ∧ ∀ x ∈ gs, H x.1 = some (.dK (goalKV x.2))
def spGaps : Sp := fun vs H Q _ => ∃ (p c a b : Addr) (n m : Nat) (ts : List Str) (gs : List (Addr × List (Str × Int))), vs = [.ref p, .ref a, .ref b, .int m] ∧ PenAt H p c n ∧ n ≤ 800000 ∧ H a = some (.lst (ts.map V.str)) ∧ NamesOk ts ∧
  GoalsAt H b gs ∧ (∀ x ∈ gs, x.2.map (·.1) = ts) ∧ 0 < gs.length ∧ gs.length ≤ 60 ∧ m ≤ 1000 ∧
  ∀ r H' n' (rs : List (Rule × Addr)), But p H H' → H r = none → H' r = some (.lst (rs.map fun x => V.ref x.2)) → KeyTups H' rs → (∀ x ∈ rs, RuleOk ts x.1) → (∀ x ∈ rs, ∀ g ∈ gs, Holds g.2 x.1) → rs.length ≤ 2 * m → PenAt H' p c n' → n' ≤ n + 1 + 4 * m → Q (.ref r) H'
def endsOf (ts : List Str) : List (Option Str) := none :: ts.map some
theorem map_erase {α β : Type} (f : α → β) : ∀ (l : List α) (k : Nat), (l.eraseIdx k).map f = (l.map f).eraseIdx k
  | [], _ => rfl
  | _ :: _, 0 => rfl
  | x :: l, k + 1 => congrArg (f x :: ·) (map_erase f l k)
theorem ends_eq (ts : List Str) : [V.non] ++ ts.map V.str = (endsOf ts).map endV := by
  unfold endsOf
  rw [List.map_cons, List.map_map]
  rfl
/-- where the loop stands before its turn i: rs are found -/
structure GapsAt (p c a b : Addr) (n m : Nat) (ts : List Str) (gs : List (Addr × List (Str × Int))) (fo th : Addr) (H : Hp) (i : Nat) (rs : List (Rule × Addr)) (Hc : Hp) : Prop where
  found : Hc fo = some (.lst (rs.map fun x => V.ref x.2))
  keys : KeyTups Hc rs
  ok : ∀ x ∈ rs, RuleOk ts x.1
  holds : ∀ x ∈ rs, ∀ g ∈ gs, Holds g.2 x.1
  len : rs.length ≤ 2 * i
  but : But p H Hc
  things : Hc th = some (.lst ([V.non] ++ ts.map V.str))
  pen : PenAt Hc p c (n + 1 + 4 * i)
/-- what is found, the things and the spans, at a heap in the turn -/
structure Fnd (p c fo th D : Addr) (H : Hp) (tl sl : List V) (k : Nat) (rs : List (Rule × Addr)) (X : Hp) : Prop where
  found : X fo = some (.lst (rs.map fun x => V.ref x.2))
  keys : KeyTups X rs
  but : But p H X
  things : X th = some (.lst tl)
  spans : X D = some (.lst sl)
  pen : PenAt X p c k
theorem Fnd.but' {p c fo th D : Addr} {H X Y : Hp} {tl sl : List V} {j k : Nat} {rs : List (Rule × Addr)} (F : Fnd p c fo th D H tl sl k rs X) (b : But p X Y) (P : PenAt Y p c j) (nfp : fo ≠ p) (ntp : th ≠ p) (nDp : D ≠ p) : Fnd p c fo th D H tl sl j rs Y :=
  ⟨b _ _ F.found nfp, fun x hx => b _ _ (F.keys x hx) (F.pen.ne_of (F.keys x hx) fun xs z => nomatch z), F.but.trans b, b _ _ F.things ntp, b _ _ F.spans nDp, P⟩
theorem Fnd.more {p c fo th D T : Addr} {H X : Hp} {tl sl : List V} {k : Nat} {rs : List (Rule × Addr)} {r : Rule} (F : Fnd p c fo th D H tl sl k rs X) (hT : X T = none) (hfo : H fo = none) (nfp : fo ≠ p) (nfc : fo ≠ c) (nft : fo ≠ th) (nfD : fo ≠ D) :
    Fnd p c fo th D H tl sl k (rs ++ [(r, T)]) (upd (upd X T (.tup (ruleV r))) fo (.lst (rs.map (fun x => V.ref x.2) ++ [.ref T]))) := by
  have sT : Same X (upd X T (.tup (ruleV r))) := same_new hT
  refine ⟨?_, fun x hx => ?_, fun z o hz nz => ?_, ?_, ?_, (F.pen.same sT).upd nfp nfc⟩
  · rw [upd_same, List.map_append]
    rfl
  · have h : (upd X T (.tup (ruleV r))) x.2 = some (.tup (ruleV x.1)) := by
      rcases List.mem_append.mp hx with hx | hx
      · exact sT _ _ (F.keys x hx)
      · rw [List.mem_singleton.mp hx]
        exact upd_same
    rw [upd_ne (ne_of h (sT _ _ F.found) fun z => nomatch z)]
    exact h
  · rw [upd_ne (ne_of_none hz hfo)]
    exact sT _ _ (F.but _ _ hz nz)
  · rw [upd_ne nft.symm]
    exact sT _ _ F.things
  · rw [upd_ne nfD.symm]
    exact sT _ _ F.spans
theorem twoWays {Goal : Prop} {G C : Int → Hp → Prop} (h1 : (∀ j He, C j He → G j He) → Goal) (h2 : ∀ j He, C j He → G j He) : Goal := h1 h2
theorem ok_gaps {f : Addr} {fd : FuncData} (D : DefAt K mg "_law_gaps" s_law_gaps ["_law_pen_here", "_law_nyms_here", "_law_goals", "_law_most"] f fd) (B : Blt mg) (O_law_draw : Ok P w K mg base 2 "_law_draw" ["_law_pen_here", "_law_under"] spDraw) (O_law_at : Ok P w K mg base 1 "_law_at" ["_law_held", "_law_thing"] spAt) :
    Ok P w K mg base 3 "_law_gaps" ["_law_pen_here", "_law_nyms_here", "_law_goals", "_law_most"] spGaps := by
  refine D.ok (D.fn.ok sc_law_gaps (fun vs H Q E h => ?_) (fun cdv A outer s H vs Q E hr h => ?_))
  · obtain ⟨p, c, a, b, n, m, ts, gs, rfl, _⟩ := h
    rfl
  · obtain ⟨p, c, a, b, n, m, ts, gs, rfl, hP, hn, hA, N, hG, hgt, hg0, hg1, hm, q⟩ := h
    have nd := sc_law_gaps.nd
    refine ⟨_, (pss_cons (ps_set (i := 4) nd rfl (Or.inl rfl) (pe_lst pa_nil))
      (pss_cons (ps_set (i := 5) nd rfl (Or.inl rfl) (pe_op op_cat (pe_lst (pa_cons pe_non pa_nil)) (pe_callTy call_list_of (by rfl) B.list (by decide +kernel) (pa_cons (pv 1) pa_nil))))
      (pss_cons (ps_for PassesOwn.never rfl (pi_range1 (by rfl) B.range (pa_cons (pe_ifExp (pt_cmpR (op_neD (hu_of64 hr)) (pv 1) (pe_lst pa_nil) (nomark _)) (pe_own O_law_draw (hr.mono (by decide)) (pa_cons (pv 0) (pa_cons (pe_op op_add (pv 3) pe_int) pa_nil))) pe_int) pa_nil)) (pg_name (i := 6) nd rfl (Or.inl rfl)) (pss_cons (ps_set (i := 7) nd rfl (Or.inl rfl) (pe_callTy call_list_of (by rfl) B.list (by decide +kernel) (pa_cons (pv 5) pa_nil)))
      (pss_cons (ps_asg (pe_tup (pa_cons (pe_bm PySem.F.plainAttrs_list PySem.F.slot_list_pop PySem.F.type_list_pop mt_popAt (pv 7) (pa_cons (pe_own O_law_draw (hr.mono (by decide)) (pa_cons (pv 0) (pa_cons (pe_callB call_len_seq (by rfl) B.len PySem.boot_len (pa_cons (pv 7) pa_nil)) pa_nil))) pa_nil)) (pa_cons (pe_ix ix_list (pv 7) (pe_own O_law_draw (hr.mono (by decide)) (pa_cons (pv 0) (pa_cons (pe_callB call_len_seq (by rfl) B.len PySem.boot_len (pa_cons (pv 7) pa_nil)) pa_nil))) (fun _ _ => rfl)) pa_nil))) (pg_tup rfl (pgs_cons (pg_name (i := 8) nd rfl (Or.inr rfl)) (pgs_cons (pg_name (i := 9) nd rfl (Or.inr rfl)) pgs_nil))))
      (pss_cons (ps_setLc (i := 10) (own := [("_law_goal_here", 12)]) (g := gName 12) (tt := tYes) (by rfl) nd rfl rfl (sw_true rfl rfl rfl (by decide +kernel)) (pi_list (pv 2)) (blkOk_by (own := [("_law_goal_here", 12)]) (N := ["_law_pen_here", "_law_nyms_here", "_law_goals", "_law_most", "_law_found", "_law_things", "_law_turn", "_law_left", "_law_first", "_law_second", "_law_spans", "_law_gap", "_law_goal_here"]) (sc := defScope s_law_gaps) (by decide +kernel)) (fun _ _ _ _ _ => (pg_name (i := 12) nd rfl (Or.inl rfl))) (fun _ _ _ _ _ => pts_nil) (fun _ _ _ _ _ => (pe_op op_sub (pe_own O_law_at (hr.mono (by decide)) (pa_cons (pv 12) (pa_cons (pv 9) pa_nil))) (pe_own O_law_at (hr.mono (by decide)) (pa_cons (pv 12) (pa_cons (pv 8) pa_nil))))))
      (pss_cons (ps_set (i := 11) nd rfl (Or.inl rfl) (pe_callB (call_max2 rfl) (by rfl) B.max (by decide +kernel) (pa_cons (pe_un un_neg pe_int) (pa_cons (pe_op op_sub (pe_callB (cr_min rfl) (by rfl) B.min (by decide +kernel) (pa_cons (pv 10) pa_nil)) (pe_ix ix_list (pe_lst (pa_cons pe_int (pa_cons pe_int (pa_cons pe_int (pa_cons pe_int (pa_cons pe_int (pa_cons pe_int pa_nil))))))) (pe_own O_law_draw (hr.mono (by decide)) (pa_cons (pv 0) (pa_cons pe_int pa_nil))) (fun _ _ => rfl))) pa_nil))))
      (C8.pss_cut (ps_if (PW.pt (pw_and (pt_cmpR op_le (pv 11) pe_int (nomark _)) (pw_and1 (pt_cmpR op_le (pv 11) (pe_callB (cr_min rfl) (by rfl) B.min (by decide +kernel) (pa_cons (pv 10) pa_nil)) (nomark _))))) (pss_one (ps_expr (pe_bm PySem.F.plainAttrs_list PySem.F.slot_list_append PySem.F.type_list_append mt_append (pv 4) (pa_cons (pe_tup (pa_cons (pv 8) (pa_cons (pv 9) (pa_cons (pv 11) pa_nil)))) pa_nil)))) pss_nil)
      (pss_one (ps_if (PW.pt (pw_and (pt_cmpR op_eq (pe_own O_law_draw (hr.mono (by decide)) (pa_cons (pv 0) (pa_cons pe_int pa_nil))) pe_int (nomark _)) (pw_and1 (pt_chain op_le op_le (pe_un un_neg pe_int) (pe_callB (cr_max rfl) (by rfl) B.max (by decide +kernel) (pa_cons (pv 10) pa_nil)) pe_int)))) (pss_one (ps_expr (pe_bm PySem.F.plainAttrs_list PySem.F.slot_list_append PySem.F.type_list_append mt_append (pv 4) (pa_cons (pe_tup (pa_cons (pv 9) (pa_cons (pv 8) (pa_cons (pe_op op_sub pe_int (pe_callB (cr_max rfl) (by rfl) B.max (by decide +kernel) (pa_cons (pv 10) pa_nil))) pa_nil)))) pa_nil)))) pss_nil))))))))
      (pss_one (ps_ret (pv 4)))))), ?_⟩
    -- found = []
    refine ⟨Nat.zero_le _, fun fo hfo => ?_⟩
    -- things = [None] + list(nyms)
    refine ⟨by show 1 ≤ sizeLine; decide, fun l1 hl1 => ?_⟩
    have sa : Same H (upd H fo (.lst [])) := same_new hfo
    have sb := sa.trans (same_new (o := .lst [.non]) hl1)
    refine ⟨_, rfl, a, _, rfl, .inl (SqL.of (sb _ _ hA)), fun l2 hl2 => ?_⟩
    have sc := sb.trans (same_new (o := .lst (ts.map V.str)) hl2)
    have hl1' := same_new (o := .lst (ts.map V.str)) hl2 _ _ (upd_same (H := upd H fo (.lst [])) (a := l1) (o := .lst [.non]))
    have hfo' := same_new (o := .lst (ts.map V.str)) hl2 _ _ (same_new (o := .lst [.non]) hl1 _ _ (upd_same (H := H) (a := fo) (o := .lst [])))
    refine ⟨l1, l2, _, _, rfl, rfl, hl1', upd_same, ?_, fun th hth => ?_⟩
    · have := N.2.2
      have : sizeLine > 1000 := by decide
      simp only [List.length_map, List.length_cons, List.length_nil]
      omega
    have sd := sc.trans (same_new (o := .lst ([V.non] ++ ts.map V.str)) hth)
    have hfo2 := same_new (o := .lst ([V.non] ++ ts.map V.str)) hth _ _ hfo'
    have hth2 := upd_same (H := (upd (upd (upd H fo (.lst [])) l1 (.lst [.non])) l2 (.lst (ts.map V.str)))) (a := th) (o := .lst ([V.non] ++ ts.map V.str))
    have nft : fo ≠ th := ne_of_none hfo' hth
    obtain ⟨nfp, nfc⟩ := hP.out hfo
    have nth := sc.free hth
    obtain ⟨ntp, ntc⟩ := hP.out nth
    have hPd := hP.same sd
    generalize upd (upd (upd (upd H fo (.lst [])) l1 (.lst [.non])) l2 (.lst (ts.map V.str))) th (.lst ([V.non] ++ ts.map V.str)) = Hd at sd hfo2 hth2 hPd ⊢
    clear hfo' hl1' sa sb sc hl1 hl2 hth
    apply twoWays (C := fun (j : Int) (He : Hp) => 0 ≤ j ∧ j ≤ m ∧ (ts = [] → j = 0) ∧ (But p Hd He) ∧ PenAt He p c (n + 1))
    · intro key
      refine ⟨_, rfl, Nat.zero_le _, fun l3 hl3 => ?_⟩
      have se := same_new (o := .lst []) hl3
      refine ⟨_, _, .lst (SqL.of (se _ _ (sd _ _ hA))) (dp_strs ts), .lst (SqL.of upd_same) .nil, shaped_strs ts (fun t ht => name_strOk (N.2.1 t ht)), rfl, _, rfl, ?_⟩
      refine ite2 (fun e => ?_) (fun e => ?_)
      · refine ⟨_, rfl, _, rfl, m, 1, rfl, rfl, p, c, n, (m : Int) + 1, rfl, hPd.same se, by omega, by omega, by omega, fun d H2 hd0 hd1 b2 hP2 => ?_⟩
        refine ⟨d, rfl, by omega, by omega, ?_⟩
        exact key d H2 ⟨hd0, by omega, (fun z => by
          rw [z] at e
          cases e), (But.of se).trans b2, hP2⟩
      · refine ⟨0, rfl, by decide, by decide, ?_⟩
        exact key 0 _ ⟨Int.le_refl _, by omega, fun _ => rfl, But.of se, (hPd.same se).le (Nat.le_succ _)⟩
    · rintro j He ⟨hj0, hj1, hj2, be, hPe⟩
      have bHe := (But.of sd).trans be
      have nap := hP.ne_strs hA
      have nbp : b ≠ p := hP.ne_refs (L := gs.map (·.1)) (by rw [List.map_map]; exact hG.1)
      have ndp : ∀ x ∈ gs, x.1 ≠ p := fun x hx => hP.ne_of (hG.2 x hx) fun xs z => nomatch z
      refine for_it walk_range (fun i σ Hc => ∃ (rs : List (Rule × Addr)) (o6 o7 o8 o9 o10 o11 o12 : Option V), σ = [some (.ref p), some (.ref a), some (.ref b), some (.int m), some (.ref fo), some (.ref th), o6, o7, o8, o9, o10, o11, o12] ∧ GapsAt p c a b n m ts gs fo th H i rs Hc)
        ⟨[], none, none, none, none, none, none, none, rfl, be _ _ hfo2 nfp, fun _ h => (List.not_mem_nil h).elim, fun _ h => (List.not_mem_nil h).elim, fun _ h => (List.not_mem_nil h).elim, Nat.le_refl _, bHe, be _ _ hth2 ntp, hPe⟩ (fun _ _ _ _ _ => True.intro) ?_ ?_
      · rintro i x σ Hc H' hi ⟨rs, o6, o7, o8, o9, o10, o11, o12, rfl, I⟩ ⟨rfl, rfl⟩
        -- left = list(things)
        refine ⟨_, rfl, th, _, rfl, .inl (SqL.of I.things), fun lf hlf => ?_⟩
        have hne : ts ≠ [] := fun z => by
          have := hj2 z
          omega
        have hts : 0 < ts.length := List.length_pos_iff.mpr hne
        rw [ends_eq ts]
        have hlen : (endsOf ts).length = ts.length + 1 := by rw [endsOf, List.length_cons, List.length_map]
        have b1 : But p H' (upd H' lf (.lst ((endsOf ts).map endV))) := But.new hlf
        have g1 : (upd H' lf (.lst ((endsOf ts).map endV))) lf = some (.lst ((endsOf ts).map endV)) := upd_same
        have P1 := I.pen.same (same_new (o := .lst ((endsOf ts).map endV)) hlf)
        obtain ⟨nlp, nlc⟩ := I.pen.out hlf
        generalize upd H' lf (.lst ((endsOf ts).map endV)) = H1 at b1 g1 P1 ⊢
        -- first, second = left.pop(draw(len(left))), left[draw(len(left))]
        refine ⟨_, rfl, .inl ⟨rfl, _, SqL.of g1⟩, _, rfl, _, rfl, lf, _, rfl, .inl (SqL.of g1), ?_⟩
        rw [List.length_map, hlen]
        have := N.2.2
        refine ⟨p, c, _, _, rfl, P1, by omega, by omega, by omega, fun d H2 hd0 hd1 b2 P2 => ?_⟩
        obtain ⟨k, rfl⟩ := Int.eq_ofNat_of_zero_le hd0
        have hk : k < (endsOf ts).length := by omega
        have g2 := b2 _ _ g1 nlp
        refine ⟨lf, _, k, k, endV (endsOf ts)[k], rfl, rfl, g2, by omega, by omega, seqIx_nat (by rwa [List.length_map]), by rw [List.getElem?_map, List.getElem?_eq_getElem hk]; rfl, ?_⟩
        have e3 : ((endsOf ts).map endV).eraseIdx k = ((endsOf ts).eraseIdx k).map endV := (map_erase _ _ _).symm
        rw [e3]
        have g3 : (upd H2 lf (.lst (((endsOf ts).eraseIdx k).map endV))) lf = some (.lst (((endsOf ts).eraseIdx k).map endV)) := upd_same
        have P3 := P2.upd (o := .lst (((endsOf ts).eraseIdx k).map endV)) nlp nlc
        have b3 : But p H' (upd H2 lf (.lst (((endsOf ts).eraseIdx k).map endV))) := fun z o hz nz => by
          rw [upd_ne (ne_of_none hz hlf)]
          exact b2 _ _ (b1 _ _ hz nz) nz
        have n3 : ∀ z, (upd H2 lf (.lst (((endsOf ts).eraseIdx k).map endV))) z = none → z ≠ p → H' z = none := fun z hz nz => b3.free nz hz
        generalize upd H2 lf (.lst (((endsOf ts).eraseIdx k).map endV)) = H3 at g3 P3 b3 n3 ⊢
        have hlen3 : ((endsOf ts).eraseIdx k).length = ts.length := by rw [List.length_eraseIdx_of_lt hk]; omega
        refine ⟨_, rfl, _, rfl, _, rfl, lf, _, rfl, .inl (SqL.of g3), ?_⟩
        rw [List.length_map, hlen3]
        refine ⟨p, c, _, _, rfl, P3, by omega, by omega, by omega, fun d2 H4 he0 he1 b4 P4 => ?_⟩
        obtain ⟨k2, rfl⟩ := Int.eq_ofNat_of_zero_le he0
        have hk2 : k2 < ((endsOf ts).eraseIdx k).length := by omega
        refine ⟨lf, _, k2, endV ((endsOf ts).eraseIdx k)[k2], rfl, rfl, SqL.of (b4 _ _ g3 nlp), atI_nat (by rw [List.getElem?_map, List.getElem?_eq_getElem hk2]; rfl), by show 2 ≤ sizeLine; decide, fun T hT => ?_⟩
        have e12 : (endsOf ts)[k] ≠ ((endsOf ts).eraseIdx k)[k2] := fun z => by
          have pm := cons_erase (endsOf ts) k hk
          have nd2 : (endsOf ts).Nodup := List.nodup_cons.mpr ⟨(fun z => by
            obtain ⟨y, _, z⟩ := List.mem_map.mp z
            cases z), List.Pairwise.map some (fun a b ne (e : some a = some b) => ne (by injection e)) N.1⟩
          exact (List.nodup_cons.mp (pm.nodup_iff.mpr nd2)).1 (z ▸ List.getElem_mem hk2)
        have m1 : (endsOf ts)[k] ∈ endsOf ts := List.getElem_mem hk
        have m2 : ((endsOf ts).eraseIdx k)[k2] ∈ endsOf ts := List.mem_of_mem_eraseIdx (List.getElem_mem hk2)
        refine ⟨T, _, rfl, SqT.of upd_same, rfl, _, _, rfl, _, _, rfl, rfl, ?_⟩
        have b5 : But p H' (upd H4 T (.tup [endV (endsOf ts)[k], endV ((endsOf ts).eraseIdx k)[k2]])) := (b3.trans b4).trans (But.new hT)
        have P5 := P4.same (same_new (o := .tup [endV (endsOf ts)[k], endV ((endsOf ts).eraseIdx k)[k2]]) hT)
        generalize (endsOf ts)[k] = e1 at e12 m1 b5 P5 ⊢
        generalize ((endsOf ts).eraseIdx k)[k2] = e2 at e12 m2 b5 P5 ⊢
        generalize upd H4 T (.tup [endV e1, endV e2]) = H5 at b5 P5 ⊢
        clear b4 P4 hT T g3 P3 b3 n3 H4 he0 he1 hk2 k2 hlen3 e3 g2 hk hd0 hd1 k P2 b2 H2 P1 g1 b1 H1 H3
        -- spans
        have bH5 := I.but.trans b5
        have hB5 := bH5 _ _ hG.1 nbp
        have hG5 : ∀ x ∈ gs, H5 x.1 = some (.dK (goalKV x.2)) := fun x hx => bH5 _ _ (hG.2 x hx) (ndp x hx)
        refine ⟨_, rfl, b, rfl, ⟨_, SqL.of hB5⟩, fun D hD => ?_⟩
        refine lc_map walk_list hD (gs.map fun x => V.int (valG x.2 e2 - valG x.2 e1)) (by simp only [List.length_map]) (by
          have : sizeLine > 1000 := by decide
          simp only [List.length_map]
          omega) (fun H6 s6 => SqL.of (s6 _ _ hB5)) ?_ ?_
        · rintro i2 x H6 H7 hi2 R L s6 ⟨rfl, hx⟩ hR
          have hi2' : i2 < gs.length := by rwa [List.length_map] at hi2
          rw [List.getElem?_map, List.getElem?_eq_getElem hi2'] at hx
          cases hx
          rw [List.getElem_map] at hR
          have mg2 := List.getElem_mem hi2'
          have hin : ∀ (e : Option Str), e ∈ endsOf ts → ∀ t, e = some t → t ∈ gs[i2].2.map (·.1) := by
            rintro e he t rfl
            rw [hgt _ mg2]
            rcases List.mem_cons.mp he with z | z
            · cases z
            · obtain ⟨y, hy, z⟩ := List.mem_map.mp z
              cases z
              exact hy
          refine ⟨rfl, ?_⟩
          refine ⟨_, rfl, _, rfl, gs[i2].1, gs[i2].2, e2, rfl, s6 _ _ (hG5 _ mg2), hin e2 m2, ?_⟩
          refine ⟨_, rfl, _, rfl, gs[i2].1, gs[i2].2, e1, rfl, s6 _ _ (hG5 _ mg2), hin e1 m1, _, _, rfl, rfl, ?_⟩
          exact hR _ (Same.refl _)
        · intro H6 s6 h6
          obtain ⟨S, hSd⟩ : ∃ S : List Int, gs.map (fun x => valG x.2 e2 - valG x.2 e1) = S := ⟨_, rfl⟩
          have h6' : H6 D = some (.lst (S.map V.int)) := by
            rw [h6, ← hSd, List.map_map]
            rfl
          have hS0 : 0 < S.length := by rw [← hSd, List.length_map]; exact hg0
          have hSm : ∀ g ∈ gs, valG g.2 e2 - valG g.2 e1 ∈ S := fun g hg => hSd ▸ List.mem_map.mpr ⟨g, hg, rfl⟩
          have P6 := P5.same s6
          have b6 : But p H' H6 := b5.trans (But.of s6)
          have nDp : D ≠ p := (P5.out hD).1
          have nfD : fo ≠ D := ne_of_none (b5 _ _ I.found nfp) hD
          clear h6 hG5 hB5
          -- gap
          refine ⟨_, rfl, _, rfl, D, S, rfl, SqL.of h6', hS0, fun mn hmn hle => ?_⟩
          refine ⟨by show 6 ≤ sizeLine; decide, fun l4 hl4 => ?_⟩
          have s7 := same_new (o := .lst ([0, 0, 0, 1, 3, 60].map V.int)) hl4
          refine ⟨_, rfl, p, c, _, 6, rfl, P6.same s7, by omega, by omega, by omega, fun d3 H8 hf0 hf1 b8 P8 => ?_⟩
          obtain ⟨cc, hcc, he⟩ := pick (xs := [0, 0, 0, 1, 3, 60]) hf0 hf1
          refine ⟨l4, _, d3, _, rfl, rfl, SqL.of (b8 _ _ upd_same (P6.out hl4).1), he, _, _, rfl, rfl, _, _, rfl, ?_⟩
          have b68 : But p H' H8 := (b6.trans (But.of s7)).trans b8
          have h8 : H8 D = some (.lst (S.map V.int)) := b8 _ _ (s7 _ _ h6') nDp
          obtain ⟨G, hG1, hG2⟩ : ∃ G : Int, (if mn - cc > -999 then mn - cc else -999) = G ∧ -999 ≤ G := ⟨_, rfl, by split <;> omega⟩
          rw [show (if mn - cc > -999 then mn - cc else -999) = G from hG1]
          clear hG1 he hcc cc hf0 hf1 d3 b8 s7 hl4 l4 b6 P6 s6 b5 P5 bH5 H5 hD hle hmn mn hlf H6 h6'
          have kt8 : KeyTups H8 rs := fun x hx => b68 _ _ (I.keys x hx) (I.pen.ne_of (I.keys x hx) fun xs z => nomatch z)
          have F8 : Fnd p c fo th D H ((endsOf ts).map endV) (S.map V.int) (n + 1 + 4 * i + 3) rs H8 :=
            ⟨b68 _ _ I.found nfp, kt8, I.but.trans b68, by rw [← ends_eq]; exact b68 _ _ I.things ntp, h8, P8⟩
          have hSv : ∀ x ∈ S, ∃ g ∈ gs, x = valG g.2 e2 - valG g.2 e1 := fun x hx => by
            rw [← hSd] at hx
            obtain ⟨g, hg, e⟩ := List.mem_map.mp hx
            exact ⟨g, hg, e.symm⟩
          have in_ : ∀ e ∈ endsOf ts, endIn ts e = true := by
            intro e he
            rcases List.mem_cons.mp he with z | z
            · rw [z]
              rfl
            · obtain ⟨y, hy, z⟩ := List.mem_map.mp z
              rw [← z]
              exact List.any_eq_true.mpr ⟨y, hy, beq_self_eq_true y⟩
          clear P8 kt8 h8 b68
          refine ⟨fun σ X => σ = [some (.ref p), some (.ref a), some (.ref b), some (.int m), some (.ref fo), some (.ref th), some (.int (0 + (i : Nat))), some (.ref lf), some (endV e1), some (endV e2), some (.ref D), some (.int G), o12] ∧
            ∃ rs', Fnd p c fo th D H ((endsOf ts).map endV) (S.map V.int) (n + 1 + 4 * i + 3) rs' X ∧ rs'.length ≤ 2 * i + 1 ∧ (∀ x ∈ rs', RuleOk ts x.1) ∧ (∀ x ∈ rs', ∀ g ∈ gs, Holds g.2 x.1), ?_, ?_⟩
          · have none_ : ∃ rs', Fnd p c fo th D H ((endsOf ts).map endV) (S.map V.int) (n + 1 + 4 * i + 3) rs' H8 ∧ rs'.length ≤ 2 * i + 1 ∧ (∀ x ∈ rs', RuleOk ts x.1) ∧ (∀ x ∈ rs', ∀ g ∈ gs, Holds g.2 x.1) :=
              ⟨rs, F8, by have := I.len; omega, I.ok, I.holds⟩
            refine ⟨_, rfl, G, 999, rfl, rfl, _, rfl, ?_⟩
            refine ite2 (fun t1 => ?_) (fun _ => ⟨rfl, none_⟩)
            refine ⟨_, rfl, _, rfl, D, S, rfl, SqL.of F8.spans, hS0, fun mn hmn hle => ⟨G, mn, rfl, rfl, _, rfl, ?_⟩⟩
            refine ite2 (fun t2 => ?_) (fun _ => ⟨rfl, none_⟩)
            have t1 := of_decide_eq_true t1
            have t2 := of_decide_eq_true t2
            refine ⟨_, rfl, .inl ⟨rfl, _, SqL.of F8.found⟩, _, rfl, _, rfl, _, rfl, by show 3 ≤ sizeLine; decide, fun T hT => ?_⟩
            have hf := same_new (o := .tup (ruleV ⟨e1, e2, G⟩)) hT _ _ F8.found
            refine ⟨fo, _, _, rfl, rfl, hf, ?_, ?_⟩
            · have := I.len
              have : sizeLine > 100000 := by decide
              rw [List.length_map]
              omega
            · refine ⟨rfl, rs ++ [(⟨e1, e2, G⟩, T)], F8.more hT hfo nfp nfc nft nfD, ?_, ?_, ?_⟩
              · rw [List.length_append, List.length_singleton]
                have := I.len
                omega
              · intro x hx
                rcases List.mem_append.mp hx with hx | hx
                · exact I.ok x hx
                · rw [List.mem_singleton.mp hx]
                  exact ⟨in_ e1 m1, in_ e2 m2, e12, hG2, t1⟩
              · intro x hx g hg
                rcases List.mem_append.mp hx with hx | hx
                · exact I.holds x hx g hg
                · rw [List.mem_singleton.mp hx]
                  have := hle _ (hSm g hg)
                  show valG g.2 e1 + G ≤ valG g.2 e2
                  omega
          · rintro σ X ⟨rfl, rs', F, hl', hok, hhold⟩
            have done : ∀ (X2 : Hp) (rs2 : List (Rule × Addr)), Fnd p c fo th D H ((endsOf ts).map endV) (S.map V.int) (n + 1 + 4 * i + 4) rs2 X2 → rs2.length ≤ 2 * i + 2 → (∀ x ∈ rs2, RuleOk ts x.1) → (∀ x ∈ rs2, ∀ g ∈ gs, Holds g.2 x.1) →
                ∃ (rs : List (Rule × Addr)) (o6 o7 o8 o9 o10 o11 o12' : Option V), [some (V.ref p), some (.ref a), some (.ref b), some (.int m), some (.ref fo), some (.ref th), some (.int (0 + (i : Nat))), some (.ref lf), some (endV e1), some (endV e2), some (.ref D), some (.int G), o12] =
                  [some (.ref p), some (.ref a), some (.ref b), some (.int m), some (.ref fo), some (.ref th), o6, o7, o8, o9, o10, o11, o12'] ∧ GapsAt p c a b n m ts gs fo th H (i + 1) rs X2 := fun X2 rs2 F2 h1 h2 h3 =>
              ⟨rs2, _, _, _, _, _, _, _, rfl, F2.found, F2.keys, h2, h3, by omega, F2.but, by rw [ends_eq]; exact F2.things, F2.pen.le (by omega)⟩
            refine ⟨_, rfl, p, c, _, 3, rfl, F.pen, by omega, by omega, by omega, fun d X2 hd0 hd1 b2 P2 => ?_⟩
            have F2 := F.but' b2 P2 nfp ntp nDp
            refine ⟨rfl, _, rfl, ?_⟩
            refine ite2 (fun _ => ?_) (fun _ => done X2 rs' F2 (by omega) hok hhold)
            refine ⟨_, rfl, _, rfl, D, S, rfl, SqL.of F2.spans, hS0, fun mx hmx hge => ⟨_, _, rfl, rfl, _, rfl, ?_⟩⟩
            refine ite2 (fun t1 => ?_) (fun _ => ⟨_, rfl, done X2 rs' F2 (by omega) hok hhold⟩)
            refine ⟨_, _, rfl, rfl, _, rfl, ?_⟩
            refine ite2 (fun t2 => ?_) (fun _ => done X2 rs' F2 (by omega) hok hhold)
            have t1 := of_decide_eq_true t1
            have t2 := of_decide_eq_true t2
            refine ⟨_, rfl, .inl ⟨rfl, _, SqL.of F2.found⟩, _, rfl, _, rfl, _, rfl, D, S, rfl, SqL.of F2.spans, hS0, fun my hmy hge2 => ⟨_, _, rfl, rfl, by show 3 ≤ sizeLine; decide, fun T hT => ?_⟩⟩
            have exy : my = mx := by
              have := hge _ hmy
              have := hge2 _ hmx
              omega
            have hf := same_new (o := .tup (ruleV ⟨e2, e1, 0 - my⟩)) hT _ _ F2.found
            refine ⟨fo, _, _, rfl, rfl, hf, ?_, ?_⟩
            · have : sizeLine > 100000 := by decide
              rw [List.length_map]
              omega
            · refine done _ (rs' ++ [(⟨e2, e1, 0 - my⟩, T)]) (F2.more hT hfo nfp nfc nft nfD) ?_ ?_ ?_
              · rw [List.length_append, List.length_singleton]
                omega
              · intro x hx
                rcases List.mem_append.mp hx with hx | hx
                · exact hok x hx
                · rw [List.mem_singleton.mp hx]
                  refine ⟨in_ e2 m2, in_ e1 m1, fun z => e12 z.symm, ?_, ?_⟩
                  · show -999 ≤ 0 - my
                    omega
                  · show 0 - my ≤ 999
                    omega
              · intro x hx g hg
                rcases List.mem_append.mp hx with hx | hx
                · exact hhold x hx g hg
                · rw [List.mem_singleton.mp hx]
                  have := hge2 _ (hSm g hg)
                  show valG g.2 e2 + (0 - my) ≤ valG g.2 e1
                  omega
      · rintro σ Hc ⟨rs, o6, o7, o8, o9, o10, o11, o12, rfl, I⟩
        exact ⟨_, rfl, q fo Hc _ rs I.but hfo I.found I.keys I.ok I.holds (by have := I.len; omega) I.pen (by omega)⟩

end
end Wnd

namespace Wnd
open PySem PySem.Spec PyProof.Rows L2
section
variable {P : Program} {w : World} {K : PySem.W.Frag} {mg : Str → Option Value} {base : Heap}
/-! ### systems made and compared in a def of the law -/
structure OkMk (P : Program) (w : World) (K : PySem.W.Frag) (mg : Str → Option Value) (base : Heap) (C : Addr) (k : Nat) (ps : List Str) (sp : Sp) : Prop where
  ex : ∃ (f : Addr) (fd : FuncData), Mk K C f ∧ Binds K fd ps [] ∧ FnOk P w K mg base CX0 k f fd ps sp
theorem pe_mk {X : Cx} {C : Addr} {k : Nat} {x : Str} {ps : List Str} {sp : Sp} {e : Expr} {es : List Expr} {p pos : Pos} {t : TA} (O : OkMk X.prog X.w X.K X.mg X.base C k ps sp) (hr : Room (k + 1) X.A) (hm : X.mg x = some (.ref C)) (ha : PA X (e :: es) t)
    (hg : Gl X x := by rfl) (hd : (x == ("__debug__" : Str)) = false := by decide) (he : starEach (e :: es) X.env = (false, eval e X.env) :: starEach es X.env := by rfl) (hpl : (backTo pos (starEach es X.env)).any (·.1) = false := by rfl) :
    PE X (.Call (.Name x p) (e :: es) [] pos) (tMake C sp [] E0 t) := by
  obtain ⟨f, fd, h1, h2, h3⟩ := O.ex
  exact pe_make h1 h3 hr hg hm h2 .nil pass0 ha hd he hpl
/-- what a def of the text that compares systems has of their class -/
structure OkEq (P : Program) (w : World) (K : PySem.W.Frag) (mg : Str → Option Value) (base : Heap) (C : Addr) (k : Nat) (sp : Sp) : Prop where
  ex : ∃ (f : Addr) (fd : FuncData) (ps : List Str), EqC K C f ∧ Binds K fd ps [] ∧ FnOk P w K mg base CX0 k f fd ps sp
theorem op_eqO {X : Cx} {C : Addr} {k : Nat} {sp : Sp} (O : OkEq X.prog X.w X.K X.mg X.base C k sp) (hr : Room k X.A) : OpR X (compareOp .Eq) (rOwnEq X.K C sp) := by
  obtain ⟨f, fd, ps, h1, h2, h3⟩ := O.ex
  exact op_ownEq h3 h2 hr h1
theorem op_neO {X : Cx} {C : Addr} {k : Nat} {sp : Sp} (O : OkEq X.prog X.w X.K X.mg X.base C k sp) (hr : Room (k + 1) X.A) : OpR X (compareOp .NotEq) (rOwnNe X.K C sp) := by
  obtain ⟨f, fd, ps, h1, h2, h3⟩ := O.ex
  exact op_ownNe h3 h2 hr h1
/-- C beside the built-in types, for isinstance and for comparing -/
structure Beside (K : PySem.W.Frag) (C : Addr) (T : String) : Prop where
  no : PySem.W.kitOne K (.type T) (.ref C) = some false
  nf : PySem.W.notFirst K C (.type T) = true
structure SysF (K : PySem.W.Frag) (mg : Str → Option Value) (C : Addr) : Prop extends SysC K mg C where
  isC : C8.InsC K C
  nf : PySem.W.notFirst K C (.ref C) = true
  bList : Beside K C "list"
  bTuple : Beside K C "tuple"
  bNone : Beside K C "NoneType"
  bStr : Beside K C "str"
  bInt : Beside K C "int"
theorem SysF.ty {C : Addr} (T : SysF K mg C) {H : Hp} {x : Addr} {ns : List Str} {L : List (Rule × Addr)} (h : SysAt C H x ns L) : TyX K H (.ref x) (.ref C) := by
  obtain ⟨dx, ln, lr, h1, _⟩ := h
  exact .base (.ins h1 T.cl T.isC.ha T.isC.hn T.isC.htk T.isC.hm)
/-- x == y, both systems -/
theorem eq_sys {C : Addr} (T : SysF K mg C) {H : Hp} {x y : Addr} {ns ns' : List Str} {L L' : List (Rule × Addr)} {Q : VK} (hx : SysAt C H x ns L) (hy : SysAt C H y ns' L') (q : Q (.bl (decide (ns = ns') && decide (L.map (·.1) = L'.map (·.1)))) H) :
    rOwnEq K C (spEq K C) (.ref x) (.ref y) H Q := by
  have hx' := hx
  obtain ⟨dx, ln, lr, h1, _⟩ := hx'
  exact ⟨x, dx, _, rfl, h1, ⟨_, T.ty hy, T.nf⟩, x, .ref y, ns, L, _, rfl, hx, .inl ⟨y, ns', L', rfl, hy, rfl⟩, _, rfl, q⟩
theorem ne_sys {C : Addr} (T : SysF K mg C) {H : Hp} {x y : Addr} {ns ns' : List Str} {L L' : List (Rule × Addr)} {Q : VK} (hx : SysAt C H x ns L) (hy : SysAt C H y ns' L') (q : Q (.bl (!(decide (ns = ns') && decide (L.map (·.1) = L'.map (·.1))))) H) :
    rOwnNe K C (spEq K C) (.ref x) (.ref y) H Q := by
  have hx' := hx
  obtain ⟨dx, ln, lr, h1, _⟩ := hx'
  exact ⟨x, dx, _, rfl, h1, ⟨_, T.ty hy, T.nf⟩, x, .ref y, ns, L, _, rfl, hx, .inl ⟨y, ns', L', rfl, hy, rfl⟩, _, rfl, q⟩
/-- x == y, y no system -/
theorem eq_no {C : Addr} {H : Hp} {x : Addr} {y : V} {t : String} {ns : List Str} {L : List (Rule × Addr)} {Q : VK} (hx : SysAt C H x ns L) (ty : TyX K H y (.type t)) (b : Beside K C t) (q : Q (.bl false) H) : rOwnEq K C (spEq K C) (.ref x) y H Q := by
  have hx' := hx
  obtain ⟨dx, ln, lr, h1, _⟩ := hx'
  exact ⟨x, dx, _, rfl, h1, ⟨_, ty, b.nf⟩, x, y, ns, L, _, rfl, hx, .inr ⟨_, ty, b.no, rfl⟩, _, rfl, q⟩
theorem ne_no {C : Addr} {H : Hp} {x : Addr} {y : V} {t : String} {ns : List Str} {L : List (Rule × Addr)} {Q : VK} (hx : SysAt C H x ns L) (ty : TyX K H y (.type t)) (b : Beside K C t) (q : Q (.bl true) H) : rOwnNe K C (spEq K C) (.ref x) y H Q := by
  have hx' := hx
  obtain ⟨dx, ln, lr, h1, _⟩ := hx'
  exact ⟨x, dx, _, rfl, h1, ⟨_, ty, b.nf⟩, x, y, ns, L, _, rfl, hx, .inr ⟨_, ty, b.no, rfl⟩, _, rfl, q⟩
/-- System(names, rules) from lists that stand -/
theorem init_sys {C : Addr} {H : Hp} {a b x dx : Addr} {ts : List Str} {rs : List (Rule × Addr)} {R : VK} (nx : H x = none) (ndx : H dx = none) (hA : H a = some (.lst (ts.map V.str))) (N : NamesOk ts) (hB : H b = some (.lst (rs.map fun p => V.ref p.2))) (hk : KeyTups H rs) (hro : ∀ p ∈ rs, RuleOk ts p.1) (hz : rs.length < 100000)
    (q : ∀ H', Same H H' → SysNew C H H' x (sortN ts) (inOrder (putAll rs [])) → R .non H') : spInit C [.ref x, .ref a, .ref b] (upd (upd H dx (.own x)) x (.ins C dx [])) R E0 := by
  have s : Same H (upd (upd H dx (.own x)) x (.ins C dx [])) := fun z o hz => by
    rw [upd_ne (ne_of_none hz nx), upd_ne (ne_of_none hz ndx)]
    exact hz
  exact ⟨x, a, b, dx, ts, rs, rfl, upd_same, s _ _ hA, N, s _ _ hB, fun p hp => s _ _ (hk p hp), hro, hz, fun H' bt hS => q H' (fun z o hz => bt _ _ (s _ _ hz) (ne_of_none hz nx)) (hS.from_ s)⟩
theorem decide_sym {α : Type} [DecidableEq α] (x y : α) : decide (x = y) = decide (y = x) := by
  rw [Bool.eq_iff_iff, decide_eq_true_iff, decide_eq_true_iff]
  exact eq_comm
theorem flip_ne (b : Bool) : ¬ (V.bl (!b) = V.bl b) := fun z => by
  injection z with z
  cases b <;> cases z
theorem names_here {us : List Str} (nd : us.Nodup) (m : ∀ t ∈ us, t ∈ nymPool) (l : us.length ≤ 5) : NamesOk (("mid" : Str) :: us) ∧ NamesOk ((("mid" : Str) :: us) ++ [("late" : Str)]) ∧ endIn (("mid" : Str) :: us) (some "mid") = true := by
  have n1 : ("mid" : Str) ∉ us := fun h => absurd (m _ h) (by decide +kernel)
  have n2 : ("late" : Str) ∉ us := fun h => absurd (m _ h) (by decide +kernel)
  have n3 : ("late" : Str) ≠ ("mid" : Str) := by decide +kernel
  have nm : nameB ("mid" : Str) = true := by decide +kernel
  have nl : nameB ("late" : Str) = true := by decide +kernel
  have nd1 : (("mid" : Str) :: us).Nodup := List.nodup_cons.mpr ⟨n1, nd⟩
  have al : ∀ t ∈ ("mid" : Str) :: us, nameB t = true := fun t ht => by
    rcases List.mem_cons.mp ht with rfl | ht
    · exact nm
    · exact pool_names t (m t ht)
  refine ⟨⟨nd1, al, by rw [List.length_cons]; omega⟩, ⟨List.nodup_append.mpr ⟨nd1, List.nodup_cons.mpr ⟨List.not_mem_nil, List.nodup_nil⟩, fun x hx y hy e => ?_⟩, fun t ht => ?_, by rw [List.length_append, List.length_cons, List.length_singleton]; omega⟩, ?_⟩
  · rw [List.mem_singleton.mp hy] at e
    rcases List.mem_cons.mp hx with h | h
    · exact n3 (e.symm.trans h)
    · exact n2 (e ▸ h)
  · rcases List.mem_append.mp ht with ht | ht
    · exact al t ht
    · rw [List.mem_singleton.mp ht]
      exact nl
  · exact List.any_eq_true.mpr ⟨"mid", List.mem_cons_self .., beq_self_eq_true _⟩
end
end Wnd

/-! lists that are drawn, cut, summed -/
namespace Wnd
open PySem PySem.Spec PyProof.Rows L2
structure Blt3 (mg : Str → Option Value) : Prop extends Blt2 mg where
  sum : mg "sum" = none
  repr : mg "repr" = none
theorem map_of_permF {α : Type} {f : α → V} (inj : ∀ a b, f a = f b → a = b) {ys rest : List V} {ts : List α} (h : (ys ++ rest).Perm (ts.map f)) (nd : ts.Nodup) : ∃ us : List α, ys = us.map f ∧ us.Nodup ∧ ∀ t ∈ us, t ∈ ts := by
  have all : ∀ y ∈ ys, ∃ t ∈ ts, f t = y := fun y hy => List.mem_map.mp (h.mem_iff.mp (List.mem_append_left _ hy))
  have ndm : (ys ++ rest).Nodup := h.nodup_iff.mpr (List.Pairwise.map f (fun a b ne e => ne (inj a b e)) nd)
  have ndy := (List.nodup_append.mp ndm).1
  clear h ndm
  induction ys with
  | nil => exact ⟨[], rfl, List.nodup_nil, fun _ h => nomatch h⟩
  | cons y r ih =>
    obtain ⟨us, rfl, h1, h2⟩ := ih (fun y hy => all y (List.mem_cons_of_mem _ hy)) (List.nodup_cons.mp ndy).2
    obtain ⟨t, ht, rfl⟩ := all y (List.mem_cons_self ..)
    refine ⟨t :: us, rfl, List.nodup_cons.mpr ⟨fun m => (List.nodup_cons.mp ndy).1 (List.mem_map.mpr ⟨t, m, rfl⟩), h1⟩, fun x hx => ?_⟩
    rcases List.mem_cons.mp hx with rfl | hx
    · exact ht
    · exact h2 x hx
theorem ends_nodup {ts : List Str} (h : ts.Nodup) : (endsOf ts).Nodup := List.nodup_cons.mpr ⟨(fun z => by
  obtain ⟨y, _, z⟩ := List.mem_map.mp z
  cases z), List.Pairwise.map some (fun a b ne (e : some a = some b) => ne (by injection e)) h⟩
theorem ends_in {ts : List Str} : ∀ e ∈ endsOf ts, endIn ts e = true := by
  intro e he
  rcases List.mem_cons.mp he with z | z
  · rw [z]
    rfl
  · obtain ⟨y, hy, z⟩ := List.mem_map.mp z
    rw [← z]
    exact List.any_eq_true.mpr ⟨y, hy, beq_self_eq_true y⟩
theorem sum_bound : ∀ {S : List Int}, (∀ x ∈ S, -4 ≤ x ∧ x ≤ 4) → -4 * (S.length : Int) ≤ S.sum ∧ S.sum ≤ 4 * (S.length : Int)
  | [], _ => ⟨by decide, by decide⟩
  | x :: S, h => by
    obtain ⟨h1, h2⟩ := sum_bound fun y hy => h y (List.mem_cons_of_mem _ hy)
    have := h x (List.mem_cons_self ..)
    rw [List.sum_cons, List.length_cons]
    omega
theorem cut_tail (xs : List V) : cutV xs (some 1) none = xs.drop 1 := by
  unfold cutV
  rw [HT.sIx_none, show HT.sIx xs.length 0 (some 1) = min 1 xs.length from HT.sIx_nat _ _ 1]
  cases xs with
  | nil => rfl
  | cons x r =>
    rw [show min 1 (x :: r).length = 1 by rw [List.length_cons]; omega]
    rw [List.take_of_length_le (by rw [List.length_drop]; omega)]
theorem cut_head (xs : List V) (k : Nat) : cutV xs none (some k) = xs.take k := by
  unfold cutV
  rw [HT.sIx_none, show HT.sIx xs.length xs.length (some (k : Int)) = min k xs.length from HT.sIx_nat _ _ k, List.drop_zero, Nat.sub_zero]
  by_cases hl : xs.length ≤ k
  · rw [Nat.min_eq_right hl, List.take_length, List.take_of_length_le hl]
  · rw [Nat.min_eq_left (by omega)]
theorem atI_last {xs : List V} (h : 0 < xs.length) : atI xs (-1) = xs[xs.length - 1]? := by
  unfold atI ixN
  rw [if_neg (by decide), if_pos (by omega)]
  show xs[((-1 : Int) + xs.length).toNat]? = _
  rw [show ((-1 : Int) + xs.length).toNat = xs.length - 1 by omega]
end Wnd

namespace Wnd
open PySem PySem.Spec PyProof.Rows L2
section
variable {P : Program} {w : World} {K : PySem.W.Frag} {mg : Str → Option Value} {base : Heap}
/-! ### properties -/
structure OkP (P : Program) (w : World) (K : PySem.W.Frag) (mg : Str → Option Value) (base : Heap) (C : Addr) (k : Nat) (m : Str) (sp : Sp) : Prop where
  ex : ∃ (p g : Addr) (fd : FuncData) (ps : List Str), Cls K C ∧ PropOf K C m p g ∧ Binds K fd ps [] ∧ FnOk P w K mg base CX0 k g fd ps sp
theorem pe_propO {X : Cx} {C : Addr} {k : Nat} {m : Str} {sp : Sp} {e : Expr} {ta : TE} {pos : Pos} (O : OkP X.prog X.w X.K X.mg X.base C k m sp) (hr : Room (k + 1) X.A) (he : PE X e ta) (hab : attributeBase e m X.env (eval e X.env) = eval e X.env := by rfl) :
    PE X (.Attribute e m pos) (tProp C sp [] E0 ta) := by
  obtain ⟨p, g, fd, ps, h1, h2, h3, h4⟩ := O.ex
  exact pe_prop he h1 h2 h4 hr h3 .nil pass0 hab
def spNames (C : Addr) : Sp := fun vs H Q _ => ∃ (x : Addr) (ns : List Str) (L : List (Rule × Addr)), vs = [.ref x] ∧ SysAt C H x ns L ∧ ∀ l, H l = none → Q (.ref l) (upd H l (.lst (ns.map V.str)))
def spRulesP (C : Addr) : Sp := fun vs H Q _ => ∃ (x : Addr) (ns : List Str) (L : List (Rule × Addr)), vs = [.ref x] ∧ SysAt C H x ns L ∧ ∀ l, H l = none → Q (.ref l) (upd H l (.lst (L.map fun p => V.ref p.2)))
theorem ok_names {C : Addr} {qn : Str} {f : Addr} {fd : FuncData} (F : Fun K "names" qn s_System_names f fd) (T : SysC K mg C) (B : Blt mg) : FnOk P w K mg base CX0 1 f fd ["self"] (spNames C) := by
  refine F.ok sc_System_names (fun vs H Q E h => ?_) (fun cdv A outer s H vs Q E hr h => ?_)
  · obtain ⟨x, ns, L, rfl, _⟩ := h
    rfl
  · obtain ⟨x, ns, L, rfl, ⟨dx, ln, lr, h1, h2, h3, h4, h5⟩, q⟩ := h
    refine ⟨_, (pss_one (ps_ret (pe_callTy call_list_of (by rfl) B.list (by decide +kernel) (pa_cons (pe_fld (pv 0) rfl) pa_nil)))), ?_⟩
    exact ⟨_, rfl, x, C, dx, _, _, rfl, h1, T.cl, T.nN, sysF_names _ _, ln, _, rfl, .inl (SqL.of h2), fun l hl => q l hl⟩
theorem ok_rulesP {C : Addr} {qn : Str} {f : Addr} {fd : FuncData} (F : Fun K "rules" qn s_System_rules f fd) (T : SysC K mg C) (B : Blt mg) : FnOk P w K mg base CX0 1 f fd ["self"] (spRulesP C) := by
  refine F.ok sc_System_rules (fun vs H Q E h => ?_) (fun cdv A outer s H vs Q E hr h => ?_)
  · obtain ⟨x, ns, L, rfl, _⟩ := h
    rfl
  · obtain ⟨x, ns, L, rfl, ⟨dx, ln, lr, h1, h2, h3, h4, h5⟩, q⟩ := h
    refine ⟨_, (pss_one (ps_ret (pe_callTy call_list_of (by rfl) B.list (by decide +kernel) (pa_cons (pe_fld (pv 0) rfl) pa_nil)))), ?_⟩
    exact ⟨_, rfl, x, C, dx, _, _, rfl, h1, T.cl, T.nR, sysF_rules _ _, lr, _, rfl, .inl (SqL.of h3), fun l hl => q l hl⟩
/-- reading a property of a system -/
theorem prop_at {C : Addr} {H : Hp} {x : Addr} {ns : List Str} {L : List (Rule × Addr)} (h : SysAt C H x ns L) : ∃ dx fs, H x = some (.ins C dx fs) := by
  obtain ⟨dx, ln, lr, h1, _⟩ := h
  exact ⟨dx, _, h1⟩
theorem dp_rule {X : Hp} (x : Rule × Addr) (hx : X x.2 = some (.tup (ruleV x.1))) : Dp K X (.ref x.2) (ruleD x.1) := .tup (SqT.of hx) (.cons (dp_end _) (.cons (dp_end _) (.cons (.int _) .nil)))
theorem shaped_rule' (r : Rule) (h : ROk r) : SeqAt.shaped (ruleD r) = true := by
  obtain ⟨h1, h2⟩ := lay_rule r h
  simp [SeqAt.shaped, h1, h2]
theorem hu65 {A : Around} {k : Nat} (hr : Room k A) : A.units + 65 < cLine := by
  have := hr.un
  omega
end
end Wnd

/-! Windowsteps: the law's def run where the row itself calls it: nothing is being shown there, so repr may be asked of lists and dicts. -/
namespace Wnd
open PySem PySem.Spec PyProof.Rows L2
section
variable {P : Program} {w : World} {K : PySem.W.Frag} {mg : Str → Option Value} {base : Heap}
/-- a def run from the row's own call -/
theorem top_run {x q : Str} {st : Stmt} {f : Addr} {fd : FuncData} {N ps : List Str} {k : Nat} {sp : Sp} (F : Fun K x q st f fd) (S : FnScope N ps (defScope st)) (bd : Binds K fd ps []) (room : Room (k + 1) callerA)
    (body : ∀ (cdv : Value) (s : Shared) (H : Hp) (vs : List V) (Q : VK) (E : XK), Room k (callerA.deeper (envOfC q (defScope st) s.heap.objs.size f cdv)) → sp vs H Q E →
      ∃ t, PSs (cxOf CX0 P w K mg base N q (defScope st) f cdv callerA [] s H E).nox (defBody st) t ∧ t { nx := fun _ H' => Q .non H', rt := Q } (L2.start N vs) H)
    {s : Shared} {H : Hp} {us : List Value} {vs : List V} {Q : VK} {E : XK} (env : Env0 P w K mg base callerA [] s H) (len : vs.length = ps.length) (rel : Vals vs us) (h : sp vs H Q E) : codeAny (model P w) callerA (.call (.ref f) ⟨us, []⟩) (CR CX0 [] P w H s Q E) s := by
  obtain ⟨oc, od, kV, doc, pm, an, cdv, ct, osl, rfl, lk, hcd⟩ := F.ex
  have kin : K.In s.heap := env.mod.kin.keeps fun b o e => (env.bs b o e).1
  refine StX.run_bnd (G := fun ws H2 => ws = vs ∧ H2 = H ∧ sp ws H2 Q E) lk hcd S room env (fun A' Ex R next => ?_) fun s2 H2 ws g hr => ?_
  · have z := bd s us kin (by rw [List.append_nil, ← rel.length]; exact len)
    rw [List.append_nil] at z
    exact z _ A' Ex R (next s H vs us env Un.refl rfl (fun _ _ z => z) rel len ⟨rfl, rfl, h⟩)
  · obtain ⟨rfl, rfl, h2⟩ := g
    obtain ⟨t, ht, hq⟩ := body cdv s2 _ _ Q E hr h2
    exact ⟨t, ht.nox, hq⟩
/-- the row's call, from what the def does there -/
theorem top_call {mb : Str → Option Value} {fa a : Addr} {s₁ : Shared} {vs : List Value} {ns : List Int} (kin : K.In s₁.heap) (glob : s₁.heap.Ns mainGlobals mg) (blt : s₁.heap.Ns builtinsNs mb) (boot : ∀ x : Str, x ≠ "__name__" → mb x = bootBuiltins x)
    (free : s₁.heap.NoLimit) (nogen : s₁.gens = #[]) (at_ : s₁.heap.get? a = some { cls := .type "list", data := .seq vs.toArray }) (are : IntsAre vs ns) (few : ns.length ≤ sizeLine)
    (run : ∀ (base : Heap) (H : Hp), K.In base → base.Ns mainGlobals mg → Env0 P w K mg base callerA [] s₁ H → SqL K H a (ns.map V.int) →
      codeAny (model P w) callerA (.call (.ref fa) ⟨[.ref a], []⟩) (CR CX0 [] P w H s₁ (fun v _ => v = .bl true) fun _ _ _ => False) s₁) :
    codeAny (model P w) callerA (.call (.ref fa) ⟨[.ref a], []⟩) (fun r s' => r = .ok (.ret (.bool true)) ∧ OldK s₁.heap s'.heap ∧ s'.os = s₁.os ∧ AllBare s'.gens) s₁ := by
  have vals := vals_ints are
  have size := are.length
  have from_ : ∀ H : Hp, L2.Only H → SqL K H a (ns.map V.int) → HOk P w H s₁.heap → (∀ b, H b ≠ none → b = a) → (H a ≠ none → K.lookup a = none) →
      codeAny (model P w) callerA (.call (.ref fa) ⟨[.ref a], []⟩) (fun r s' => r = .ok (.ret (.bool true)) ∧ OldK s₁.heap s'.heap ∧ s'.os = s₁.os ∧ AllBare s'.gens) s₁ := by
    intro H only seq hok one notK
    have still : ∀ {b : Addr} {o : Obj}, s₁.heap.get? b = some o → H b = none → (hidT s₁.heap H).get? b = some o := fun e n => hidT_get e n
    have notDict : ∀ {b : Addr} {o : Obj} {es : Array DictEntry} {ep : Nat}, s₁.heap.get? b = some o → o.data = .dict es ep → H b = none := by
      intro b o es ep e d
      cases hb : H b with
      | none => rfl
      | some u =>
        have same : b = a := one b (by rw [hb]; exact fun z => nomatch z)
        rw [same, at_] at e
        cases e
        cases (show Data.seq vs.toArray _ = Data.dict es ep from d)
    have nsOn : ∀ {b : Addr} {m : Str → Option Value}, s₁.heap.Ns b m → (hidT s₁.heap H).Ns b m := by
      rintro b m ⟨o, es, ep, e, d, r⟩
      exact ⟨o, es, ep, still e (notDict e d), d, r⟩
    have kinH : K.In (hidT s₁.heap H) := by
      intro b o e
      refine still (kin b o e) ?_
      cases hb : H b with
      | none => rfl
      | some u =>
        have same : b = a := one b (by rw [hb]; exact fun z => nomatch z)
        rw [same] at hb e
        rw [notK (by rw [hb]; exact fun z => nomatch z)] at e
        cases e
    obtain ⟨mc, l1, l2⟩ := free
    have env : Env0 P w K mg (hidT s₁.heap H) callerA [] s₁ H :=
      ⟨rfl, ⟨kinH, nsOn glob, ⟨mb, nsOn blt, boot⟩, ⟨mc, nsOn l1, l2⟩⟩, fun b o e => of_hidT e, Nat.le_of_eq (hidT_size _ _), trivial, fun b hb => (List.not_mem_nil (show b ∈ ([] : List Addr) from hb)).elim, hok, .of_eq nogen⟩
    refine codeAny_mono (run _ H kinH (nsOn glob) env seq) fun r s' res => ?_
    cases r with
    | error e => exact False.elim res
    | ok fl =>
      cases fl with
      | ret u =>
        obtain ⟨v, H', os, bare, un, hok', rel, val⟩ := res
        have val : v = .bl true := val
        subst val
        cases (show u = Value.bool true from rel)
        refine ⟨rfl, OldK.of_keep fun b o e => ?_, os, bare⟩
        cases hb : H b with
        | none => exact un.keep b o e hb (fun z => (List.not_mem_nil (show b ∈ ([] : List Addr) from z)).elim) (List.not_mem_nil)
        | some u =>
          rcases only b with z | ⟨ob, xs, z⟩
          · rw [hb] at z
            cases z
          · obtain ⟨old, _⟩ := hok b _ z
            obtain ⟨new, _⟩ := hok' b _ (un.frzs b ob _ z)
            rw [e] at old
            cases old
            exact new
      | next => exact False.elim res
      | brk => exact False.elim res
      | cont => exact False.elim res
  cases known : K.lookup a with
  | some o =>
    have e := kin a o known
    rw [at_] at e
    cases e
    refine from_ (fun _ => none) (fun _ => .inl rfl) (.inr ⟨_, vs.toArray, _, known, rfl, rfl, rfl, ?_, ?_⟩) (fun b u z => nomatch (show (none : Option HO) = some u from z)) (fun b z => (z rfl).elim) fun z => (z rfl).elim
    · rw [List.size_toArray, size]
      exact few
    · simpa using vals
  | none =>
    have at2 : (fun b => if b = a then some (HO.frz { cls := .type "list", data := .seq vs.toArray } (.lst (ns.map V.int))) else none : Hp) a = some (HO.frz { cls := .type "list", data := .seq vs.toArray } (.lst (ns.map V.int))) := if_pos rfl
    refine from_ (fun b => if b = a then some (.frz { cls := .type "list", data := .seq vs.toArray } (.lst (ns.map V.int))) else none) (fun b => ?_) (.inl (.inr ⟨_, at2⟩)) (fun b u z => ?_) (fun b z => ?_) fun _ => known
    · by_cases hb : b = a
      · exact .inr ⟨_, _, if_pos hb⟩
      · exact .inl (if_neg hb)
    · by_cases hb : b = a
      · subst hb
        cases at2.symm.trans z
        refine ⟨at_, ?_, vs, _, vals, at_⟩
        rw [List.length_map]
        exact few
      · cases (if_neg hb).symm.trans z
    · by_cases hb : b = a
      · exact hb
      · exact (z (if_neg hb)).elim
end
/-- the law's row, from what its def does at the row's call -/
theorem top_walk {l : PySem.W.OpenLaw} {n : Nat} {q : Program} {loose : List Str} {XP : (Str → Option Value) → Heap → Prop} {YP : World → Heap → Prop} {d : DefRec} {K : Params → PySem.W.Frag} (hn : l.most = some n) (few : n ≤ sizeLine) (hdf : d.params.defaults = [])
    (hY : ∀ (w : World) (h : Heap), YP w h → (K w.params).In h)
    (F : ∀ (w : World) (mg : Str → Option Value) (fa : Addr) (h : Heap), (K w.params).In h → h.Ns mainGlobals mg → mg d.name = some (.ref fa) →
      ∀ (base : Heap) (H : Hp) (s : Shared) (a : Addr) (ns : List Int), ns.length ≤ n → (K w.params).In base → base.Ns mainGlobals mg → Env0 l.prog w (K w.params) mg base callerA [] s H → SqL (K w.params) H a (ns.map V.int) →
        codeAny (model l.prog w) callerA (.call (.ref fa) ⟨[.ref a], []⟩) (CR CX0 [] l.prog w H s (fun v _ => v = .bl true) fun _ _ _ => False) s) :
    PySem.W.WalkO q loose XP YP l.row.toRowW d [] (fun f vs => PySem.call f vs) := by
  refine Att.attach_call hn hdf fun w s₀ s₁ mg mb fa o pm cd doc a vs ns G Y _ _ _ hmg at_ are len nogen => ?_
  have kin := hY w _ Y
  exact top_call kin G.T.g G.T.b G.T.builtins G.T.nolimit nogen at_ are (Nat.le_trans len few) fun base H k1 k2 env seq => F w mg fa _ kin G.T.g hmg base H s₁ a ns len k1 k2 env seq
end Wnd

/-! Windowsteps: repr(x) where nothing is being shown: plain data, and a dict of texts and ints. -/
namespace Wnd
open PySem PySem.Spec PyProof.Rows L2
def goalD (g : List (Str × Int)) : PyData := .dict (g.map fun x => (PyData.str x.1, PyData.int x.2))
/-- the value x shows as d does -/
inductive Sh (K : PySem.W.Frag) (H : Hp) : V → PyData → Prop where
  | dp {x : V} {d : PyData} (h : Dp K H x d) : Sh K H x d
  | goal {a : Addr} {g : List (Str × Int)} (h : H a = some (.dK (g.map fun x => (Sum.inr x.1, V.int x.2)))) : Sh K H (.ref a) (goalD g)
def rRepr (K : PySem.W.Frag) : List V → Hp → VK → Prop := fun xs H Q => ∃ (x : V) (d : PyData), xs = [x] ∧ Sh K H x d ∧ d.canLay0 = (match d with | .dict _ => d.canLay0 | _ => true) ∧ d.showable = true ∧ d.shown.length ≤ sizeLine ∧ d.depth ≤ 60 ∧ Q (.str d.shown) H
theorem goal_reads {P : Program} {w : World} {h : Heap} : ∀ {g : List (Str × Int)} {vs : List (Key × Value)} {es : List DictEntry}, KV (g.map fun x => ((Sum.inr x.1 : Key), V.int x.2)) vs → Pairs (mixKind P w) es vs →
    ReadsAll h (es.map (·.key)) ((g.map fun x => (PyData.str x.1, PyData.int x.2)).map (·.1)) [] ∧ ReadsAll h (es.map (·.val)) ((g.map fun x => (PyData.str x.1, PyData.int x.2)).map (·.2)) []
  | [], _, _, .nil, .nil => ⟨.nil, .nil⟩
  | x :: g, _, _, .cons r1 r2, .cons k1 k2 k3 => by
    obtain ⟨i1, i2⟩ := goal_reads (h := h) r2 k3
    obtain ⟨e1, t1, e2⟩ := r1
    rename_i kv tail ent es'
    obtain ⟨key, val⟩ := kv
    have e1 : Sum.inr x.1 = key := e1
    subst e1
    have e2 : val = Value.int x.2 t1 := e2
    subst e2
    have k1 : keyIs (Sum.inr x.1) ent.key = true := k1
    rcases keyIs_shape k1 with ⟨i, t, z, z2⟩ | ⟨y, t, z, z2⟩
    · cases z
    · injection z with z
      subst z
      refine ⟨?_, ?_⟩
      · show ReadsAll h (ent.key :: es'.map (·.key)) (PyData.str x.1 :: _) ([] ++ [])
        rw [z2]
        exact .cons (.str x.1 t) i1
      · show ReadsAll h (ent.val :: es'.map (·.val)) (PyData.int x.2 :: _) ([] ++ [])
        rw [show ent.val = Value.int x.2 t1 from k2]
        exact .cons (.int x.2 t1) i2
section
variable {X : Cx}
theorem call_reprD (free : X.A.guards = some []) (hu : X.A.units + 65 < cLine) : CallR X (.builtin "repr") (rRepr X.K) := by
  intro pins s σ H xs us Q I r h
  obtain ⟨x, d, rfl, sh, lay, sw, sz, dp, q⟩ := h
  obtain ⟨u, rfl, ru⟩ := vals1 r
  have last : ∀ (h' : Heap) (t : Tok) (tk : Nat), (∀ b o, s.heap.get? b = some o → h'.get? b = some o) → EP X pins σ Q (.str d.shown t) { s with heap := h', toks := tk } := fun h' t tk kp => ⟨.str d.shown, H, I.kept (t' := tk) kp, ⟨t, rfl⟩, q⟩
  cases sh with
  | dp hd =>
    obtain ⟨as, rd⟩ := Dp.reads I d x u hd ru
    cases hd with
    | non =>
      cases (show u = Value.none from ru)
      exact PySem.P.repr_of_none (last s.heap _ _ fun _ _ e => e)
    | bl b =>
      cases (show u = Value.bool b from ru)
      have := PySem.P.repr_of_bool (prog := X.prog) (w := X.w) (A := X.A) (E := X.xe) (s := s) (b := b) (Q := EP X pins σ Q) (by
        cases b <;> exact last s.heap _ _ fun _ _ e => e)
      exact this
    | int i =>
      obtain ⟨t, rfl⟩ := (show ∃ t, u = Value.int i t from ru)
      exact PySem.P.repr_of_int (of_decide_eq_true (by simpa [PyData.showable] using sw)) (last s.heap _ _ fun _ _ e => e)
    | str y =>
      obtain ⟨t, rfl⟩ := (show ∃ t, u = Value.str y t from ru)
      exact PySem.P.repr_of_str (last s.heap _ _ fun _ _ e => e) (hsz := sz)
    | lst hs ha =>
      cases (show u = Value.ref _ from ru)
      exact repr_of_reads' rd sw (PyData.noDict_hsm (PyData.hasDict_of_canLay _ lay)) free (by omega) (fun _ _ e => e) last sz
    | tup hs ha =>
      cases (show u = Value.ref _ from ru)
      exact repr_of_reads' rd sw (PyData.noDict_hsm (PyData.hasDict_of_canLay _ lay)) free (by omega) (fun _ _ e => e) last sz
  | @goal a g hg =>
    cases (show u = Value.ref a from ru)
    obtain ⟨_, lo, vs, kv, o, es, ep, h1, h2, h3, _, h5, _⟩ := dk_of I.hok hg
    obtain ⟨r1, r2⟩ := goal_reads (P := X.prog) (w := X.w) (h := s.heap) (es := es.toList) kv h5
    have rd : Reads s.heap (.ref a) (goalD g) (a :: [] ++ []) := .dict h1 h2.1 h3 r1 r2
    refine repr_of_reads' rd sw (fun _ hm => ?_) free (by omega) (fun _ _ e => e) last sz
    have : sysModules = a := by simpa using hm
    rw [this] at lo
    simp at lo
end
end Wnd

/-! Windowsteps: how long repr(x) is, numbers of settings. -/
namespace Wnd
open PySem PySem.Spec PyProof.Rows L2
theorem int_shown_len {i : Int} (h : i.natAbs < 10 ^ 12) : (PyData.shown (.int i)).length ≤ 13 := by
  have e := PySem.int_text_length_le10 (a := i) (k := 12) (by decide) h
  show (Str.ofString (toString i)).length ≤ 13
  rw [PySem.ofString_length]
  exact e
theorem log_small {n k : Nat} (hk : 0 < k) (h : n < 2 ^ k) : n.log2 < k := by
  by_cases z : n = 0
  · subst z
    rw [show Nat.log2 0 = 0 from by decide]
    exact hk
  · exact (Nat.log2_lt z).mpr h
/-- one text and one int -/
structure Small (x : Str × Int) : Prop where
  len : x.1.length ≤ 8
  sign : ∀ c ∈ x.1.cps.toList, c < 16 ^ 8
  ge : -99999 ≤ x.2
  le : x.2 ≤ 99999
theorem Small.abs {x : Str × Int} (h : Small x) : x.2.natAbs < 10 ^ 12 := by
  have := h.ge
  have := h.le
  omega
theorem Small.log {x : Str × Int} (h : Small x) : x.2.natAbs.log2 < 17 := by
  have := h.ge
  have := h.le
  exact log_small (by decide) (by omega)
theorem goal_kv : ∀ {g : List (Str × Int)}, (∀ x ∈ g, Small x) → PyData.leavesShortKv 13 (g.map fun x => (PyData.str x.1, PyData.int x.2)) = true ∧ PyData.showableKv (g.map fun x => (PyData.str x.1, PyData.int x.2)) = true ∧
    PyData.weightKv (g.map fun x => (PyData.str x.1, PyData.int x.2)) ≤ 27 * g.length ∧ PyData.depthKv (g.map fun x => (PyData.str x.1, PyData.int x.2)) = 0
  | [], _ => ⟨by simp [PyData.leavesShortKv], by simp [PyData.showableKv], by simp [PyData.weightKv], by simp [PyData.depthKv]⟩
  | x :: g, h => by
    obtain ⟨h1, h2, h3, h4⟩ := goal_kv fun y hy => h y (List.mem_cons_of_mem _ hy)
    have hx := h x (List.mem_cons_self ..)
    have lg := hx.log
    have ln : x.1.cps.size ≤ 8 := hx.len
    refine ⟨?_, ?_, ?_, ?_⟩
    · rw [List.map_cons, PyData.leavesShortKv, h1, PyData.leavesShort, PyData.leavesShort, Bool.and_true, Bool.and_eq_true, List.all_eq_true, decide_eq_true_iff]
      exact ⟨fun c hc => decide_eq_true (hx.sign c hc), int_shown_len hx.abs⟩
    · rw [List.map_cons, PyData.showableKv, h2, PyData.showable, PyData.showable, Bool.true_and, Bool.and_true, decide_eq_true_iff]
      omega
    · rw [List.map_cons, PyData.weightKv, PyData.weight, PyData.weight, List.length_cons]
      split <;> omega
    · rw [List.map_cons, PyData.depthKv, h4, PyData.depth, PyData.depth]
      rfl
theorem goal_show {g : List (Str × Int)} (h : ∀ x ∈ g, Small x) (hz : g.length ≤ 1000) : (goalD g).showable = true ∧ (goalD g).shown.length ≤ sizeLine ∧ (goalD g).depth ≤ 60 := by
  obtain ⟨h1, h2, h3, h4⟩ := goal_kv h
  refine ⟨?_, ?_, ?_⟩
  · rw [goalD, PyData.showable]
    exact h2
  · have e := PyData.shown_le 13 (by decide) (goalD g) (by rw [goalD, PyData.leavesShort]; exact h1)
    have ew : (goalD g).weight ≤ 27 * g.length := by
      rw [goalD, PyData.weight]
      exact h3
    have : sizeLine = 16777216 := by decide
    omega
  · rw [goalD, PyData.depth, h4]
    decide
theorem int_show {i : Int} (h : i.natAbs < 10 ^ 12) : (PyData.int i).canLay0 = true ∧ (PyData.int i).showable = true ∧ (PyData.int i).shown.length ≤ sizeLine ∧ (PyData.int i).depth ≤ 60 := by
  have z : i.natAbs.log2 < 1920 := Nat.lt_trans (log_small (k := 40) (by decide) (Nat.lt_trans h (by decide))) (by decide)
  have len := int_shown_len h
  have : sizeLine = 16777216 := by decide
  exact ⟨by simp [PyData.canLay0], by simp [PyData.showable, z], by omega, by simp [PyData.depth]⟩
/-- repr of an int -/
theorem repr_int {K : PySem.W.Frag} {H : Hp} {i : Int} {Q : VK} (h : i.natAbs < 10 ^ 12) (q : Q (.str (PyData.shown (.int i))) H) : rRepr K [.int i] H Q := by
  have z : i.natAbs.log2 < 1920 := Nat.lt_trans (log_small (k := 40) (by decide) (Nat.lt_trans h (by decide))) (by decide)
  have len := int_shown_len h
  have : sizeLine = 16777216 := by decide
  exact ⟨_, .int i, rfl, .dp (.int i), by simp [PyData.canLay0], by simp [PyData.showable, z], by omega, by simp [PyData.depth], q⟩
/-- repr of numbers -/
theorem repr_goal {K : PySem.W.Frag} {H : Hp} {a : Addr} {g : List (Str × Int)} {Q : VK} (ha : H a = some (.dK (g.map fun x => (Sum.inr x.1, V.int x.2)))) (h : ∀ x ∈ g, Small x) (hz : g.length ≤ 1000) (q : Q (.str (goalD g).shown) H) : rRepr K [.ref a] H Q := by
  obtain ⟨h1, h2, h3⟩ := goal_show h hz
  exact ⟨_, goalD g, rfl, .goal ha, rfl, h1, h2, h3, q⟩
end Wnd

/-! Windowsteps: repr of a number or None, asked anywhere; defs called by keywords alone. -/
namespace Wnd
open PySem PySem.Spec PyProof.Rows L2
def optV (o : Option Int) : V := match o with
  | none => .non
  | some i => .int i
def optD (o : Option Int) : PyData := match o with
  | none => .none
  | some i => .int i
def rReprI : List V → Hp → VK → Prop := fun xs H Q => ∃ o : Option Int, xs = [optV o] ∧ (∀ i, o = some i → i.natAbs < 10 ^ 12) ∧ Q (.str (optD o).shown) H
theorem call_reprI {X : Cx} : CallR X (.builtin "repr") rReprI := by
  intro pins s σ H xs us Q I r h
  obtain ⟨o, rfl, sm, q⟩ := h
  obtain ⟨u, rfl, ru⟩ := vals1 r
  have last : ∀ (h' : Heap) (t : Tok) (tk : Nat), (∀ b o, s.heap.get? b = some o → h'.get? b = some o) → EP X pins σ Q (.str (optD o).shown t) { s with heap := h', toks := tk } := fun h' t tk kp => ⟨.str (optD o).shown, H, I.kept (t' := tk) kp, ⟨t, rfl⟩, q⟩
  cases o with
  | none =>
    cases (show u = Value.none from ru)
    exact PySem.P.repr_of_none (last s.heap _ _ fun _ _ e => e)
  | some i =>
    obtain ⟨t, rfl⟩ := (show ∃ t, u = Value.int i t from ru)
    have sw := (int_show (sm i rfl)).2.1
    exact PySem.P.repr_of_int (of_decide_eq_true (by simpa [PyData.showable] using sw)) (last s.heap _ _ fun _ _ e => e)
/-! ### f(a = x, b = y) -/
structure OkK (P : Program) (w : World) (K : PySem.W.Frag) (mg : Str → Option Value) (base : Heap) (k : Nat) (x : Str) (ps ks : List Str) (gV : List V → List V → List V) (sp : Sp) : Prop where
  ex : ∃ (f : Addr) (fd : FuncData) (g : List Value → List Value → List Value), mg x = some (.ref f) ∧ PySem.W.keepIn K (.ref f) = true ∧ KBinds K fd ps ks g gV ∧ FnOk P w K mg base CX0 k f fd ps sp
def tCallK0 (sp : Sp) (gV : List V → List V → List V) (tk : TA) : TE := fun σ H Q => tk σ H fun zs H1 => sp (gV [] zs) H1 Q E0
theorem pe_ownK0 {X : Cx} {k : Nat} {x : Str} {ps ks : List Str} {gV : List V → List V → List V} {sp : Sp} {p pos : Pos} {kws : List Keyword} {tk : TA} (O : OkK X.prog X.w X.K X.mg X.base k x ps ks gV sp) (hr : Room k X.A) (hkw : PK X kws tk) (hg : Gl X x := by rfl)
    (hall : (backToKw pos (keywordEach kws X.env)).all (·.1.isSome) = true := by rfl) (hks : (backToKw pos (keywordEach kws X.env)).filterMap (·.1) = ks := by rfl) (hdb : (x == ("__debug__" : Str)) = false := by decide)
    (hpl : ((backTo pos (starEach [] X.env)).any (·.1) || (backToKw pos (keywordEach kws X.env)).any (·.1.isNone)) = false := by rfl) : PE X (.Call (.Name x p) [] kws pos) (tCallK0 sp gV tk) := by
  obtain ⟨f, fd, g, h1, h2, hb, F⟩ := O.ex
  refine ⟨fun pins s σ H Q I h => ?_⟩
  refine wpAny_Call_Name_kw (ld_glob I hg h1 ?_ hdb)
  refine PySem.W.callWith_KW0 (h₀ := X.base) (first := []) I.ok.mod.kin h2 hall (thn (hkw.run pos pins s σ H _ I h) ?_) hpl
  rintro ws s2 ⟨zs, H2, I2, rz, q2⟩
  refine ⟨I2.kIn, ?_⟩
  rw [hks]
  exact run_fnk (us := []) F hr hb pass0 I2 .nil rz q2
end Wnd

/-! repr of any nest of lists, tuples and dicts (keys: ints and texts), where nothing is being shown. -/
namespace Wnd
open PySem PySem.Spec PyProof.Rows L2
def keyD : Key → PyData
  | .inl i => .int i
  | .inr t => .str t
mutual
/-- the value x is the data d; its lists lie at none of the places B (where the modules are kept; what changes) -/
inductive Da (K : PySem.W.Frag) (B : List Addr) (H : Hp) : V → PyData → Prop
  | non : Da K B H .non .none
  | bl (b : Bool) : Da K B H (.bl b) (.bool b)
  | int (i : Int) : Da K B H (.int i) (.int i)
  | str (x : Str) : Da K B H (.str x) (.str x)
  | lst {a : Addr} {xs : List V} {ds : List PyData} : H a = some (.lst xs) → a ∉ B → DaAll K B H xs ds → Da K B H (.ref a) (.list ds)
  | tup {a : Addr} {xs : List V} {ds : List PyData} : SqT K H a xs → DaAll K B H xs ds → Da K B H (.ref a) (.tuple ds)
  | dic {a : Addr} {kvs : List (Key × V)} {ps : List (PyData × PyData)} : H a = some (.dK kvs) → DaKv K B H kvs ps → Da K B H (.ref a) (.dict ps)
inductive DaAll (K : PySem.W.Frag) (B : List Addr) (H : Hp) : List V → List PyData → Prop
  | nil : DaAll K B H [] []
  | cons {v : V} {vs : List V} {d : PyData} {ds : List PyData} : Da K B H v d → DaAll K B H vs ds → DaAll K B H (v :: vs) (d :: ds)
inductive DaKv (K : PySem.W.Frag) (B : List Addr) (H : Hp) : List (Key × V) → List (PyData × PyData) → Prop
  | nil : DaKv K B H [] []
  | cons {k : Key} {v : V} {kvs : List (Key × V)} {d : PyData} {ps : List (PyData × PyData)} : Da K B H v d → DaKv K B H kvs ps → DaKv K B H ((k, v) :: kvs) ((keyD k, d) :: ps)
end
section
variable {K : PySem.W.Frag} {B : List Addr} {H H' : Hp}
theorem sqT_same {a : Addr} {xs : List V} (h : SqT K H a xs) (s : Same H H') : SqT K H' a xs := by
  rcases h with (h | ⟨o, h⟩) | h
  · exact .inl (.inl (s _ _ h))
  · exact .inl (.inr ⟨o, s _ _ h⟩)
  · exact .inr h
mutual
theorem Da.same : ∀ {x : V} {d : PyData}, Da K B H x d → Same H H' → Da K B H' x d
  | _, _, .non, _ => .non
  | _, _, .bl b, _ => .bl b
  | _, _, .int i, _ => .int i
  | _, _, .str x, _ => .str x
  | _, _, .lst h n r, s => .lst (s _ _ h) n (r.same s)
  | _, _, .tup h r, s => .tup (sqT_same h s) (r.same s)
  | _, _, .dic h r, s => .dic (s _ _ h) (r.same s)
theorem DaAll.same : ∀ {xs : List V} {ds : List PyData}, DaAll K B H xs ds → Same H H' → DaAll K B H' xs ds
  | _, _, .nil, _ => .nil
  | _, _, .cons h r, s => .cons (h.same s) (r.same s)
theorem DaKv.same : ∀ {xs : List (Key × V)} {ds : List (PyData × PyData)}, DaKv K B H xs ds → Same H H' → DaKv K B H' xs ds
  | _, _, .nil, _ => .nil
  | _, _, .cons h r, s => .cons (h.same s) (r.same s)
end
mutual
/-- one list changes, at one of these places -/
theorem Da.but {p : Addr} (hp : p ∈ B) (hl : ∃ ys, H p = some (.lst ys)) (b : But p H H') : ∀ {x : V} {d : PyData}, Da K B H x d → Da K B H' x d
  | _, _, .non => .non
  | _, _, .bl b => .bl b
  | _, _, .int i => .int i
  | _, _, .str x => .str x
  | _, _, .lst h n r => .lst (b _ _ h fun z => n (z ▸ hp)) n (DaAll.but hp hl b r)
  | _, _, .tup h r => .tup (by
      obtain ⟨ys, hl⟩ := hl
      rcases h with (h | ⟨o, h⟩) | h
      · exact .inl (.inl (b _ _ h fun z => by rw [z, hl] at h; cases h))
      · exact .inl (.inr ⟨o, b _ _ h fun z => by rw [z, hl] at h; cases h⟩)
      · exact .inr h) (DaAll.but hp hl b r)
  | _, _, .dic h r => .dic (by
      obtain ⟨ys, hl⟩ := hl
      exact b _ _ h fun z => by rw [z, hl] at h; cases h) (DaKv.but hp hl b r)
theorem DaAll.but {p : Addr} (hp : p ∈ B) (hl : ∃ ys, H p = some (.lst ys)) (b : But p H H') : ∀ {xs : List V} {ds : List PyData}, DaAll K B H xs ds → DaAll K B H' xs ds
  | _, _, .nil => .nil
  | _, _, .cons h r => .cons (Da.but hp hl b h) (DaAll.but hp hl b r)
theorem DaKv.but {p : Addr} (hp : p ∈ B) (hl : ∃ ys, H p = some (.lst ys)) (b : But p H H') : ∀ {xs : List (Key × V)} {ds : List (PyData × PyData)}, DaKv K B H xs ds → DaKv K B H' xs ds
  | _, _, .nil => .nil
  | _, _, .cons h r => .cons (Da.but hp hl b h) (DaKv.but hp hl b r)
end
end
section
variable {X : Cx} {B : List Addr} {pins : List (Addr × Obj)} {σ : L2.St} {H : Hp} {s : Shared}
mutual
theorem Da.reads (hB : sysModules ∈ B) (I : Inv X pins σ H s) : ∀ (d : PyData) (v : V) (u : Value), Da X.K B H v d → RelV v u → ∃ as, Reads s.heap u d as ∧ sysModules ∉ as
  | .none, _, _, h, r => by
    cases h
    cases (show _ = Value.none from r)
    exact ⟨_, .none, List.not_mem_nil⟩
  | .bool b, _, _, h, r => by
    cases h
    cases (show _ = Value.bool b from r)
    exact ⟨_, .bool b, List.not_mem_nil⟩
  | .int i, _, _, h, r => by
    cases h
    obtain ⟨t, rfl⟩ := r
    exact ⟨_, .int i t, List.not_mem_nil⟩
  | .str x, _, _, h, r => by
    cases h
    obtain ⟨t, rfl⟩ := r
    exact ⟨_, .str x t, List.not_mem_nil⟩
  | .list ds, _, u, h, r => by
    cases h with
    | @lst a xs _ ha na hr =>
      cases (show u = Value.ref a from r)
      obtain ⟨_, its, n, rv, ho⟩ := (show ObjOk X.prog X.w H s.heap a (.lst xs) from I.hok a _ ha)
      obtain ⟨as, ra, n2⟩ := DaAll.reads hB I ds xs its hr rv
      refine ⟨a :: as, .list ho rfl rfl ra, fun hm => ?_⟩
      rcases List.mem_cons.mp hm with e | e
      · exact na (e ▸ hB)
      · exact n2 e
  | .tuple ds, _, u, h, r => by
    cases h with
    | @tup a xs _ ha hr =>
      cases (show u = Value.ref a from r)
      obtain ⟨its, rv, ⟨o, ho, hcl, n, hd⟩, _⟩ := I.tuple ha
      obtain ⟨as, ra, n2⟩ := DaAll.reads hB I ds xs its hr rv
      exact ⟨as, .tuple ho hcl hd ra, n2⟩
  | .dict ps, _, u, h, r => by
    cases h with
    | @dic a kvs _ ha hr =>
      cases (show u = Value.ref a from r)
      obtain ⟨_, lo, vs, kv, o, es, ep, h1, h2, h3, _, h5, _⟩ := dk_of I.hok ha
      obtain ⟨bs, r1, r2, n2⟩ := DaKv.reads hB I ps kvs vs es.toList hr kv h5
      refine ⟨_, .dict h1 h2.1 h3 r1 r2, fun hm => ?_⟩
      rcases List.mem_cons.mp hm with e | e
      · rw [e] at lo
        simp at lo
      · exact n2 e
theorem DaAll.reads (hB : sysModules ∈ B) (I : Inv X pins σ H s) : ∀ (ds : List PyData) (vs : List V) (us : List Value), DaAll X.K B H vs ds → Vals vs us → ∃ as, ReadsAll s.heap us ds as ∧ sysModules ∉ as
  | [], _, _, h, r => by
    cases h
    cases r
    exact ⟨_, .nil, List.not_mem_nil⟩
  | d :: ds, _, _, h, r => by
    cases h with
    | cons h1 h2 =>
      cases r with
      | cons r1 r2 =>
        obtain ⟨as, ra, na⟩ := Da.reads hB I d _ _ h1 r1
        obtain ⟨bs, rb, nb⟩ := DaAll.reads hB I ds _ _ h2 r2
        exact ⟨_, .cons ra rb, fun hm => (List.mem_append.mp hm).elim na nb⟩
theorem DaKv.reads (hB : sysModules ∈ B) (I : Inv X pins σ H s) : ∀ (ps : List (PyData × PyData)) (kvs : List (Key × V)) (vs : List (Key × Value)) (es : List DictEntry), DaKv X.K B H kvs ps → KV kvs vs → Pairs (mixKind X.prog X.w) es vs →
    ∃ bs, ReadsAll s.heap (es.map (·.key)) (ps.map (·.1)) [] ∧ ReadsAll s.heap (es.map (·.val)) (ps.map (·.2)) bs ∧ sysModules ∉ bs
  | [], _, _, _, h, r, k => by
    cases h
    cases r
    cases k
    exact ⟨[], .nil, .nil, List.not_mem_nil⟩
  | p :: ps, _, _, _, h, r, k => by
    cases h with
    | @cons key v kvs d _ h1 h2 =>
      cases r with
      | cons r1 r2 =>
        cases k with
        | cons k1 k2 k3 =>
          rename_i kv tail ent es'
          obtain ⟨kk, val⟩ := kv
          have e1 : key = kk := r1.1
          subst e1
          have rv : RelV v val := r1.2
          have k1 : keyIs key ent.key = true := k1
          have k2 : ent.val = val := k2
          obtain ⟨as, ra, na⟩ := Da.reads hB I d v val h1 rv
          obtain ⟨bs, rk, rb, nb⟩ := DaKv.reads hB I ps _ _ _ h2 r2 k3
          refine ⟨as ++ bs, ?_, ?_, fun hm => (List.mem_append.mp hm).elim na nb⟩
          · show ReadsAll s.heap (ent.key :: es'.map (·.key)) (keyD key :: _) ([] ++ [])
            rcases keyIs_shape k1 with ⟨i, t, z, z2⟩ | ⟨y, t, z, z2⟩
            · subst z
              rw [z2]
              exact .cons (.int i t) rk
            · subst z
              rw [z2]
              exact .cons (.str y t) rk
          · show ReadsAll s.heap (ent.val :: es'.map (·.val)) (d :: _) (as ++ bs)
            rw [k2]
            exact .cons ra rb
end
end
/-- repr(x), x a list, a tuple or a dict -/
def rReprA (K : PySem.W.Frag) (B : List Addr) : List V → Hp → VK → Prop := fun xs H Q => ∃ (a : Addr) (d : PyData), xs = [.ref a] ∧ Da K B H (.ref a) d ∧ d.showable = true ∧ d.shown.length ≤ sizeLine ∧ d.depth ≤ 60 ∧ Q (.str d.shown) H
theorem call_reprA {X : Cx} (B : List Addr) (hB : sysModules ∈ B) (free : X.A.guards = some []) (hu : X.A.units + 65 < cLine) : CallR X (.builtin "repr") (rReprA X.K B) := by
  intro pins s σ H xs us Q I r h
  obtain ⟨a, d, rfl, hd, sw, sz, dp, q⟩ := h
  obtain ⟨u, rfl, ru⟩ := vals1 r
  cases (show u = Value.ref a from ru)
  obtain ⟨as, rd, na⟩ := Da.reads hB I d _ _ hd ru
  exact repr_of_reads' rd sw (fun _ hm => na hm) free (by omega) (fun _ _ e => e) (fun h' t tk kp => ⟨.str d.shown, H, I.kept (t' := tk) kp, ⟨t, rfl⟩, q⟩) sz
end Wnd

/-! nests of bounded size: their repr fits. -/
namespace Wnd
open PySem PySem.Spec PyProof.Rows L2
/-- a nest no deeper than m, no heavier than w -/
structure Nice (m w : Nat) (d : PyData) : Prop where
  short : d.leavesShort 45 = true
  shows : d.showable = true
  weight : d.weight ≤ w
  depth : d.depth ≤ m
theorem Nice.le {m w m' w' : Nat} {d : PyData} (h : Nice m w d) (h1 : m ≤ m') (h2 : w ≤ w') : Nice m' w' d := ⟨h.short, h.shows, Nat.le_trans h.weight h2, Nat.le_trans h.depth h1⟩
theorem nice_all {m w : Nat} : ∀ {ds : List PyData}, (∀ d ∈ ds, Nice m w d) → PyData.leavesShortAll 45 ds = true ∧ PyData.showableAll ds = true ∧ PyData.weightAll ds ≤ ds.length * (w + 1) ∧ PyData.depthAll ds ≤ m
  | [], _ => ⟨by simp [PyData.leavesShortAll], by simp [PyData.showableAll], by simp [PyData.weightAll], by simp [PyData.depthAll]⟩
  | d :: ds, h => by
    obtain ⟨h1, h2, h3, h4⟩ := nice_all fun x hx => h x (List.mem_cons_of_mem _ hx)
    have hd := h d List.mem_cons_self
    have a := hd.weight
    have b := hd.depth
    refine ⟨by simp [PyData.leavesShortAll, hd.short, h1], by simp [PyData.showableAll, hd.shows, h2], ?_, ?_⟩
    · simp only [PyData.weightAll, List.length_cons, Nat.succ_mul]
      omega
    · simp only [PyData.depthAll]
      omega
theorem nice_list {m w : Nat} {ds : List PyData} (h : ∀ d ∈ ds, Nice m w d) : Nice (m + 1) (ds.length * (w + 1)) (.list ds) := by
  obtain ⟨h1, h2, h3, h4⟩ := nice_all h
  refine ⟨by simp [PyData.leavesShort, h1], by simp [PyData.showable, h2], by simp only [PyData.weight]; exact h3, ?_⟩
  simp only [PyData.depth]
  omega
theorem nice_tuple {m w : Nat} {ds : List PyData} (h : ∀ d ∈ ds, Nice m w d) : Nice (m + 1) (ds.length * (w + 1)) (.tuple ds) := by
  obtain ⟨h1, h2, h3, h4⟩ := nice_all h
  refine ⟨by simp [PyData.leavesShort, h1], by simp [PyData.showable, h2], by simp only [PyData.weight]; exact h3, ?_⟩
  simp only [PyData.depth]
  omega
theorem nice_kv {m w : Nat} : ∀ {ps : List (PyData × PyData)}, (∀ p ∈ ps, Nice m w p.1 ∧ Nice m w p.2) → PyData.leavesShortKv 45 ps = true ∧ PyData.showableKv ps = true ∧ PyData.weightKv ps ≤ ps.length * (2 * w + 2) ∧ PyData.depthKv ps ≤ m
  | [], _ => ⟨by simp [PyData.leavesShortKv], by simp [PyData.showableKv], by simp [PyData.weightKv], by simp [PyData.depthKv]⟩
  | (a, b) :: ps, h => by
    obtain ⟨h1, h2, h3, h4⟩ := nice_kv fun x hx => h x (List.mem_cons_of_mem _ hx)
    obtain ⟨ha, hb⟩ := h (a, b) List.mem_cons_self
    have a1 := ha.weight
    have a2 := ha.depth
    have b1 := hb.weight
    have b2 := hb.depth
    have a3 := ha.short
    have b3 := hb.short
    have a4 := ha.shows
    have b4 := hb.shows
    dsimp only at a1 a2 b1 b2 a3 b3 a4 b4
    refine ⟨by simp [PyData.leavesShortKv, a3, b3, h1], by simp [PyData.showableKv, a4, b4, h2], ?_, ?_⟩
    · rw [List.length_cons, Nat.succ_mul]
      simp only [PyData.weightKv]
      omega
    · simp only [PyData.depthKv]
      omega
theorem nice_dict {m w : Nat} {ps : List (PyData × PyData)} (h : ∀ p ∈ ps, Nice m w p.1 ∧ Nice m w p.2) : Nice (m + 1) (ps.length * (2 * w + 2)) (.dict ps) := by
  obtain ⟨h1, h2, h3, h4⟩ := nice_kv h
  refine ⟨by simp [PyData.leavesShort, h1], by simp [PyData.showable, h2], by simp only [PyData.weight]; exact h3, ?_⟩
  simp only [PyData.depth]
  omega
/-- its repr fits a line -/
theorem Nice.fits {m w : Nat} {d : PyData} (h : Nice m w d) (hm : m ≤ 60) (hw : w ≤ 300000) : d.showable = true ∧ d.shown.length ≤ sizeLine ∧ d.depth ≤ 60 := by
  refine ⟨h.shows, ?_, Nat.le_trans h.depth hm⟩
  have e := PyData.shown_le 45 (by decide) d h.short
  have a := h.weight
  have : sizeLine = 16777216 := by decide
  omega
theorem nice_none : Nice 0 0 .none := ⟨by simp [PyData.leavesShort], by simp [PyData.showable], by simp [PyData.weight], by simp [PyData.depth]⟩
theorem nice_bool (b : Bool) : Nice 0 0 (.bool b) := ⟨by simp [PyData.leavesShort], by simp [PyData.showable], by simp [PyData.weight], by simp [PyData.depth]⟩
theorem nice_str {t : Str} (h : ∀ c ∈ t.cps.toList, c < 16 ^ 8) : Nice 0 t.length (.str t) := ⟨by
  simp only [PyData.leavesShort, List.all_eq_true, decide_eq_true_eq]
  exact h, by simp [PyData.showable], by simp only [PyData.weight]; exact Nat.le_refl _, by simp [PyData.depth]⟩
theorem nice_int {i : Int} (h : i.natAbs < 10 ^ 12) : Nice 0 64 (.int i) := by
  have l := log_small (k := 40) (by decide) (Nat.lt_trans h (by decide))
  refine ⟨?_, ?_, ?_, by simp [PyData.depth]⟩
  · have := int_shown_len h
    simp only [PyData.leavesShort, decide_eq_true_eq]
    omega
  · simp only [PyData.showable, decide_eq_true_eq]
    omega
  · simp only [PyData.weight]
    split
    · omega
    · omega
section
variable {K : PySem.W.Frag} {B : List Addr} {H : Hp}
/-- whether it is an integer within bounds is known of all that a nest holds -/
theorem da_in {x : V} {d : PyData} (h : Da K B H x d) (lo hi : Int) : ∃ b, (∃ i, x = .int i ∧ b = (decide (lo ≤ i) && decide (i ≤ hi))) ∨ (((∃ k, x = .bl k) ∨ ∃ t, TyX K H x t ∧ PySem.W.kitOne K t (.type "int") = some false) ∧ b = false) := by
  cases h with
  | non => exact ⟨false, .inr ⟨.inr ⟨_, .base .non, kit_ty (by decide +kernel)⟩, rfl⟩⟩
  | bl b => exact ⟨false, .inr ⟨.inl ⟨b, rfl⟩, rfl⟩⟩
  | int i => exact ⟨_, .inl ⟨i, rfl, rfl⟩⟩
  | str x => exact ⟨false, .inr ⟨.inr ⟨_, .base (.str x), kit_ty (by decide +kernel)⟩, rfl⟩⟩
  | lst ha _ _ => exact ⟨false, .inr ⟨.inr ⟨_, .base (.lst ha), kit_ty (by decide +kernel)⟩, rfl⟩⟩
  | tup ha _ =>
    rcases ha with (ha | ⟨o, ha⟩) | ⟨o, its, n, hk, hc, _⟩
    · exact ⟨false, .inr ⟨.inr ⟨_, .base (.tup ha), kit_ty (by decide +kernel)⟩, rfl⟩⟩
    · exact ⟨false, .inr ⟨.inr ⟨_, .fTuple ha, kit_ty (by decide +kernel)⟩, rfl⟩⟩
    · exact ⟨false, .inr ⟨.inr ⟨_, .kTuple hk hc, kit_ty (by decide +kernel)⟩, rfl⟩⟩
  | dic ha _ => exact ⟨false, .inr ⟨.inr ⟨_, .base (.dK ha), kit_ty (by decide +kernel)⟩, rfl⟩⟩
end
end Wnd

/-! prices of one's own: names, each with a number or None -/
namespace Wnd
open PySem PySem.Spec PyProof.Rows L2
abbrev Own := List (Str × Option Int)
def ownKV (g : Own) : List (Key × V) := g.map fun x => (Sum.inr x.1, optV x.2)
def valO (g : Own) (t : Str) : Option (Option Int) := (g.find? fun x => decide (x.1 = t)).map (·.2)
def putO (g : Own) (t : Str) (o : Option Int) : Own := if (g.any fun x => decide (x.1 = t)) = true then g.map (fun x => if x.1 = t then (x.1, o) else x) else g ++ [(t, o)]
def sortO (g : Own) : Own := (sortN (g.map (·.1))).map fun t => (t, (valO g t).getD none)
theorem own_keys (g : Own) : (ownKV g).map (·.1) = (g.map (·.1)).map Sum.inr := by
  unfold ownKV
  rw [List.map_map, List.map_map]
  rfl
theorem val_own (t : Str) : ∀ g : Own, valV (ownKV g) (Sum.inr t : Key) = (valO g t).map optV
  | [] => rfl
  | x :: g => by
    have ih := val_own t g
    by_cases e : x.1 = t
    · rw [show ownKV (x :: g) = (Sum.inr x.1, optV x.2) :: ownKV g from rfl, valV_pos (by rw [e])]
      simp [valO, List.find?_cons, e]
    · rw [show ownKV (x :: g) = (Sum.inr x.1, optV x.2) :: ownKV g from rfl, valV_neg (fun z => e (by injection z)), ih]
      simp [valO, List.find?_cons, e]
theorem any_own (t : Str) (g : Own) : ((ownKV g).any fun kv => decide (kv.1 = (Sum.inr t : Key))) = g.any fun x => decide (x.1 = t) := by
  unfold ownKV
  rw [List.any_map]
  congr 1
  funext x
  rw [Bool.eq_iff_iff]
  simp
theorem put_own (g : Own) (t : Str) (o : Option Int) : putK (ownKV g) (Sum.inr t : Key) (optV o) = ownKV (putO g t o) := by
  unfold putK putO
  rw [any_own]
  by_cases e : (g.any fun x => decide (x.1 = t)) = true
  · rw [if_pos e, if_pos e]
    unfold ownKV
    rw [List.map_map, List.map_map]
    refine List.map_congr_left fun x _ => ?_
    by_cases ex : x.1 = t
    · simp [ex]
    · have : ¬ ((Sum.inr x.1 : Key) = Sum.inr t) := fun z => ex (by injection z)
      simp [ex]
  · rw [if_neg e, if_neg e]
    unfold ownKV
    rw [List.map_append]
    rfl
theorem any_mem {g : Own} {t : Str} : (g.any fun x => decide (x.1 = t)) = true ↔ t ∈ g.map (·.1) := by
  rw [List.any_eq_true, List.mem_map]
  exact ⟨fun ⟨x, h, e⟩ => ⟨x, h, of_decide_eq_true e⟩, fun ⟨x, h, e⟩ => ⟨x, h, decide_eq_true e⟩⟩
theorem put_keys (g : Own) (t : Str) (o : Option Int) : (putO g t o).map (·.1) = if t ∈ g.map (·.1) then g.map (·.1) else g.map (·.1) ++ [t] := by
  unfold putO
  by_cases e : t ∈ g.map (·.1)
  · rw [if_pos (any_mem.mpr e), if_pos e, List.map_map]
    refine List.map_congr_left fun x _ => ?_
    by_cases ex : x.1 = t <;> simp [ex]
  · rw [if_neg (fun z => e (any_mem.mp z)), if_neg e, List.map_append]
    rfl
theorem put_nodup {g : Own} {t : Str} {o : Option Int} (h : (g.map (·.1)).Nodup) : ((putO g t o).map (·.1)).Nodup := by
  rw [put_keys]
  by_cases e : t ∈ g.map (·.1)
  · rw [if_pos e]; exact h
  · rw [if_neg e]
    exact List.nodup_append.mpr ⟨h, by simp, fun a ha b hb z => by
      rw [List.mem_singleton.mp hb] at z
      exact e (z ▸ ha)⟩
theorem put_len {g : Own} {t : Str} {o : Option Int} : (putO g t o).length ≤ g.length + 1 := by
  have h : (putO g t o).length = ((putO g t o).map (·.1)).length := (List.length_map _).symm
  rw [h, put_keys]
  split
  · rw [List.length_map]; omega
  · rw [List.length_append, List.length_map]; exact Nat.le_refl _
theorem val_put (t : Str) (o : Option Int) (s : Str) : ∀ g : Own, valO (putO g t o) s = if s = t then some o else valO g s := by
  intro g
  unfold putO
  by_cases e : (g.any fun x => decide (x.1 = t)) = true
  · rw [if_pos e]
    induction g with
    | nil => cases e
    | cons x g ih =>
      rw [List.map_cons]
      by_cases ex : x.1 = t
      · rw [if_pos ex]
        by_cases es : s = t
        · simp [valO, List.find?_cons, ex, es]
        · rw [if_neg es]
          have h1 : ¬ x.1 = s := fun z => es (by rw [← z, ex])
          by_cases e2 : (g.any fun x => decide (x.1 = t)) = true
          · have := ih e2
            rw [if_neg es] at this
            have a1 : ∀ r : Own, valO ((x.1, o) :: r) s = valO r s := fun r => by simp [valO, List.find?_cons, h1]
            have a2 : ∀ r : Own, valO (x :: r) s = valO r s := fun r => by simp [valO, List.find?_cons, h1]
            rw [a1, a2, this]
          · have idm : g.map (fun x => if x.1 = t then (x.1, o) else x) = g := by
              conv => rhs; rw [← List.map_id g]
              refine List.map_congr_left fun y hy => ?_
              have : ¬ y.1 = t := fun z => e2 (List.any_eq_true.mpr ⟨y, hy, decide_eq_true z⟩)
              rw [if_neg this]; rfl
            rw [idm]
            simp [valO, List.find?_cons, h1]
      · rw [if_neg ex]
        have e2 : (g.any fun x => decide (x.1 = t)) = true := by
          rw [List.any_cons, decide_eq_false ex, Bool.false_or] at e
          exact e
        have := ih e2
        by_cases exs : x.1 = s
        · have es : ¬ s = t := fun z => ex (by rw [exs, z])
          rw [if_neg es]
          simp [valO, List.find?_cons, exs]
        · have a2 : ∀ r : Own, valO (x :: r) s = valO r s := fun r => by simp [valO, List.find?_cons, exs]
          rw [a2, a2, this]
  · rw [if_neg e]
    have no : ∀ x ∈ g, ¬ x.1 = t := fun x hx z => e (List.any_eq_true.mpr ⟨x, hx, decide_eq_true z⟩)
    by_cases es : s = t
    · rw [if_pos es]
      unfold valO
      rw [List.find?_append, List.find?_eq_none.mpr (fun x hx => by simpa [es] using no x hx)]
      simp [es]
    · rw [if_neg es]
      unfold valO
      rw [List.find?_append]
      have : List.find? (fun x => decide (x.1 = s)) [(t, o)] = none := by
        rw [List.find?_eq_none]
        intro x hx
        rw [List.mem_singleton.mp hx]
        simpa using fun z => es z.symm
      rw [this, Option.or_none]
theorem val_mem {g : Own} {t : Str} : (valO g t).isSome = true ↔ t ∈ g.map (·.1) := by
  unfold valO
  rw [Option.isSome_map, List.find?_isSome]
  constructor
  · rintro ⟨x, hx, e⟩
    exact List.mem_map.mpr ⟨x, hx, of_decide_eq_true e⟩
  · intro h
    obtain ⟨x, hx, e⟩ := List.mem_map.mp h
    exact ⟨x, hx, decide_eq_true e⟩
theorem val_of_map (f : Str → Option Int) (t : Str) : ∀ ks : List Str, valO (ks.map fun k => (k, f k)) t = if t ∈ ks then some (f t) else none
  | [] => rfl
  | k :: ks => by
    by_cases e : k = t
    · subst e
      simp [valO, List.find?_cons]
    · have ih := val_of_map f t ks
      have a : valO (((k :: ks).map fun k => (k, f k))) t = valO (ks.map fun k => (k, f k)) t := by
        rw [List.map_cons]
        simp [valO, List.find?_cons, e]
      rw [a, ih]
      have : (t ∈ k :: ks) ↔ t ∈ ks := by
        rw [List.mem_cons]
        exact ⟨fun h => h.elim (fun z => absurd z.symm e) id, .inr⟩
      simp only [this]
theorem sortO_keys (g : Own) : (sortO g).map (·.1) = sortN (g.map (·.1)) := by
  unfold sortO
  rw [List.map_map]
  exact List.map_id' _
theorem sortO_len (g : Own) : (sortO g).length = g.length := by
  unfold sortO
  rw [List.length_map, (sortN_perm _).length_eq, List.length_map]
theorem sortO_nodup {g : Own} (h : (g.map (·.1)).Nodup) : ((sortO g).map (·.1)).Nodup := by
  rw [sortO_keys]
  exact (sortN_perm _).nodup_iff.mpr h
theorem val_sort (g : Own) (t : Str) : valO (sortO g) t = valO g t := by
  unfold sortO
  rw [val_of_map]
  by_cases h : t ∈ sortN (g.map (·.1))
  · rw [if_pos h]
    have h2 := (val_mem (g := g)).mpr ((sortN_perm _).mem_iff.mp h)
    cases e : valO g t with
    | none => rw [e] at h2; cases h2
    | some o => rfl
  · rw [if_neg h]
    cases e : valO g t with
    | none => rfl
    | some o => exact absurd ((sortN_perm _).mem_iff.mpr ((val_mem (g := g)).mp (by rw [e]; rfl))) h
theorem sortO_ext {g g' : Own} (hk : (g.map (·.1)).Perm (g'.map (·.1))) (hv : ∀ t, valO g t = valO g' t) : sortO g = sortO g' := by
  unfold sortO
  rw [sortN_one hk]
  exact List.map_congr_left fun t _ => by rw [hv]
theorem sortO_put {g : Own} (h : (g.map (·.1)).Nodup) (t : Str) (o : Option Int) : sortO (putO (sortO g) t o) = sortO (putO g t o) := by
  refine sortO_ext ?_ fun s => by rw [val_put, val_put, val_sort]
  rw [put_keys, put_keys, sortO_keys]
  have mi : t ∈ sortN (g.map (·.1)) ↔ t ∈ g.map (·.1) := (sortN_perm _).mem_iff
  by_cases e : t ∈ g.map (·.1)
  · rw [if_pos e, if_pos (mi.mpr e)]
    exact sortN_perm _
  · rw [if_neg e, if_neg (fun z => e (mi.mp z))]
    exact (sortN_perm _).append_right _
theorem mem_put {g : Own} {t : Str} {o : Option Int} {x : Str × Option Int} (h : x ∈ putO g t o) : x ∈ g ∨ x = (t, o) := by
  unfold putO at h
  split at h
  · obtain ⟨y, hy, e⟩ := List.mem_map.mp h
    by_cases ey : y.1 = t
    · rw [if_pos ey] at e
      exact .inr (by rw [← e, ey])
    · rw [if_neg ey] at e
      exact .inl (e ▸ hy)
  · rcases List.mem_append.mp h with h | h
    · exact .inl h
    · exact .inr (List.mem_singleton.mp h)
theorem val_in {g : Own} {t : Str} {o : Option Int} (h : valO g t = some o) : (t, o) ∈ g := by
  unfold valO at h
  obtain ⟨x, hx, e⟩ := Option.map_eq_some_iff.mp h
  have h1 := List.mem_of_find?_eq_some hx
  have h2 := List.find?_some hx
  have : x = (t, o) := by rw [← e, ← of_decide_eq_true h2]
  exact this ▸ h1
theorem mem_sort {g : Own} {x : Str × Option Int} (h : x ∈ sortO g) : x ∈ g := by
  unfold sortO at h
  obtain ⟨t, ht, rfl⟩ := List.mem_map.mp h
  have := (val_mem (g := g)).mpr ((sortN_perm _).mem_iff.mp ht)
  cases e : valO g t with
  | none => rw [e] at this; cases this
  | some o => exact val_in e
theorem sort_sort {g : Own} : sortO (sortO g) = sortO g := sortO_ext (by rw [sortO_keys]; exact sortN_perm _) (val_sort g)
/-! how they show -/
def ownD (g : Own) : PyData := .dict (g.map fun x => (PyData.str x.1, optD x.2))
theorem da_own {K : PySem.W.Frag} {B : List Addr} {H : Hp} {a : Addr} {g : Own} (h : H a = some (.dK (ownKV g))) : Da K B H (.ref a) (ownD g) := by
  refine .dic h ?_
  clear h
  unfold ownKV
  induction g with
  | nil => exact .nil
  | cons x g ih =>
    refine .cons (k := Sum.inr x.1) ?_ ih
    cases x.2 with
    | none => exact .non
    | some i => exact .int i
theorem put_noneKV {g : Own} {t : Str} {o : Option Int} (h : t ∉ g.map (·.1)) : putK (ownKV g) (Sum.inr t : Key) (optV o) = ownKV (g ++ [(t, o)]) := by
  rw [put_own]
  unfold putO
  rw [if_neg (fun z => h (any_mem.mp z))]
end Wnd

/-! A dict display {**d, k: v}. The merge follows the library's wpAny_mergeDict. -/
namespace Wnd
open PySem PySem.Spec PyProof.Rows L2
section
variable {prog : Program} {w : World} {Key' : Type} [DecidableEq Key'] {knd : KeyKind prog w Key'} {A : Around} {E : Value → Shared → Prop} {s : Shared}
theorem wpAny_dictPut_pairs {d : Addr} {kvs : List (Key' × Value)} {k : Key'} {key v : Value} {Q : Unit → Shared → Prop} (hkey : knd.is k key = true) (hm : s.heap.DictOf knd d kvs)
    (hQ : ∀ h', h'.DictOf knd d (stored kvs k v) → Heap.SameBut d s.heap h' → Q () { s with heap := h' })
    (hsz : kvs.length ≤ sizeLine := by size_fits) :
    wpAny (model prog w) A (dictPut d (knd.hash k) key v) Q E s := by
  obtain ⟨o, es, ep, ho, hc, hd, hk, hp, hn⟩ := hm
  have hes : es.size ≤ sizeLine := by have e1 := hp.length; have e2 : es.toList.length = es.size := by simp
                                      omega
  unfold dictPut
  refine wpAny_bind (wpAny_dictFind_of hkey ho hd hk ?_)
  have hidx : (es.findIdx? fun e => knd.is k e.key) = kvs.findIdx? fun kv => decide (kv.1 = k) := by
    rw [← hp.findIdx k]; obtain ⟨l⟩ := es; simp
  cases hi : es.findIdx? fun e => knd.is k e.key with
  | some i =>
    refine wpAny_updateDict ho hd (hQ _ ⟨_, _, ep, Heap.get?_update_self _ ho (Obj.isFreed_of_dict (Obj.data_mapDict hd _)),
      hc.mapDict _, Obj.data_mapDict hd _, hk.modify _ _, ?_, ?_⟩ (Heap.SameBut.update ..))
    · rw [stored, if_pos (any_of_findIdx_some (hidx ▸ hi))]
      have hl : (es.toList.findIdx? fun e => knd.is k e.key) = some i := by rw [← hi]; obtain ⟨l⟩ := es; simp
      have := hp.modify hn hl v
      obtain ⟨l⟩ := es
      simpa using this
    · rw [stored, if_pos (any_of_findIdx_some (hidx ▸ hi)), keys_map_store]; exact hn
  | none =>
    have hnot : k ∉ kvs.map (·.1) := not_mem_of_findIdx_none (hidx ▸ hi)
    have hany : ¬ (kvs.any fun kv => decide (kv.1 = k)) = true := by
      rw [List.any_eq_true]; rintro ⟨kv, hkv, he⟩
      exact hnot (List.mem_map.mpr ⟨kv, hkv, of_decide_eq_true he⟩)
    refine wpAny_updateDictKeys (hz := hes) ho hd (hQ _ ⟨_, _, ep + 1, Heap.get?_update_self _ ho (Obj.isFreed_of_dict (Obj.data_mapDictKeys hd _)),
      hc.mapDictKeys _, Obj.data_mapDictKeys hd _, hk.push hkey _, ?_, ?_⟩ (Heap.SameBut.update ..))
    · rw [stored, if_neg hany]
      have := hp.append hkey (knd.hash k) v
      obtain ⟨l⟩ := es
      simpa using this
    · rw [stored, if_neg hany, List.map_append, List.nodup_append]
      refine ⟨hn, by simp, ?_⟩
      intro a ha b hb
      simp only [List.map_cons, List.map_nil, List.mem_singleton] at hb
      subst hb
      exact fun e => hnot (e ▸ ha)
theorem wpAny_mergeMapping {d o : Addr} {kvs more : List (Key' × Value)} {Q : Unit → Shared → Prop} (hdo : d ≠ o) (hoS : (o == sysModules) = false)
    (hd : s.heap.DictOf knd d kvs) (ho : s.heap.DictOf knd o more)
    (hQ : ∀ h', h'.DictOf knd d (merged kvs more) → h'.DictOf knd o more → Heap.SameBut d s.heap h' → Q () { s with heap := h' })
    (hsz : kvs.length + more.length ≤ sizeLine := by size_fits) :
    wpAny (model prog w) A (mergeMapping d (.ref o) false) Q E s := by
  obtain ⟨od, esd, epd, hod, hcd, hdd, hkd, hpd, hnd⟩ := id hd
  obtain ⟨oo, eso, epo, hoo, hco, hdo', hko, hpo, hno⟩ := id ho
  have hlen : more.length = eso.size := by rw [← hpo.length]; simp
  have loop : wpAny (model prog w) A (do
      let l ← dictEntries o
      let epoch ← dictEpoch o
      forIn (List.range l.size) PUnit.unit fun i (_ : PUnit) => (do
          let l' ← dictEntries o
          match l'[i]? with
            | some e => do
              holding [e.key, e.val] (dictPut d e.hash e.key e.val)
              let ep' ← dictEpoch o
              if (ep' != epoch) = true then do
                  (unsupported "dict.changed-during-merge" : Sem PUnit)
                  pure (ForInStep.yield PUnit.unit)
                else pure (ForInStep.yield PUnit.unit)
            | _ => do
              (unsupported "dict.changed-during-merge" : Sem PUnit)
              pure (ForInStep.yield PUnit.unit) : Sem (ForInStep PUnit))
      pure ()) Q E s := by
    refine wpAny_bind (wpAny_dictEntries hoo hdo' ?_)
    refine wpAny_bind (wpAny_dictEpoch hoo hdo' ?_)
    refine wpAny_bind ?_
    rw [List.range_eq_range']
    refine wpAny_forIn_list _
      (fun rest _ s' => ∃ h' i, s' = { s with heap := h' } ∧ rest = List.range' i (eso.size - i) ∧ i ≤ eso.size ∧ h'.DictOf knd d (merged kvs (more.take i)) ∧ h'.get? o = some oo ∧ Heap.SameBut d s.heap h')
      _ ?_ ?_ _ _ ⟨s.heap, 0, rfl, by simp, Nat.zero_le _, by simpa [merged] using hd, hoo, Heap.SameBut.refl _ _⟩
    · rintro x rest b s' ⟨h', i, rfl, hr, hi, hd', hoo', hs'⟩
      have hlt : i < eso.size := by
        rcases Nat.lt_or_ge i eso.size with h | h
        · exact h
        · rw [Nat.sub_eq_zero_of_le h] at hr; simp at hr
      obtain ⟨rfl, hrest⟩ : x = i ∧ rest = List.range' (i + 1) (eso.size - (i + 1)) := by
        have e : eso.size - i = (eso.size - (i + 1)) + 1 := by omega
        rw [e, List.range'_succ] at hr
        injection hr with h1 h2
        exact ⟨h1, h2⟩
      refine wpAny_bind (wpAny_dictEntries hoo' hdo' ?_)
      rw [Array.getElem?_eq_getElem hlt]
      obtain ⟨kv, hkv⟩ : ∃ kv, more[x]? = some kv := ⟨more[x]'(by rw [hlen]; exact hlt), List.getElem?_eq_getElem _⟩
      obtain ⟨k, v⟩ := kv
      obtain ⟨hkey, hval⟩ := hpo.get? (e := eso[x]) (by simp [hlt]) hkv
      obtain ⟨k', hkey', hhash⟩ := hko eso[x] (Array.getElem_mem hlt)
      obtain rfl : k' = k := knd.inj _ _ _ hkey' hkey
      show wpAny _ _ (holding [eso[x].key, eso[x].val] (dictPut d eso[x].hash eso[x].key eso[x].val) >>= _) _ _ _
      rw [hhash, hval]
      have hmx : (merged kvs (more.take x)).length ≤ sizeLine := by
        have e1 := merged_length_le kvs (more.take x)
        have e2 : (more.take x).length ≤ more.length := by rw [List.length_take]; omega
        omega
      refine wpAny_bind (wpAny_holding (wpAny_dictPut_pairs (hsz := hmx) hkey hd' fun h'' hd'' hs'' => ?_))
      have hoo'' : h''.get? o = some oo := (hs''.2 o (Ne.symm hdo)).trans hoo'
      refine wpAny_bind (wpAny_dictEpoch hoo'' hdo' ?_)
      rw [if_neg (by simp)]
      exact wpAny_pure ⟨h'', x + 1, rfl, hrest, hlt, by rw [merged_take_succ kvs more x (k', v) hkv]; exact hd'', hoo'', hs'.trans hs''⟩
    · rintro b s' ⟨h', i, rfl, hr, hi, hd', hoo', hs'⟩
      have hin : i = eso.size := by
        rcases Nat.lt_or_ge i eso.size with h | h
        · have e : eso.size - i = (eso.size - (i + 1)) + 1 := by omega
          rw [e, List.range'_succ] at hr; exact nomatch hr
        · exact Nat.le_antisymm hi h
      refine wpAny_pure (hQ h' ?_ ⟨oo, eso, epo, hoo', hco, hdo', hko, hpo, hno⟩ hs')
      rw [hin, ← hlen, List.take_length] at hd'; exact hd'
  unfold mergeMapping
  refine wpAny_bind (wpAny_isInstance ho.typeIs isSubtype_dict_dict ?_)
  simp only [if_true]
  refine wpAny_bind (wpAny_specialOf ho.typeIs F.slot_dict_iter.lookup ?_)
  simp only [beq_self_eq_true]
  refine wpAny_bind (wpAny_pure ?_)
  dsimp only
  rw [if_neg (by rw [hoS]; exact Bool.false_ne_true)]
  refine wpAny_bind (wpAny_dictEntries hod hdd ?_)
  by_cases hemp : esd.isEmpty = true
  · rw [if_pos hemp]
    refine wpAny_bind (wpAny_dictEntries hoo hdo' ?_)
    have hloop : (forIn eso PUnit.unit fun e (_ : PUnit) => (
        match e.key with
        | .ref a => do
          let __do_lift ← specialOf e.key "__eq__"
          if (__do_lift != some (Value.builtin "object.__eq__")) = true then
              if (Array.filter (fun x => x.hash == e.hash) eso).size > 1 then do
                let _ ← (unsupported "dict.merge-into-an-empty-dict:keys-of-equal-hash" : Sem PUnit)
                pure (ForInStep.yield PUnit.unit)
              else pure (ForInStep.yield PUnit.unit)
            else pure (ForInStep.yield PUnit.unit)
        | x => pure (ForInStep.yield PUnit.unit) : Sem (ForInStep PUnit))) = pure PUnit.unit := by
      rw [← Array.forIn_toList]
      refine forIn_yield_id _ fun e he c => ?_
      obtain ⟨k, hkey, _⟩ := hko e (Array.mem_toList_iff.mp he)
      have := knd.byValue k _ hkey
      cases hk : e.key with
      | ref a => rw [hk] at this; cases this
      | _ => rfl
    refine wpAny_bind (wpAny_of_eq hloop ?_)
    exact loop
  · rw [if_neg hemp]
    exact loop
end
theorem dictDisplay_star1 (e k v : Sem Value) : dictDisplay [(none, e), (some k, v)] = (do
   let d ← alloc { cls := .type "dict", data := .dict #[] }
   let m ← holding [.ref d] e
   (((holding [.ref d, m] (mergeMapping d m false)).onRaise fun x => do let _ ← holding [.ref d, m, x] (runValue (.builtin "proto.let_go" {}))).tryCatch fun e => do
        if ← isInstance e (.type "AttributeError") then
          rule "dict.display.not-a-mapping"; raiseError "TypeError" s!"'{← typeNameOf m}' object is not a mapping"
        throw e).onRaise fun x => do let _ ← holding [.ref d, x] (runValue (.builtin "proto.let_go" {}))
   let sub ← holding [.ref d] (subDict [(k, v)])
   (holding [.ref d, .ref sub] (mergeMapping d (.ref sub) false)).onRaise fun x => do let _ ← holding [.ref d, x] (runValue (.builtin "proto.let_go" {}))
   pure (.ref d)) := by
  unfold dictDisplay
  simp [List.forIn_cons]
/-- {**e, k: v}: the new dict at p, the one of its last pair at q -/
def tDispS (te tk tv : TE) : TE := fun σ H Q => ∀ p, H p = none → te σ (upd H p (.dK [])) fun m H1 => H1 p = some (.dK []) ∧ ∃ (a : Addr) (more : List (Key × V)), m = .ref a ∧ a ≠ p ∧ H1 a = some (.dK more) ∧ more.length + 1 ≤ sizeLine ∧
  ∀ q, H1 q = none → q ≠ p → tk σ (upd (upd H1 p (.dK more)) q (.dK [])) fun y H2 => tv σ H2 fun v H3 => ∃ (key : Key) (v' : V), [(y, v)] = [(kV key, v')] ∧ H3 q = some (.dK []) ∧ H3 p = some (.dK more) ∧ Q (.ref p) (upd (upd H3 q (.dK [(key, v')])) p (.dK (putK more key v')))
theorem pe_dispS {X : Cx} {pos : Pos} {e k v : Expr} {te tk tv : TE} (he : PE X e te) (hk : PE X k tk) (hv : PE X v tv)
    (hsh : (evalEachOpt [none, some k] X.env).zip ((evalEach [e, v] X.env).map fun t => do let x ← t; standAt pos; pure x) = [(none, do let x ← eval e X.env; standAt pos; pure x), (some (eval k X.env), do let x ← eval v X.env; standAt pos; pure x)] := by rfl) :
    PE X (.Dict [none, some k] [e, v] pos) (tDispS te tk tv) := by
  refine ⟨fun pins s σ H Q I q => ?_⟩
  rw [arm_eval_Dict, hsh, dictDisplay_star1]
  refine wpAny_bind (wpAny_standAt (wpAny_bind (wpAny_alloc ?_)))
  have hn := I.hok.fresh (Nat.le_refl s.heap.objs.size)
  have I1 := I.laid (a := s.heap.objs.size) (o := .dK []) (h' := s.heap.push { cls := .type "dict", data := .dict #[] }) (t' := s.toks) (fun _ _ q => Heap.get?_push_of_some _ q) (Nat.le_refl _) (dk_empty s.heap I.big)
  refine wpAny_bind (wpAny_holding (wpAny_bind (thn (he.run pins _ σ _ _ I1 (q _ hn)) fun u s2 ⟨m, H1, I2, rm, e1, a, more, em, ap, ea, z, q2⟩ => wpAny_bind (wpAny_standAt (wpAny_pure ?_)))))
  subst em
  obtain rfl : u = Value.ref a := rm
  generalize s.heap.objs.size = p at e1 ap q2 ⊢
  refine wpAny_bind (wpAny_onRaise (wpAny_tryCatch (wpAny_onRaise (wpAny_holding ?_))))
  obtain ⟨z0, hd, vs0, r0, dd⟩ := dk_of I2.hok e1
  cases r0
  obtain ⟨z1, ha, vs1, r1, da⟩ := dk_of I2.hok ea
  have l1 : vs1.length = more.length := r1.length.symm
  refine wpAny_mergeMapping (knd := mixKind X.prog X.w) (Ne.symm ap) ha dd da (fun h' hd' ha' hs => ?_) (by rw [List.length_nil]; omega)
  have nd1 : (vs1.map (·.1)).Nodup := by
    obtain ⟨o, es, ep, ho, hc, hdat, hk, hp, hn⟩ := id da
    exact hn
  rw [merged_nil_of_nodup _ nd1] at hd'
  have he' : ∃ q, h'.get? p = some q := let ⟨q, _, _, hq, _⟩ := hd'; ⟨q, hq⟩
  have I3 : Inv X pins σ (upd H1 p (.dK more)) { s2 with heap := h' } := d_write (t' := s2.toks) I2 (by rw [e1]; exact True.intro) hs he' (dk_new z1 hd r1 hd')
  generalize hs3 : ({ s2 with heap := h' } : Shared) = s3 at I3 ⊢
  have hd3 : s3.heap.DictOf (mixKind X.prog X.w) p vs1 := by rw [← hs3]; exact hd'
  have hn3 := I3.hok.fresh (Nat.le_refl s3.heap.objs.size)
  have qp : s3.heap.objs.size ≠ p := fun e => by
    rw [e, upd_same] at hn3
    cases hn3
  have hn1 : H1 s3.heap.objs.size = none := by
    rw [upd_ne qp] at hn3
    exact hn3
  refine wpAny_bind (wpAny_holding (wpAny_subDict (knd := mixKind X.prog X.w) (by show 1 ≤ 15; decide) ?_))
  have I4 := I3.laid (a := s3.heap.objs.size) (o := .dK []) (h' := s3.heap.push { cls := .type "dict", data := .dict #[] }) (t' := s3.toks) (fun _ _ q => Heap.get?_push_of_some _ q) (Nat.le_refl _) (dk_empty s3.heap I3.big)
  refine thn ((pps_cons hk hv pps_nil).run pins _ σ _ (fun ps H3 => ∃ (key : Key) (v : V), ps = [(kV key, v)] ∧ H3 s3.heap.objs.size = some (.dK []) ∧ H3 p = some (.dK more) ∧ Q (.ref p) (upd (upd H3 s3.heap.objs.size (.dK [(key, v)])) p (.dK (putK more key v)))) I4 ?_) ?_
  · exact q2 _ hn1 qp
  · rintro ws s5 ⟨ps, H5, I5, rel, key, v, eps, hq5, hp5, fin⟩
    subst eps
    obtain ⟨rs, c, rk⟩ := carries_of (P := X.prog) (w := X.w) (kvs := [(key, v)]) rel
    obtain ⟨zq, hdq, vq, rq, dq⟩ := dk_of I5.hok hq5
    cases rq
    refine ⟨rs, c, dq, fun h' dd' hs' => ?_⟩
    have z2 : (mergeK [] [(key, v)]).length ≤ sizeLine := by
      rw [sizeLine_eq]
      show 1 ≤ _
      decide
    have heq : ∃ q, h'.get? s3.heap.objs.size = some q := let ⟨q, _, _, hq, _⟩ := dd'; ⟨q, hq⟩
    have I6 : Inv X pins σ (upd H5 s3.heap.objs.size (.dK [(key, v)])) { s5 with heap := h', toks := s5.toks + ws.length } := d_write I5 (by rw [hq5]; exact True.intro) hs' heq (dk_new z2 hdq (rk.merge .nil) dd')
    refine wpAny_bind (wpAny_onRaise (wpAny_holding ?_))
    have hp6 : (upd H5 s3.heap.objs.size (.dK [(key, v)])) p = some (.dK more) := by
      rw [upd_ne (Ne.symm qp)]
      exact hp5
    obtain ⟨z6, hd6, vs6, r6, dd6⟩ := dk_of I6.hok hp6
    obtain ⟨z7, hd7, vs7, r7, dd7⟩ := dk_of I6.hok (upd_same (H := H5) (a := s3.heap.objs.size) (o := .dK [(key, v)]))
    have l6 : vs6.length = more.length := r6.length.symm
    have l7 : vs7.length = 1 := r7.length.symm
    refine wpAny_mergeMapping (knd := mixKind X.prog X.w) (Ne.symm qp) hd7 dd6 dd7 (fun h'' hd'' hq'' hs'' => ?_) (by omega)
    have he'' : ∃ q, h''.get? p = some q := let ⟨q, _, _, hq, _⟩ := hd''; ⟨q, hq⟩
    have zp : (putK more key v).length ≤ sizeLine := by
      have := length_putK more key v
      omega
    have I8 : Inv X pins σ (upd (upd H5 s3.heap.objs.size (.dK [(key, v)])) p (.dK (putK more key v))) _ := d_write (t' := s5.toks + ws.length) I6 (by rw [hp6]; exact True.intro) hs'' he'' (dk_new zp hd6 (show KV (mergeK more [(key, v)]) (merged vs6 vs7) from r7.merge r6) hd'')
    exact wpAny_pure ⟨.ref p, _, I8, rfl, fin⟩
end Wnd

/-! Windowsteps: dict comprehensions over anything that is walked. -/
namespace Wnd
open PySem PySem.Spec PyProof.Rows L2
variable {J : It} {n : Nat} {G : Hp → Prop} {Y : Nat → Hp → V → Hp → Prop}
theorem dc_it (w : Walk J n G Y) {g : TG} {tt : TT} {tk tv : TE} {vs : List Nat} {σ : L2.St} {H1 : Hp} {D : Addr} {Qd : Hp → Prop} (Pv : Nat → Hp → Prop) (h0 : Pv 0 (upd H1 D (.dK []))) (hG : ∀ i H, i ≤ n → Pv i H → G H)
    (hs : ∀ i x H H', i < n → Pv i H → Y i H x H' → g x (wipe σ vs) H' fun σ2 H2 => wipe σ2 vs = wipe σ vs ∧ tt σ2 H2 fun b H3 =>
      if b = true then tk σ2 H3 fun y H4 => tv σ2 H4 fun z H5 => ∃ kvs k, y = kV k ∧ H5 D = some (.dK kvs) ∧ kvs.length < sizeLine ∧ Pv (i + 1) (upd H5 D (.dK (putK kvs k z))) else Pv (i + 1) H3) (hd : ∀ H, Pv n H → Qd H) :
    ∃ W : Nat → Nat → Hp → Prop, (∃ m, W 0 m (upd H1 D (.dK []))) ∧ ∀ i m H, W i m H →
      (J.stop i H ∧ Qd H) ∨ (J.go i H ∧ ∃ Nx : Hp → Prop, (∀ H', Nx H' → ∃ m', m' < m ∧ W (i + 1) m' H') ∧ ∀ x H', J.yld i H x H' → g x (wipe σ vs) H' fun σ2 H2 => wipe σ2 vs = wipe σ vs ∧ tt σ2 H2 fun b H3 =>
        if b = true then tk σ2 H3 fun y H4 => tv σ2 H4 fun z H5 => ∃ kvs k, y = kV k ∧ H5 D = some (.dK kvs) ∧ kvs.length < sizeLine ∧ Nx (upd H5 D (.dK (putK kvs k z))) else Nx H3) := by
  refine ⟨fun i m H => m = n - i ∧ i ≤ n ∧ Pv i H, ⟨n, by simp, Nat.zero_le _, h0⟩, ?_⟩
  rintro i m H ⟨rfl, hi, p⟩
  have q := hG i H hi p
  by_cases hlt : i < n
  · refine .inr ⟨w.goes i H hlt q, Pv (i + 1), fun H' p' => ⟨n - (i + 1), by omega, rfl, hlt, p'⟩, fun x H' y => hs i x H H' hlt p (w.yields i H x H' hlt q y)⟩
  · have e : i = n := by omega
    subst e
    exact .inl ⟨w.stops H q, hd H p⟩
/-! in a block: the class's frame said -/
def rDictPK (K : PySem.W.Frag) : List V → Hp → VK → Prop := fun xs H Q => ∃ (a : Addr) (ps : List Addr) (kvs : List (Key × V)), xs = [.ref a] ∧ SqL K H a (ps.map V.ref) ∧ Paired (fun p kv => SqT K H p [kV kv.1, kv.2]) ps kvs ∧ ∀ p, H p = none → Q (.ref p) (upd H p (.dK (mergeK [] kvs)))
theorem call_dictPK {X : Cx} (K : PySem.W.Frag) (hcalm : X.calm = true) (h : X.K = K := by rfl) : CallR X (.type "dict") (rDictPK K) := by
  subst h
  exact call_dictP hcalm
theorem pe_revLK {X : Cx} {e : Expr} {te : TE} {k : Nat} {p1 p2 p3 pos : Pos} (K : PySem.W.Frag) (he : PE X e te) (h : X.K = K := by rfl) : PE X (.Subscript e (.Slice none none (some (.UnaryOp .USub (.Constant (.int 1) k p1) p2)) p3) pos) (tRevL K te) := by
  subst h
  exact pe_revL he
end Wnd

/-! the class Prices -/
namespace Wnd
open PySem PySem.Spec PyProof.Rows L2
abbrev s_Prices___init : Stmt := inClass (top 37) 0
theorem sc_Prices___init : FnScope ["self", "raising", "lowering"] ["self", "raising", "lowering"] (defScope s_Prices___init) := ⟨rfl, rfl, rfl, by decide +kernel, rfl, by decide +kernel, by decide +kernel⟩
abbrev s_Prices_raising : Stmt := inClass (top 37) 1
theorem sc_Prices_raising : FnScope ["self"] ["self"] (defScope s_Prices_raising) := ⟨rfl, rfl, rfl, by decide +kernel, rfl, by decide +kernel, by decide +kernel⟩
abbrev s_Prices_lowering : Stmt := inClass (top 37) 2
theorem sc_Prices_lowering : FnScope ["self"] ["self"] (defScope s_Prices_lowering) := ⟨rfl, rfl, rfl, by decide +kernel, rfl, by decide +kernel, by decide +kernel⟩
abbrev s_Prices_single : Stmt := inClass (top 37) 3
theorem sc_Prices_single : FnScope ["self"] ["self"] (defScope s_Prices_single) := ⟨rfl, rfl, rfl, by decide +kernel, rfl, by decide +kernel, by decide +kernel⟩
abbrev s_Prices_with_price : Stmt := inClass (top 37) 4
theorem sc_Prices_with_price : FnScope ["self", "name", "price", "single", "prices", "other"] ["self", "name", "price"] (defScope s_Prices_with_price) := ⟨rfl, rfl, rfl, by decide +kernel, rfl, by decide +kernel, by decide +kernel⟩
abbrev s_is_price : Stmt := top 39
theorem sc_is_price : FnScope ["thing"] ["thing"] (defScope s_is_price) := ⟨rfl, rfl, rfl, by decide +kernel, rfl, by decide +kernel, by decide +kernel⟩
/-! keyword-only parameters, bound -/
section
variable {K : PySem.W.Frag} {f : Addr} {fd : FuncData}
abbrev kwPr : List (Str × V) := [("raising", .int 1), ("lowering", .int 1)]
abbrev PrInit (K : PySem.W.Frag) (f : Addr) (fd : FuncData) : Prop := FunD K "__init__" "Prices.__init__" (defArgs s_Prices___init) (defBody s_Prices___init) (defScope s_Prices___init) [] kwPr f fd
theorem pr_k0 (F : PrInit K f fd) : ∃ mv : List Value, KBn K fd ["self", "raising", "lowering"] 1 [] (fun us ws => us ++ mv) (fun vs zs => vs ++ [.int 1, .int 1]) :=
  F.kbinds0 (ps := ["self", "raising", "lowering"]) 1 [] kwPr (fun us mv ws => us ++ mv) (fun z => nomatch z) (fun q h => h) (fun r1 r2 r3 => r1.append r2) fun D doc pm an cdv ct us mv ws l1 l2 l3 =>
    match us, mv, ws, l1, l2, l3 with
    | [a], [b, c], [], _, _, _ => ⟨_, _, _, _, _, _, rfl, rfl, _, _, _, _, _, _, rfl, rfl, rfl⟩
theorem pr_kR (F : PrInit K f fd) : ∃ mv : List Value, KBn K fd ["self", "raising", "lowering"] 1 ["raising"] (fun us ws => us ++ (ws ++ mv)) (fun vs zs => vs ++ (zs ++ [.int 1])) :=
  F.kbinds0 (ps := ["self", "raising", "lowering"]) 1 ["raising"] [("lowering", .int 1)] (fun us mv ws => us ++ (ws ++ mv)) (fun z => nomatch z) (fun q h => .tail _ h) (fun r1 r2 r3 => r1.append (r3.append r2)) fun D doc pm an cdv ct us mv ws l1 l2 l3 =>
    match us, mv, ws, l1, l2, l3 with
    | [a], [b], [c], _, _, _ => ⟨_, _, _, _, _, _, rfl, rfl, rfl⟩
theorem pr_kL (F : PrInit K f fd) : ∃ mv : List Value, KBn K fd ["self", "raising", "lowering"] 1 ["lowering"] (fun us ws => us ++ (mv ++ ws)) (fun vs zs => vs ++ ([.int 1] ++ zs)) :=
  F.kbinds0 (ps := ["self", "raising", "lowering"]) 1 ["lowering"] [("raising", .int 1)] (fun us mv ws => us ++ (mv ++ ws)) (fun z => nomatch z) (fun q h => by rw [List.mem_singleton.mp h]; exact List.mem_cons_self) (fun r1 r2 r3 => r1.append (r2.append r3)) fun D doc pm an cdv ct us mv ws l1 l2 l3 =>
    match us, mv, ws, l1, l2, l3 with
    | [a], [b], [c], _, _, _ => ⟨_, _, _, _, _, _, rfl, rfl, rfl⟩
theorem pr_kRL (F : PrInit K f fd) : ∃ mv : List Value, KBn K fd ["self", "raising", "lowering"] 1 ["raising", "lowering"] (fun us ws => us ++ ws) (fun vs zs => vs ++ zs) :=
  F.kbinds0 (ps := ["self", "raising", "lowering"]) 1 ["raising", "lowering"] [] (fun us mv ws => us ++ ws) (fun z => nomatch z) (fun q h => nomatch h) (fun r1 r2 r3 => r1.append r3) fun D doc pm an cdv ct us mv ws l1 l2 l3 =>
    match us, mv, ws, l1, l2, l3 with
    | [a], [], [b, c], _, _, _ => rfl
theorem pr_kLR (F : PrInit K f fd) : ∃ mv : List Value, KBn K fd ["self", "raising", "lowering"] 1 ["lowering", "raising"] (fun us ws => us ++ (ws.drop 1 ++ ws.take 1)) (fun vs zs => vs ++ (zs.drop 1 ++ zs.take 1)) :=
  F.kbinds0 (ps := ["self", "raising", "lowering"]) 1 ["lowering", "raising"] [] (fun us mv ws => us ++ (ws.drop 1 ++ ws.take 1)) (fun z => nomatch z) (fun q h => nomatch h) (fun r1 r2 r3 => r1.append ((r3.drop 1).append (r3.take 1))) fun D doc pm an cdv ct us mv ws l1 l2 l3 =>
    match us, mv, ws, l1, l2, l3 with
    | [a], [], [b, c], _, _, _ => rfl
end
section
variable {P : Program} {w : World} {K : PySem.W.Frag} {mg : Str → Option Value} {base : Heap}
def prF (r l : Int) (ls : Addr) : List (Str × V) := putF "_single" (.ref ls) (putF "_lowering" (.int l) (putF "_raising" (.int r) []))
theorem prF_single (r l : Int) (ls : Addr) : (prF r l ls).lookup ("_single" : Str) = some (.ref ls) := by
  unfold prF
  rw [lookup_putF, if_pos rfl]
theorem prF_low (r l : Int) (ls : Addr) : (prF r l ls).lookup ("_lowering" : Str) = some (.int l) := by
  unfold prF
  rw [lookup_putF, if_neg (by decide +kernel), lookup_putF, if_pos rfl]
theorem prF_rais (r l : Int) (ls : Addr) : (prF r l ls).lookup ("_raising" : Str) = some (.int r) := by
  unfold prF
  rw [lookup_putF, if_neg (by decide +kernel), lookup_putF, if_neg (by decide +kernel), lookup_putF, if_pos rfl]
theorem prF_put (r l : Int) (ls ls' : Addr) : putF ("_single" : Str) (.ref ls') (prF r l ls) = prF r l ls' := rfl
theorem prF_no {r l : Int} {ls : Addr} {m : Str} (h1 : ¬ m = "_single") (h2 : ¬ m = "_lowering") (h3 : ¬ m = "_raising") : (prF r l ls).lookup m = none := by
  unfold prF
  rw [lookup_putF, if_neg h1, lookup_putF, if_neg h2, lookup_putF, if_neg h3]
  rfl
def Pr9 (i : Int) : Prop := 1 ≤ i ∧ i ≤ 999
/-- own prices that may stand in an object Prices -/
structure OwnOk (g : Own) : Prop where
  nodup : (g.map (·.1)).Nodup
  names : ∀ x ∈ g, nameB x.1 = true
  vals : ∀ x ∈ g, ∀ i, x.2 = some i → Pr9 i
theorem ownOk_nil : OwnOk [] := ⟨List.nodup_nil, (fun _ h => nomatch h), fun _ h => nomatch h⟩
theorem OwnOk.put {g : Own} (h : OwnOk g) {t : Str} {o : Option Int} (ht : nameB t = true) (ho : ∀ i, o = some i → Pr9 i) : OwnOk (putO g t o) := by
  refine ⟨put_nodup h.nodup, fun x hx => ?_, fun x hx i e => ?_⟩
  · rcases mem_put hx with hx | rfl
    · exact h.names x hx
    · exact ht
  · rcases mem_put hx with hx | rfl
    · exact h.vals x hx i e
    · exact ho i e
theorem OwnOk.sort {g : Own} (h : OwnOk g) : OwnOk (sortO g) := ⟨sortO_nodup h.nodup, fun x hx => h.names x (mem_sort hx), fun x hx => h.vals x (mem_sort hx)⟩
/-- prices r, l, g stand at x -/
structure PrV (r l : Int) (g : Own) : Prop where
  r : Pr9 r
  l : Pr9 l
  own : OwnOk g
  len : g.length ≤ 60
def PrcAt (C : Addr) (H : Hp) (x : Addr) (r l : Int) (g : Own) : Prop := ∃ dx ls, H x = some (.ins C dx (prF r l ls)) ∧ H ls = some (.dK (ownKV g)) ∧ PrV r l g
/-- .. and they were laid after H -/
def PrNew (C : Addr) (H H' : Hp) (x : Addr) (r l : Int) (g : Own) : Prop := ∃ dx ls, H' x = some (.ins C dx (prF r l ls)) ∧ H' ls = some (.dK (ownKV g)) ∧ PrV r l g ∧ H x = none ∧ H ls = none
theorem PrNew.at_ {C : Addr} {H H' : Hp} {x : Addr} {r l : Int} {g : Own} (h : PrNew C H H' x r l g) : PrcAt C H' x r l g := by
  obtain ⟨dx, ls, h1, h2, h3, _⟩ := h
  exact ⟨dx, ls, h1, h2, h3⟩
theorem PrcAt.same {C : Addr} {H H' : Hp} {x : Addr} {r l : Int} {g : Own} (h : PrcAt C H x r l g) (s : Same H H') : PrcAt C H' x r l g := by
  obtain ⟨dx, ls, h1, h2, h3⟩ := h
  exact ⟨dx, ls, s _ _ h1, s _ _ h2, h3⟩
theorem PrNew.from_ {C : Addr} {H0 H H' : Hp} {x : Addr} {r l : Int} {g : Own} (h : PrNew C H H' x r l g) (s : Same H0 H) : PrNew C H0 H' x r l g := by
  obtain ⟨dx, ls, h1, h2, h3, h4, h5⟩ := h
  exact ⟨dx, ls, h1, h2, h3, s.free h4, s.free h5⟩
theorem PrNew.same {C : Addr} {H H' H2 : Hp} {x : Addr} {r l : Int} {g : Own} (h : PrNew C H H' x r l g) (s : Same H' H2) : PrNew C H H2 x r l g := by
  obtain ⟨dx, ls, h1, h2, h3, h4, h5⟩ := h
  exact ⟨dx, ls, s _ _ h1, s _ _ h2, h3, h4, h5⟩
theorem PrcAt.v {C : Addr} {H : Hp} {x : Addr} {r l : Int} {g : Own} (h : PrcAt C H x r l g) : PrV r l g := by
  obtain ⟨dx, ls, h1, h2, h3⟩ := h
  exact h3
theorem PrcAt.ins {C : Addr} {H : Hp} {x : Addr} {r l : Int} {g : Own} (h : PrcAt C H x r l g) : ∃ dx fs, H x = some (.ins C dx fs) := by
  obtain ⟨dx, ls, h1, h2, h3⟩ := h
  exact ⟨dx, _, h1⟩
structure PrC (K : PySem.W.Frag) (mg : Str → Option Value) (C : Addr) : Prop where
  cl : Cls K C
  nR : NoAttr K C "_raising"
  nL : NoAttr K C "_lowering"
  nS : NoAttr K C "_single"
  mgC : mg "Prices" = some (.ref C)
def spIsPrice (K : PySem.W.Frag) : Sp := fun vs H Q _ => ∃ (x : V) (b : Bool), vs = [x] ∧ InQ K H x 1 999 b ∧ Q (.bl b) H
theorem ok_is_price {f : Addr} {fd : FuncData} (D : DefAt K mg "_is_price" s_is_price ["thing"] f fd) (C_GREATEST_PRICE : ∃ t, mg "GREATEST_PRICE" = some (.int 999 t)) (O_is_integer_within : Ok P w K mg base 2 "is_integer_within" ["thing", "least", "greatest"] (spIsIn K)) : Ok P w K mg base 3 "_is_price" ["thing"] (spIsPrice K) := by
  obtain ⟨gt, C_GREATEST_PRICE⟩ := C_GREATEST_PRICE
  refine D.ok (D.fn.ok sc_is_price (fun vs H Q E h => ?_) (fun cdv A outer s H vs Q E hr h => ?_))
  · obtain ⟨i, b, rfl, _⟩ := h
    rfl
  · obtain ⟨x, b, rfl, hx, q⟩ := h
    refine ⟨_, (pss_one (ps_ret (pe_own O_is_integer_within (hr.mono (by decide)) (pa_cons (pv 0) (pa_cons pe_int (pa_cons (pe_glob (v := .int 999) rfl C_GREATEST_PRICE ⟨_, rfl⟩) pa_nil)))))), ?_⟩
    exact ⟨_, rfl, x, 1, 999, _, rfl, hx, q⟩
theorem inq_price {H : Hp} {i : Int} (h : Pr9 i) : InQ K H (.int i) 1 999 true := .inl ⟨i, rfl, by rw [decide_eq_true h.1, decide_eq_true h.2]; rfl⟩
def spPrInit (C : Addr) : Sp := fun vs H Q _ => ∃ (x dx : Addr) (r l : Int), vs = [.ref x, .int r, .int l] ∧ H x = some (.ins C dx []) ∧ Pr9 r ∧ Pr9 l ∧ ∀ ls H', But x H H' → H ls = none → H' x = some (.ins C dx (prF r l ls)) → H' ls = some (.dK []) → Q .non H'
theorem ok_prInit {C f : Addr} {fd : FuncData} (F : PrInit K f fd) (T : PrC K mg C) (O_is_price : Ok P w K mg base 3 "_is_price" ["thing"] (spIsPrice K)) : FnOk P w K mg base CX0 4 f fd ["self", "raising", "lowering"] (spPrInit C) := by
  refine F.ok sc_Prices___init (fun vs H Q E h => ?_) (fun cdv A outer s H vs Q E hr h => ?_)
  · obtain ⟨x, dx, r, l, rfl, _⟩ := h
    rfl
  · obtain ⟨x, dx, r, l, rfl, hx, hr9, hl9, q⟩ := h
    have nd := sc_Prices___init.nd
    refine ⟨_, (pss_cons (ps_if (PW.pt (pw_or (pt_not (pt_val (pe_own O_is_price (hr.mono (by decide)) (pa_cons (pv 1) pa_nil)))) (pw_or1 (pt_not (pt_val (pe_own O_is_price (hr.mono (by decide)) (pa_cons (pv 2) pa_nil))))))) (pss_one ps_never) pss_nil)
      (pss_cons (ps_fld (pv 0) (pv 1) rfl)
      (pss_cons (ps_fld (pv 0) (pv 2) rfl)
      (pss_one (ps_fld (pv 0) pe_dnewK rfl))))), ?_⟩
    refine ⟨_, rfl, _, true, rfl, inq_price hr9, _, rfl, ?_⟩
    refine iteF ⟨_, rfl, _, true, rfl, inq_price hl9, _, rfl, ?_⟩
    refine ⟨_, rfl, _, rfl, x, C, dx, [], rfl, hx, T.cl, T.nR, by show 0 < 1000; decide, ?_⟩
    have hx1 : (upd H x (.ins C dx (putF (Str.ofString "_raising") (.int r) []))) x = some (.ins C dx (putF (Str.ofString "_raising") (.int r) [])) := upd_same
    have b1 : But x H (upd H x (.ins C dx (putF (Str.ofString "_raising") (.int r) []))) := But.upd
    generalize upd H x (.ins C dx (putF (Str.ofString "_raising") (.int r) [])) = H1 at hx1 b1 ⊢
    refine ⟨_, rfl, _, rfl, x, C, dx, _, rfl, hx1, T.cl, T.nL, by show 1 < 1000; decide, ?_⟩
    have b2 : But x H (upd H1 x (.ins C dx (putF (Str.ofString "_lowering") (.int l) (putF (Str.ofString "_raising") (.int r) [])))) := b1.trans But.upd
    have hx2 : (upd H1 x (.ins C dx (putF (Str.ofString "_lowering") (.int l) (putF (Str.ofString "_raising") (.int r) [])))) x = some (.ins C dx (putF (Str.ofString "_lowering") (.int l) (putF (Str.ofString "_raising") (.int r) []))) := upd_same
    generalize upd H1 x (.ins C dx (putF (Str.ofString "_lowering") (.int l) (putF (Str.ofString "_raising") (.int r) []))) = H2 at hx2 b2 ⊢
    refine fun ls nls => ?_
    have lx : ls ≠ x := (ne_of_none hx2 nls).symm
    refine ⟨_, rfl, x, C, dx, _, rfl, same_new nls _ _ hx2, T.cl, T.nS, by show 2 < 1000; decide, ?_⟩
    refine q ls _ ((b2.trans (But.new nls)).trans But.upd) (b2.free lx nls) upd_same ?_
    rw [upd_ne lx, upd_same]
def spPrR (C : Addr) : Sp := fun vs H Q _ => ∃ (x : Addr) (r l : Int) (g : Own), vs = [.ref x] ∧ PrcAt C H x r l g ∧ Q (.int r) H
def spPrL (C : Addr) : Sp := fun vs H Q _ => ∃ (x : Addr) (r l : Int) (g : Own), vs = [.ref x] ∧ PrcAt C H x r l g ∧ Q (.int l) H
def spPrS (C : Addr) : Sp := fun vs H Q _ => ∃ (x : Addr) (r l : Int) (g : Own), vs = [.ref x] ∧ PrcAt C H x r l g ∧ ∀ d, H d = none → Q (.ref d) (upd H d (.dK (ownKV g)))
theorem ok_prR {C : Addr} {qn : Str} {f : Addr} {fd : FuncData} (F : Fun K "raising" qn s_Prices_raising f fd) (T : PrC K mg C) : FnOk P w K mg base CX0 1 f fd ["self"] (spPrR C) := by
  refine F.ok sc_Prices_raising (fun vs H Q E h => ?_) (fun cdv A outer s H vs Q E hr h => ?_)
  · obtain ⟨x, r, l, g, rfl, _⟩ := h
    rfl
  · obtain ⟨x, r, l, g, rfl, ⟨dx, ls, h1, h2, h3⟩, q⟩ := h
    refine ⟨_, (pss_one (ps_ret (pe_fld (pv 0) rfl))), ?_⟩
    exact ⟨_, rfl, x, C, dx, _, _, rfl, h1, T.cl, T.nR, prF_rais _ _ _, q⟩
theorem ok_prL {C : Addr} {qn : Str} {f : Addr} {fd : FuncData} (F : Fun K "lowering" qn s_Prices_lowering f fd) (T : PrC K mg C) : FnOk P w K mg base CX0 1 f fd ["self"] (spPrL C) := by
  refine F.ok sc_Prices_lowering (fun vs H Q E h => ?_) (fun cdv A outer s H vs Q E hr h => ?_)
  · obtain ⟨x, r, l, g, rfl, _⟩ := h
    rfl
  · obtain ⟨x, r, l, g, rfl, ⟨dx, ls, h1, h2, h3⟩, q⟩ := h
    refine ⟨_, (pss_one (ps_ret (pe_fld (pv 0) rfl))), ?_⟩
    exact ⟨_, rfl, x, C, dx, _, _, rfl, h1, T.cl, T.nL, prF_low _ _ _, q⟩
theorem ok_prS {C : Addr} {qn : Str} {f : Addr} {fd : FuncData} (F : Fun K "single" qn s_Prices_single f fd) (T : PrC K mg C) (Bd : mg "dict" = none) : FnOk P w K mg base CX0 1 f fd ["self"] (spPrS C) := by
  refine F.ok sc_Prices_single (fun vs H Q E h => ?_) (fun cdv A outer s H vs Q E hr h => ?_)
  · obtain ⟨x, r, l, g, rfl, _⟩ := h
    rfl
  · obtain ⟨x, r, l, g, rfl, ⟨dx, ls, h1, h2, h3⟩, q⟩ := h
    refine ⟨_, (pss_one (ps_ret (pe_callTy call_dictD (by rfl) Bd (by decide +kernel) (pa_cons (pe_fld (pv 0) rfl) pa_nil)))), ?_⟩
    exact ⟨_, rfl, x, C, dx, _, _, rfl, h1, T.cl, T.nS, prF_single _ _ _, ls, _, rfl, Rd.of h2, q⟩
/-! Prices made -/
structure OkPr (P : Program) (w : World) (K : PySem.W.Frag) (mg : Str → Option Value) (base : Heap) (C : Addr) (k : Nat) : Prop where
  ex : ∃ (f : Addr) (fd : FuncData), Mk K C f ∧ PrInit K f fd ∧ FnOk P w K mg base CX0 k f fd ["self", "raising", "lowering"] (spPrInit C)
  at_ : mg "Prices" = some (.ref C)
end
section
variable {P : Program} {w : World} {K : PySem.W.Frag} {mg : Str → Option Value} {base : Heap}
theorem mkpr {C : Addr} {H : Hp} {Q : VK} {r l : Int} (hr : Pr9 r) (hl : Pr9 l) (h : ∀ x H', Same H H' → PrNew C H H' x r l [] → Q (.ref x) H') : ∀ x dx, H x = none → H dx = none → dx ≠ x →
    spPrInit C [.ref x, .int r, .int l] (upd (upd H dx (.own x)) x (.ins C dx [])) (fun v H2 => v = .non ∧ Q (.ref x) H2) E0 := by
  intro x dx nx ndx ne
  refine ⟨x, dx, r, l, rfl, upd_same, hr, hl, fun ls H' b nls h1 h2 => ⟨rfl, ?_⟩⟩
  have lx : ls ≠ x := fun e => by
    rw [e, upd_same] at nls
    cases nls
  have nls0 : H ls = none := by
    rw [upd_ne lx] at nls
    by_cases ed : ls = dx
    · rw [ed]; exact ndx
    · rw [upd_ne ed] at nls; exact nls
  refine h x H' (fun b' o hb => b _ _ ?_ (ne_of_none hb nx)) ⟨dx, ls, h1, h2, ⟨hr, hl, ownOk_nil, Nat.zero_le _⟩, nx, nls0⟩
  rw [upd_ne (ne_of_none hb nx), upd_ne (ne_of_none hb ndx)]
  exact hb
end
/-- Prices(..): the prices of raising and of lowering, then the object -/
def tMkPr (C : Addr) (n : Nat) (fv : List V → List V) (tk : TA) : TE := fun σ H Q => tk σ H fun zs H2 => zs.length = n ∧ ∃ r l : Int, fv zs = [.int r, .int l] ∧ Pr9 r ∧ Pr9 l ∧ ∀ x H', Same H2 H' → PrNew C H2 H' x r l [] → Q (.ref x) H'
section
variable {X : Cx} {C : Addr} {k : Nat} {p pos : Pos} {kws : List Keyword} {tk : TA}
theorem pe_prK {f : Addr} {fd : FuncData} {ks : List Str} {fv : List V → List V} {g : List Value → List Value → List Value} {gV : List V → List V → List V} (M : Mk X.K C f) (F : FnOk X.prog X.w X.K X.mg X.base CX0 k f fd ["self", "raising", "lowering"] (spPrInit C)) (hm : X.mg "Prices" = some (.ref C)) (hb : KBn X.K fd ["self", "raising", "lowering"] 1 ks g gV)
    (hgv : ∀ v zs, gV [v] zs = v :: fv zs) (hr : Room (k + 1) X.A) (hkw : PK X kws tk) (hall : (backToKw pos (keywordEach kws X.env)).all (·.1.isSome) = true) (hks : (backToKw pos (keywordEach kws X.env)).filterMap (·.1) = ks)
    (hpl : ((backTo pos (starEach [] X.env)).any (·.1) || (backToKw pos (keywordEach kws X.env)).any (·.1.isNone)) = false) (hg : Gl X "Prices") : PE X (.Call (.Name "Prices" p) [] kws pos) (tMkPr C ks.length fv tk) := by
  refine ⟨fun pins s σ H Q I h => ?_⟩
  refine wpAny_Call_Name_kw (ld_glob I hg hm ?_ (by decide))
  refine PySem.W.callWith_KW0 (h₀ := X.base) I.ok.mod.kin M.kp hall ?_ hpl
  refine thn (hkw.run pos pins s σ H _ I h) fun ws s2 ⟨zs, H2, I2, rz, l2, r, l, e, h1, h2, q2⟩ => ⟨I2.kIn, ?_⟩
  rw [hks]
  refine run_makeK (us := []) (vs := []) M F hr hb pass0 I2 .nil rz rfl l2 fun x dx nx ndx ne => ?_
  rw [hgv, e]
  exact mkpr h1 h2 q2 x dx nx ndx ne
theorem pe_pr0 (O : OkPr X.prog X.w X.K X.mg X.base C k) (hr : Room (k + 1) X.A) (hg : Gl X "Prices" := by rfl) : PE X (.Call (.Name "Prices" p) [] [] pos) (tMkPr C 0 (fun _ => [.int 1, .int 1]) tNil) := by
  obtain ⟨f, fd, M, I, F⟩ := O.ex
  obtain ⟨mv, hb⟩ := pr_k0 I
  exact pe_prK M F O.at_ hb (fun _ _ => rfl) hr pk_nil rfl rfl rfl hg
theorem pe_prR (O : OkPr X.prog X.w X.K X.mg X.base C k) (hr : Room (k + 1) X.A) (hkw : PK X kws tk) (hall : (backToKw pos (keywordEach kws X.env)).all (·.1.isSome) = true := by rfl) (hks : (backToKw pos (keywordEach kws X.env)).filterMap (·.1) = (["raising"] : List Str) := by rfl)
    (hpl : ((backTo pos (starEach [] X.env)).any (·.1) || (backToKw pos (keywordEach kws X.env)).any (·.1.isNone)) = false := by rfl) (hg : Gl X "Prices" := by rfl) : PE X (.Call (.Name "Prices" p) [] kws pos) (tMkPr C 1 (fun zs => zs ++ [.int 1]) tk) := by
  obtain ⟨f, fd, M, I, F⟩ := O.ex
  obtain ⟨mv, hb⟩ := pr_kR I
  exact pe_prK M F O.at_ hb (fun _ _ => rfl) hr hkw hall hks hpl hg
theorem pe_prL (O : OkPr X.prog X.w X.K X.mg X.base C k) (hr : Room (k + 1) X.A) (hkw : PK X kws tk) (hall : (backToKw pos (keywordEach kws X.env)).all (·.1.isSome) = true := by rfl) (hks : (backToKw pos (keywordEach kws X.env)).filterMap (·.1) = (["lowering"] : List Str) := by rfl)
    (hpl : ((backTo pos (starEach [] X.env)).any (·.1) || (backToKw pos (keywordEach kws X.env)).any (·.1.isNone)) = false := by rfl) (hg : Gl X "Prices" := by rfl) : PE X (.Call (.Name "Prices" p) [] kws pos) (tMkPr C 1 (fun zs => .int 1 :: zs) tk) := by
  obtain ⟨f, fd, M, I, F⟩ := O.ex
  obtain ⟨mv, hb⟩ := pr_kL I
  exact pe_prK M F O.at_ hb (fun _ _ => rfl) hr hkw hall hks hpl hg
theorem pe_prRL (O : OkPr X.prog X.w X.K X.mg X.base C k) (hr : Room (k + 1) X.A) (hkw : PK X kws tk) (hall : (backToKw pos (keywordEach kws X.env)).all (·.1.isSome) = true := by rfl) (hks : (backToKw pos (keywordEach kws X.env)).filterMap (·.1) = (["raising", "lowering"] : List Str) := by rfl)
    (hpl : ((backTo pos (starEach [] X.env)).any (·.1) || (backToKw pos (keywordEach kws X.env)).any (·.1.isNone)) = false := by rfl) (hg : Gl X "Prices" := by rfl) : PE X (.Call (.Name "Prices" p) [] kws pos) (tMkPr C 2 id tk) := by
  obtain ⟨f, fd, M, I, F⟩ := O.ex
  obtain ⟨mv, hb⟩ := pr_kRL I
  exact pe_prK M F O.at_ hb (fun _ _ => rfl) hr hkw hall hks hpl hg
theorem pe_prLR (O : OkPr X.prog X.w X.K X.mg X.base C k) (hr : Room (k + 1) X.A) (hkw : PK X kws tk) (hall : (backToKw pos (keywordEach kws X.env)).all (·.1.isSome) = true := by rfl) (hks : (backToKw pos (keywordEach kws X.env)).filterMap (·.1) = (["lowering", "raising"] : List Str) := by rfl)
    (hpl : ((backTo pos (starEach [] X.env)).any (·.1) || (backToKw pos (keywordEach kws X.env)).any (·.1.isNone)) = false := by rfl) (hg : Gl X "Prices" := by rfl) : PE X (.Call (.Name "Prices" p) [] kws pos) (tMkPr C 2 (fun zs => zs.drop 1 ++ zs.take 1) tk) := by
  obtain ⟨f, fd, M, I, F⟩ := O.ex
  obtain ⟨mv, hb⟩ := pr_kLR I
  exact pe_prK M F O.at_ hb (fun _ _ => rfl) hr hkw hall hks hpl hg
end
section
variable {P : Program} {w : World} {K : PySem.W.Frag} {mg : Str → Option Value} {base : Heap}
def spWithPr (C : Addr) : Sp := fun vs H Q _ => ∃ (x : Addr) (t : Str) (o : Option Int) (r l : Int) (g : Own), vs = [.ref x, .str t, optV o] ∧ PrcAt C H x r l g ∧ nameB t = true ∧ (∀ i, o = some i → Pr9 i) ∧ g.length ≤ 58 ∧
  ∀ y H', Same H H' → PrNew C H H' y r l (sortO (putO g t o)) → Q (.ref y) H'
theorem ok_withPr {C : Addr} {qn : Str} {f : Addr} {fd : FuncData} (F : Fun K "with_price" qn s_Prices_with_price f fd) (T : PrC K mg C) (B : Blt mg) (O_is_price : Ok P w K mg base 3 "_is_price" ["thing"] (spIsPrice K)) (O_is_name : Ok P w K mg base 1 "is_name" ["thing"] (spIsName K))
    (OM : OkPr P w K mg base C 4) : FnOk P w K mg base CX0 6 f fd ["self", "name", "price"] (spWithPr C) := by
  refine F.ok sc_Prices_with_price (fun vs H Q E h => ?_) (fun cdv A outer s H vs Q E hr h => ?_)
  · obtain ⟨x, t, o, r, l, g, rfl, _⟩ := h
    rfl
  · obtain ⟨x, t, o, r, l, g, rfl, hx, ht, ho, hz, q⟩ := h
    have nd := sc_Prices_with_price.nd
    have hu := hu_of hr
    have big : sizeLine > 100000 := by decide
    refine ⟨_, (pss_cons (ps_if (pt_not (pt_val (pe_own O_is_name (hr.mono (by decide)) (pa_cons (pv 1) pa_nil)))) (pss_one ps_never) pss_nil)
      (C8.pss_cut (ps_if (PW.pt (pw_and (pt_cmpR op_notN (pv 2) pe_non (nomark _)) (pw_and1 (pt_not (pt_val (pe_own O_is_price (hr.mono (by decide)) (pa_cons (pv 2) pa_nil))))))) (pss_one ps_never) pss_nil)
      (pss_cons (ps_set (i := 3) nd rfl (Or.inr rfl) (pe_dispS (pe_fld (pv 0) rfl) (pv 1) (pv 2)))
      (pss_cons (ps_set (i := 4) nd rfl (Or.inl rfl) (pe_prRL OM (hr.mono (by decide)) (pk_cons (pe_fld (pv 0) rfl) (pk_cons (pe_fld (pv 0) rfl) pk_nil))))
      (pss_cons (ps_fld (pv 4) (pe_dc (own := [("other", 5)]) (g := gName 5) (tt := tYes) rfl nd (pi_list (pe_callB (call_sortedD rfl) (by rfl) B.sorted (by decide +kernel) (pa_cons (pv 3) pa_nil))) (blkOk_by (own := [("other", 5)]) (N := ["self", "name", "price", "single", "prices", "other"]) (sc := defScope s_Prices_with_price) (by decide +kernel)) (fun _ _ _ _ _ => (pg_name (i := 5) nd rfl (Or.inl rfl))) (fun _ _ _ _ _ => pts_nil) (fun _ _ _ _ _ => (pv 5)) (fun _ _ _ _ _ => (pe_dget hu (pv 3) (pv 5) (fun _ _ => rfl)))) rfl)
      (pss_one (ps_ret (pv 4)))))))), ?_⟩
    obtain ⟨dx, ls, h1, h2, h3⟩ := hx
    refine ⟨_, rfl, .str t, true, rfl, .inl ⟨t, rfl, name_line ht, ht.symm⟩, fun H1 s1 => ⟨_, rfl, iteF ?_⟩⟩
    refine ⟨fun σ X => σ = [some (.ref x), some (.str t), some (optV o), none, none, none] ∧ X = H1, ?_, ?_⟩
    · refine ⟨_, rfl, rfl, _, rfl, ?_⟩
      cases o with
      | none => exact iteF ⟨rfl, rfl⟩
      | some i => exact iteT ⟨_, rfl, _, true, rfl, inq_price (ho i rfl), _, rfl, iteF ⟨rfl, rfl⟩⟩
    · rintro σ X ⟨rfl, eX⟩
      rw [← eX] at s1
      clear eX
      replace h1 := s1 _ _ h1
      replace h2 := s1 _ _ h2
      refine fun pd npd => ⟨_, rfl, x, C, dx, _, _, rfl, same_new npd _ _ h1, T.cl, T.nS, prF_single _ _ _, upd_same, ls, ownKV g, rfl, ne_of_none h2 npd, same_new npd _ _ h2, by unfold ownKV; rw [List.length_map]; omega, fun qd nqd nq => ?_⟩
      refine ⟨_, rfl, _, rfl, Sum.inr t, optV o, rfl, upd_same, by rw [upd_ne (Ne.symm nq), upd_same], ?_⟩
      rw [put_own]
      have nqd1 : X qd = none := by
        rw [upd_ne nq] at nqd
        exact nqd
      generalize hH2 : upd (upd (upd (upd (upd X pd (.dK [])) pd (.dK (ownKV g))) qd (.dK [])) qd (.dK [(Sum.inr t, optV o)])) pd (.dK (ownKV (putO g t o))) = H2
      have s2 : Same X H2 := fun b' o' hb => by
        rw [← hH2, upd_ne (ne_of_none hb npd), upd_ne (ne_of_none hb nqd1), upd_ne (ne_of_none hb nqd1), upd_ne (ne_of_none hb npd), upd_ne (ne_of_none hb npd)]
        exact hb
      have hpd : H2 pd = some (.dK (ownKV (putO g t o))) := by rw [← hH2, upd_same]
      clear hH2 nqd nqd1 nq npd
      refine ⟨_, rfl, x, C, dx, _, _, rfl, s2 _ _ h1, T.cl, T.nR, prF_rais _ _ _, _, rfl, x, C, dx, _, _, rfl, s2 _ _ h1, T.cl, T.nL, prF_low _ _ _, rfl, r, l, rfl, h3.r, h3.l, fun y H3 s3 hy => ?_⟩
      obtain ⟨dy, ly, y1, y2, y3, y4, y5⟩ := hy
      have hpd3 := s3 _ _ hpd
      have lk : ((putO g t o).map (·.1)).length ≤ 59 := by
        have := put_len (g := g) (t := t) (o := o)
        rw [List.length_map]
        omega
      refine ⟨_, rfl, pd, _, (putO g t o).map (·.1), rfl, Rd.of hpd3, own_keys _, by omega, fun ys lsx pys sys nl => ?_⟩
      have eys := sortN_of pys sys
      subst eys
      obtain ⟨ks, eks⟩ : ∃ ks, sortN ((putO g t o).map (·.1)) = ks := ⟨_, rfl⟩
      have lks : ks.length ≤ 59 := by
        rw [← eks, (sortN_perm _).length_eq]
        exact lk
      have nks : ks.Nodup := by
        rw [← eks]
        exact (sortN_perm _).nodup_iff.mpr (put_nodup h3.own.nodup)
      have eso : sortO (putO g t o) = ks.map fun s => (s, (valO (putO g t o) s).getD none) := by
        unfold sortO
        rw [eks]
      have mks : ∀ s ∈ ks, ∃ o', valO (putO g t o) s = some o' := fun s hs => by
        rw [← eks] at hs
        exact Option.isSome_iff_exists.mp (val_mem.mpr ((sortN_perm _).mem_iff.mp hs))
      rw [eks]
      have s4 := same_new (o := .lst (ks.map V.str)) nl
      have hl4 : (upd H3 lsx (.lst (ks.map V.str))) lsx = some (.lst (ks.map V.str)) := upd_same
      generalize upd H3 lsx (.lst (ks.map V.str)) = H4 at s4 hl4 ⊢
      refine ⟨lsx, rfl, ⟨_, SqL.of hl4⟩, fun D hD => ?_⟩
      refine dc_it (walk_list (xs := ks.map V.str)) (fun i Hc => Same H4 Hc ∧ Hc D = some (.dK (ownKV ((ks.take i).map fun s => (s, (valO (putO g t o) s).getD none))))) ⟨same_new hD, upd_same⟩ (fun i Hc _ h => SqL.of (h.1 _ _ hl4)) ?_ ?_
      · rintro i v Hc H' hi ⟨sc, hd⟩ ⟨rfl, hv⟩
        obtain ⟨s', hs', rfl⟩ := get_map hv
        have mt := List.mem_of_getElem? hs'
        have hi' : i < ks.length := by rwa [List.length_map] at hi
        obtain ⟨o', ho'⟩ := mks s' mt
        have dg : DGet H' pd (V.str s') (some (optV o')) := by
          have := DGet.k (k := Sum.inr s') (sc _ _ (s4 _ _ hpd3))
          rwa [val_own, ho'] at this
        refine ⟨rfl, _, rfl, _, rfl, _, rfl, pd, _, rfl, dg, ownKV ((ks.take i).map fun s => (s, (valO (putO g t o) s).getD none)), Sum.inr s', rfl, hd, ?_, ?_, ?_⟩
        · unfold ownKV
          rw [List.length_map, List.length_map, List.length_take]
          omega
        · intro b o hb
          rw [upd_ne (ne_of_none hb hD)]
          exact sc _ _ hb
        · have ne : s' ∉ ((ks.take i).map fun s => (s, (valO (putO g t o) s).getD none)).map (·.1) := by
            rw [List.map_map]
            intro m
            obtain ⟨z, hz, e⟩ := List.mem_map.mp m
            have e : z = s' := e
            subst e
            obtain ⟨j, hj, e⟩ := List.getElem_of_mem hz
            rw [List.length_take] at hj
            rw [List.getElem_take] at e
            rw [List.getElem?_eq_getElem hi'] at hs'
            have := (List.getElem_inj (h₀ := by omega) (h₁ := hi') nks).mp (e.trans (Option.some.inj hs').symm)
            omega
          rw [put_noneKV ne, upd_same]
          congr 3
          rw [List.take_add_one, hs', List.map_append]
          show _ ++ [(s', o')] = _ ++ [(s', (valO (putO g t o) s').getD none)]
          rw [ho']
          rfl
      · rintro Hc ⟨sc, hd⟩
        rw [List.length_map, List.take_length, ← eso] at hd
        have s34 := s4.trans sc
        refine ⟨_, rfl, y, C, dy, _, rfl, s34 _ _ y1, T.cl, T.nS, by show 3 < 1000; decide, ?_⟩
        have s24 := s2.trans s3
        have yH : H y = none := (s1.trans s2).free y4
        refine ⟨_, rfl, q y _ (fun b' o' hb => ?_) ⟨dy, D, upd_same, ?_, ⟨h3.r, h3.l, (h3.own.put ht ho).sort, ?_⟩, yH, ?_⟩⟩
        · rw [upd_ne (ne_of_none hb yH)]
          exact s34 _ _ (s24 _ _ (s1 _ _ hb))
        · rw [upd_ne (ne_of hd (s34 _ _ y1) fun z => nomatch z)]
          exact hd
        · rw [sortO_len]
          have := put_len (g := g) (t := t) (o := o)
          omega
        · exact ((s1.trans s24).trans s4).free hD
end
end Wnd

/-! Windowsteps: methods and defs with *rest, called. -/
namespace Wnd
open PySem PySem.Spec PyProof.Rows L2
section
variable {P : Program} {w : World} {K : PySem.W.Frag} {mg : Str → Option Value} {base : Heap}
/-- a method, called -/
structure OkM (P : Program) (w : World) (K : PySem.W.Frag) (mg : Str → Option Value) (base : Heap) (C : Addr) (k : Nat) (m : Str) (sp : Sp) : Prop where
  ex : ∃ (g : Addr) (fd : FuncData) (ps : List Str), Cls K C ∧ Meth K C m g ∧ Binds K fd ps [] ∧ FnOk P w K mg base CX0 k g fd ps sp
theorem pe_methM {X : Cx} {C : Addr} {k : Nat} {m : Str} {sp : Sp} {o e : Expr} {es : List Expr} {ta : TE} {t : TA} {apos pos : Pos} {pl : Sem Bool} (O : OkM X.prog X.w X.K X.mg X.base C k m sp) (hr : Room k X.A) (he : PE X o ta) (ha : PA X (e :: es) t)
    (hst : starEach (e :: es) X.env = (false, eval e X.env) :: starEach es X.env := by rfl) (hpl : (backTo pos (starEach es X.env)).any (·.1) = false := by rfl)
    (ht : eval (.Call (.Attribute o m apos) (e :: es) [] pos) X.env = (do
      let ov ← eval o X.env
      standAt apos.atName
      let (f, first) ← holding [ov] (getMethod ov m pl)
      callWith pos f first (backTo pos (starEach (e :: es) X.env)) (backToKw pos (keywordEach [] X.env))) := by rfl) :
    PE X (.Call (.Attribute o m apos) (e :: es) [] pos) (tMeth C m sp [] E0 ta t) := by
  obtain ⟨g, fd, ps, c, hm, hb, F⟩ := O.ex
  exact pe_meth he c hm F hr hb .nil pass0 ha hst hpl ht
/-- a def with *rest, called by its name -/
structure OkV (P : Program) (w : World) (K : PySem.W.Frag) (mg : Str → Option Value) (base : Heap) (k : Nat) (x : Str) (sp : Sp) : Prop where
  ex : ∃ f : Addr, mg x = some (.ref f) ∧ PySem.W.keepIn K (.ref f) = true ∧ FnR P w K mg base CX0 k f sp
theorem pe_ownV {X : Cx} {k : Nat} {x : Str} {sp : Sp} {p pos : Pos} {e : Expr} {es : List Expr} {t : TA} (O : OkV X.prog X.w X.K X.mg X.base k x sp) (hr : Room k X.A) (ha : PA X (e :: es) t) (hg : Gl X x := by rfl) (hdb : (x == ("__debug__" : Str)) = false := by decide)
    (he : starEach (e :: es) X.env = (false, eval e X.env) :: starEach es X.env := by rfl) (hpl : (backTo pos (starEach es X.env)).any (·.1) = false := by rfl) :
    PE X (.Call (.Name x p) (e :: es) [] pos) (fun σ H Q => t σ H fun vs H1 => sp vs H1 Q E0) := by
  obtain ⟨f, h1, h2, F⟩ := O.ex
  refine ⟨fun pins s σ H Q I h => ?_⟩
  refine wpAny_Call_Name_kw (ld_glob I hg h1 ?_ hdb)
  refine PySem.W.callWith_K (h₀ := X.base) I.ok.mod.kin h2 (thn (ha.run pos pins s σ H _ I h) ?_) he hpl
  rintro us s1 ⟨vs, H1, I1, r, q⟩
  exact ⟨I1.kIn, wpAny_call (codeAny_mono (run_fnR F hr pass0 I1 r q) fun r s' z => z)⟩
end
end Wnd

/-! what the head finds of the class Prices -/
namespace Wnd
open PySem PySem.Spec PyProof.Rows L2
structure PrRaw (K : PySem.W.Frag) (C : Addr) : Prop where
  at_ : PySem.W.nsIn K mainGlobals "Prices" = some (some (.ref C))
  pg : PySem.W.plainGet K C Str.empty = true
  hd : PySem.W.hasDictIn K C = true
  po : PySem.W.plainOver K C = true
  sa : PySem.W.findIn K (.ref C) "__setattr__" = some (some (.builtin "object.__setattr__"))
  nR : PySem.W.findIn K (.ref C) "_raising" = some none
  nL : PySem.W.findIn K (.ref C) "_lowering" = some none
  nS : PySem.W.findIn K (.ref C) "_single" = some none
  mks : PySem.W.makesIn K C = true
  kc : PySem.W.keepIn K (.ref C) = true
theorem PrRaw.f {K : PySem.W.Frag} {C : Addr} {mg : Str → Option Value} {h : Heap} (R : PrRaw K C) (X : K.In h) (G : h.Ns mainGlobals mg) : PrC K mg C := ⟨⟨R.pg, R.hd, R.po, R.sa⟩, R.nR, R.nL, R.nS, PySem.W.mg_of X G R.at_⟩
def InitRaw (K : PySem.W.Frag) (C : Addr) : Prop := ∃ (f D : Addr) (oc : Value) (od an : Option Addr) (dc pm cd ct : Value) (sl : Array (Option Value)) (t1 t2 : Tok), PySem.W.findIn K (.ref C) "__init__" = some (some (.ref f)) ∧ PySem.W.isFn K (.ref f) = true ∧
  K.lookup f = some ⟨oc, od, .func (PySem.W.fnOf "__init__" "Prices.__init__" (defArgs s_Prices___init) (defBody s_Prices___init) (defScope s_Prices___init) .none (.ref D) dc pm an cd ct), sl⟩ ∧ PySem.W.codeIn K cd "Prices.__init__" = true ∧ PySem.W.keepIn K (.ref f) = true ∧
  PySem.W.nsIn K D "raising" = some (some (.int 1 t1)) ∧ PySem.W.nsIn K D "lowering" = some (some (.int 1 t2))
theorem initRaw_mk {K : PySem.W.Frag} {C f D : Addr} {oc : Value} {od an : Option Addr} {dc pm cd ct : Value} {sl : Array (Option Value)} {t1 t2 : Tok} (a : PySem.W.findIn K (.ref C) "__init__" = some (some (.ref f))) (b : PySem.W.isFn K (.ref f) = true)
    (c : K.lookup f = some ⟨oc, od, .func (PySem.W.fnOf "__init__" "Prices.__init__" (defArgs s_Prices___init) (defBody s_Prices___init) (defScope s_Prices___init) .none (.ref D) dc pm an cd ct), sl⟩) (d : PySem.W.codeIn K cd "Prices.__init__" = true) (e : PySem.W.keepIn K (.ref f) = true)
    (g : PySem.W.nsIn K D "raising" = some (some (.int 1 t1))) (i : PySem.W.nsIn K D "lowering" = some (some (.int 1 t2))) : InitRaw K C := ⟨f, D, oc, od, an, dc, pm, cd, ct, sl, t1, t2, a, b, c, d, e, g, i⟩
theorem InitRaw.at {K : PySem.W.Frag} {C : Addr} (R : InitRaw K C) : ∃ (f : Addr) (fd : FuncData), PrInit K f fd ∧ PySem.W.findIn K (.ref C) "__init__" = some (some (.ref f)) ∧ PySem.W.isFn K (.ref f) = true := by
  obtain ⟨f, D, oc, od, an, dc, pm, cd, ct, sl, t1, t2, a, b, c, d, e, g, i⟩ := R
  refine ⟨f, _, ⟨⟨oc, od, .none, .ref D, dc, pm, an, cd, ct, sl, rfl, c, d, .inl ⟨rfl, rfl⟩, .inr ⟨D, rfl, fun q hq => ?_⟩⟩, e⟩, a, b⟩
  simp only [kwPr, List.mem_cons, List.not_mem_nil, or_false] at hq
  rcases hq with rfl | rfl
  · exact ⟨_, g, t1, rfl⟩
  · exact ⟨_, i, t2, rfl⟩
end Wnd

namespace Wnd
open PySem PySem.Spec PyProof.Rows L2
abbrev s_law_key : Stmt := top 49
theorem sc_law_key : FnScope ["_law_ask"] ["_law_ask"] (defScope s_law_key) := ⟨rfl, rfl, rfl, by decide +kernel, rfl, by decide +kernel, by decide +kernel⟩
abbrev s_law_sorted : Stmt := top 50
theorem sc_law_sorted : FnScope ["_law_gaps_here", "_law_different", "_law_pair", "_law_ask"] ["_law_gaps_here"] (defScope s_law_sorted) := ⟨rfl, rfl, rfl, by decide +kernel, rfl, by decide +kernel, by decide +kernel⟩
section
variable {P : Program} {w : World} {K : PySem.W.Frag} {mg : Str → Option Value} {base : Heap}
/-! ### the different rules in ascending order, as the law finds them -/
theorem ok_key {f : Addr} {fd : FuncData} (D : DefAt K mg "_law_key" s_law_key ["_law_ask"] f fd) : Ok P w K mg base 1 "_law_key" ["_law_ask"] spRank := by
  refine D.ok (D.fn.ok sc_law_key (fun vs H Q E h => ?_) (fun cdv A outer s H vs Q E hr h => ?_))
  · obtain ⟨q, r, rfl, _⟩ := h
    rfl
  · obtain ⟨t, ⟨low, high, gap⟩, rfl, ht, _, q⟩ := h
    refine ⟨_, (pss_one (ps_ret (pe_tup (pa_cons (pe_ifExp (pt_cmpR op_isN (pe_ix ix_tup (pv 0) pe_int (fun _ _ => rfl)) pe_non (nomark _)) pe_str (pe_ix ix_tup (pv 0) pe_int (fun _ _ => rfl))) (pa_cons (pe_ifExp (pt_cmpR op_isN (pe_ix ix_tup (pv 0) pe_int (fun _ _ => rfl)) pe_non (nomark _)) pe_str (pe_ix ix_tup (pv 0) pe_int (fun _ _ => rfl))) (pa_cons (pe_ix ix_tup (pv 0) pe_int (fun _ _ => rfl)) pa_nil)))))), ?_⟩
    have at_ : ∀ (k : Nat) (v : V), (ruleV ⟨low, high, gap⟩)[k]? = some v → ∀ (σ : L2.St) (W : VK), σ[0]? = some (some (.ref t)) → W v H → tOp (rIxT K) (tVar 0) (tC (.int k)) σ H W := fun k v hk σ W hσ hW =>
      ⟨_, hσ, t, _, k, v, rfl, rfl, SqT.of ht, atI_nat hk, hW⟩
    have end_ : ∀ (k : Nat) (e : Option Str), (ruleV ⟨low, high, gap⟩)[k]? = some (endV e) → ∀ (σ : L2.St) (W : VK), σ[0]? = some (some (.ref t)) → W (.str (endS e)) H →
        tIf (tTest (tOp (fun x y H Q => y = .non ∧ Q (.bl (decide (x = .non))) H) (tOp (rIxT K) (tVar 0) (tC (.int k))) (tC .non))) (tC (.str (Str.ofString ""))) (tOp (rIxT K) (tVar 0) (tC (.int k))) σ H W := by
      intro k e hk σ W hσ hW
      refine at_ k _ hk σ _ hσ ⟨rfl, _, rfl, ?_⟩
      cases e with
      | none => exact iteT hW
      | some t => exact iteF (at_ k _ hk σ _ hσ hW)
    refine end_ 0 low rfl _ _ rfl ?_
    refine end_ 1 high rfl _ _ rfl ?_
    refine at_ 2 _ rfl _ _ rfl ⟨by show 3 ≤ sizeLine; decide, fun p hp => q p hp⟩

def spSorted : Sp := fun vs H Q _ => ∃ (a : Addr) (rs : List (Rule × Addr)), vs = [.ref a] ∧ H a = some (.lst (rs.map fun x => V.ref x.2)) ∧ KeyTups H rs ∧ (∀ x ∈ rs, Named x.1 ∧ Short x.1) ∧ rs.length < 100000 ∧
  ∀ r H' (M : List (Rule × Addr)), Same H H' → H r = none → H' r = some (.lst (M.map fun x => V.ref x.2)) → M.map (·.1) = canon (rs.map (·.1)) → (∀ x ∈ M, x ∈ rs) → Q (.ref r) H'
theorem ok_sorted {f : Addr} {fd : FuncData} (D : DefAt K mg "_law_sorted" s_law_sorted ["_law_gaps_here"] f fd) (B : Blt mg) (O_law_key : Ok P w K mg base 1 "_law_key" ["_law_ask"] spRank) : Ok P w K mg base 2 "_law_sorted" ["_law_gaps_here"] spSorted := by
  refine D.ok (D.fn.ok sc_law_sorted (fun vs H Q E h => ?_) (fun cdv A outer s H vs Q E hr h => ?_))
  · obtain ⟨a, rs, rfl, _⟩ := h
    rfl
  · obtain ⟨a, rs, rfl, hA, hk, hns, hz, q⟩ := h
    have nd := sc_law_sorted.nd
    refine ⟨_, (pss_cons (ps_set (i := 1) nd rfl (Or.inl rfl) (pe_callTy (cr_dictT hr rfl) (by rfl) B.dict (by decide +kernel) (pa_cons (pe_lc (own := [("_law_ask", 3)]) (g := gName 3) (tt := tYes) (by rfl) nd (pi_list (pv 0)) (blkOk_by (own := [("_law_ask", 3)]) (N := ["_law_gaps_here", "_law_different", "_law_pair", "_law_ask"]) (sc := defScope s_law_sorted) (by decide +kernel)) (fun _ _ _ _ _ => (pg_name (i := 3) nd rfl (Or.inl rfl))) (fun _ _ _ _ _ => pts_nil) (fun _ _ _ _ _ => (pe_tup (pa_cons (pv 3) (pa_cons pe_bl pa_nil))))) pa_nil)))
      (pss_one (ps_ret (pe_lc (own := [("_law_pair", 2)]) (g := gName 2) (tt := tYes) (by rfl) nd (pi_list (pe_callB (cr_sortedPairs hr) (by rfl) B.sorted (by decide +kernel) (pa_cons (pe_lock (pe_lc (own := [("_law_ask", 3)]) (g := gName 3) (tt := tYes) (by rfl) nd (pi_rd (pv 1)) (blkOk_by (own := [("_law_ask", 3)]) (N := ["_law_gaps_here", "_law_different", "_law_pair", "_law_ask"]) (sc := defScope s_law_sorted) (by decide +kernel)) (fun _ _ _ _ _ => (pg_name (i := 3) nd rfl (Or.inl rfl))) (fun _ _ _ _ _ => pts_nil) (fun _ _ _ _ _ => (pe_tup (pa_cons (pe_own O_law_key (hr.mono (by decide)) (pa_cons (pv 3) pa_nil)) (pa_cons (pv 3) pa_nil)))))) pa_nil))) (blkOk_by (own := [("_law_pair", 2)]) (N := ["_law_gaps_here", "_law_different", "_law_pair", "_law_ask"]) (sc := defScope s_law_sorted) (by decide +kernel)) (fun _ _ _ _ _ => (pg_name (i := 2) nd rfl (Or.inl rfl))) (fun _ _ _ _ _ => pts_nil) (fun _ _ _ _ _ => (pe_ix (ix_tupK K) (pv 2) pe_int (fun _ _ => rfl))))))), ?_⟩
    have big : sizeLine > 100000 := by decide
    refine ⟨_, rfl, a, rfl, ⟨_, SqL.of hA⟩, fun D hD => ?_⟩
    refine lc_it walk_list (fun i Hc => Same H Hc ∧ ∃ L : List Pr, L.map (·.2) = rs.take i ∧ (∀ x ∈ L, TrueAt Hc x) ∧ Hc D = some (.lst (L.map fun x => V.ref x.1))) ⟨same_new hD, [], rfl, fun _ h => (List.not_mem_nil h).elim, upd_same⟩ (fun i Hc _ h => SqL.of (h.1 _ _ hA)) ?_ ?_
    · rintro i x Hc H' hi ⟨s1, L, hL, ht, h2⟩ ⟨rfl, hx⟩
      obtain ⟨y, hy, rfl⟩ := get_map hx
      have hi' : i < rs.length := by rwa [List.length_map] at hi
      refine ⟨rfl, ?_⟩
      refine ⟨_, rfl, by show 2 ≤ sizeLine; decide, fun T hT => ?_⟩
      have nDT := ne_of_none h2 hT
      refine ⟨L.map fun x => V.ref x.1, by rw [upd_ne nDT]; exact h2, ?_, fun z o hz => ?_, L ++ [(T, y)], ?_, fun z hz => ?_, ?_⟩
      · have : L.length = i := by
          have : (L.map (·.2)).length = (rs.take i).length := by rw [hL]
          rw [List.length_map, List.length_take] at this
          omega
        rw [List.length_map]
        omega
      · rw [upd_ne (ne_of_none hz hD), upd_ne (ne_of_none (s1 _ _ hz) hT)]
        exact s1 _ _ hz
      · rw [List.map_append, hL, List.take_add_one, hy]
        rfl
      · have st : ∀ b xs, H' b = some (.tup xs) → (upd (upd H' T (.tup [.ref y.2, .bl true])) D (.lst ((L.map fun x => V.ref x.1) ++ [.ref T]))) b = some (.tup xs) := fun b xs hb => by
          rw [upd_ne (ne_of hb h2 fun z => nomatch z), upd_ne (ne_of_none hb hT)]
          exact hb
        rcases List.mem_append.mp hz with hz | hz
        · exact ⟨st _ _ (ht z hz).1, st _ _ (ht z hz).2⟩
        · rw [List.mem_singleton.mp hz]
          refine ⟨?_, st _ _ (s1 _ _ (hk y (List.mem_of_getElem? hy)))⟩
          rw [upd_ne nDT.symm]
          exact upd_same
      · rw [upd_same, List.map_append]
        rfl
    · rintro Hc ⟨s1, L, hL, ht, h2⟩
      rw [List.length_map, List.take_length] at hL
      refine ⟨D, L, rfl, SqL.of h2, ht, ?_, fun d hd => ?_⟩
      · have : (L.map (·.2)).length = rs.length := by rw [hL]
        rw [List.length_map] at this
        omega
      rw [hL]
      obtain ⟨Lr, hLr⟩ : ∃ Lr, putAll rs [] = Lr := ⟨_, rfl⟩
      rw [hLr]
      have memr : ∀ x ∈ Lr, x ∈ rs := fun x hx => (putAll_mem rs [] x (hLr ▸ hx)).elim (fun z => (List.not_mem_nil z).elim) id
      have lenr : Lr.length ≤ rs.length := by
        have := putAll_len rs []
        rw [hLr, List.length_nil] at this
        omega
      have canr : sortR (Lr.map (·.1)) = canon (rs.map (·.1)) := by
        rw [← hLr, nub_put]
        rfl
      have hd0 : H d = none := s1.free hd
      have nda : a ≠ d := ne_of_none (s1 _ _ hA) hd
      refine ⟨d, _, upd_same, True.intro, fun od => ?_⟩
      refine ⟨_, rfl, d, od, Lr, rfl, upd_same, fun D2 hD2 => ?_⟩
      have nD2d : D2 ≠ d := fun z => by
        rw [z, upd_same] at hD2
        cases hD2
      have sF : Same H (upd (upd Hc d (rdO P w d Lr)) d (.frz od (rdO P w d Lr))) := fun z o hz => by
        rw [upd_ne (ne_of_none hz hd0), upd_ne (ne_of_none hz hd0)]
        exact s1 _ _ hz
      have hD20 : H D2 = none := sF.free hD2
      refine lc_rd (fun i Hx => Hx d = some (.frz od (rdO P w d Lr)) ∧ Same H Hx ∧ ∃ L2 : List Pr, L2.map (·.2) = Lr.take i ∧ (∀ x ∈ L2, PairAt' Hx x) ∧ Hx D2 = some (.lst (L2.map fun x => V.ref x.1)))
        ⟨by rw [upd_ne nD2d.symm]; exact upd_same, sF.trans (same_new hD2), [], rfl, fun _ h => (List.not_mem_nil h).elim, upd_same⟩ (fun i Hx _ h => h.1) ?_ ?_
      · rintro i hi Hx ⟨hf, sx, L2, hL2, hp2, h3⟩
        have m1 := memr _ (List.getElem_mem hi)
        have hq := sx _ _ (hk _ m1)
        refine ⟨rfl, ?_⟩
        refine ⟨_, rfl, Lr[i].2, Lr[i].1, rfl, hq, (hns _ m1).2, fun t ht => ?_⟩
        have st : Same Hx (upd Hx t (.tup (rankV Lr[i].1))) := same_new ht
        refine ⟨_, rfl, by show 2 ≤ sizeLine; decide, fun T hT => ?_⟩
        have sT : Same Hx (upd (upd Hx t (.tup (rankV Lr[i].1))) T (.tup [.ref t, .ref Lr[i].2])) := st.trans (same_new hT)
        have ntT : t ≠ T := fun z => by
          rw [← z, upd_same] at hT
          cases hT
        have htT : (upd (upd Hx t (.tup (rankV Lr[i].1))) T (.tup [.ref t, .ref Lr[i].2])) t = some (.tup (rankV Lr[i].1)) := by
          rw [upd_ne ntT]
          exact upd_same
        have hTT : (upd (upd Hx t (.tup (rankV Lr[i].1))) T (.tup [.ref t, .ref Lr[i].2])) T = some (.tup [.ref t, .ref Lr[i].2]) := upd_same
        generalize upd (upd Hx t (.tup (rankV Lr[i].1))) T (.tup [.ref t, .ref Lr[i].2]) = Hy at sT htT hTT ⊢
        have h3y := sT _ _ h3
        have up : ∀ b xs v, Hy b = some (.tup xs) → (upd Hy D2 (.lst v)) b = some (.tup xs) := fun b xs v hb => by
          rw [upd_ne (ne_of hb h3y fun z => nomatch z)]
          exact hb
        refine ⟨L2.map fun x => V.ref x.1, h3y, ?_, ?_, ?_, L2 ++ [(T, Lr[i])], ?_, fun z hz => ?_, ?_⟩
        · have : (L2.map (·.2)).length = (Lr.take i).length := by rw [hL2]
          rw [List.length_map, List.length_take] at this
          rw [List.length_map]
          omega
        · rw [upd_ne nD2d.symm]
          exact sT _ _ hf
        · intro b o hb
          rw [upd_ne (ne_of_none hb hD20)]
          exact sT _ _ (sx _ _ hb)
        · rw [List.map_append, hL2, List.take_add_one, List.getElem?_eq_getElem hi]
          rfl
        · rcases List.mem_append.mp hz with hz | hz
          · exact (hp2 z hz).same fun b xs hb => up _ _ _ (sT _ _ hb)
          · rw [List.mem_singleton.mp hz]
            exact ⟨t, up _ _ _ hTT, up _ _ _ htT, up _ _ _ (sT _ _ hq)⟩
        · rw [upd_same, List.map_append]
          rfl
      · rintro Hx ⟨hf, sx, L2, hL2, hp2, h3⟩
        rw [List.take_length] at hL2
        refine ⟨hf, ?_⟩
        have up : ∀ b xs, Hx b = some (.tup xs) → (upd Hx d (rdO P w d Lr)) b = some (.tup xs) := fun b xs hb => by
          rw [upd_ne (ne_of hb hf fun z => nomatch z)]
          exact hb
        have sy : Same H (upd Hx d (rdO P w d Lr)) := fun z o hz => by
          rw [upd_ne (ne_of_none hz hd0)]
          exact sx _ _ hz
        have h3y : (upd Hx d (rdO P w d Lr)) D2 = some (.lst (L2.map fun x => V.ref x.1)) := by
          rw [upd_ne nD2d]
          exact h3
        have hp2y : ∀ x ∈ L2, PairAt' (upd Hx d (rdO P w d Lr)) x := fun x hx => (hp2 x hx).same up
        have mem2 : ∀ x ∈ L2, x.2 ∈ Lr := fun x hx => hL2 ▸ List.mem_map.mpr ⟨x, hx, rfl⟩
        refine ⟨D2, L2, rfl, SqL.of h3y, hp2y, fun x hx => (hns _ (memr _ (mem2 x hx))).1, ?_, fun r hr => ?_⟩
        · have : (L2.map (·.2)).length = Lr.length := by rw [hL2]
          rw [List.length_map] at this
          omega
        have sr := sy.trans (same_new (o := .lst ((pairsInOrder L2).map fun x => V.ref x.1)) hr)
        have hrr : (upd (upd Hx d (rdO P w d Lr)) r (.lst ((pairsInOrder L2).map fun x => V.ref x.1))) r = some (.lst ((pairsInOrder L2).map fun x => V.ref x.1)) := upd_same
        have hp2r : ∀ x ∈ pairsInOrder L2, PairAt' (upd (upd Hx d (rdO P w d Lr)) r (.lst ((pairsInOrder L2).map fun x => V.ref x.1))) x := fun x hx =>
          (hp2y x ((List.mergeSort_perm _ _).mem_iff.mp hx)).same fun b xs hb => same_new hr _ _ hb
        have lenp : (pairsInOrder L2).length = L2.length := List.length_mergeSort _
        have len2 : L2.length = Lr.length := by
          have : (L2.map (·.2)).length = Lr.length := by rw [hL2]
          rwa [List.length_map] at this
        refine ⟨r, rfl, ⟨_, SqL.of hrr⟩, fun D3 hD3 => ?_⟩
        refine lc_map walk_list hD3 ((pairsInOrder L2).map fun x => V.ref x.2.2) (by simp only [List.length_map]) (by
          simp only [List.length_map]
          omega) (fun H6 s6 => SqL.of (s6 _ _ hrr)) ?_ ?_
        · rintro i x H6 H7 hi R L s6 ⟨rfl, hx⟩ hR
          obtain ⟨y, hy, rfl⟩ := get_map hx
          obtain ⟨k, g1, g2, g3⟩ := hp2r y (List.mem_of_getElem? hy)
          have hi' : i < (pairsInOrder L2).length := by rwa [List.length_map] at hi
          rw [List.getElem_map] at hR
          have ey : (pairsInOrder L2)[i] = y := (List.getElem?_eq_some_iff.mp hy).2
          rw [ey] at hR
          refine ⟨rfl, ?_⟩
          exact ⟨_, rfl, y.1, _, 1, .ref y.2.2, rfl, rfl, SqT.of (s6 _ _ g1), atI_nat rfl, hR _ (Same.refl _)⟩
        · intro H6 s6 h6
          refine q D3 H6 ((pairsInOrder L2).map (·.2)) (sr.trans s6) (sr.free hD3) ?_ ?_ ?_
          · rw [h6, List.map_map]
            rfl
          · rw [List.map_map]
            refine (pairs_map L2).trans ?_
            rw [← canr, ← hL2, List.map_map]
            rfl
          · intro x hx
            obtain ⟨y, hy, rfl⟩ := List.mem_map.mp hx
            exact memr _ (mem2 y ((List.mergeSort_perm _ _).mem_iff.mp hy))

end
end Wnd

namespace Wnd
open PySem PySem.Spec PyProof.Rows L2
abbrev s_check_numbers : Stmt := top 14
theorem sc_check_numbers : FnScope ["system", "thing"] ["system", "thing"] (defScope s_check_numbers) := ⟨rfl, rfl, rfl, by decide +kernel, rfl, by decide +kernel, by decide +kernel⟩
abbrev s_are_numbers : Stmt := top 15
theorem sc_are_numbers : FnScope ["system", "thing", "names", "name"] ["system", "thing"] (defScope s_are_numbers) := ⟨rfl, rfl, rfl, by decide +kernel, rfl, by decide +kernel, by decide +kernel⟩
abbrev s_number_of : Stmt := top 17
theorem sc_number_of : FnScope ["thing", "numbers"] ["thing", "numbers"] (defScope s_number_of) := ⟨rfl, rfl, rfl, by decide +kernel, rfl, by decide +kernel, by decide +kernel⟩
abbrev s_shortfall_of : Stmt := top 16
theorem sc_shortfall_of : FnScope ["rule", "numbers", "low", "high", "gap"] ["rule", "numbers"] (defScope s_shortfall_of) := ⟨rfl, rfl, rfl, by decide +kernel, rfl, by decide +kernel, by decide +kernel⟩
abbrev s_is_number : Stmt := top 18
theorem sc_is_number : FnScope ["thing"] ["thing"] (defScope s_is_number) := ⟨rfl, rfl, rfl, by decide +kernel, rfl, by decide +kernel, by decide +kernel⟩
section
variable {P : Program} {w : World} {K : PySem.W.Frag} {mg : Str → Option Value} {base : Heap}
/-! ### numbers of a system -/
def NumsOk (ns : List Str) (g : List (Str × Int)) : Prop := (g.map (·.1)).Perm ns ∧ ∀ x ∈ g, -99999 ≤ x.2 ∧ x.2 ≤ 99999
def spIsNum : Sp := fun vs H Q _ => ∃ i : Int, vs = [.int i] ∧ Q (.bl (decide (-99999 ≤ i) && decide (i ≤ 99999))) H
theorem ok_is_number {f : Addr} {fd : FuncData} (D : DefAt K mg "is_number" s_is_number ["thing"] f fd) (C_GREATEST_NUMBER : ∃ t, mg "GREATEST_NUMBER" = some (.int 99999 t)) (O_is_integer_within : Ok P w K mg base 2 "is_integer_within" ["thing", "least", "greatest"] (spIsIn K)) : Ok P w K mg base 3 "is_number" ["thing"] spIsNum := by
  obtain ⟨gt, C_GREATEST_NUMBER⟩ := C_GREATEST_NUMBER
  refine D.ok (D.fn.ok sc_is_number (fun vs H Q E h => ?_) (fun cdv A outer s H vs Q E hr h => ?_))
  · obtain ⟨i, rfl, _⟩ := h
    rfl
  · obtain ⟨i, rfl, q⟩ := h
    refine ⟨_, (pss_one (ps_ret (pe_own O_is_integer_within (hr.mono (by decide)) (pa_cons (pv 0) (pa_cons (pe_un un_neg (pe_glob (v := .int 99999) rfl C_GREATEST_NUMBER ⟨_, rfl⟩)) (pa_cons (pe_glob (v := .int 99999) rfl C_GREATEST_NUMBER ⟨_, rfl⟩) pa_nil)))))), ?_⟩
    exact ⟨_, rfl, _, rfl, .int i, -99999, 99999, _, rfl, .inl ⟨i, rfl, rfl⟩, q⟩
theorem valG_mem {t : Str} : ∀ {g : List (Str × Int)}, t ∈ g.map (·.1) → (t, valG g (some t)) ∈ g
  | [], h => nomatch h
  | (a, b) :: r, h => by
    by_cases e : a = t
    · have : valG ((a, b) :: r) (some t) = b := by
        show (List.lookup t ((a, b) :: r)).getD 0 = b
        rw [List.lookup_cons, show (t == a) = true from beq_iff_eq.mpr e.symm]
        rfl
      rw [this, e]
      exact List.mem_cons_self ..
    · have h2 : t ∈ r.map (·.1) := (List.mem_cons.mp h).elim (fun z => absurd z.symm e) id
      have : valG ((a, b) :: r) (some t) = valG r (some t) := by
        show (List.lookup t ((a, b) :: r)).getD 0 = (List.lookup t r).getD 0
        rw [List.lookup_cons, show (t == a) = false from beq_eq_false_iff_ne.mpr fun z => e z.symm]
      rw [this]
      exact List.mem_cons_of_mem _ (valG_mem h2)
def spCheck (C : Addr) : Sp := fun vs H Q _ => ∃ (x d : Addr) (ns : List Str) (L : List (Rule × Addr)) (g : List (Str × Int)), vs = [.ref x, .ref d] ∧ SysAt C H x ns L ∧ H d = some (.dK (goalKV g)) ∧ NumsOk ns g ∧ ∀ H', Same H H' → Q .non H'
def spAre (C : Addr) : Sp := fun vs H Q _ => ∃ (x d : Addr) (ns : List Str) (L : List (Rule × Addr)) (g : List (Str × Int)), vs = [.ref x, .ref d] ∧ SysAt C H x ns L ∧ H d = some (.dK (goalKV g)) ∧ NumsOk ns g ∧ ∀ H', Same H H' → Q (.bl true) H'
theorem ok_areNums {C : Addr} {f : Addr} {fd : FuncData} (D : DefAt K mg "are_numbers" s_are_numbers ["system", "thing"] f fd) (B : Blt2 mg) (PN : OkP P w K mg base C 1 "names" (spNames C)) (O_is_number : Ok P w K mg base 3 "is_number" ["thing"] spIsNum) :
    Ok P w K mg base 4 "are_numbers" ["system", "thing"] (spAre C) := by
  refine D.ok (D.fn.ok sc_are_numbers (fun vs H Q E h => ?_) (fun cdv A outer s H vs Q E hr h => ?_))
  · obtain ⟨x, d, ns, L, g, rfl, _⟩ := h
    rfl
  · obtain ⟨x, d, ns, L, g, rfl, hx, hd, ⟨pm, bd⟩, q⟩ := h
    have nd := sc_are_numbers.nd
    have hu := hu_of hr
    refine ⟨_, (pss_cons (ps_set (i := 2) nd rfl (Or.inl rfl) (pe_propO PN (hr.mono (by decide)) (pv 0)))
      (pss_cons (ps_if (PW.pt (pw_or (pt_not (pt_val (pe_callB call_isi (by rfl) B.isinstance (by decide +kernel) (pa_cons (pv 1) (pa_cons (pe_bltn (v := .ty "dict") (by rfl) B.dict (by decide +kernel) rfl) pa_nil))))) (pw_or1 (pt_cmpR op_ne (pe_callB call_lenD (by rfl) B.len PySem.boot_len (pa_cons (pv 1) pa_nil)) (pe_callB call_len_seq (by rfl) B.len PySem.boot_len (pa_cons (pv 2) pa_nil)) (nomark _))))) (pss_one (ps_ret pe_bl)) pss_nil)
      (pss_one (ps_ret (pe_callB (cr_all rfl) (by rfl) B.all (by decide +kernel) (pa_cons (pe_lc (own := [("name", 3)]) (g := gName 3) (tt := tYes) (by rfl) nd (pi_list (pv 2)) (blkOk_by (own := [("name", 3)]) (N := ["system", "thing", "names", "name"]) (sc := defScope s_are_numbers) (by decide +kernel)) (fun _ _ _ _ _ => (pg_name (i := 3) nd rfl (Or.inl rfl))) (fun _ _ _ _ _ => pts_nil) (fun _ _ _ _ _ => (pe_and (pe_cmp (pc_din hu (pv 3) (pv 1))) (pe_one (pe_own O_is_number (hr.mono (by decide)) (pa_cons (pe_dget hu (pv 1) (pv 3) (fun _ _ => rfl)) pa_nil)))))) pa_nil)))))), ?_⟩
    obtain ⟨dx, fs, h1⟩ := prop_at hx
    refine ⟨_, rfl, x, dx, fs, rfl, h1, x, ns, L, rfl, hx, fun l hl => ?_⟩
    have s1 := same_new (o := .lst (ns.map V.str)) hl
    have hl1 := upd_same (H := H) (a := l) (o := .lst (ns.map V.str))
    have hd1 := s1 _ _ hd
    have hlen : g.length = ns.length := by
      have := pm.length_eq
      rwa [List.length_map] at this
    have lN : ns.length < 64 := by
      obtain ⟨_, _, _, _, _, _, _, ok⟩ := hx
      exact ok.names.2.2
    refine ⟨_, rfl, _, _, _, _, true, rfl, .ty _, .base (.dK hd1), kit_ty (by decide +kernel), true, rfl, ?_⟩
    refine ⟨_, rfl, d, _, rfl, hd1, _, rfl, l, _, rfl, .inl (SqL.of hl1), rfl, _, rfl, ?_⟩
    have e : (V.int ((goalKV g).length : Nat) : V) = V.int ((ns.map V.str).length : Nat) := by
      rw [goalKV, List.length_map, List.length_map, hlen]
    rw [decide_eq_true e]
    refine iteF ?_
    refine ⟨_, rfl, l, rfl, ⟨_, SqL.of hl1⟩, fun D hD => ?_⟩
    refine lc_map walk_list hD ((ns.map fun _ => true).map V.bl) (by simp only [List.length_map]) (by
      have : sizeLine > 1000 := by decide
      rw [List.length_map]
      omega) (fun H2 s2 => SqL.of (s2 _ _ hl1)) ?_ ?_
    · rintro i y H2 H' hi R W s2 ⟨rfl, hy⟩ hR
      obtain ⟨t, ht, rfl⟩ := get_map hy
      have mt : t ∈ g.map (·.1) := pm.mem_iff.mpr (List.mem_of_getElem? ht)
      have hv := goal_val mt
      have hd2 := s2 _ _ hd1
      have b := bd _ (valG_mem mt)
      rw [List.getElem_map, List.getElem_map] at hR
      refine ⟨rfl, ?_⟩
      refine ⟨_, rfl, _, rfl, d, _, rfl, DGet.k (k := Sum.inr t) hd2, _, rfl, ?_⟩
      rw [hv]
      refine iteT ?_
      refine ⟨_, rfl, _, rfl, d, _, rfl, (by
        have := DGet.k (k := Sum.inr t) hd2
        rwa [hv] at this), ?_⟩
      refine ⟨_, rfl, ?_⟩
      rw [decide_eq_true b.1, decide_eq_true b.2]
      exact hR _ (Same.refl _)
    · intro H2 s2 h2
      refine ⟨D, ns.map fun _ => true, rfl, SqL.of h2, ?_⟩
      rw [show (ns.map fun _ => true).all id = true by rw [List.all_map]; exact List.all_eq_true.mpr fun _ _ => rfl]
      exact q _ (s1.trans s2)
theorem ok_check {C : Addr} {f : Addr} {fd : FuncData} (D : DefAt K mg "check_numbers" s_check_numbers ["system", "thing"] f fd) (O_are_numbers : Ok P w K mg base 4 "are_numbers" ["system", "thing"] (spAre C)) :
    Ok P w K mg base 5 "check_numbers" ["system", "thing"] (spCheck C) := by
  refine D.ok (D.fn.ok sc_check_numbers (fun vs H Q E h => ?_) (fun cdv A outer s H vs Q E hr h => ?_))
  · obtain ⟨x, d, ns, L, g, rfl, _⟩ := h
    rfl
  · obtain ⟨x, d, ns, L, g, rfl, hx, hd, hn, q⟩ := h
    have nd := sc_check_numbers.nd
    refine ⟨_, (pss_one (ps_if (pt_not (pt_val (pe_own O_are_numbers (hr.mono (by decide)) (pa_cons (pv 0) (pa_cons (pv 1) pa_nil))))) (pss_one ps_never) pss_nil)), ?_⟩
    exact ⟨_, rfl, _, rfl, x, d, ns, L, g, rfl, hx, hd, hn, fun H1 s1 => ⟨_, rfl, iteF (q _ s1)⟩⟩
def spNumOf : Sp := fun vs H Q _ => ∃ (d : Addr) (g : List (Str × Int)) (e : Option Str), vs = [endV e, .ref d] ∧ H d = some (.dK (goalKV g)) ∧ (∀ t, e = some t → t ∈ g.map (·.1)) ∧ Q (.int (valG g e)) H
theorem ok_numOf {f : Addr} {fd : FuncData} (D : DefAt K mg "number_of" s_number_of ["thing", "numbers"] f fd) : Ok P w K mg base 1 "number_of" ["thing", "numbers"] spNumOf := by
  refine D.ok (D.fn.ok sc_number_of (fun vs H Q E h => ?_) (fun cdv A outer s H vs Q E hr h => ?_))
  · obtain ⟨d, g, e, rfl, _⟩ := h
    rfl
  · obtain ⟨d, g, e, rfl, hd, hm, q⟩ := h
    have hu := hu_of hr
    refine ⟨_, (pss_cons (ps_if (pt_cmpR op_isN (pv 0) pe_non (nomark _)) (pss_one (ps_ret pe_int)) pss_nil)
      (pss_one (ps_ret (pe_dget hu (pv 1) (pv 0) (fun _ _ => rfl))))), ?_⟩
    refine ⟨_, rfl, rfl, _, rfl, ?_⟩
    cases e with
    | none => exact q
    | some t =>
      refine iteF ?_
      exact ⟨_, rfl, _, rfl, d, _, rfl, by
        have := DGet.k (k := Sum.inr t) hd
        rwa [goal_val (hm t rfl)] at this, q⟩
/-- how much the high of a rule is missing -/
def shortB (g : List (Str × Int)) (r : Rule) : Int := valG g r.low + r.gap - valG g r.high
def EndsIn (g : List (Str × Int)) (r : Rule) : Prop := (∀ t, r.low = some t → t ∈ g.map (·.1)) ∧ ∀ t, r.high = some t → t ∈ g.map (·.1)
def spShortOf : Sp := fun vs H Q _ => ∃ (q d : Addr) (r : Rule) (g : List (Str × Int)), vs = [.ref q, .ref d] ∧ H q = some (.tup (ruleV r)) ∧ H d = some (.dK (goalKV g)) ∧ EndsIn g r ∧ Q (.int (shortB g r)) H
theorem ok_shortOf {f : Addr} {fd : FuncData} (D : DefAt K mg "shortfall_of" s_shortfall_of ["rule", "numbers"] f fd) (O_number_of : Ok P w K mg base 1 "number_of" ["thing", "numbers"] spNumOf) : Ok P w K mg base 2 "shortfall_of" ["rule", "numbers"] spShortOf := by
  refine D.ok (D.fn.ok sc_shortfall_of (fun vs H Q E h => ?_) (fun cdv A outer s H vs Q E hr h => ?_))
  · obtain ⟨t, d, r, g, rfl, _⟩ := h
    rfl
  · obtain ⟨t, d, r, g, rfl, ht, hd, he, q⟩ := h
    have nd := sc_shortfall_of.nd
    refine ⟨_, (pss_cons (ps_asg (pv 0) (pg_tup rfl (pgs_cons (pg_name (i := 2) nd rfl (Or.inl rfl)) (pgs_cons (pg_name (i := 3) nd rfl (Or.inl rfl)) (pgs_cons (pg_name (i := 4) nd rfl (Or.inl rfl)) pgs_nil)))))
      (pss_one (ps_ret (pe_op op_sub (pe_op op_add (pe_own O_number_of (hr.mono (by decide)) (pa_cons (pv 2) (pa_cons (pv 1) pa_nil))) (pv 4)) (pe_own O_number_of (hr.mono (by decide)) (pa_cons (pv 3) (pa_cons (pv 1) pa_nil))))))), ?_⟩
    refine ⟨_, rfl, t, _, rfl, SqT.of ht, rfl, _, _, rfl, _, _, rfl, _, _, rfl, rfl, ?_⟩
    refine ⟨_, rfl, _, rfl, d, g, r.low, rfl, hd, he.1, _, rfl, _, _, rfl, rfl, ?_⟩
    refine ⟨_, rfl, _, rfl, d, g, r.high, rfl, hd, he.2, _, _, rfl, rfl, ?_⟩
    exact q
end
end Wnd

namespace Wnd
open PySem PySem.Spec PyProof.Rows L2
/-- what the head finds of the class System -/
structure SysRaw (K : PySem.W.Frag) (C : Addr) : Prop where
  at_ : PySem.W.nsIn K mainGlobals "System" = some (some (.ref C))
  pg : PySem.W.plainGet K C Str.empty = true
  hd : PySem.W.hasDictIn K C = true
  po : PySem.W.plainOver K C = true
  sa : PySem.W.findIn K (.ref C) "__setattr__" = some (some (.builtin "object.__setattr__"))
  nN : PySem.W.findIn K (.ref C) "_names" = some none
  nR : PySem.W.findIn K (.ref C) "_rules" = some none
  ha : PySem.W.findIn K (.ref C) "__class__" = some (some (.builtin "object.__class__"))
  hn : PySem.W.specialIn K (.builtin "object.__class__") "__get__" = some (some (.builtin "getset_descriptor.__get__"))
  htk : PySem.W.takesIn K (.builtin "object.__class__") = some true
  hm : PySem.W.mroIn K C (.type "object") = some true
  ic : PySem.W.isClsIn K C = true
  tc : PySem.W.typeIn K (.ref C) = some (.type "type")
  nf : PySem.W.notFirst K C (.ref C) = true
  kList : PySem.W.subIn K (.type "list") (.ref C) = some false
  kTuple : PySem.W.subIn K (.type "tuple") (.ref C) = some false
  kNone : PySem.W.subIn K (.type "NoneType") (.ref C) = some false
  kStr : PySem.W.subIn K (.type "str") (.ref C) = some false
  kInt : PySem.W.subIn K (.type "int") (.ref C) = some false
  fList : PySem.W.notFirst K C (.type "list") = true
  fTuple : PySem.W.notFirst K C (.type "tuple") = true
  fNone : PySem.W.notFirst K C (.type "NoneType") = true
  fStr : PySem.W.notFirst K C (.type "str") = true
  fInt : PySem.W.notFirst K C (.type "int") = true
  ne : PySem.W.findIn K (.ref C) "__ne__" = some (some (.builtin "object.__ne__"))
  ob : PySem.W.subIn K (.ref C) (.type "object") = some true
  mks : PySem.W.makesIn K C = true
  kc : PySem.W.keepIn K (.ref C) = true
theorem SysRaw.kit {K : PySem.W.Frag} {C : Addr} {T : String} (R : SysRaw K C) (h : PySem.W.subIn K (.type T) (.ref C) = some false) : PySem.W.kitOne K (.type T) (.ref C) = some false := by
  have h1 : (PySem.W.clsIn K C).isSome = true := R.ic
  have h2 : ((Value.type T) == (Value.ref C)) = false := rfl
  unfold PySem.W.kitOne PySem.W.kitCls
  rw [h2, if_neg Bool.false_ne_true]
  show (if ((PySem.W.clsIn K C).isSome && PySem.W.typeIn K (.ref C) == some (.type "type")) = true then PySem.W.subIn K (.type T) (.ref C) else none) = some false
  rw [h1, R.tc, if_pos (by simp)]
  exact h
theorem SysRaw.me {K : PySem.W.Frag} {C : Addr} (R : SysRaw K C) : PySem.W.kitOne K (.ref C) (.ref C) = some true := by
  unfold PySem.W.kitOne
  rw [if_pos (by simp)]
theorem SysRaw.f {K : PySem.W.Frag} {C : Addr} {mg : Str → Option Value} {h : Heap} (R : SysRaw K C) (X : K.In h) (G : h.Ns mainGlobals mg) : SysF K mg C :=
  { cl := ⟨R.pg, R.hd, R.po, R.sa⟩, nN := R.nN, nR := R.nR, mgC := PySem.W.mg_of X G R.at_, isC := ⟨⟨R.pg, R.hd, R.po, R.sa⟩, R.ha, R.hn, R.htk, R.hm, R.me⟩, nf := R.nf,
    bList := ⟨R.kit R.kList, R.fList⟩, bTuple := ⟨R.kit R.kTuple, R.fTuple⟩, bNone := ⟨R.kit R.kNone, R.fNone⟩, bStr := ⟨R.kit R.kStr, R.fStr⟩, bInt := ⟨R.kit R.kInt, R.fInt⟩ }
end Wnd

/-! the shortfall of a rule, as the program and as the law find it -/
namespace Wnd
open PySem PySem.Spec PyProof.Rows L2
abbrev s_law_short : Stmt := top 51
theorem sc_law_short : FnScope ["_law_held", "_law_ask"] ["_law_held", "_law_ask"] (defScope s_law_short) := ⟨rfl, rfl, rfl, by decide +kernel, rfl, by decide +kernel, by decide +kernel⟩
section
variable {P : Program} {w : World} {K : PySem.W.Frag} {mg : Str → Option Value} {base : Heap}
theorem EndsIn.of {ts : List Str} {g : List (Str × Int)} {r : Rule} (h : RuleOk ts r) (hg : ∀ t ∈ ts, t ∈ g.map (·.1)) : EndsIn g r := by
  have e_ : ∀ {e : Option Str}, endIn ts e = true → ∀ t, e = some t → t ∈ g.map (·.1) := by
    rintro e he t rfl
    obtain ⟨x, hx, e⟩ := List.any_eq_true.mp he
    exact hg t (eq_of_beq e ▸ hx)
  exact ⟨e_ h.low, e_ h.high⟩
def spLawShort : Sp := fun vs H Q _ => ∃ (d q : Addr) (r : Rule) (g : List (Str × Int)), vs = [.ref d, .ref q] ∧ H d = some (.dK (goalKV g)) ∧ H q = some (.tup (ruleV r)) ∧ EndsIn g r ∧ Q (.int (shortB g r)) H
theorem ok_lshort {f : Addr} {fd : FuncData} (D : DefAt K mg "_law_short" s_law_short ["_law_held", "_law_ask"] f fd) (O_law_at : Ok P w K mg base 1 "_law_at" ["_law_held", "_law_thing"] spAt) : Ok P w K mg base 2 "_law_short" ["_law_held", "_law_ask"] spLawShort := by
  refine D.ok (D.fn.ok sc_law_short (fun vs H Q E h => ?_) (fun cdv A outer s H vs Q E hr h => ?_))
  · obtain ⟨d, q, r, g, rfl, _⟩ := h
    rfl
  · obtain ⟨d, t, ⟨low, high, gap⟩, g, rfl, hd, ht, he, q⟩ := h
    refine ⟨_, (pss_one (ps_ret (pe_op op_sub (pe_op op_add (pe_own O_law_at (hr.mono (by decide)) (pa_cons (pv 0) (pa_cons (pe_ix ix_tup (pv 1) pe_int (fun _ _ => rfl)) pa_nil))) (pe_ix ix_tup (pv 1) pe_int (fun _ _ => rfl))) (pe_own O_law_at (hr.mono (by decide)) (pa_cons (pv 0) (pa_cons (pe_ix ix_tup (pv 1) pe_int (fun _ _ => rfl)) pa_nil)))))), ?_⟩
    refine ⟨_, rfl, _, rfl, t, _, 0, _, rfl, rfl, SqT.of ht, atI_nat rfl, ?_⟩
    refine ⟨d, g, low, rfl, hd, he.1, ?_⟩
    refine ⟨_, rfl, t, _, 2, _, rfl, rfl, SqT.of ht, atI_nat rfl, _, _, rfl, rfl, ?_⟩
    refine ⟨_, rfl, _, rfl, t, _, 1, _, rfl, rfl, SqT.of ht, atI_nat rfl, ?_⟩
    exact ⟨d, g, high, rfl, hd, he.2, _, _, rfl, rfl, q⟩
end
end Wnd

/-! numbers of settings: in another order, shown -/
namespace Wnd
open PySem PySem.Spec PyProof.Rows L2
theorem lookup_nodup {t : Str} {v : Int} : ∀ {g : List (Str × Int)}, (g.map (·.1)).Nodup → (t, v) ∈ g → g.lookup t = some v
  | (a, b) :: r, nd, h => by
    rw [List.map_cons, List.nodup_cons] at nd
    rcases List.mem_cons.mp h with e | h
    · cases e
      rw [List.lookup_cons, show (t == t) = true from beq_self_eq_true t]
    · have : a ≠ t := fun e => nd.1 (e ▸ List.mem_map.mpr ⟨_, h, rfl⟩)
      rw [List.lookup_cons, show (t == a) = false from beq_eq_false_iff_ne.mpr fun z => this z.symm]
      exact lookup_nodup nd.2 h
theorem valG_perm {g g' : List (Str × Int)} (p : g.Perm g') (nd : (g.map (·.1)).Nodup) {e : Option Str} (h : ∀ t, e = some t → t ∈ g.map (·.1)) : valG g' e = valG g e := by
  cases e with
  | none => rfl
  | some t =>
    have m := valG_mem (h t rfl)
    show (g'.lookup t).getD 0 = valG g (some t)
    rw [lookup_nodup ((p.map (·.1)).nodup_iff.mp nd) (p.mem_iff.mp m)]
    rfl
theorem shortB_perm {g g' : List (Str × Int)} {r : Rule} (p : g.Perm g') (nd : (g.map (·.1)).Nodup) (h : EndsIn g r) : shortB g' r = shortB g r := by
  unfold shortB
  rw [valG_perm p nd h.1, valG_perm p nd h.2]
theorem EndsIn.perm {g g' : List (Str × Int)} {r : Rule} (p : g.Perm g') (h : EndsIn g r) : EndsIn g' r := ⟨fun t e => (p.map (·.1)).mem_iff.mp (h.1 t e), fun t e => (p.map (·.1)).mem_iff.mp (h.2 t e)⟩
theorem valG_bound {g : List (Str × Int)} (hb : ∀ x ∈ g, -99999 ≤ x.2 ∧ x.2 ≤ 99999) {e : Option Str} (h : ∀ t, e = some t → t ∈ g.map (·.1)) : -99999 ≤ valG g e ∧ valG g e ≤ 99999 := by
  cases e with
  | none => exact ⟨by show (-99999 : Int) ≤ 0; decide, by show (0 : Int) ≤ 99999; decide⟩
  | some t => exact hb _ (valG_mem (h t rfl))
theorem shortB_abs {g : List (Str × Int)} {ts : List Str} {r : Rule} (hb : ∀ x ∈ g, -99999 ≤ x.2 ∧ x.2 ≤ 99999) (h : EndsIn g r) (ro : RuleOk ts r) : (shortB g r).natAbs < 10 ^ 12 := by
  have h1 := valG_bound hb h.1
  have h2 := valG_bound hb h.2
  have h3 := ro.ge
  have h4 := ro.le
  unfold shortB
  omega
theorem name_sign {t : Str} (h : nameB t = true) : ∀ c ∈ t.cps.toList, c < 16 ^ 8 := by
  unfold nameB at h
  rw [Bool.and_eq_true, List.all_eq_true] at h
  intro c hc
  have := h.2 c hc
  unfold letterOk at this
  rw [Bool.and_eq_true, Bool.not_eq_true', Bool.not_eq_true', decide_eq_false_iff_not, decide_eq_false_iff_not] at this
  have h2 : ¬ (122 < c) := fun z => this.2 (List.Lex.rel z)
  omega
theorem small_of {ts : List Str} {g : List (Str × Int)} (N : NamesOk ts) (hg : (g.map (·.1)).Perm ts) (hb : ∀ x ∈ g, -99999 ≤ x.2 ∧ x.2 ≤ 99999) : ∀ x ∈ g, Small x := fun x hx => by
  have n := N.2.1 x.1 (hg.mem_iff.mp (List.mem_map.mpr ⟨x, hx, rfl⟩))
  have := (name_len n).2
  exact ⟨by omega, name_sign n, (hb x hx).1, (hb x hx).2⟩
theorem len_of {ts : List Str} {g : List (Str × Int)} (N : NamesOk ts) (hg : (g.map (·.1)).Perm ts) : g.length ≤ 1000 := by
  have h1 := hg.length_eq
  have h2 := N.2.2
  rw [List.length_map] at h1
  omega
theorem paired_rev {α β : Type} {F : α → β → Prop} : ∀ {a : List α} {b : List β}, Paired F a b → Paired F a.reverse b.reverse
  | _, _, .nil => .nil
  | _, _, .cons h t => by
    rw [List.reverse_cons, List.reverse_cons]
    exact (paired_rev t).snoc h
theorem goal_paired {K : PySem.W.Frag} {H : Hp} {ps : List Addr} {g : List (Str × Int)} (h : Paired (fun u x => H u = some (.tup [.str x.1, .int x.2])) ps g) : Paired (fun u (kv : Key × V) => SqT K H u [kV kv.1, kv.2]) ps (goalKV g) := by
  induction h with
  | nil => exact .nil
  | cons h1 h2 ih => exact .cons (SqT.of h1) ih
theorem goal_rev (g : List (Str × Int)) : (goalKV g).reverse = goalKV g.reverse := (List.map_reverse ..).symm
section
variable {P : Program} {w : World} {K : PySem.W.Frag} {mg : Str → Option Value} {base : Heap}
/-- dict(list(held.items())[::-1]): the pairs turned -/
theorem turned_at {H' : Hp} {l2 : Addr} {g : List (Str × Int)} {ts : List Addr} (hp : Paired (fun (t : Addr) (q : Key × V) => H' t = some (.tup [kV q.1, q.2])) ts (goalKV g)) (hl2 : H' l2 = none) :
    SqL K (upd H' l2 (.lst (ts.map V.ref).reverse)) l2 (ts.reverse.map V.ref) ∧ Paired (fun p' (kv : Key × V) => SqT K (upd H' l2 (.lst (ts.map V.ref).reverse)) p' [kV kv.1, kv.2]) ts.reverse (goalKV g.reverse) := by
  have s2 := same_new (o := .lst (ts.map V.ref).reverse) hl2
  refine ⟨SqL.of (by rw [upd_same, List.map_reverse]), ?_⟩
  rw [← goal_rev]
  exact Paired.mapP (paired_rev hp) fun t x h => SqT.of (s2 _ _ h)
theorem turned_merge {g : List (Str × Int)} (nodg : (g.map (·.1)).Nodup) : mergeK [] (goalKV g.reverse) = goalKV g.reverse :=
  goal_merge (by rw [List.map_reverse]; exact (List.reverse_perm _).nodup_iff.mpr nodg)
end
end Wnd

/-! the first breach, as the program and as the law find it -/
namespace Wnd
open PySem PySem.Spec PyProof.Rows L2
section
variable {P : Program} {w : World} {K : PySem.W.Frag} {mg : Str → Option Value} {base : Heap}
/-- the first rule that does not hold -/
def firstR (g : List (Str × Int)) (L : List (Rule × Addr)) : Option (Rule × Addr) := L.find? fun p => decide (0 < shortB g p.1)
def firstV (o : Option (Rule × Addr)) : V := match o with
  | none => .non
  | some p => .ref p.2
theorem find_take {α : Type} (f : α → Bool) (L : List α) (i : Nat) (h : i < L.length) (n : ∀ y ∈ L.take i, f y = false) (t : f L[i] = true) : L.find? f = some L[i] := by
  have e : L = L.take i ++ L[i] :: L.drop (i + 1) := by
    rw [← List.drop_eq_getElem_cons h, List.take_append_drop]
  have z : (L.take i).find? f = none := List.find?_eq_none.mpr fun y hy => by rw [n y hy]; exact Bool.false_ne_true
  generalize hx : L[i] = x at e t
  rw [e, List.find?_append, z, Option.none_or, List.find?_cons, t]
theorem find_none {α : Type} (f : α → Bool) (L : List α) (n : ∀ y ∈ L, f y = false) : L.find? f = none := List.find?_eq_none.mpr fun y hy => by rw [n y hy]; exact Bool.false_ne_true
def spBreach (C : Addr) : Sp := fun vs H Q _ => ∃ (x d : Addr) (ns : List Str) (L : List (Rule × Addr)) (g : List (Str × Int)), vs = [.ref x, .ref d] ∧ SysAt C H x ns L ∧ H d = some (.dK (goalKV g)) ∧ NumsOk ns g ∧ ∀ H', Same H H' → Q (firstV (firstR g L)) H'
def spAdmitted (C : Addr) : Sp := fun vs H Q _ => ∃ (x d : Addr) (ns : List Str) (L : List (Rule × Addr)) (g : List (Str × Int)), vs = [.ref x, .ref d] ∧ SysAt C H x ns L ∧ H d = some (.dK (goalKV g)) ∧ NumsOk ns g ∧ ∀ H', Same H H' → Q (.bl (firstR g L).isNone) H'
def spBroken : Sp := fun vs H Q _ => ∃ (a d : Addr) (ts : List Str) (rs : List (Rule × Addr)) (g : List (Str × Int)), vs = [.ref a, .ref d] ∧ H a = some (.lst (rs.map fun x => V.ref x.2)) ∧ KeyTups H rs ∧ NamesOk ts ∧ (∀ x ∈ rs, RuleOk ts x.1) ∧ rs.length < 100000 ∧
  H d = some (.dK (goalKV g)) ∧ (g.map (·.1)).Perm ts ∧
  ∀ r H' (M : List (Rule × Addr)), Same H H' → H r = none → M.map (·.1) = canon (rs.map (·.1)) → (∀ x ∈ M, x ∈ rs) → H' r = some (.lst ((M.filter fun x => decide (0 < shortB g x.1)).map fun x => V.ref x.2)) → Q (.ref r) H'
end
end Wnd

/-! Windowsteps: chains in the plain: walks over arcs, rounds that raise totals, all pairs. No Python here. -/
namespace Wnd
section
variable {ν : Type} [DecidableEq ν]
/-- an arc: from, to, gap -/
abbrev Arc (ν : Type) := ν × ν × Int
/-- a walk through these nodes, and its total -/
inductive Wn (A : List (Arc ν)) : List ν → Int → Prop where
  | one (a : ν) : Wn A [a] 0
  | cons {a b : ν} {g t : Int} {r : List ν} : (a, b, g) ∈ A → Wn A (b :: r) t → Wn A (a :: b :: r) (g + t)
theorem Wn.eq {A : List (Arc ν)} {ns : List ν} {s t : Int} (h : Wn A ns s) (e : s = t) : Wn A ns t := e ▸ h
theorem Wn.split {A : List (Arc ν)} {a : ν} {ys : List ν} : ∀ {xs : List ν} {t : Int}, Wn A (xs ++ a :: ys) t → ∃ t1 t2, Wn A (xs ++ [a]) t1 ∧ Wn A (a :: ys) t2 ∧ t = t1 + t2
  | [], t, h => ⟨0, t, .one a, h, by omega⟩
  | [x], t, h => by
    cases h with
    | cons m h => exact ⟨_, _, .cons m (.one a), h, by omega⟩
  | x :: y :: xs, t, h => by
    cases h with
    | cons m h =>
      obtain ⟨t1, t2, h1, h2, e⟩ := Wn.split (xs := y :: xs) h
      exact ⟨_, t2, .cons m h1, h2, by omega⟩
theorem Wn.join {A : List (Arc ν)} {a : ν} {ys : List ν} {t2 : Int} (h2 : Wn A (a :: ys) t2) : ∀ {xs : List ν} {t1 : Int}, Wn A (xs ++ [a]) t1 → Wn A (xs ++ a :: ys) (t1 + t2)
  | [], t1, h => by
    cases h
    exact h2.eq (by omega)
  | [x], t1, h => by
    cases h with
    | cons m h =>
      cases h
      exact (Wn.cons m h2).eq (by omega)
  | x :: y :: xs, t1, h => by
    cases h with
    | cons m h => exact (Wn.cons m (Wn.join h2 (xs := y :: xs) h)).eq (by omega)
theorem Wn.ne {A : List (Arc ν)} {t : Int} (h : Wn A [] t) : False := by cases h
/-- a walk from u to v of n arcs -/
def Wk (A : List (Arc ν)) (u v : ν) (n : Nat) (t : Int) : Prop := (n = 0 ∧ u = v ∧ t = 0) ∨ ∃ is : List ν, n = is.length + 1 ∧ Wn A (u :: (is ++ [v])) t
theorem Wk.zero {A : List (Arc ν)} (u : ν) : Wk A u u 0 0 := .inl ⟨rfl, rfl, rfl⟩
theorem Wk.wn {A : List (Arc ν)} {u v : ν} {n : Nat} {t : Int} (h : Wk A u v n t) : ∃ xs, xs.length = n ∧ Wn A (xs ++ [v]) t ∧ (xs ++ [v]).head? = some u := by
  rcases h with ⟨rfl, rfl, rfl⟩ | ⟨is, rfl, h⟩
  · exact ⟨[], rfl, .one u, rfl⟩
  · exact ⟨u :: is, rfl, h, rfl⟩
theorem Wk.of {A : List (Arc ν)} {v : ν} {t : Int} : ∀ {xs : List ν} {u : ν}, Wn A (xs ++ [v]) t → (xs ++ [v]).head? = some u → Wk A u v xs.length t
  | [], u, h, e => by
    cases h
    have : v = u := by simpa using e
    exact .inl ⟨rfl, this.symm, rfl⟩
  | x :: xs, u, h, e => by
    have : x = u := by simpa using e
    subst this
    exact .inr ⟨xs, rfl, h⟩
theorem Wk.trans {A : List (Arc ν)} {u v w : ν} {n m : Nat} {s t : Int} (h : Wk A u v n s) (k : Wk A v w m t) : Wk A u w (n + m) (s + t) := by
  obtain ⟨xs, hx, h1, e1⟩ := h.wn
  obtain ⟨ys, hy, h2, e2⟩ := k.wn
  have h3 : ∃ zs, ys ++ [w] = v :: zs := by
    cases ys with
    | nil => exact ⟨[], by simpa using e2⟩
    | cons y ys => exact ⟨ys ++ [w], by have : y = v := by simpa using e2
                                        rw [this]; rfl⟩
  obtain ⟨zs, hz⟩ := h3
  rw [hz] at h2
  have h4 := Wn.join h2 h1
  rw [← hz, ← List.append_assoc] at h4
  have h5 := Wk.of (u := u) h4 (by
    cases xs with
    | nil =>
      have e : v = u := by simpa using e1
      subst e
      rw [List.nil_append]
      exact e2
    | cons x xs => simpa using e1)
  rw [List.length_append, hx, hy] at h5
  exact h5
theorem Wk.arc {A : List (Arc ν)} {u v : ν} {g : Int} (m : (u, v, g) ∈ A) : Wk A u v 1 g := .inr ⟨[], rfl, (Wn.cons m (.one v)).eq (by omega)⟩
/-- the last arc of a walk -/
theorem Wk.last {A : List (Arc ν)} {u v : ν} {n : Nat} {t : Int} (h : Wk A u v (n + 1) t) : ∃ b g s, Wk A u b n s ∧ (b, v, g) ∈ A ∧ t = s + g := by
  obtain ⟨xs, hx, h1, e1⟩ := h.wn
  have hne : xs ≠ [] := fun z => by rw [z] at hx; cases hx
  obtain ⟨ys, b, rfl⟩ : ∃ ys b, xs = ys ++ [b] := ⟨xs.dropLast, xs.getLast hne, (List.dropLast_concat_getLast hne).symm⟩
  rw [List.append_assoc] at h1
  obtain ⟨t1, t2, h2, h3, e⟩ := Wn.split (a := b) (ys := [v]) h1
  cases h3 with
  | cons m h4 =>
    cases h4
    refine ⟨b, _, t1, ?_, m, by omega⟩
    have h5 := Wk.of (u := u) h2 (by
      cases ys with
      | nil => simpa using e1
      | cons y ys => simpa using e1)
    rw [List.length_append, List.length_singleton] at hx
    rw [show ys.length = n by omega] at h5
    exact h5
/-- no ring has a total above 0 -/
def NoPos (A : List (Arc ν)) : Prop := ∀ a n t, Wk A a a n t → t ≤ 0
/-- numbers that keep all arcs -/
def Keeps (A : List (Arc ν)) (φ : ν → Int) : Prop := ∀ a b g, (a, b, g) ∈ A → φ a + g ≤ φ b
theorem Keeps.wk {A : List (Arc ν)} {φ : ν → Int} (k : Keeps A φ) {u : ν} : ∀ {n : Nat} {v : ν} {t : Int}, Wk A u v n t → φ u + t ≤ φ v
  | 0, v, t, h => by
    rcases h with ⟨_, rfl, rfl⟩ | ⟨is, e, _⟩
    · omega
    · cases e
  | n + 1, v, t, h => by
    obtain ⟨b, g, s, h1, m, rfl⟩ := h.last
    have := k.wk h1
    have := k b v g m
    omega
theorem Keeps.noPos {A : List (Arc ν)} {φ : ν → Int} (k : Keeps A φ) : NoPos A := fun a n t h => by
  have := k.wk h
  omega
/-! ### a walk is as good as one that comes to no node twice -/
theorem not_nodup : ∀ {l : List ν}, ¬ l.Nodup → ∃ xs a ys zs, l = xs ++ a :: (ys ++ a :: zs)
  | [], h => (h List.nodup_nil).elim
  | b :: r, h => by
    by_cases hb : b ∈ r
    · obtain ⟨ys, zs, rfl⟩ := List.append_of_mem hb
      exact ⟨[], b, ys, zs, rfl⟩
    · obtain ⟨xs, a, ys, zs, rfl⟩ := not_nodup (l := r) fun z => h (List.nodup_cons.mpr ⟨hb, z⟩)
      exact ⟨b :: xs, a, ys, zs, rfl⟩
theorem nodup_len : ∀ {l vs : List ν}, l.Nodup → (∀ x ∈ l, x ∈ vs) → l.length ≤ vs.length
  | [], _, _, _ => Nat.zero_le _
  | b :: r, vs, hn, hs => by
    obtain ⟨hb, hr⟩ := List.nodup_cons.mp hn
    have m := hs b (List.mem_cons_self)
    have h1 := nodup_len (l := r) (vs := vs.erase b) hr fun x hx => by
      have ne : x ≠ b := fun z => hb (z ▸ hx)
      exact (List.mem_erase_of_ne ne).mpr (hs x (List.mem_cons_of_mem _ hx))
    rw [List.length_erase_of_mem m] at h1
    have h2 := List.length_pos_of_mem m
    rw [List.length_cons]
    omega
theorem Wn.nodes {A : List (Arc ν)} {vs : List ν} (hA : ∀ a b g, (a, b, g) ∈ A → a ∈ vs ∧ b ∈ vs) : ∀ {ns : List ν} {t : Int}, Wn A ns t → (∀ u, ns.head? = some u → u ∈ vs) → ∀ x ∈ ns, x ∈ vs
  | _, _, .one a, h, x, hx => by
    rw [List.mem_singleton.mp hx]
    exact h a rfl
  | _, _, .cons (a := a) (b := b) m k, h, x, hx => by
    rcases List.mem_cons.mp hx with rfl | hx
    · exact h _ rfl
    · exact Wn.nodes hA k (fun u e => by
        have : b = u := by simpa using e
        rw [← this]
        exact (hA a b _ m).2) x hx
theorem last_cat {xs rs : List ν} {a : ν} : (xs ++ a :: rs).getLast? = (a :: rs).getLast? := by
  have h : (a :: rs).getLast? = some ((a :: rs).getLast (List.cons_ne_nil _ _)) := List.getLast?_eq_some_getLast _
  rw [List.getLast?_append, h]
  rfl
theorem short_aux {A : List (Arc ν)} (np : NoPos A) {vs : List ν} : ∀ (n : Nat) {xs : List ν} {u v : ν} {t : Int}, xs.length ≤ n → Wn A (xs ++ [v]) t → (xs ++ [v]).head? = some u → (∀ x ∈ xs ++ [v], x ∈ vs) →
    ∃ ys t', ys.length < vs.length ∧ Wn A (ys ++ [v]) t' ∧ (ys ++ [v]).head? = some u ∧ t ≤ t'
  | n, xs, u, v, t, hn, h, hu, hs => by
    by_cases nd : (xs ++ [v]).Nodup
    · have := nodup_len nd hs
      rw [List.length_append, List.length_singleton] at this
      exact ⟨xs, t, by omega, h, hu, Int.le_refl _⟩
    · obtain ⟨ps, a, qs, rs, e⟩ := not_nodup nd
      rw [e] at h
      obtain ⟨t1, t2, h1, h2, e1⟩ := Wn.split h
      obtain ⟨t3, t4, h3, h4, e2⟩ := Wn.split (xs := a :: qs) (a := a) (ys := rs) h2
      have c := np a _ t3 (Wk.of (xs := a :: qs) (u := a) h3 rfl)
      have h5 := Wn.join h4 h1
      -- the rest ends in v
      obtain ⟨zs, hz⟩ : ∃ zs, ps ++ a :: rs = zs ++ [v] := by
        have l1 : (xs ++ [v]).getLast? = some v := by simp
        rw [e] at l1
        have l2 : (ps ++ a :: rs).getLast? = some v := by
          have k1 : (ps ++ a :: (qs ++ a :: rs)).getLast? = (a :: rs).getLast? := by
            rw [show ps ++ a :: (qs ++ a :: rs) = (ps ++ a :: qs) ++ a :: rs by simp]
            exact last_cat
          have k2 : (ps ++ a :: rs).getLast? = (a :: rs).getLast? := last_cat
          rw [k2, ← k1]
          exact l1
        exact List.getLast?_eq_some_iff.mp l2
      have hl : zs.length < xs.length := by
        have e3 := congrArg List.length e
        have e4 := congrArg List.length hz
        simp only [List.length_append, List.length_cons, List.length_nil] at e3 e4
        omega
      rw [hz] at h5
      have hu' : (zs ++ [v]).head? = some u := by
        rw [← hz]
        rw [e] at hu
        cases ps with
        | nil => simpa using hu
        | cons p ps => simpa using hu
      have hs' : ∀ x ∈ zs ++ [v], x ∈ vs := fun x hx => by
        rw [← hz] at hx
        rw [e] at hs
        refine hs x ?_
        rcases List.mem_append.mp hx with hx | hx
        · exact List.mem_append_left _ hx
        · rcases List.mem_cons.mp hx with rfl | hx
          · simp
          · simp [hx]
      cases n with
      | zero => omega
      | succ n =>
        obtain ⟨ys, t', l, k, k', le⟩ := short_aux np n (by omega) h5 hu' hs'
        exact ⟨ys, t', l, k, k', by omega⟩
/-- without such rings: as good a walk with fewer arcs than there are nodes -/
theorem NoPos.short {A : List (Arc ν)} (np : NoPos A) {vs : List ν} (hA : ∀ a b g, (a, b, g) ∈ A → a ∈ vs ∧ b ∈ vs) {u v : ν} {n : Nat} {t : Int} (hu : u ∈ vs) (h : Wk A u v n t) : ∃ m t', m < vs.length ∧ Wk A u v m t' ∧ t ≤ t' := by
  obtain ⟨xs, hx, h1, e1⟩ := h.wn
  obtain ⟨ys, t', l, k, k', le⟩ := short_aux np xs.length (Nat.le_refl _) h1 e1 (Wn.nodes hA h1 fun u' e => by
    rw [e1] at e
    cases e
    exact hu)
  exact ⟨ys.length, t', l, Wk.of k k', le⟩

/-! ### tables -/
def lk {β : Type} (L : List (ν × β)) (k : ν) : Option β := (L.find? fun p => decide (p.1 = k)).map (·.2)
def pt {β : Type} (L : List (ν × β)) (k : ν) (v : β) : List (ν × β) :=
  if (L.any fun p => decide (p.1 = k)) = true then L.map (fun p => if p.1 = k then (p.1, v) else p) else L ++ [(k, v)]
theorem lk_cons {β : Type} {p : ν × β} {r : List (ν × β)} {k : ν} : lk (p :: r) k = if p.1 = k then some p.2 else lk r k := by
  unfold lk
  by_cases e : p.1 = k
  · simp [List.find?_cons, e]
  · simp [List.find?_cons, e]
theorem lk_any {β : Type} (k : ν) : ∀ L : List (ν × β), (L.any fun p => decide (p.1 = k)) = (lk L k).isSome
  | [] => rfl
  | p :: r => by
    rw [List.any_cons, lk_cons, lk_any k r]
    by_cases e : p.1 = k
    · simp [e]
    · simp [e]
theorem lk_map_if {β : Type} (k j : ν) (v : β) : ∀ L : List (ν × β), lk (L.map fun p => if p.1 = k then (p.1, v) else p) j = (lk L j).map fun x => if j = k then v else x
  | [] => rfl
  | p :: r => by
    rw [List.map_cons, lk_cons, lk_cons, lk_map_if k j v r]
    by_cases h : p.1 = k
    · rw [if_pos h]
      by_cases e : p.1 = j
      · have : j = k := e.symm.trans h
        simp [e, this]
      · simp [e]
    · rw [if_neg h]
      by_cases e : p.1 = j
      · have : ¬ j = k := fun z => h (e.trans z)
        simp [e, this]
      · simp [e]
theorem lk_snoc {β : Type} (k j : ν) (v : β) : ∀ L : List (ν × β), lk L k = none → lk (L ++ [(k, v)]) j = if j = k then some v else lk L j
  | [], _ => by
    rw [List.nil_append, lk_cons]
    by_cases e : k = j
    · simp [e]
    · have : ¬ j = k := fun z => e z.symm
      simp [e, this]
  | p :: r, hn => by
    rw [lk_cons] at hn
    by_cases h : p.1 = k
    · rw [if_pos h] at hn
      cases hn
    · rw [if_neg h] at hn
      rw [List.cons_append, lk_cons, lk_cons, lk_snoc k j v r hn]
      by_cases e : p.1 = j
      · have : ¬ j = k := fun z => h (e.trans z)
        simp [e, this]
      · simp [e]
theorem lk_pt {β : Type} (L : List (ν × β)) (k j : ν) (v : β) : lk (pt L k v) j = if j = k then some v else lk L j := by
  unfold pt
  rw [lk_any]
  by_cases h : (lk L k).isSome = true
  · rw [if_pos h, lk_map_if]
    by_cases e : j = k
    · subst e
      obtain ⟨x, hx⟩ := Option.isSome_iff_exists.mp h
      simp [hx]
    · rw [if_neg e]
      cases lk L j with
      | none => rfl
      | some x => simp [e]
  · rw [if_neg h]
    refine lk_snoc k j v L ?_
    cases q : lk L k with
    | none => rfl
    | some x => rw [q] at h; exact (h rfl).elim
theorem lk_pt_same {β : Type} {L : List (ν × β)} {k : ν} {v : β} : lk (pt L k v) k = some v := by
  rw [lk_pt, if_pos rfl]
theorem lk_pt_ne {β : Type} {L : List (ν × β)} {k j : ν} {v : β} (h : j ≠ k) : lk (pt L k v) j = lk L j := by
  rw [lk_pt, if_neg h]
theorem pt_len {β : Type} {L : List (ν × β)} {k : ν} {v : β} : (pt L k v).length ≤ L.length + 1 := by
  unfold pt
  split
  · rw [List.length_map]
    omega
  · rw [List.length_append, List.length_singleton]
    omega
theorem pt_keys {β : Type} {L : List (ν × β)} {k : ν} {v : β} {x : ν} (h : x ∈ (pt L k v).map (·.1)) : x ∈ L.map (·.1) ∨ x = k := by
  obtain ⟨p, hp, rfl⟩ := List.mem_map.mp h
  unfold pt at hp
  split at hp
  · obtain ⟨q, hq, rfl⟩ := List.mem_map.mp hp
    refine .inl ?_
    by_cases e : q.1 = k
    · rw [if_pos e]
      exact List.mem_map.mpr ⟨q, hq, rfl⟩
    · rw [if_neg e]
      exact List.mem_map.mpr ⟨q, hq, rfl⟩
  · rcases List.mem_append.mp hp with hp | hp
    · exact .inl (List.mem_map.mpr ⟨p, hp, rfl⟩)
    · rw [List.mem_singleton.mp hp]
      exact .inr rfl
theorem lk_key {β : Type} {k : ν} {v : β} : ∀ {L : List (ν × β)}, lk L k = some v → k ∈ L.map (·.1)
  | [], h => by cases h
  | p :: r, h => by
    rw [lk_cons] at h
    by_cases e : p.1 = k
    · rw [List.map_cons, e]
      exact List.mem_cons_self
    · rw [if_neg e] at h
      rw [List.map_cons]
      exact List.mem_cons_of_mem _ (lk_key h)
theorem lk_val {β γ : Type} (f : β → γ) (k : ν) : ∀ L : List (ν × β), lk (L.map fun p => (p.1, f p.2)) k = (lk L k).map f
  | [] => rfl
  | p :: r => by
    rw [List.map_cons, lk_cons, lk_cons, lk_val f k r]
    by_cases e : p.1 = k <;> simp [e]
theorem pt_vals {β γ : Type} (f : β → γ) (k : ν) (v : β) (L : List (ν × β)) : pt (L.map fun p => (p.1, f p.2)) k (f v) = (pt L k v).map fun p => (p.1, f p.2) := by
  unfold pt
  have e : ((L.map fun p => (p.1, f p.2)).any fun p => decide (p.1 = k)) = L.any fun p => decide (p.1 = k) := by
    rw [List.any_map]
    rfl
  rw [e]
  split
  · rw [List.map_map, List.map_map]
    refine List.map_congr_left fun p _ => ?_
    show (if p.1 = k then (p.1, f v) else (p.1, f p.2)) = (fun p : ν × β => (p.1, f p.2)) (if p.1 = k then (p.1, v) else p)
    by_cases h : p.1 = k
    · rw [if_pos h, if_pos h]
    · rw [if_neg h, if_neg h]
  · rw [List.map_append]
    rfl

/-! ### rounds that raise totals -/
structure R3 (ν : Type) where
  T : List (ν × Int)
  L : List (ν × Nat)
  R : List ν
/-- this arc asks that its high be raised -/
def asks (T : List (ν × Int)) (a : Arc ν) : Bool := match lk T a.1 with
  | none => false
  | some x => match lk T a.2.1 with
    | none => true
    | some y => decide (y < x + a.2.2)
def raised (S : R3 ν) (i : Nat) (a : Arc ν) : R3 ν := ⟨pt S.T a.2.1 ((lk S.T a.1).getD 0 + a.2.2), pt S.L a.2.1 i, S.R ++ [a.2.1]⟩
def rstep (S : R3 ν) (i : Nat) (a : Arc ν) : R3 ν := if asks S.T a = true then raised S i a else S
/-- the arcs from the i-th on -/
def rgo : List (Arc ν) → Nat → R3 ν → R3 ν
  | [], _, S => S
  | a :: r, i, S => rgo r (i + 1) (rstep S i a)
theorem rgo_snoc : ∀ (A : List (Arc ν)) (a : Arc ν) (i : Nat) (S : R3 ν), rgo (A ++ [a]) i S = rstep (rgo A i S) (i + A.length) a
  | [], a, i, S => rfl
  | b :: r, a, i, S => by
    show rgo (r ++ [a]) (i + 1) (rstep S i b) = _
    rw [rgo_snoc r a]
    show rstep (rgo r (i + 1) (rstep S i b)) (i + 1 + r.length) a = rstep (rgo r (i + 1) (rstep S i b)) (i + (r.length + 1)) a
    rw [show i + 1 + r.length = i + (r.length + 1) by omega]
/-- values only grow, and none goes -/
def Grows (T T' : List (ν × Int)) : Prop := ∀ v x, lk T v = some x → ∃ y, lk T' v = some y ∧ x ≤ y
theorem Grows.refl (T : List (ν × Int)) : Grows T T := fun v x h => ⟨x, h, Int.le_refl _⟩
theorem Grows.trans {T1 T2 T3 : List (ν × Int)} (a : Grows T1 T2) (b : Grows T2 T3) : Grows T1 T3 := fun v x h => by
  obtain ⟨y, h1, h2⟩ := a v x h
  obtain ⟨z, h3, h4⟩ := b v y h1
  exact ⟨z, h3, by omega⟩
theorem rstep_grows (S : R3 ν) (i : Nat) (a : Arc ν) : Grows S.T (rstep S i a).T := by
  unfold rstep
  split
  · rename_i h
    intro v x hv
    unfold asks at h
    show ∃ y, lk (pt S.T a.2.1 ((lk S.T a.1).getD 0 + a.2.2)) v = some y ∧ x ≤ y
    by_cases e : v = a.2.1
    · subst e
      rw [lk_pt_same]
      refine ⟨_, rfl, ?_⟩
      cases hx : lk S.T a.1 with
      | none => rw [hx] at h; cases h
      | some z =>
        rw [hx] at h
        simp only [hv] at h
        have := of_decide_eq_true h
        show x ≤ z + a.2.2
        omega
    · rw [lk_pt_ne e]
      exact ⟨x, hv, Int.le_refl _⟩
  · exact Grows.refl _
/-- behind the arc's turn it is kept -/
theorem rstep_kept (S : R3 ν) (i : Nat) (a : Arc ν) {x : Int} (h : lk S.T a.1 = some x) : ∃ y, lk (rstep S i a).T a.2.1 = some y ∧ x + a.2.2 ≤ y := by
  unfold rstep
  split
  · show ∃ y, lk (pt S.T a.2.1 ((lk S.T a.1).getD 0 + a.2.2)) a.2.1 = some y ∧ _
    rw [lk_pt_same, h]
    exact ⟨_, rfl, Int.le_refl _⟩
  · rename_i n
    unfold asks at n
    rw [h] at n
    cases hy : lk S.T a.2.1 with
    | none => simp only [hy] at n; exact (n trivial).elim
    | some y =>
      simp only [hy] at n
      refine ⟨y, rfl, ?_⟩
      have : ¬ y < x + a.2.2 := fun z => n (decide_eq_true z)
      omega
theorem rgo_grows : ∀ (A : List (Arc ν)) (i : Nat) (S : R3 ν), Grows S.T (rgo A i S).T
  | [], i, S => Grows.refl _
  | a :: r, i, S => (rstep_grows S i a).trans (rgo_grows r (i + 1) _)
theorem rgo_kept : ∀ (A : List (Arc ν)) (i : Nat) (S : R3 ν) (a : Arc ν) (x : Int), a ∈ A → lk S.T a.1 = some x → ∃ y, lk (rgo A i S).T a.2.1 = some y ∧ x + a.2.2 ≤ y
  | b :: r, i, S, a, x, m, h => by
    rcases List.mem_cons.mp m with rfl | m
    · obtain ⟨y, h1, h2⟩ := rstep_kept S i a h
      obtain ⟨z, h3, h4⟩ := rgo_grows r (i + 1) (rstep S i a) _ y h1
      exact ⟨z, h3, by omega⟩
    · obtain ⟨x', h1, h2⟩ := rstep_grows S i b _ x h
      obtain ⟨z, h3, h4⟩ := rgo_kept r (i + 1) (rstep S i b) a x' m h1
      exact ⟨z, h3, by omega⟩
/-- all totals are totals of walks from somewhere in T0 -/
def Sound (A : List (Arc ν)) (T0 T : List (ν × Int)) : Prop := ∀ v y, lk T v = some y → ∃ u x n t, lk T0 u = some x ∧ Wk A u v n t ∧ y = x + t
theorem Sound.refl {A : List (Arc ν)} (T0 : List (ν × Int)) : Sound A T0 T0 := fun v y h => ⟨v, y, 0, 0, h, .zero v, by omega⟩
theorem rstep_sound {A : List (Arc ν)} {T0 : List (ν × Int)} {S : R3 ν} {i : Nat} {a : Arc ν} (m : a ∈ A) (s : Sound A T0 S.T) : Sound A T0 (rstep S i a).T := by
  unfold rstep
  split
  · rename_i h
    intro v y hv
    by_cases e : v = a.2.1
    · subst e
      have hv : lk (pt S.T a.2.1 ((lk S.T a.1).getD 0 + a.2.2)) a.2.1 = some y := hv
      rw [lk_pt_same] at hv
      unfold asks at h
      cases hx : lk S.T a.1 with
      | none => rw [hx] at h; cases h
      | some z =>
        rw [hx] at hv
        obtain ⟨u, x, n, t, h1, h2, rfl⟩ := s _ _ hx
        refine ⟨u, x, n + 1, t + a.2.2, h1, h2.trans (Wk.arc m), ?_⟩
        have e : (x + t) + a.2.2 = y := Option.some.inj hv
        omega
    · have hv : lk (pt S.T a.2.1 ((lk S.T a.1).getD 0 + a.2.2)) v = some y := hv
      rw [lk_pt_ne e] at hv
      exact s v y hv
  · exact s
theorem rgo_sound {A : List (Arc ν)} {T0 : List (ν × Int)} : ∀ (B : List (Arc ν)) (i : Nat) (S : R3 ν), (∀ b ∈ B, b ∈ A) → Sound A T0 S.T → Sound A T0 (rgo B i S).T
  | [], i, S, _, s => s
  | b :: r, i, S, m, s => rgo_sound r (i + 1) _ (fun c hc => m c (List.mem_cons_of_mem _ hc)) (rstep_sound (m b List.mem_cons_self) s)
theorem rstep_R (S : R3 ν) (i : Nat) (a : Arc ν) : ∃ more, (rstep S i a).R = S.R ++ more := by
  unfold rstep
  split
  · exact ⟨[a.2.1], rfl⟩
  · exact ⟨[], (List.append_nil _).symm⟩
theorem rgo_R : ∀ (A : List (Arc ν)) (i : Nat) (S : R3 ν), ∃ more, (rgo A i S).R = S.R ++ more
  | [], i, S => ⟨[], (List.append_nil _).symm⟩
  | a :: r, i, S => by
    obtain ⟨m1, e1⟩ := rstep_R S i a
    obtain ⟨m2, e2⟩ := rgo_R r (i + 1) (rstep S i a)
    exact ⟨m1 ++ m2, by show (rgo r (i + 1) (rstep S i a)).R = _; rw [e2, e1, List.append_assoc]⟩
/-- closed: no arc asks for more -/
def Closed (A : List (Arc ν)) (T : List (ν × Int)) : Prop := ∀ a ∈ A, ∀ x, lk T a.1 = some x → ∃ y, lk T a.2.1 = some y ∧ x + a.2.2 ≤ y
/-- where nothing was raised nothing has changed, and nothing is asked for -/
theorem rgo_none : ∀ (A : List (Arc ν)) (i : Nat) (S : R3 ν), S.R = [] → (rgo A i S).R = [] → rgo A i S = S ∧ ∀ a ∈ A, asks S.T a = false
  | [], i, S, _, _ => ⟨rfl, fun a h => nomatch h⟩
  | a :: r, i, S, h0, h => by
    have h' : (rgo r (i + 1) (rstep S i a)).R = [] := h
    have n : ¬ asks S.T a = true := fun z => by
      obtain ⟨more, e⟩ := rgo_R r (i + 1) (rstep S i a)
      have e2 : rstep S i a = raised S i a := if_pos z
      rw [e2] at e
      rw [e2, e] at h'
      have e3 : (raised S i a).R = S.R ++ [a.2.1] := rfl
      rw [e3] at h'
      simp at h'
    have e : rstep S i a = S := if_neg n
    rw [e] at h'
    obtain ⟨h1, h2⟩ := rgo_none r (i + 1) S h0 h'
    refine ⟨by show rgo r (i + 1) (rstep S i a) = S; rw [e]; exact h1, fun b hb => ?_⟩
    rcases List.mem_cons.mp hb with rfl | hb
    · exact Bool.eq_false_iff.mpr n
    · exact h2 b hb
theorem closed_of {A : List (Arc ν)} {T : List (ν × Int)} (h : ∀ a ∈ A, asks T a = false) : Closed A T := fun a m x hx => by
  have := h a m
  unfold asks at this
  rw [hx] at this
  cases hy : lk T a.2.1 with
  | none => simp only [hy] at this; cases this
  | some y =>
    simp only [hy] at this
    have := of_decide_eq_false this
    exact ⟨y, rfl, by omega⟩
theorem closed_none : ∀ (A : List (Arc ν)) (i : Nat) (S : R3 ν), Closed A S.T → rgo A i S = S
  | [], i, S, _ => rfl
  | a :: r, i, S, c => by
    have n : asks S.T a = false := by
      unfold asks
      cases hx : lk S.T a.1 with
      | none => rfl
      | some x =>
        obtain ⟨y, hy, le⟩ := c a List.mem_cons_self x hx
        simp only [hy]
        exact decide_eq_false (by omega)
    have e : rstep S i a = S := if_neg (by rw [n]; exact Bool.false_ne_true)
    show rgo r (i + 1) (rstep S i a) = S
    rw [e]
    exact closed_none r (i + 1) S fun b hb => c b (List.mem_cons_of_mem _ hb)
/-- all walks of at most k arcs from T0 are reached -/
def Reach (A : List (Arc ν)) (T0 T : List (ν × Int)) (k : Nat) : Prop := ∀ u x v n t, lk T0 u = some x → Wk A u v n t → n ≤ k → ∃ y, lk T v = some y ∧ x + t ≤ y
theorem Reach.zero {A : List (Arc ν)} (T0 : List (ν × Int)) : Reach A T0 T0 0 := fun u x v n t h w hn => by
  rcases w with ⟨_, rfl, rfl⟩ | ⟨is, e, _⟩
  · exact ⟨x, h, by omega⟩
  · omega
theorem Reach.round {A : List (Arc ν)} {T0 : List (ν × Int)} {k : Nat} {S : R3 ν} (r : Reach A T0 S.T k) : Reach A T0 (rgo A 0 S).T (k + 1) := fun u x v n t h w hn => by
  cases n with
  | zero =>
    obtain ⟨y, h1, h2⟩ := r u x v 0 t h w (Nat.zero_le _)
    obtain ⟨z, h3, h4⟩ := rgo_grows A 0 S v y h1
    exact ⟨z, h3, by omega⟩
  | succ n =>
    obtain ⟨b, g, s, h1, m, rfl⟩ := w.last
    obtain ⟨y, h2, h3⟩ := r u x b n s h h1 (by omega)
    obtain ⟨z, h4, h5⟩ := rgo_kept A 0 S (b, v, g) y m h2
    have h5 : y + g ≤ z := h5
    exact ⟨z, h4, by omega⟩
/-- what is sound and has reached all short walks is closed -/
theorem reach_closed {A : List (Arc ν)} (np : NoPos A) {vs : List ν} (hA : ∀ a b g, (a, b, g) ∈ A → a ∈ vs ∧ b ∈ vs) {T0 T : List (ν × Int)} (h0 : ∀ u x, lk T0 u = some x → u ∈ vs) (s : Sound A T0 T) {k : Nat} (hk : vs.length ≤ k + 1) (r : Reach A T0 T k) : Closed A T := fun ⟨b, c, gp⟩ m x hx => by
  show ∃ y, lk T c = some y ∧ x + gp ≤ y
  obtain ⟨u, x0, n, t, h1, h2, rfl⟩ := s _ _ hx
  have h3 := h2.trans (Wk.arc m)
  obtain ⟨n', t', l, w, le⟩ := np.short hA (h0 _ _ h1) h3
  obtain ⟨y, h4, h5⟩ := r u x0 _ n' t' h1 w (by omega)
  exact ⟨y, h4, by omega⟩
/-- closed totals are at least those of all walks -/
theorem Closed.wk {A : List (Arc ν)} {T : List (ν × Int)} (c : Closed A T) {u : ν} {x : Int} (hu : lk T u = some x) : ∀ {n : Nat} {v : ν} {t : Int}, Wk A u v n t → ∃ y, lk T v = some y ∧ x + t ≤ y
  | 0, v, t, h => by
    rcases h with ⟨_, rfl, rfl⟩ | ⟨is, e, _⟩
    · exact ⟨x, hu, by omega⟩
    · cases e
  | n + 1, v, t, h => by
    obtain ⟨b, g, s, h1, m, rfl⟩ := h.last
    obtain ⟨y, h2, h3⟩ := c.wk hu h1
    obtain ⟨z, h4, h5⟩ := c _ m y h2
    exact ⟨z, h4, by have h5 : y + g ≤ z := h5; omega⟩
/-- the greatest total of a walk from u to v -/
def Most (A : List (Arc ν)) (u v : ν) (o : Option Int) : Prop := match o with
  | none => ∀ n t, ¬ Wk A u v n t
  | some x => (∃ n, Wk A u v n x) ∧ ∀ n t, Wk A u v n t → t ≤ x
theorem Most.one {A : List (Arc ν)} {u v : ν} {o o' : Option Int} (h : Most A u v o) (h' : Most A u v o') : o = o' := by
  cases o with
  | none =>
    cases o' with
    | none => rfl
    | some y =>
      obtain ⟨⟨n, w⟩, _⟩ := h'
      exact (h n y w).elim
  | some x =>
    obtain ⟨⟨n, w⟩, le⟩ := h
    cases o' with
    | none => exact (h' n x w).elim
    | some y =>
      obtain ⟨⟨m, w'⟩, le'⟩ := h'
      have := le m y w'
      have := le' n x w
      rw [show x = y by omega]
/-- from one start -/
theorem most_of {A : List (Arc ν)} {T : List (ν × Int)} {u : ν} (np : NoPos A) (s : Sound A [(u, 0)] T) (c : Closed A T) (g : Grows [(u, 0)] T) (v : ν) : Most A u v (lk T v) := by
  have hs : ∀ y, lk T v = some y → ∃ n, Wk A u v n y := fun y h => by
    obtain ⟨u', x, n, t, h1, h2, rfl⟩ := s _ _ h
    rw [lk_cons] at h1
    by_cases e : u = u'
    · rw [if_pos e] at h1
      cases h1
      subst e
      exact ⟨n, by simpa using h2⟩
    · rw [if_neg e] at h1
      cases h1
  obtain ⟨z, hz, hz0⟩ := g u 0 (by rw [lk_cons, if_pos rfl])
  have hall : ∀ n t, Wk A u v n t → ∃ y, lk T v = some y ∧ t ≤ y := fun n t w => by
    obtain ⟨y, h1, h2⟩ := c.wk hz w
    exact ⟨y, h1, by omega⟩
  cases e : lk T v with
  | none =>
    intro n t w
    obtain ⟨y, h1, _⟩ := hall n t w
    rw [e] at h1
    cases h1
  | some x =>
    refine ⟨hs x e, fun n t w => ?_⟩
    obtain ⟨y, h1, h2⟩ := hall n t w
    rw [e] at h1
    cases h1
    exact h2

/-! ### totals raised from 0 -/
def itr (A : List (Arc ν)) (ns : List ν) : Nat → R3 ν
  | 0 => ⟨ns.map fun x => (x, 0), [], ns⟩
  | k + 1 => rgo A 0 ⟨(itr A ns k).T, (itr A ns k).L, []⟩
theorem lk_zero {v : ν} {x : Int} : ∀ {ns : List ν}, lk (ns.map fun x => (x, (0 : Int))) v = some x → v ∈ ns ∧ x = 0
  | [], h => by cases h
  | a :: r, h => by
    rw [List.map_cons, lk_cons] at h
    by_cases e : a = v
    · rw [if_pos e] at h
      cases h
      exact ⟨by rw [e]; exact List.mem_cons_self, rfl⟩
    · rw [if_neg e] at h
      obtain ⟨h1, h2⟩ := lk_zero h
      exact ⟨List.mem_cons_of_mem _ h1, h2⟩
theorem lk_zero_of {v : ν} : ∀ {ns : List ν}, v ∈ ns → lk (ns.map fun x => (x, (0 : Int))) v = some 0
  | a :: r, h => by
    rw [List.map_cons, lk_cons]
    by_cases e : a = v
    · rw [if_pos e]
    · rw [if_neg e]
      exact lk_zero_of (by
        rcases List.mem_cons.mp h with z | z
        · exact (e z.symm).elim
        · exact z)
theorem itr_sound (A : List (Arc ν)) (ns : List ν) : ∀ k, Sound A (itr A ns 0).T (itr A ns k).T
  | 0 => Sound.refl _
  | k + 1 => rgo_sound A 0 ⟨(itr A ns k).T, (itr A ns k).L, []⟩ (fun _ h => h) (itr_sound A ns k)
theorem itr_reach (A : List (Arc ν)) (ns : List ν) : ∀ k, Reach A (itr A ns 0).T (itr A ns k).T k
  | 0 => Reach.zero _
  | k + 1 => Reach.round (S := ⟨(itr A ns k).T, (itr A ns k).L, []⟩) (itr_reach A ns k)
theorem itr_none {A : List (Arc ν)} {ns : List ν} (np : NoPos A) (hA : ∀ a b g, (a, b, g) ∈ A → a ∈ ns ∧ b ∈ ns) (h0 : 0 < ns.length) : (itr A ns ns.length).R = [] := by
  obtain ⟨k, hk⟩ : ∃ k, ns.length = k + 1 := ⟨ns.length - 1, by omega⟩
  rw [hk]
  have c : Closed A (itr A ns k).T := reach_closed np hA (fun u x h => (lk_zero h).1) (itr_sound A ns k) (k := k) (by omega) (itr_reach A ns k)
  show (rgo A 0 ⟨(itr A ns k).T, (itr A ns k).L, []⟩).R = []
  rw [closed_none A 0 ⟨(itr A ns k).T, (itr A ns k).L, []⟩ c]
theorem itr_lens (A : List (Arc ν)) (ns : List ν) {z : Nat} (hz : A.length ≤ z) (h : ∀ (i : Nat) (S : R3 ν), (rgo A i S).T.length ≤ S.T.length + A.length ∧ (rgo A i S).L.length ≤ S.L.length + A.length ∧ (rgo A i S).R.length ≤ S.R.length + A.length) : ∀ k, (itr A ns k).T.length ≤ ns.length + z * k ∧ (itr A ns k).L.length ≤ z * k
  | 0 => by
    show (ns.map fun x => (x, (0 : Int))).length ≤ _ ∧ ([] : List (ν × Nat)).length ≤ _
    rw [List.length_map]
    exact ⟨Nat.le_refl _, Nat.zero_le _⟩
  | k + 1 => by
    obtain ⟨h1, h2⟩ := itr_lens A ns hz h k
    obtain ⟨h3, h4, _⟩ := h 0 ⟨(itr A ns k).T, (itr A ns k).L, []⟩
    have h3 : (itr A ns (k + 1)).T.length ≤ (itr A ns k).T.length + A.length := h3
    have h4 : (itr A ns (k + 1)).L.length ≤ (itr A ns k).L.length + A.length := h4
    rw [Nat.mul_succ]
    omega
theorem pt_fresh {v : ν} {x : Int} {L : List (ν × Int)} (h : v ∉ L.map (·.1)) : pt L v x = L ++ [(v, x)] := by
  unfold pt
  rw [if_neg]
  intro z
  obtain ⟨p, hp, e⟩ := List.any_eq_true.mp z
  exact h (List.mem_map.mpr ⟨p, hp, of_decide_eq_true e⟩)
theorem pt_zero {ns : List ν} (nd : ns.Nodup) {i : Nat} (hi : i < ns.length) : pt ((ns.take i).map fun x => (x, (0 : Int))) ns[i] 0 = (ns.take (i + 1)).map fun x => (x, (0 : Int)) := by
  rw [pt_fresh, List.take_add_one, List.getElem?_eq_getElem hi, List.map_append]
  · rfl
  · rw [List.map_map]
    show ns[i] ∉ (ns.take i).map id
    rw [List.map_id]
    intro z
    have e : ns.take i ++ ns.drop i = ns := List.take_append_drop i ns
    have nd2 : (ns.take i ++ ns.drop i).Nodup := by rw [e]; exact nd
    have m2 : ns[i] ∈ ns.drop i := by
      rw [List.drop_eq_getElem_cons hi]
      exact List.mem_cons_self
    exact (List.nodup_append.mp nd2).2.2 _ z _ m2 rfl

/-! ### all pairs -/
/-- what all pairs hold is a walk's total -/
def SoundF (A : List (Arc ν)) (F : List ((ν × ν) × Int)) : Prop := ∀ a b x, lk F (a, b) = some x → ∃ n, Wk A a b n x
/-- at least all walks whose inner nodes lie in M -/
def ComplF (A : List (Arc ν)) (M : ν → Prop) (F : List ((ν × ν) × Int)) : Prop := ∀ a b is t, (∀ i ∈ is, M i) → Wn A (a :: (is ++ [b])) t → ∃ x, lk F (a, b) = some x ∧ t ≤ x
theorem first_of {m : ν} : ∀ {l : List ν}, m ∈ l → ∃ xs ys, l = xs ++ m :: ys ∧ m ∉ xs
  | b :: r, h => by
    by_cases e : b = m
    · exact ⟨[], r, by rw [e]; rfl, fun z => nomatch z⟩
    · obtain ⟨xs, ys, h1, h2⟩ := first_of (l := r) (by
        rcases List.mem_cons.mp h with z | z
        · exact (e z.symm).elim
        · exact z)
      exact ⟨b :: xs, ys, by rw [h1]; rfl, fun z => by
        rcases List.mem_cons.mp z with z | z
        · exact e z.symm
        · exact h2 z⟩
theorem compl_from {A : List (Arc ν)} {M : ν → Prop} {F : List ((ν × ν) × Int)} {m : ν} (c : ComplF A M F) (z : ∀ x, lk F (m, m) = some x → x ≤ 0) : ∀ (k : Nat) (ys : List ν) (b : ν) (t : Int), ys.length ≤ k → (∀ i ∈ ys, M i ∨ i = m) → Wn A (m :: (ys ++ [b])) t → ∃ x, lk F (m, b) = some x ∧ t ≤ x
  | k, ys, b, t, hk, hy, w => by
    by_cases e : m ∈ ys
    · obtain ⟨xs, zs, rfl, nx⟩ := first_of e
      rw [List.append_assoc, show m :: (xs ++ (m :: zs ++ [b])) = (m :: xs) ++ m :: (zs ++ [b]) by simp] at w
      obtain ⟨t1, t2, h1, h2, rfl⟩ := Wn.split w
      obtain ⟨x1, k1, le1⟩ := c m m xs t1 (fun i hi => by
        rcases hy i (List.mem_append_left _ hi) with q | q
        · exact q
        · exact (nx (q ▸ hi)).elim) h1
      have := z _ k1
      cases k with
      | zero =>
        rw [List.length_append, List.length_cons] at hk
        omega
      | succ k =>
        obtain ⟨x, k2, le2⟩ := compl_from c z k zs b t2 (by
          rw [List.length_append, List.length_cons] at hk
          omega) (fun i hi => hy i (by simp [hi])) h2
        exact ⟨x, k2, by omega⟩
    · exact c m b ys t (fun i hi => by
        rcases hy i hi with q | q
        · exact q
        · exact (e (q ▸ hi)).elim) w
/-- one more middle -/
theorem compl_mid {A : List (Arc ν)} {M : ν → Prop} {F F' : List ((ν × ν) × Int)} {m : ν} (c : ComplF A M F) (z : ∀ x, lk F (m, m) = some x → x ≤ 0) (g : Grows F F')
    (h : ∀ a b x y, lk F (a, m) = some x → lk F (m, b) = some y → ∃ v, lk F' (a, b) = some v ∧ x + y ≤ v) : ComplF A (fun i => M i ∨ i = m) F' := fun a b is t hi w => by
  by_cases e : m ∈ is
  · obtain ⟨xs, ys, rfl, nx⟩ := first_of e
    rw [List.append_assoc, show a :: (xs ++ (m :: ys ++ [b])) = (a :: xs) ++ m :: (ys ++ [b]) by simp] at w
    obtain ⟨t1, t2, h1, h2, rfl⟩ := Wn.split w
    obtain ⟨x, k1, le1⟩ := c a m xs t1 (fun i q => by
      rcases hi i (List.mem_append_left _ q) with p | p
      · exact p
      · exact (nx (p ▸ q)).elim) h1
    obtain ⟨y, k2, le2⟩ := compl_from c z ys.length ys b t2 (Nat.le_refl _) (fun i q => hi i (by simp [q])) h2
    obtain ⟨v, k3, le3⟩ := h a b x y k1 k2
    exact ⟨v, k3, by omega⟩
  · obtain ⟨x, k1, le1⟩ := c a b is t (fun i q => by
      rcases hi i q with p | p
      · exact p
      · exact (e (p ▸ q)).elim) w
    obtain ⟨y, k2, le2⟩ := g _ _ k1
    exact ⟨y, k2, by omega⟩
/-- the whole table -/
theorem most_far {A : List (Arc ν)} {vs : List ν} (hA : ∀ a b g, (a, b, g) ∈ A → a ∈ vs ∧ b ∈ vs) {F : List ((ν × ν) × Int)} (np : NoPos A) (s : SoundF A F) (c : ComplF A (fun i => i ∈ vs) F) (d : ∀ v ∈ vs, ∃ x, lk F (v, v) = some x ∧ 0 ≤ x) {a b : ν} (ha : a ∈ vs) : Most A a b (lk F (a, b)) := by
  have all : ∀ n t, Wk A a b n t → ∃ y, lk F (a, b) = some y ∧ t ≤ y := fun n t w => by
    rcases w with ⟨rfl, rfl, rfl⟩ | ⟨is, rfl, w⟩
    · exact d a ha
    · exact c a b is t (fun i hi => Wn.nodes hA w (fun u e => by
        cases e
        exact ha) i (by simp [hi])) w
  cases e : lk F (a, b) with
  | none =>
    intro n t w
    obtain ⟨y, h1, _⟩ := all n t w
    rw [e] at h1
    cases h1
  | some x =>
    refine ⟨s a b x e, fun n t w => ?_⟩
    obtain ⟨y, h1, h2⟩ := all n t w
    rw [e] at h1
    cases h1
    exact h2
end
end Wnd

/-! Windowsteps: dicts whose keys are settings or the ground (None or a text), and dicts whose keys are tuples of a written form; what they hold, stores, questions. -/
namespace Wnd
open PySem PySem.Spec PyProof.Rows L2

abbrev Node := Option Str
def nk : Node → Option Key := Option.map Sum.inr
theorem nk_inj : ∀ {a b : Node}, nk a = nk b → a = b
  | none, none, _ => rfl
  | none, some _, h => nomatch h
  | some _, none, h => nomatch h
  | some x, some y, h => by
    injection h with h
    injection h with h
    rw [h]
theorem nk_is {P : Program} {w : World} {a : Node} {u : Value} (r : RelV (endV a) u) : (noneKind P w).is (nk a) u = true := by
  cases a with
  | none =>
    cases r
    rfl
  | some x =>
    obtain ⟨t, rfl⟩ := r
    exact keyIs_str x t
theorem nk_dec (a b : Node) : decide (nk a = nk b) = decide (a = b) := by
  by_cases e : a = b
  · rw [e, decide_eq_true rfl, decide_eq_true rfl]
  · rw [decide_eq_false e, decide_eq_false fun z => e (nk_inj z)]
def nkL (L : List (Node × V)) : List (Option Key × V) := L.map fun p => (nk p.1, p.2)
theorem nkL_get (k : Node) : ∀ L : List (Node × V), valV (nkL L) (nk k) = lk L k
  | [] => rfl
  | p :: r => by
    have ih := nkL_get k r
    rw [lk_cons]
    by_cases e : p.1 = k
    · rw [if_pos e]
      exact valV_pos (p := (nk p.1, p.2)) (congrArg nk e)
    · rw [if_neg e, ← ih]
      exact valV_neg (p := (nk p.1, p.2)) fun z => e (nk_inj z)
theorem nkL_put (k : Node) (v : V) (L : List (Node × V)) : putK (nkL L) (nk k) v = nkL (pt L k v) := by
  unfold putK pt
  have e : ((nkL L).any fun kv => decide (kv.1 = nk k)) = L.any fun p => decide (p.1 = k) := by
    unfold nkL
    rw [List.any_map]
    congr 1
    funext p
    exact nk_dec p.1 k
  rw [e]
  split
  · unfold nkL
    rw [List.map_map, List.map_map]
    refine List.map_congr_left fun p _ => ?_
    show (if nk p.1 = nk k then (nk p.1, v) else (nk p.1, p.2)) = (fun p : Node × V => (nk p.1, p.2)) (if p.1 = k then (p.1, v) else p)
    by_cases h : p.1 = k
    · rw [if_pos h, if_pos (congrArg nk h)]
    · rw [if_neg h, if_neg fun z => h (nk_inj z)]
  · unfold nkL
    rw [List.map_append]
    rfl
structure NdAt (P : Program) (w : World) (h : Heap) (d : Addr) (L : List (Node × V)) : Prop where
  lo : (d == sysModules) = false
  sz : L.length ≤ sizeLine
  raw : ∃ vs : List (Option Key × Value), KV (nkL L) vs ∧ h.DictOf (noneKind P w) d vs
/-- a dict of settings and the ground -/
def ndO (P : Program) (w : World) (d : Addr) (L : List (Node × V)) : HO := .ext fun h => NdAt P w h d L

/-! ### tuples of one form as keys -/
structure TK (κ : Type) where
  kk : κ → NestedKey
  kv : κ → List V
  inj : ∀ a b, kk a = kk b → a = b
  is : ∀ {P : Program} {w : World} {H : Hp} {h : Heap} {q : Addr} {k : κ}, HOk P w H h → H q = some (.tup (kv k)) → (nestedKind P w).is h (kk k) q
def ruleT : TK Rule where
  kk := ruleK
  kv := ruleV
  inj := fun _ _ e => ruleK_inj e
  is := fun ok e => rule_is ok e
def pairK (p : Node × Node) : NestedKey := .tup [endK p.1, endK p.2]
def pairV (p : Node × Node) : List V := [endV p.1, endV p.2]
def pairT : TK (Node × Node) where
  kk := pairK
  kv := pairV
  inj := fun a b e => by
    unfold pairK at e
    injection e with e
    injection e with e1 e
    injection e with e2 e
    exact Prod.ext (endK_inj e1) (endK_inj e2)
  is := fun {P w H h q k} ok e => by
    obtain ⟨_, its, rel, o, h1, h2, n, h3⟩ := (show ObjOk P w H h q (.tup (pairV k)) from ok q _ e)
    refine ⟨?_, by simp [pairK, NestedKey.depth, NestedKey.depthAll, endK_depth]⟩
    refine NestedIs.tup h1 h2 h3 ?_
    rw [List.toList_toArray]
    cases rel with
    | cons r1 t1 =>
      cases t1 with
      | cons r2 t2 =>
        cases t2
        exact .cons (endK_is r1) (.cons (endK_is r2) .nil)
section
variable {κ : Type} [DecidableEq κ]
abbrev TKs (τ : TK κ) : List (κ × Addr × V) → List (NestedKey × Addr × Value) → Prop := Paired fun p q => τ.kk p.1 = q.1 ∧ p.2.1 = q.2.1 ∧ RelV p.2.2 q.2.2
structure TdAt (τ : TK κ) (P : Program) (w : World) (h : Heap) (d : Addr) (L : List (κ × Addr × V)) : Prop where
  lo : (d == sysModules) = false
  sz : L.length ≤ sizeLine
  raw : ∃ xs, TKs τ L xs ∧ ∃ o es ep, h.get? d = some o ∧ o.ExactDict ∧ o.data = .dict es ep ∧ es.toList = xs.map (entryOfKey (nestedKind P w))
  nd : (L.map (·.1)).Nodup
/-- a dict whose keys are such tuples -/
def tdO (τ : TK κ) (P : Program) (w : World) (d : Addr) (L : List (κ × Addr × V)) : HO := .ext fun h => TdAt τ P w h d L
/-- the keys' own tuples -/
def KeysT (τ : TK κ) (H : Hp) (L : List (κ × Addr × V)) : Prop := ∀ p ∈ L, H p.2.1 = some (.tup (τ.kv p.1))
theorem KeysT.same {τ : TK κ} {H H' : Hp} {L : List (κ × Addr × V)} (k : KeysT τ H L) (s : ∀ b xs, H b = some (.tup xs) → H' b = some (.tup xs)) : KeysT τ H' L := fun p hp => s _ _ (k p hp)
/-- a store: the first key's tuple stays -/
def ptT {β : Type} (L : List (κ × Addr × β)) (k : κ) (q : Addr) (v : β) : List (κ × Addr × β) :=
  if (L.any fun p => decide (p.1 = k)) = true then L.map (fun p => if p.1 = k then (p.1, p.2.1, v) else p) else L ++ [(k, q, v)]
/-- keys and values alone -/
def bare {β : Type} (L : List (κ × Addr × β)) : List (κ × β) := L.map fun p => (p.1, p.2.2)
theorem bare_ptT {β : Type} (L : List (κ × Addr × β)) (k : κ) (q : Addr) (v : β) : bare (ptT L k q v) = pt (bare L) k v := by
  unfold ptT pt bare
  have e : ((L.map fun p => (p.1, p.2.2)).any fun p => decide (p.1 = k)) = L.any fun p => decide (p.1 = k) := by
    rw [List.any_map]
    rfl
  rw [e]
  split
  · rw [List.map_map, List.map_map]
    refine List.map_congr_left fun p _ => ?_
    show (fun p : κ × Addr × β => (p.1, p.2.2)) (if p.1 = k then (p.1, p.2.1, v) else p) = if p.1 = k then (p.1, v) else (p.1, p.2.2)
    by_cases h : p.1 = k
    · rw [if_pos h, if_pos h]
    · rw [if_neg h, if_neg h]
  · rw [List.map_append]
    rfl
theorem KeysT.put {τ : TK κ} {H : Hp} {L : List (κ × Addr × V)} {k : κ} {q : Addr} {v : V} (kt : KeysT τ H L) (hq : H q = some (.tup (τ.kv k))) : KeysT τ H (ptT L k q v) := by
  unfold ptT
  split
  · intro p hp
    obtain ⟨y, hy, rfl⟩ := List.mem_map.mp hp
    by_cases e : y.1 = k
    · rw [if_pos e]
      exact kt y hy
    · rw [if_neg e]
      exact kt y hy
  · intro p hp
    rcases List.mem_append.mp hp with hp | hp
    · exact kt p hp
    · rw [List.mem_singleton.mp hp]
      exact hq
theorem ptT_len {β : Type} {L : List (κ × Addr × β)} {k : κ} {q : Addr} {v : β} : (ptT L k q v).length ≤ L.length + 1 := by
  unfold ptT
  split
  · rw [List.length_map]
    omega
  · rw [List.length_append, List.length_singleton]
    omega
theorem ptT_nodup {β : Type} {L : List (κ × Addr × β)} {k : κ} {q : Addr} {v : β} (nd : (L.map (·.1)).Nodup) : ((ptT L k q v).map (·.1)).Nodup := by
  unfold ptT
  split
  · rw [List.map_map]
    rw [show ((fun x : κ × Addr × β => x.1) ∘ fun p : κ × Addr × β => if p.1 = k then (p.1, p.2.1, v) else p) = fun p : κ × Addr × β => p.1 from by
      funext p
      show (if p.1 = k then (p.1, p.2.1, v) else p).1 = p.1
      split <;> rfl]
    exact nd
  · rename_i e
    rw [List.map_append]
    refine List.nodup_append.mpr ⟨nd, by simp, fun a ha b hb => ?_⟩
    have hb' : b = k := by simpa using hb
    subst hb'
    intro z
    subst z
    obtain ⟨p, hp, hp2⟩ := List.mem_map.mp ha
    exact e (List.any_eq_true.mpr ⟨p, hp, decide_eq_true hp2⟩)
section
variable {P : Program} {w : World} {H : Hp} {h : Heap} {d : Addr} {τ : TK κ} {L : List (κ × Addr × V)}
theorem tdO_ok (R : TdAt τ P w h d L) : ObjOk P w H h d (tdO τ P w d L) := by
  refine ⟨R, ?_, fun h1 h2 R1 k => ?_⟩
  · obtain ⟨xs, _, o, _, _, e, _⟩ := R.raw
    exact ⟨o, e⟩
  · obtain ⟨xs, r, o, es, ep, e, c⟩ := R1.raw
    exact ⟨R1.lo, R1.sz, ⟨xs, r, o, es, ep, k o e, c⟩, R1.nd⟩
theorem td_at (ok : HOk P w H h) (e : H d = some (tdO τ P w d L)) : TdAt τ P w h d L := (ok d _ e).1
theorem tks_keys {xs : List (NestedKey × Addr × Value)} (r : TKs τ L xs) : xs.map (·.1) = L.map fun p => τ.kk p.1 := by
  induction r with
  | nil => rfl
  | cons hd tl ih => rw [List.map_cons, List.map_cons, ih, hd.1]
theorem TdAt.full (ok : HOk P w H h) (R : TdAt τ P w h d L) (k : KeysT τ H L) : ∃ xs, TKs τ L xs ∧ h.DictOfH (nestedKind P w) d xs := by
  obtain ⟨xs, r, o, es, ep, e, x, dd, en⟩ := R.raw
  refine ⟨xs, r, o, es, ep, e, x, dd, en, ?_, ?_⟩
  · clear en
    have nd := R.nd
    clear R e x dd
    induction r with
    | nil => intro y hy; exact nomatch hy
    | @cons p q ps qs hd tl ih =>
      intro y hy
      rcases List.mem_cons.mp hy with rfl | hy
      · rw [← hd.1, ← hd.2.1]
        exact τ.is ok (k _ List.mem_cons_self)
      · exact ih (fun z hz => k z (List.mem_cons_of_mem _ hz)) (List.nodup_cons.mp nd).2 y hy
  · rw [tks_keys r, show (fun p : κ × Addr × V => τ.kk p.1) = τ.kk ∘ (fun p : κ × Addr × V => p.1) from rfl, ← List.map_map]
    exact List.Pairwise.map τ.kk (fun a b hab z => hab (τ.inj a b z)) R.nd
theorem tks_get {xs : List (NestedKey × Addr × Value)} (r : TKs τ L xs) (k : κ) : RelO (lk (bare L) k) ((atKey xs (τ.kk k)).map (·.2)) := by
  induction r with
  | nil => exact True.intro
  | @cons p q ps qs hd tl ih =>
    obtain ⟨h1, _, h2⟩ := hd
    show RelO (lk ((p.1, p.2.2) :: bare ps) k) _
    rw [lk_cons]
    by_cases e : p.1 = k
    · rw [if_pos e]
      have e' : q.1 = τ.kk k := by rw [← h1, e]
      have b : atKey (q :: qs) (τ.kk k) = some q.2 := by simp [atKey, List.find?_cons, e']
      rw [b]
      exact h2
    · rw [if_neg e]
      have e' : ¬ q.1 = τ.kk k := fun z => e (τ.inj _ _ (h1.trans z))
      have b : atKey (q :: qs) (τ.kk k) = atKey qs (τ.kk k) := by simp [atKey, List.find?_cons, e']
      rw [b]
      exact ih
theorem tks_put {xs : List (NestedKey × Addr × Value)} (r : TKs τ L xs) (k : κ) {q : Addr} {v : V} {u : Value} (rv : RelV v u) : TKs τ (ptT L k q v) (storedH xs (τ.kk k) q u) := by
  have e : (L.any fun p => decide (p.1 = k)) = (atKey xs (τ.kk k)).isSome := by
    have z := (tks_get r k).isSome_eq
    rw [Option.isSome_map] at z
    rw [← z, ← lk_any, show bare L = L.map fun p => (p.1, p.2.2) from rfl, List.any_map]
    rfl
  unfold ptT storedH
  rw [e]
  split
  · rename_i hh
    clear e hh
    induction r with
    | nil => exact .nil
    | @cons p y ps ys hd tl ih =>
      obtain ⟨h1, h2, h3⟩ := hd
      refine .cons ?_ ih
      unfold putAt
      dsimp only
      by_cases c : p.1 = k
      · rw [if_pos c, if_pos (show y.1 = τ.kk k by rw [← h1, c])]
        exact ⟨h1, h2, rv⟩
      · rw [if_neg c, if_neg fun z => c (τ.inj _ _ (h1.trans z))]
        exact ⟨h1, h2, h3⟩
  · exact Paired.snoc r ⟨rfl, rfl, rv⟩
end
section
variable {P : Program} {w : World} {H : Hp} {h : Heap} {d : Addr} {L : List (Node × V)}
theorem ndO_ok (R : NdAt P w h d L) : ObjOk P w H h d (ndO P w d L) := by
  refine ⟨R, ?_, fun h1 h2 R1 k => ?_⟩
  · obtain ⟨vs, _, o, _, _, e, _⟩ := R.raw
    exact ⟨o, e⟩
  · obtain ⟨vs, r, o, es, ep, e, c⟩ := R1.raw
    exact ⟨R1.lo, R1.sz, ⟨vs, r, o, es, ep, k o e, c⟩⟩
theorem nd_at (ok : HOk P w H h) (e : H d = some (ndO P w d L)) : NdAt P w h d L := (ok d _ e).1
theorem NdAt.get {vs : List (Option Key × Value)} (r : KV (nkL L) vs) (k : Node) : RelO (lk L k) (valueAt vs (nk k)) := by
  rw [← nkL_get]
  exact r.val (nk k)
end
end

/-! ### what such a dict holds, what it holds behind a store -/
def NGet (P : Program) (w : World) (H : Hp) (a : Addr) (y : V) (o : Option V) : Prop :=
  (∃ L k, H a = some (ndO P w a L) ∧ y = endV k ∧ o = lk L k) ∨ ∃ (κ : Type) (_ : DecidableEq κ) (τ : TK κ) (L : List (κ × Addr × V)) (k : κ) (b : Addr), H a = some (tdO τ P w a L) ∧ KeysT τ H L ∧ y = .ref b ∧ H b = some (.tup (τ.kv k)) ∧ o = lk (bare L) k
def NPut (P : Program) (w : World) (H : Hp) (a : Addr) (y v : V) (H' : Hp) : Prop :=
  (∃ L k, H a = some (ndO P w a L) ∧ y = endV k ∧ L.length < sizeLine ∧ H' = upd H a (ndO P w a (pt L k v))) ∨
  ∃ (κ : Type) (_ : DecidableEq κ) (τ : TK κ) (L : List (κ × Addr × V)) (k : κ) (b : Addr), H a = some (tdO τ P w a L) ∧ KeysT τ H L ∧ y = .ref b ∧ H b = some (.tup (τ.kv k)) ∧ L.length < sizeLine ∧ H' = upd H a (tdO τ P w a (ptT L k b v))
theorem NGet.n {P : Program} {w : World} {H : Hp} {a : Addr} {L : List (Node × V)} {k : Node} (e : H a = some (ndO P w a L)) : NGet P w H a (endV k) (lk L k) := .inl ⟨L, k, e, rfl, rfl⟩
theorem NGet.t {κ : Type} [i : DecidableEq κ] {P : Program} {w : World} {H : Hp} {a b : Addr} {τ : TK κ} {L : List (κ × Addr × V)} {k : κ} (e : H a = some (tdO τ P w a L)) (kt : KeysT τ H L) (hb : H b = some (.tup (τ.kv k))) : NGet P w H a (.ref b) (lk (bare L) k) :=
  .inr ⟨κ, i, τ, L, k, b, e, kt, rfl, hb, rfl⟩
theorem NPut.n {P : Program} {w : World} {H : Hp} {a : Addr} {L : List (Node × V)} {k : Node} {v : V} (e : H a = some (ndO P w a L)) (hl : L.length < sizeLine) : NPut P w H a (endV k) v (upd H a (ndO P w a (pt L k v))) := .inl ⟨L, k, e, rfl, hl, rfl⟩
theorem NPut.t {κ : Type} [i : DecidableEq κ] {P : Program} {w : World} {H : Hp} {a b : Addr} {τ : TK κ} {L : List (κ × Addr × V)} {k : κ} {v : V} (e : H a = some (tdO τ P w a L)) (kt : KeysT τ H L) (hb : H b = some (.tup (τ.kv k))) (hl : L.length < sizeLine) : NPut P w H a (.ref b) v (upd H a (tdO τ P w a (ptT L k b v))) :=
  .inr ⟨κ, i, τ, L, k, b, e, kt, rfl, hb, hl, rfl⟩
theorem nested_in1 {P : Program} {w : World} {A : Around} (hu : A.units + 9 < cLine) : (nestedKind P w).room A.in1 := by
  show A.in1.units + 8 < cLine
  have : A.in1.units ≤ A.units + 1 := by first | exact Nat.le_refl _ | (unfold Around.in1; simp) | decide
  omega
section
variable {X : Cx} {pins : List (Addr × Obj)} {σ : L2.St} {H : Hp} {s : Shared} {a : Addr} {y v : V} {u r : Value} {o : Option V} {A : Around} {E : Value → Shared → Prop}
theorem n_get {Q : Value → Shared → Prop} (hu : A.units + 9 < cLine) (I : Inv X pins σ H s) (g : NGet X.prog X.w H a y (some v)) (ry : RelV y u) (h : ∀ w' s', Inv X pins σ H s' → RelV v w' → Q w' s') :
    wpAny (model X.prog X.w) A (getItem (.ref a) u) Q E s := by
  rcases g with ⟨L, k, e, ey, l⟩ | ⟨κ, _, τ, L, k, b, e, kt, ey, eb, l⟩
  · subst ey
    have R := nd_at I.hok e
    obtain ⟨vs, rel, dd⟩ := R.raw
    obtain ⟨w', hw, rw'⟩ := RelO.some_of (v := v) (o := valueAt vs (nk k)) (by rw [l]; exact NdAt.get rel k)
    exact wpAny_getItem_of (nk_is ry) dd.mapOf hw (h w' _ (I.tok _) rw')
  · subst ey
    cases (show u = Value.ref b from ry)
    have R := td_at I.hok e
    obtain ⟨xs, rel, dd⟩ := R.full I.hok kt
    obtain ⟨w', hw, rw'⟩ := RelO.some_of (v := v) (o := (atKey xs (τ.kk k)).map (·.2)) (by rw [l]; exact tks_get rel k)
    obtain ⟨p, hp, hp2⟩ := Option.map_eq_some_iff.mp hw
    refine wpAny_getItem_heap (nested_in1 hu) (τ.is I.hok eb) dd hp ?_
    rw [hp2]
    exact h w' _ (I.tok _) rw'
theorem n_in {Q : Value → Shared → Prop} (hu : A.units + 9 < cLine) (I : Inv X pins σ H s) (g : NGet X.prog X.w H a y o) (ry : RelV y u) (h : ∀ s', Inv X pins σ H s' → Q (.bool o.isSome) s') :
    wpAny (model X.prog X.w) A (compareOp .In u (.ref a)) Q E s := by
  rcases g with ⟨L, k, e, ey, l⟩ | ⟨κ, _, τ, L, k, b, e, kt, ey, eb, l⟩
  · subst ey
    have R := nd_at I.hok e
    obtain ⟨vs, rel, dd⟩ := R.raw
    refine wpAny_in_of (nk_is ry) R.lo dd.mapOf ?_
    rw [← (NdAt.get rel k).isSome_eq, ← l]
    exact h _ (I.tok _)
  · subst ey
    cases (show u = Value.ref b from ry)
    have R := td_at I.hok e
    obtain ⟨xs, rel, dd⟩ := R.full I.hok kt
    refine wpAny_in_heap (nested_in1 hu) (τ.is I.hok eb) R.lo dd ?_
    have q := (tks_get rel k).isSome_eq
    rw [Option.isSome_map] at q
    rw [← q, ← l]
    exact h _ (I.tok _)
theorem n_notIn {Q : Value → Shared → Prop} (hu : A.units + 9 < cLine) (I : Inv X pins σ H s) (g : NGet X.prog X.w H a y o) (ry : RelV y u) (h : ∀ s', Inv X pins σ H s' → Q (.bool (!o.isSome)) s') :
    wpAny (model X.prog X.w) A (compareOp .NotIn u (.ref a)) Q E s := by
  rcases g with ⟨L, k, e, ey, l⟩ | ⟨κ, _, τ, L, k, b, e, kt, ey, eb, l⟩
  · subst ey
    have R := nd_at I.hok e
    obtain ⟨vs, rel, dd⟩ := R.raw
    refine wpAny_notIn_of (nk_is ry) R.lo dd.mapOf ?_
    rw [← (NdAt.get rel k).isSome_eq, ← l]
    exact h _ (I.tok _)
  · subst ey
    cases (show u = Value.ref b from ry)
    have R := td_at I.hok e
    obtain ⟨xs, rel, dd⟩ := R.full I.hok kt
    refine wpAny_notIn_heap (nested_in1 hu) (τ.is I.hok eb) R.lo dd ?_
    have q := (tks_get rel k).isSome_eq
    rw [Option.isSome_map] at q
    rw [← q, ← l]
    exact h _ (I.tok _)
theorem n_set {H' : Hp} {Q : Unit → Shared → Prop} (hu : A.units + 9 < cLine) (I : Inv X pins σ H s) (g : NPut X.prog X.w H a y v H') (ry : RelV y u) (rv : RelV v r) (h : ∀ s', Inv X pins σ H' s' → Q () s') :
    wpAny (model X.prog X.w) A (setItem (.ref a) u r) Q E s := by
  rcases g with ⟨L, k, e, ey, l, eH⟩ | ⟨κ, _, τ, L, k, b, e, kt, ey, eb, l, eH⟩
  · subst ey eH
    have R := nd_at I.hok e
    obtain ⟨vs, rel, dd⟩ := R.raw
    have hn : (nkL L).length = L.length := by unfold nkL; rw [List.length_map]
    have hz : vs.length ≤ sizeLine := by rw [← rel.length, hn]; exact R.sz
    refine wpAny_setItem_pairs (hsz := hz) (nk_is ry) dd fun h' dd' hs => h _ ?_
    have he : ∃ q, h'.get? a = some q := let ⟨q, _, _, hq, _⟩ := dd'; ⟨q, hq⟩
    refine d_write I (by rw [e]; exact True.intro) hs he (ndO_ok ⟨R.lo, Nat.le_trans pt_len l, _, ?_, dd'⟩)
    rw [← nkL_put]
    exact rel.put (nk k) rv
  · subst ey eH
    cases (show u = Value.ref b from ry)
    have R := td_at I.hok e
    obtain ⟨xs, rel, dd⟩ := R.full I.hok kt
    have hz : xs.length ≤ sizeLine := by rw [← Paired.length rel]; exact R.sz
    refine wpAny_setItem_heap (hsz := hz) (nested_in1 hu) (τ.is I.hok eb) dd fun h' dd' hs => h _ ?_
    obtain ⟨q, es, ep, hq, h2, h3, h4, _, h5⟩ := dd'
    exact d_write I (by rw [e]; exact True.intro) hs ⟨q, hq⟩ (tdO_ok ⟨R.lo, Nat.le_trans ptT_len l, ⟨_, tks_put rel k rv, q, es, ep, hq, h2, h3, h4⟩, ptT_nodup R.nd⟩)
theorem n_type (I : Inv X pins σ H s) (g : NGet X.prog X.w H a y o) : s.TypeIs (.ref a) "dict" ∧ (∀ b, Value.ref a = .ref b → ∃ ob, s.heap.get? b = some ob ∧ ob.dict = none) := by
  rcases g with ⟨L, k, e, ey, l⟩ | ⟨κ, _, τ, L, k, b, e, kt, ey, eb, l⟩
  · obtain ⟨vs, rel, dd⟩ := (nd_at I.hok e).raw
    refine ⟨dd.typeIs, fun b q => ?_⟩
    cases q
    obtain ⟨ob, _, _, h1, h2, _⟩ := dd
    exact ⟨ob, h1, h2.2.1⟩
  · obtain ⟨xs, rel, dd⟩ := (td_at I.hok e).full I.hok kt
    refine ⟨dd.typeIs, fun b q => ?_⟩
    cases q
    obtain ⟨ob, _, _, h1, h2, _⟩ := dd
    exact ⟨ob, h1, h2.2.1⟩
end
/-! ### the rules -/
theorem tailD {prog : Program} {w : World} {A : Around} {E : Value → Shared → Prop} {s : Shared} {value slice : Expr} {ov iv : Value} {T id : String} {Q : Value → Shared → Prop} (hT : s.TypeIs ov T) (hl : typeLookup (.type T) "__getitem__" = pure (some (.builtin id)))
    (hs : subscripted slice false ov iv = operate [ov, iv] (getItem ov iv)) (h : wpAny (model prog w) A (getItem ov iv) Q E s) : wpAny (model prog w) A (subscriptTail value slice ov iv) Q E s := by
  unfold subscriptTail
  refine wpAny_bind ?_
  rw [getitemInPython_of_ne hT.not_modules]
  refine wpAny_bind (wpAny_specialOf hT hl ?_)
  have z : wpAny (model prog w) A (subscripted slice false ov iv) (fun x s' => wpAny (model prog w) A (letTemporaryGo value ov x >>= fun _ => pure x) Q E s') E s := by
    rw [hs]
    exact wpAny_operating (wpAny_mono h (fun x s' h' => wpAny_bind (wpAny_letTemporaryGo (wpAny_pure h'))) fun _ _ q => q)
  first
    | exact wpAny_pure (wpAny_bind z)
    | exact wpAny_bind (wpAny_pure (wpAny_bind z))
    | exact wpAny_bind z
def rNGet (P : Program) (w : World) : R2 := fun x y H Q => ∃ a v, x = .ref a ∧ NGet P w H a y (some v) ∧ Q v H
def rNIn (P : Program) (w : World) : R2 := fun y x H Q => ∃ a o, x = .ref a ∧ NGet P w H a y o ∧ Q (.bl o.isSome) H
def rNNotIn (P : Program) (w : World) : R2 := fun y x H Q => ∃ a o, x = .ref a ∧ NGet P w H a y o ∧ Q (.bl (!o.isSome)) H
section
variable {X : Cx} {P : Program} {w : World}
theorem ix_nd (hu : X.A.units + 9 < cLine) (hP : X.prog = P := by rfl) (hw : X.w = w := by rfl) : IxR X (rNGet P w) := by
  subst hP hw
  intro value slice pins s σ H x y v u Q I rx ry h hs
  obtain ⟨a, z, rfl, g, q⟩ := h
  cases rx
  exact tailD (n_type I g).1 PySem.F.slot_dict_getitem.lookup hs (n_get hu I g ry fun w' s' I' rw' => ⟨z, H, I', rw', q⟩)
theorem op_inNd (hu : X.A.units + 9 < cLine) (hP : X.prog = P := by rfl) (hw : X.w = w := by rfl) : OpR X (compareOp .In) (rNIn P w) := by
  subst hP hw
  intro pins s σ H y x u v Q I ry rx h
  obtain ⟨a, o, rfl, g, q⟩ := h
  cases rx
  exact n_in hu I g ry fun s' I' => ⟨.bl o.isSome, H, I', rfl, q⟩
theorem op_notInNd (hu : X.A.units + 9 < cLine) (hP : X.prog = P := by rfl) (hw : X.w = w := by rfl) : OpR X (compareOp .NotIn) (rNNotIn P w) := by
  subst hP hw
  intro pins s σ H y x u v Q I ry rx h
  obtain ⟨a, o, rfl, g, q⟩ := h
  cases rx
  exact n_notIn hu I g ry fun s' I' => ⟨.bl (!o.isSome), H, I', rfl, q⟩
/-- d[k] = v, by values -/
theorem set_nd (hu : X.A.units + 9 < cLine) (hP : X.prog = P := by rfl) (hw : X.w = w := by rfl) : PSet X (fun x y v H Q => ∃ a H', x = .ref a ∧ NPut P w H a y v H' ∧ Q H') := by
  subst hP hw
  intro pins s σ H x y v ov iv u Q I rx ry rv h
  obtain ⟨a, H', rfl, g, q⟩ := h
  cases rx
  exact n_set hu I g ry rv fun s' I' => ⟨H', I', q⟩
end
/-- such a dict stands at a -/
def IsN (P : Program) (w : World) (H : Hp) (a : Addr) : Prop := (∃ L, H a = some (ndO P w a L)) ∨ ∃ (κ : Type) (_ : DecidableEq κ) (τ : TK κ) (L : List (κ × Addr × V)), H a = some (tdO τ P w a L)
theorem IsN.n {P : Program} {w : World} {H : Hp} {a : Addr} {L : List (Node × V)} (h : H a = some (ndO P w a L)) : IsN P w H a := .inl ⟨L, h⟩
theorem IsN.t {κ : Type} [i : DecidableEq κ] {P : Program} {w : World} {H : Hp} {a : Addr} {τ : TK κ} {L : List (κ × Addr × V)} (h : H a = some (tdO τ P w a L)) : IsN P w H a := .inr ⟨κ, i, τ, L, h⟩
theorem isN_type {X : Cx} {pins : List (Addr × Obj)} {σ : L2.St} {H : Hp} {s : Shared} {a : Addr} (I : Inv X pins σ H s) (g : IsN X.prog X.w H a) : s.TypeIs (.ref a) "dict" ∧ (∀ b, Value.ref a = .ref b → ∃ ob, s.heap.get? b = some ob ∧ ob.dict = none) := by
  rcases g with ⟨L, e⟩ | ⟨κ, _, τ, L, e⟩
  · obtain ⟨vs, rel, dd⟩ := (nd_at I.hok e).raw
    refine ⟨dd.typeIs, fun b q => ?_⟩
    cases q
    obtain ⟨ob, _, _, h1, h2, _⟩ := dd
    exact ⟨ob, h1, h2.2.1⟩
  · obtain ⟨xs, r, o, es, ep, c1, c2, c3, c4⟩ := (td_at I.hok e).raw
    refine ⟨⟨o, c1, c2.1⟩, fun b q => ?_⟩
    cases q
    exact ⟨o, c1, c2.2.1⟩
/-- d.get(k), d.get(k, x) -/
def tNGet1 (P : Program) (w : World) (td ty : TE) : TE := fun σ H Q => td σ H fun x H1 => ∃ a, x = .ref a ∧ IsN P w H1 a ∧ ty σ H1 fun y H2 => ∃ o, NGet P w H2 a y o ∧ Q (o.getD .non) H2
def tNGet2 (P : Program) (w : World) (td ty tx : TE) : TE := fun σ H Q => td σ H fun x H1 => ∃ a, x = .ref a ∧ IsN P w H1 a ∧ ty σ H1 fun y H2 => tx σ H2 fun z H3 => ∃ o, NGet P w H3 a y o ∧ Q (o.getD z) H3
section
variable {X : Cx} {pins : List (Addr × Obj)} {σ : L2.St} {H : Hp} {s : Shared} {a : Addr} {y d : V} {u r : Value} {o : Option V} {A : Around} {E : Value → Shared → Prop}
theorem n_get1 {Q : Value → Shared → Prop} (hu : A.units + 9 < cLine) (I : Inv X pins σ H s) (g : NGet X.prog X.w H a y o) (ry : RelV y u) (h : ∀ w' s', Inv X pins σ H s' → RelV (o.getD .non) w' → Q w' s') :
    wpAny (model X.prog X.w) A (call (.builtin "dict.get") [.ref a, u]) Q E s := by
  rcases g with ⟨L, k, e, ey, l⟩ | ⟨κ, _, τ, L, k, b, e, kt, ey, eb, l⟩
  · subst ey
    have R := nd_at I.hok e
    obtain ⟨vs, rel, dd⟩ := R.raw
    refine call_meetsIn PySem.F.slot_dict_get dd.typeIs PySem.F.entry_dict_get (PySem.F.args_dict_get_2 _ _) (meets_dict_get (noneKind X.prog X.w) a (nk_is ry) R.lo) ⟨_, dd.mapOf, h _ _ (I.tok _) ?_⟩
    rw [l]
    exact (NdAt.get rel k).getD rfl
  · subst ey
    cases (show u = Value.ref b from ry)
    have R := td_at I.hok e
    obtain ⟨xs, rel, dd⟩ := R.full I.hok kt
    refine call_meetsIn PySem.F.slot_dict_get dd.typeIs PySem.F.entry_dict_get (PySem.F.args_dict_get_2 _ _) (meetsH_dict_get (nestedKind X.prog X.w) a b R.lo) ⟨nested_in1 hu, τ.kk k, xs, τ.is I.hok eb, dd, h _ _ (I.tok _) ?_⟩
    rw [l]
    exact (tks_get rel k).getD rfl
theorem n_get2 {Q : Value → Shared → Prop} (hu : A.units + 9 < cLine) (I : Inv X pins σ H s) (g : NGet X.prog X.w H a y o) (ry : RelV y u) (rd : RelV d r) (h : ∀ w' s', Inv X pins σ H s' → RelV (o.getD d) w' → Q w' s') :
    wpAny (model X.prog X.w) A (call (.builtin "dict.get") [.ref a, u, r]) Q E s := by
  rcases g with ⟨L, k, e, ey, l⟩ | ⟨κ, _, τ, L, k, b, e, kt, ey, eb, l⟩
  · subst ey
    have R := nd_at I.hok e
    obtain ⟨vs, rel, dd⟩ := R.raw
    refine call_meetsIn PySem.F.slot_dict_get dd.typeIs PySem.F.entry_dict_get (PySem.F.args_dict_get_3 _ _ _) (meets_dict_get_default (noneKind X.prog X.w) a (nk_is ry) R.lo r) ⟨_, dd.mapOf, h _ _ (I.tok _) ?_⟩
    rw [l]
    exact (NdAt.get rel k).getD rd
  · subst ey
    cases (show u = Value.ref b from ry)
    have R := td_at I.hok e
    obtain ⟨xs, rel, dd⟩ := R.full I.hok kt
    refine call_meetsIn PySem.F.slot_dict_get dd.typeIs PySem.F.entry_dict_get (PySem.F.args_dict_get_3 _ _ _) (meetsH_dict_get_default (nestedKind X.prog X.w) a b R.lo r) ⟨nested_in1 hu, τ.kk k, xs, τ.is I.hok eb, dd, h _ _ (I.tok _) ?_⟩
    rw [l]
    exact (tks_get rel k).getD rd
end
section
variable {X : Cx} {ob ke de : Expr} {apos cpos : Pos} {td ty tx : TE} {P : Program} {w : World}
theorem pe_nget1 (hu : X.A.units + 9 < cLine) (ho : PE X ob td) (he : PE X ke ty) (m : M1 X ob "get" apos ke cpos) (hP : X.prog = P := by rfl) (hw : X.w = w := by rfl) : PE X (.Call (.Attribute ob "get" apos) [ke] [] cpos) (tNGet1 P w td ty) := by
  subst hP hw
  refine ⟨fun pins s σ H Q I h => ?_⟩
  refine wpAny_Call_method m.base m.few m.line PySem.F.plainAttrs_dict PySem.F.slot_dict_get PySem.F.type_dict_get (thn (ho.run pins s σ H _ I h) ?_)
  rintro u s1 ⟨x, H1, I1, rx, a, rfl, g0, q1⟩
  cases rx
  obtain ⟨t1, t2⟩ := isN_type I1 g0
  refine ⟨t1, t2, ?_⟩
  rw [m.trees]
  refine Calls.callWith_builtin rfl (Calls.evalArgs_plain (Calls.spliced_cons (thn (he.run pins s1 σ H1 _ I1 q1) ?_)))
  rintro iv s2 ⟨y, H2, I2, ry, o, g, q2⟩
  exact Calls.spliced_nil (n_get1 hu I2 g ry fun w' s3 I3 rw' => ⟨_, H2, I3, rw', q2⟩)
theorem pe_nget2 (hu : X.A.units + 9 < cLine) (ho : PE X ob td) (he : PE X ke ty) (hd : PE X de tx) (m : M2 X ob "get" apos ke de cpos) (hP : X.prog = P := by rfl) (hw : X.w = w := by rfl) : PE X (.Call (.Attribute ob "get" apos) [ke, de] [] cpos) (tNGet2 P w td ty tx) := by
  subst hP hw
  refine ⟨fun pins s σ H Q I h => ?_⟩
  refine wpAny_Call_method m.base m.few m.line PySem.F.plainAttrs_dict PySem.F.slot_dict_get PySem.F.type_dict_get (thn (ho.run pins s σ H _ I h) ?_)
  rintro u s1 ⟨x, H1, I1, rx, a, rfl, g0, q1⟩
  cases rx
  obtain ⟨t1, t2⟩ := isN_type I1 g0
  refine ⟨t1, t2, ?_⟩
  rw [m.trees]
  refine Calls.callWith_builtin rfl (Calls.evalArgs_plain (Calls.spliced_cons (thn (he.run pins s1 σ H1 _ I1 q1) ?_)))
  rintro iv s2 ⟨y, H2, I2, ry, q2⟩
  refine Calls.spliced_cons (thn (hd.run pins s2 σ H2 _ I2 q2) ?_)
  rintro dv s3 ⟨z, H3, I3, rz, o, g, q3⟩
  exact Calls.spliced_nil (n_get2 hu I3 g ry rz fun w' s4 I4 rw' => ⟨_, H3, I4, rw', q3⟩)
end
/-! ### {} -/
theorem nd_empty {P : Program} {w : World} (h : Heap) (hb : sysModules < h.objs.size) : NdAt P w (h.push { cls := .type "dict", data := .dict #[] }) h.objs.size [] :=
  ⟨beq_eq_false_iff_ne.mpr (Ne.symm (Nat.ne_of_lt hb)), Nat.zero_le _, [], .nil, Heap.DictOf.new h⟩
def tNdNew (P : Program) (w : World) : TE := fun _ H Q => ∀ p, H p = none → Q (.ref p) (upd H p (ndO P w p []))
theorem pe_ndNew {X : Cx} {pos : Pos} {P : Program} {w : World} (hP : X.prog = P := by rfl) (hw : X.w = w := by rfl) : PE X (.Dict [] [] pos) (tNdNew P w) := by
  subst hP hw
  refine ⟨fun pins s σ H Q I q => wpAny_Dict_empty ⟨.ref s.heap.objs.size, _, ?_, rfl, q _ (I.hok.fresh (Nat.le_refl _))⟩⟩
  exact I.laid (a := s.heap.objs.size) (o := ndO X.prog X.w s.heap.objs.size []) (t' := s.toks) (fun _ _ z => Heap.get?_push_of_some _ z) (Nat.le_refl _) (ndO_ok (nd_empty s.heap I.big))
end Wnd

/-! Windowsteps: dict comprehensions into dicts keyed by settings and the ground, or by tuples. -/
namespace Wnd
open PySem PySem.Spec PyProof.Rows L2
section
variable {X : Cx} {pins : List (Addr × Obj)} {σ : L2.St} {H : Hp} {s : Shared} {a : Addr} {y v : V} {u r : Value} {A : Around} {E : Value → Shared → Prop}
theorem n_dset {H' : Hp} {Q : Unit → Shared → Prop} (hu : A.units + 9 < cLine) (I : Inv X pins σ H s) (g : NPut X.prog X.w H a y v H') (ry : RelV y u) (rv : RelV v r) (h : ∀ s', Inv X pins σ H' s' → Q () s') :
    wpAny (model X.prog X.w) A (dictSet a u r) Q E s := by
  rcases g with ⟨L, k, e, ey, l, eH⟩ | ⟨κ, _, τ, L, k, b, e, kt, ey, eb, l, eH⟩
  · subst ey eH
    have R := nd_at I.hok e
    obtain ⟨vs, rel, dd⟩ := R.raw
    have hn : (nkL L).length = L.length := by unfold nkL; rw [List.length_map]
    have hz : vs.length ≤ sizeLine := by rw [← rel.length, hn]; exact R.sz
    refine wpAny_dictSet_pairs (hsz := hz) (nk_is ry) dd fun h' dd' hs => h _ ?_
    have he : ∃ q, h'.get? a = some q := let ⟨q, _, _, hq, _⟩ := dd'; ⟨q, hq⟩
    refine d_write I (by rw [e]; exact True.intro) hs he (ndO_ok ⟨R.lo, Nat.le_trans pt_len l, _, ?_, dd'⟩)
    rw [← nkL_put]
    exact rel.put (nk k) rv
  · subst ey eH
    cases (show u = Value.ref b from ry)
    have R := td_at I.hok e
    obtain ⟨xs, rel, dd⟩ := R.full I.hok kt
    have hz : xs.length ≤ sizeLine := by rw [← Paired.length rel]; exact R.sz
    refine wpAny_dictSet_heap (hsz := hz) (show (nestedKind X.prog X.w).room A from Nat.lt_of_le_of_lt (Nat.add_le_add_left (by decide) _) hu) (τ.is I.hok eb) dd fun h' dd' hs => h _ ?_
    obtain ⟨q, es, ep, hq, h2, h3, h4, _, h5⟩ := dd'
    exact d_write I (by rw [e]; exact True.intro) hs ⟨q, hq⟩ (tdO_ok ⟨R.lo, Nat.le_trans ptT_len l, ⟨_, tks_put rel k rv, q, es, ep, hq, h2, h3, h4⟩, ptT_nodup R.nd⟩)
end
section
variable {X : Cx}
/-- what the comprehension asks: D is the new dict -/
def tDcN (P : Program) (w : World) (emp : Addr → HO) (wi : TI) (g : TG) (tt : TT) (tk tv : TE) (vs : List Nat) : TE := fun σ H Q => wi σ H fun J H1 =>
  ∀ D, H1 D = none → ∃ W : Nat → Nat → Hp → Prop, (∃ m, W 0 m (upd H1 D (emp D))) ∧ ∀ i m Hi, W i m Hi →
    (J.stop i Hi ∧ Q (.ref D) Hi) ∨ (J.go i Hi ∧ ∃ Nx : Hp → Prop, (∀ Hn, Nx Hn → ∃ m', m' < m ∧ W (i + 1) m' Hn) ∧
      ∀ x Hx, J.yld i Hi x Hx → g x (wipe σ vs) Hx fun σ2 H2 => wipe σ2 vs = wipe σ vs ∧ tt σ2 H2 fun b H3 =>
        if b = true then tk σ2 H3 fun y H4 => tv σ2 H4 fun z H5 => ∃ H6, NPut P w H5 D y z H6 ∧ Nx H6 else Nx H3)
/-- the block's keys may be laid down while D stands -/
theorem dcN_core {pins : List (Addr × Obj)} {s : Shared} {σ : L2.St} {H : Hp} {Q : VK} {kx vx tg iter : Expr} {ifs : List Expr} {scope : Scope} {own : List (Str × Nat)} {pos pos' : Pos} {wi : TI} {g : TG} {tt : TT} {tk tv : TE} {emp : Addr → HO}
    {use : Option (Value → Sem Unit)} {Qf : Value → Shared → Prop} (room : X.A.units + 9 < cLine) (hemp : ∀ {H : Hp} (h : Heap), sysModules < h.objs.size → ObjOk X.prog X.w H (h.push { cls := .type "dict", data := .dict #[] }) h.objs.size (emp h.objs.size)) (calm : X.calm = true) (nd : X.N.Nodup) (I : Inv X pins σ H s) (hi : PI X tg iter wi) (ok : BlkOk X.N X.env.scope scope own)
    (hg : ∀ (s : Shared) (H : Hp) (C : Addr) (cl : List (Str × Addr)) (fp : List Addr), PG (X.blk s H scope (compEnvC scope cl C X.env) fp) tg g)
    (ht : ∀ (s : Shared) (H : Hp) (C : Addr) (cl : List (Str × Addr)) (fp : List Addr), PTs (X.blk s H scope (compEnvC scope cl C X.env) fp) ifs tt)
    (hk : ∀ (s : Shared) (H : Hp) (C : Addr) (cl : List (Str × Addr)) (fp : List Addr), PE (X.blk s H scope (compEnvC scope cl C X.env) fp) kx tk)
    (hv : ∀ (s : Shared) (H : Hp) (C : Addr) (cl : List (Str × Addr)) (fp : List Addr), PE (X.blk s H scope (compEnvC scope cl C X.env) fp) vx tv)
    (plain : ∀ x, foldedSetIterable iter X.env x = pure x) (ask : tDcN X.prog X.w emp wi g tt tk tv (own.map (·.2)) σ H Q)
    (last : ∀ D C s' m H', Inv X pins σ H' s' → Q (.ref D) H' → s'.heap.Ns C m → FpOk X pins H' C → compPost (model X.prog X.w) X.A X.xe use Qf (.ref D) C (.ok .next) s') :
    wpAny (model X.prog X.w) X.A (comprehension (.DictComp kx vx [⟨tg, iter, ifs, 0⟩] scope pos) scope X.env pos' newDict false (eval iter X.env) use) Qf X.xe s := by
  have cells : ∀ y ∈ scope.names, y.2 = .free → ∃ c, X.env.cells.lookup y.1 = some c := by
    intro y hy e
    rcases ok.free y hy e with k | k
    · exact I.ok.has _ (.inl k)
    · exact I.ok.has _ (.inr k)
  refine wpAny_comprehension_free (use := use) rfl plain (closure_ok cells) ok.kind (fun y hy e => by rw [ok.uniq y hy, e]) (thn (hi.run pins s σ H _ I ask) ?_)
  intro xv s1 hx
  refine thn hx ?_
  rintro itv s2 ⟨it, fp, tn, J, Ha, rfl, I2, T, t0, fz, asks⟩
  refine wpAny_newObj_type (newEnv_comp ?_)
  generalize eD : s2.heap.objs.size = D
  have dNew : Ha D = none := I2.hok.fresh (Nat.le_of_eq eD)
  obtain ⟨W, ⟨m0, w0⟩, turn⟩ := asks D dNew
  -- the new dict is laid down
  generalize e3 : ({ s2 with heap := s2.heap.push { cls := .type "dict", data := .dict #[] } } : Shared) = s3
  have I3 : Inv X pins σ (upd Ha D (emp D)) s3 := by
    rw [← e3]
    refine I2.laid (t' := s2.toks) (fun b o e => Heap.get?_push_of_some _ e) (Nat.le_of_eq eD) ?_
    rw [← eD]
    exact hemp s2.heap I2.big
  have h3 : s3.heap = s2.heap.push { cls := .type "dict", data := .dict #[] } := by rw [← e3]
  have below : ∀ b ∈ fp, b < s2.heap.objs.size := by
    intro b hb
    obtain ⟨o, e, _⟩ := T.obj _ _ t0 b hb
    exact Heap.lt_size e
  have away : ∀ b ∈ fp, FpOk X pins (upd Ha D (emp D)) b ∧ b < s3.heap.objs.size := by
    intro b hb
    have lt := below b hb
    refine ⟨⟨?_, (fz b hb).2⟩, ?_⟩
    · rw [upd_ne (by rw [← eD]; exact Nat.ne_of_lt lt)]
      exact (fz b hb).1
    · rw [h3, Heap.size_push]
      exact Nat.lt_succ_of_lt lt
  have t3 : tn 0 s3.heap := T.keep _ _ _ t0 fun b _ o e => by
    rw [h3]
    exact Heap.get?_push_of_some _ e
  have I4 := block_start I3 ok nd away
  generalize eH : upd Ha D (emp D) = Hb at I3 I4 w0 away
  have pg := hg s3 Hb s3.heap.objs.size (cellsFrom (s3.heap.objs.size + 1) scope.names (cloFrom X.env.cells scope.names [])) fp
  have pk := hk s3 Hb s3.heap.objs.size (cellsFrom (s3.heap.objs.size + 1) scope.names (cloFrom X.env.cells scope.names [])) fp
  have pt := ht s3 Hb s3.heap.objs.size (cellsFrom (s3.heap.objs.size + 1) scope.names (cloFrom X.env.cells scope.names [])) fp
  have pv' := hv s3 Hb s3.heap.objs.size (cellsFrom (s3.heap.objs.size + 1) scope.names (cloFrom X.env.cells scope.names [])) fp
  generalize eE : compEnvC scope (cellsFrom (s3.heap.objs.size + 1) scope.names (cloFrom X.env.cells scope.names [])) s3.heap.objs.size X.env = be at I4 pg pk pt pv'
  show codeAny _ _ (.compStart (.DictComp kx vx [⟨tg, iter, ifs, 0⟩] scope pos) 0 (.ref it) (.ref D)
    (compEnvC scope (cellsFrom (s3.heap.objs.size + 1) scope.names (cloFrom X.env.cells scope.names [])) s3.heap.objs.size X.env))
    (compPost (model X.prog X.w) X.A X.xe use Qf (.ref D) s3.heap.objs.size) { s3 with heap := pushCells (s3.heap.push { cls := .type "dict", data := .dict #[] }) scope.names }
  rw [eE]
  have locs : be.locals = s3.heap.objs.size := by
    subst eE
    rfl
  have none0 : ∀ b ∈ fp, Hb b = none := fun b hb => (away b hb).1.1
  generalize e4 : ({ s3 with heap := pushCells (s3.heap.push { cls := .type "dict", data := .dict #[] }) scope.names } : Shared) = s4 at I4 ⊢
  have t4 : tn 0 s4.heap := T.keep _ _ _ t3 fun b _ o e => by
    rw [← e4]
    exact pushCells_keeps _ _ _ _ (Heap.get?_push_of_some _ e)
  have stat : ∀ {σ' : L2.St} {Hc : Hp} {s' : Shared}, Inv (X.blk s3 Hb scope be fp) [] σ' Hc s' → (∀ b ∈ fp, Hc b = none) → ∀ b ∈ fp, FpOk (X.blk s3 Hb scope be fp) [] Hc b := by
    intro σ' Hc s' J' hn b hb
    exact ⟨hn b hb, (J'.ok.exf b hb).1, J'.ok.exfs b hb, .inl hb, fun x c e => (J'.ok.exf b hb).2 x c e, fun p hp => absurd (show p ∈ ([] : List (Addr × Obj)) ++ [] from hp) (by simp)⟩
  have loop : codeAny (model X.prog X.w) X.A (.compLoop (.DictComp kx vx [⟨tg, iter, ifs, 0⟩] scope pos) 0 (.ref it) (.ref D) be) (compPost (model X.prog X.w) X.A X.xe use Qf (.ref D) s3.heap.objs.size) s4 := by
    refine compLoop_anyD (fun n s' => ∃ i Hc, Inv (X.blk s3 Hb scope be fp) [] (wipe σ (own.map (·.2))) Hc s' ∧ tn i s'.heap ∧ (∀ b ∈ fp, Hc b = none) ∧ W i n Hc) ?_ m0 ⟨0, Hb, I4, t4, none0, w0⟩
    rintro n s5 ⟨i, Hc, I5, t5, n5, w5⟩
    rcases turn i n Hc w5 with ⟨stop, fin⟩ | ⟨go, Nx, less, step⟩
    · refine thnF (T.done (X.blk s3 Hb scope be fp) rfl rfl rfl calm i [] s5 _ Hc (fun _ _ => False) I5 (stat I5 n5) t5 stop) ?_
      rintro r s6 ⟨rfl, I6⟩
      have I7 : Inv X pins σ Hc s6 := I3.call' (ch := fp) I6.os I6.base I6.hok I6.bare fun b hb => ⟨(away b hb).1.2.2.2.1, (away b hb).1.2.1, (away b hb).1.2.2.2.2.1, (away b hb).1.2.2.2.2.2⟩
      have nC : Hc s3.heap.objs.size = none := by
        have z : Hc be.locals = none := I6.free
        rw [locs] at z
        exact z
      obtain ⟨m, hn, _⟩ := I6.loc
      have hn : s6.heap.Ns be.locals m := hn
      rw [locs] at hn
      exact last D s3.heap.objs.size s6 m Hc I7 fin hn (I3.fpOk (Nat.le_refl _) nC)
    · refine thnF (T.item (X.blk s3 Hb scope be fp) rfl rfl rfl calm i [] s5 _ Hc (fun _ _ => False) I5 (stat I5 n5) t5 go) ?_
      rintro r s6 ⟨u, rfl, h6⟩
      refine thnF h6 ?_
      rintro _ s7 ⟨x, Hx, I7, r7, y7, t7, n7⟩
      have I7' := I7.pinned (stat I7 n7) (T.obj _ _ t7)
      refine thnF (pg.run _ s7 _ Hx x u _ I7' r7 (step x Hx y7)) ?_
      rintro _ s8 ⟨σ8, H8, I8, hw8, q8⟩
      refine thnF (pt.run _ s8 σ8 H8 _ I8 q8) ?_
      rintro b s9 ⟨H9, I9, q9⟩
      -- a turn is over
      have fin : ∀ {s' : Shared} {Hc' : Hp}, Inv (X.blk s3 Hb scope be fp) ([] ++ pinsAt fp s7.heap) σ8 Hc' s' → Nx Hc' → ∃ m, m < n ∧ ∃ i Hc, Inv (X.blk s3 Hb scope be fp) [] (wipe σ (own.map (·.2))) Hc s' ∧ tn i s'.heap ∧ (∀ b ∈ fp, Hc b = none) ∧ W i m Hc := by
        intro s' Hc' I12 nx
        obtain ⟨m', hm, w'⟩ := less _ nx
        have pinned : ∀ b ∈ fp, ∀ o, s7.heap.get? b = some o → s'.heap.get? b = some o ∧ Hc' b = none := by
          intro b hb o e
          have z := I12.pin (b, o) (List.mem_append_right _ (List.mem_append_right _ (mem_pinsAt hb e)))
          exact ⟨z.1, z.2.1⟩
        have len : (wipe σ (own.map (·.2))).length = σ8.length := by rw [← hw8, wipe_length]
        refine ⟨m', hm, i + 1, _, (I12.unpinned (pins := [])).weak len (fun j v e => ?_), T.keep _ _ _ t7 fun b hb o e => (pinned b hb o e).1, fun b hb => ?_, w'⟩
        · rw [← hw8] at e
          exact (wipe_some e).1
        · obtain ⟨o, e, _⟩ := T.obj _ _ t7 b hb
          exact (pinned b hb o e).2
      cases b with
      | false =>
        simp only [Bool.false_eq_true, if_false] at q9 ⊢
        exact fin I9 q9
      | true =>
        simp only [if_true] at q9 ⊢
        refine thnF (pk.run _ s9 σ8 H9 _ I9 q9) ?_
        rintro z s10 ⟨y, H10, I10, ry, q10⟩
        refine thnF (pv'.run _ s10 σ8 H10 _ I10 q10) ?_
        rintro z2 s11 ⟨v, H11, I11, rv, H12, put, nx⟩
        exact n_dset (X := X.blk s3 Hb scope be fp) room I11 put ry rv fun s12 I12 => fin I12 nx
  exact codeAny_compStart_dict loop (T.self X.A 0 _ _ _ t4 loop)
/-- d = {rule: True for rule in rules} on one line, d a local -/
theorem ps_setDcN {i : Nat} {y : Str} {py : Pos} {kx vx tg iter : Expr} {ifs : List Expr} {scope : Scope} {own : List (Str × Nat)} {pos spos : Pos} {wi : TI} {g : TG} {tt : TT} {tk tv : TE} {emp : Addr → HO} (room : X.A.units + 9 < cLine) (hemp : ∀ {H : Hp} (h : Heap), sysModules < h.objs.size → ObjOk X.prog X.w H (h.push { cls := .type "dict", data := .dict #[] }) h.objs.size (emp h.objs.size)) (calm : X.calm = true) (nd : X.N.Nodup)
    (hy : X.N[i]? = some y) (hyl : X.env.scope.names.lookup y = some .local) (sw : swapsWith (.DictComp kx vx [⟨tg, iter, ifs, 0⟩] scope pos) (some (.Name y py)) spos.line X.env = pure true)
    (hi : PI X tg iter wi) (ok : BlkOk X.N X.env.scope scope own)
    (hg : ∀ (s : Shared) (H : Hp) (C : Addr) (cl : List (Str × Addr)) (fp : List Addr), PG (X.blk s H scope (compEnvC scope cl C X.env) fp) tg g)
    (ht : ∀ (s : Shared) (H : Hp) (C : Addr) (cl : List (Str × Addr)) (fp : List Addr), PTs (X.blk s H scope (compEnvC scope cl C X.env) fp) ifs tt)
    (hk : ∀ (s : Shared) (H : Hp) (C : Addr) (cl : List (Str × Addr)) (fp : List Addr), PE (X.blk s H scope (compEnvC scope cl C X.env) fp) kx tk)
    (hv : ∀ (s : Shared) (H : Hp) (C : Addr) (cl : List (Str × Addr)) (fp : List Addr), PE (X.blk s H scope (compEnvC scope cl C X.env) fp) vx tv)
    (plain : ∀ x, foldedSetIterable iter X.env x = pure x := by intro _; rfl) :
    PS X (.Assign [.Name y py] (.DictComp kx vx [⟨tg, iter, ifs, 0⟩] scope pos) spos) (tAsg (tDcN X.prog X.w emp wi g tt tk tv (own.map (·.2))) (gName i)) := by
  refine ⟨fun pins s σ H D I h => ?_⟩
  rw [exec_Assign_Name_used _ _ _ _ sw]
  refine wpAny_bind (wpAny_standAt (wpAny_bind ?_))
  show wpAny _ X.A (do
    let _ ← comprehension (.DictComp kx vx [⟨tg, iter, ifs, 0⟩] scope pos) scope X.env (firstIterPos [⟨tg, iter, ifs, 0⟩] pos) newDict false (eval iter X.env) (some (assign (.Name y py) X.env))) _ _ s
  have h' : tDcN X.prog X.w emp wi g tt tk tv (own.map (·.2)) σ H (fun x H1 => gName i x σ H1 D.nx) := h
  refine wpAny_bind (thn (dcN_core (Qf := fun _ s' => SP X pins D .next s') room hemp calm nd I hi ok hg ht hk hv plain h' ?_) fun _ s' hq => wpAny_pure (wpAny_pure hq))
  intro L C s' m H' I' q hn fo
  show wpAny _ _ (assign (.Name y py) X.env (.ref L)) _ _ _
  obtain ⟨f0, f1, f2, f3, f4, f5⟩ := fo
  refine wpAny_assign_Name (store_ok2 (v := V.ref L) I' nd hy (.inl hyl) rfl (fun s2 I2 => ?_) (.inr hyl))
  rintro ⟨a, sb, ha⟩
  have apart : C ≠ a := by
    rcases ha with z | z
    · rw [z]
      exact f1
    · exact fun e => f4 y a z e.symm
  refine ⟨m, hn.sameBut sb apart, fun h3 sb3 => ⟨_, H', ?_, q⟩⟩
  exact I2.turned (t' := s2.toks) (fun b o hb e => (sb3.2 b hb).trans e) f0 f1 f3 f4 f5
/-- as a value -/
theorem pe_dcN {kx vx tg iter : Expr} {ifs : List Expr} {scope : Scope} {own : List (Str × Nat)} {pos : Pos} {wi : TI} {g : TG} {tt : TT} {tk tv : TE} {emp : Addr → HO} (room : X.A.units + 9 < cLine) (hemp : ∀ {H : Hp} (h : Heap), sysModules < h.objs.size → ObjOk X.prog X.w H (h.push { cls := .type "dict", data := .dict #[] }) h.objs.size (emp h.objs.size))
    (calm : X.calm = true) (nd : X.N.Nodup) (hi : PI X tg iter wi) (ok : BlkOk X.N X.env.scope scope own)
    (hg : ∀ (s : Shared) (H : Hp) (C : Addr) (cl : List (Str × Addr)) (fp : List Addr), PG (X.blk s H scope (compEnvC scope cl C X.env) fp) tg g)
    (ht : ∀ (s : Shared) (H : Hp) (C : Addr) (cl : List (Str × Addr)) (fp : List Addr), PTs (X.blk s H scope (compEnvC scope cl C X.env) fp) ifs tt)
    (hk : ∀ (s : Shared) (H : Hp) (C : Addr) (cl : List (Str × Addr)) (fp : List Addr), PE (X.blk s H scope (compEnvC scope cl C X.env) fp) kx tk)
    (hv : ∀ (s : Shared) (H : Hp) (C : Addr) (cl : List (Str × Addr)) (fp : List Addr), PE (X.blk s H scope (compEnvC scope cl C X.env) fp) vx tv)
    (plain : ∀ x, foldedSetIterable iter X.env x = pure x := by intro _; rfl) : PE X (.DictComp kx vx [⟨tg, iter, ifs, 0⟩] scope pos) (tDcN X.prog X.w emp wi g tt tk tv (own.map (·.2))) := by
  refine ⟨fun pins s σ H Q I h => ?_⟩
  rw [arm_eval_DictComp]
  refine dcN_core room hemp calm nd I hi ok hg ht hk hv plain h ?_
  intro D C s' m H' I' q hn fo
  refine ⟨m, hn, fun h3 sb => ?_⟩
  obtain ⟨f0, f1, f2, f3, f4, f5⟩ := fo
  exact ⟨.ref D, H', I'.turned (t' := s'.toks) (fun b o hb e => (sb.2 b hb).trans e) f0 f1 f3 f4 f5, rfl, q⟩
theorem nd_hemp {P : Program} {w : World} : ∀ {H : Hp} (h : Heap), sysModules < h.objs.size → ObjOk P w H (h.push { cls := .type "dict", data := .dict #[] }) h.objs.size (ndO P w h.objs.size []) := fun h big => ndO_ok (nd_empty h big)
/-- each turn: what is walked, its key, its value -/
theorem dcN_it {J : It} {n : Nat} {G : Hp → Prop} {Y : Nat → Hp → V → Hp → Prop} {P : Program} {w : World} {emp : Addr → HO} (wk : Walk J n G Y) {g : TG} {tt : TT} {tk tv : TE} {vs : List Nat} {σ : L2.St} {H1 : Hp} {D : Addr} {Qd : Hp → Prop} (Pv : Nat → Hp → Prop) (h0 : Pv 0 (upd H1 D (emp D))) (hG : ∀ i H, i ≤ n → Pv i H → G H)
    (hs : ∀ i x H H', i < n → Pv i H → Y i H x H' → g x (wipe σ vs) H' fun σ2 H2 => wipe σ2 vs = wipe σ vs ∧ tt σ2 H2 fun b H3 =>
      if b = true then tk σ2 H3 fun y H4 => tv σ2 H4 fun z H5 => ∃ H6, NPut P w H5 D y z H6 ∧ Pv (i + 1) H6 else Pv (i + 1) H3) (hd : ∀ H, Pv n H → Qd H) :
    ∃ W : Nat → Nat → Hp → Prop, (∃ m, W 0 m (upd H1 D (emp D))) ∧ ∀ i m Hi, W i m Hi →
      (J.stop i Hi ∧ Qd Hi) ∨ (J.go i Hi ∧ ∃ Nx : Hp → Prop, (∀ Hn, Nx Hn → ∃ m', m' < m ∧ W (i + 1) m' Hn) ∧ ∀ x Hx, J.yld i Hi x Hx → g x (wipe σ vs) Hx fun σ2 H2 => wipe σ2 vs = wipe σ vs ∧ tt σ2 H2 fun b H3 =>
        if b = true then tk σ2 H3 fun y H4 => tv σ2 H4 fun z H5 => ∃ H6, NPut P w H5 D y z H6 ∧ Nx H6 else Nx H3) := by
  refine ⟨fun i m Hi => m = n - i ∧ i ≤ n ∧ Pv i Hi, ⟨n, by simp, Nat.zero_le _, h0⟩, ?_⟩
  rintro i m Hi ⟨rfl, hi, p⟩
  have q := hG i Hi hi p
  by_cases hlt : i < n
  · refine .inr ⟨wk.goes i Hi hlt q, Pv (i + 1), fun Hn p' => ⟨n - (i + 1), by omega, rfl, hlt, p'⟩, fun x Hx y => hs i x Hi Hx hlt p (wk.yields i Hi x Hx hlt q y)⟩
  · have e : i = n := by omega
    subst e
    exact .inl ⟨wk.stops Hi q, hd Hi p⟩
end
/-! ### {k: v} -/
def tNdOne (P : Program) (w : World) (tk tv : TE) : TE := fun σ H Q => ∀ p, H p = none → tPairs [(tk, tv)] σ (upd H p (ndO P w p [])) fun ps H2 => ∃ k y, ps = [(endV k, y)] ∧ H2 p = some (ndO P w p []) ∧ Q (.ref p) (upd H2 p (ndO P w p [(k, y)]))
theorem pe_ndOne {X : Cx} {pos : Pos} {ke ve : Expr} {tk tv : TE} {P : Program} {w : World} (hk : PE X ke tk) (hv : PE X ve tv) (hP : X.prog = P := by rfl) (hw : X.w = w := by rfl) : PE X (.Dict [some ke] [ve] pos) (tNdOne P w tk tv) := by
  subst hP hw
  refine ⟨fun pins s σ H Q I q => ?_⟩
  have hn := I.hok.fresh (Nat.le_refl s.heap.objs.size)
  have I1 := I.laid (a := s.heap.objs.size) (o := ndO X.prog X.w s.heap.objs.size []) (h' := s.heap.push { cls := .type "dict", data := .dict #[] }) (t' := s.toks) (fun _ _ z => Heap.get?_push_of_some _ z) (Nat.le_refl _) (ndO_ok (nd_empty s.heap I.big))
  have pp : PPs X pos [some ke] [ve] [(tk, tv)] := pps_cons hk hv pps_nil
  refine wpAny_Dict_walk (knd := noneKind X.prog X.w) rfl rfl (List.cons_ne_nil _ _) (by show 1 ≤ 15; decide) (thn (pp.run pins _ σ _ _ I1 (q _ hn)) ?_)
  · rintro ws s2 ⟨ps, H2, I2, rel, k, y, rfl, e, q2⟩
    cases rel with
    | cons h1 h2 =>
      cases h2
      obtain ⟨ra, rb⟩ := h1
      rename_i pr
      obtain ⟨u1, u2⟩ := pr
      have R := nd_at I2.hok e
      obtain ⟨vs0, r0, dd⟩ := R.raw
      cases r0
      refine ⟨[(nk k, u2)], ⟨nk_is ra, rfl, True.intro⟩, dd, fun h' dd' hs => ⟨.ref s.heap.objs.size, _, ?_, rfl, q2⟩⟩
      have he : ∃ q, h'.get? s.heap.objs.size = some q := let ⟨q, _, _, hq, _⟩ := dd'; ⟨q, hq⟩
      exact d_write I2 (by rw [e]; exact True.intro) hs he (ndO_ok ⟨R.lo, by show 1 ≤ sizeLine; decide, [(nk k, u2)], .cons ⟨rfl, rb⟩ .nil, dd'⟩)
end Wnd

/-! Windowsteps: the last arcs lead back to the start, while totals are raised and at the end. -/
namespace Wnd
section
variable {ν : Type} [DecidableEq ν]
/-- the positions of the arcs on which L leads from u to v -/
inductive Way (A : List (Arc ν)) (L : List (ν × Nat)) (u : ν) : ν → List Nat → Prop where
  | base : lk L u = none → Way A L u u []
  | step {v b : ν} {g : Int} {i : Nat} {ps : List Nat} : lk L v = some i → A[i]? = some (b, v, g) → Way A L u b ps → Way A L u v (ps ++ [i])
def gapAt (A : List (Arc ν)) (i : Nat) : Int := match A[i]? with
  | some a => a.2.2
  | none => 0
def gapsAt (A : List (Arc ν)) (ps : List Nat) : Int := (ps.map (gapAt A)).sum
theorem gapsAt_snoc (A : List (Arc ν)) (ps : List Nat) (i : Nat) : gapsAt A (ps ++ [i]) = gapsAt A ps + gapAt A i := by
  unfold gapsAt
  rw [List.map_append, List.sum_append]
  simp
structure Ptr (A : List (Arc ν)) (u : ν) (T : List (ν × Int)) (L : List (ν × Nat)) : Prop where
  none_ : lk L u = none
  zero : lk T u = some 0
  way : ∀ v x, lk T v = some x → ∃ ps, Way A L u v ps
  arc : ∀ v i, lk L v = some i → ∃ b g xb xv, A[i]? = some (b, v, g) ∧ lk T b = some xb ∧ lk T v = some xv ∧ xv ≤ xb + g
theorem Ptr.start (A : List (Arc ν)) (u : ν) : Ptr A u [(u, 0)] [] where
  none_ := rfl
  zero := by rw [lk_cons, if_pos rfl]
  way := fun v x h => by
    rw [lk_cons] at h
    by_cases e : u = v
    · subst e
      exact ⟨[], .base rfl⟩
    · rw [if_neg e] at h
      cases h
  arc := fun v i h => by cases h
theorem Ptr.seg {A : List (Arc ν)} {u : ν} {T : List (ν × Int)} {L : List (ν × Nat)} (p : Ptr A u T L) (c : ν) (i : Nat) {v : ν} {ps : List Nat} (w : Way A L u v ps) (hcu : c ≠ u) :
    Way A (pt L c i) u v ps ∨ ∃ n s xc xv, lk T c = some xc ∧ lk T v = some xv ∧ Wk A c v n s ∧ xv ≤ xc + s := by
  induction w with
  | base h =>
    refine .inl (.base ?_)
    rw [lk_pt_ne (fun z => hcu z.symm)]
    exact h
  | @step v b g j ps h1 h2 w ih =>
    by_cases e : v = c
    · subst e
      obtain ⟨b', g', xb, xv, h3, h4, h5, h6⟩ := p.arc v j h1
      exact .inr ⟨0, 0, xv, xv, h5, h5, .zero v, by omega⟩
    · obtain ⟨b', g', xb, xv, h3, h4, h5, h6⟩ := p.arc v j h1
      rw [h2] at h3
      cases h3
      rcases ih with ih | ⟨n, s, xc, xb', k1, k2, k3, k4⟩
      · exact .inl (.step (by rw [lk_pt_ne e]; exact h1) h2 ih)
      · rw [h4] at k2
        cases k2
        exact .inr ⟨n + 1, s + g, xc, xv, k1, h5, k3.trans (Wk.arc (List.mem_of_getElem? h2)), by omega⟩
theorem Ptr.rstep {A : List (Arc ν)} {u : ν} {S : R3 ν} {i : Nat} {a : Arc ν} (np : NoPos A) (hi : A[i]? = some a) (sd : Sound A [(u, 0)] S.T) (p : Ptr A u S.T S.L) : Ptr A u (rstep S i a).T (rstep S i a).L := by
  by_cases ha : asks S.T a = true
  · rw [show Wnd.rstep S i a = raised S i a from if_pos ha]
    obtain ⟨b, c, g⟩ := a
    have hm : (b, c, g) ∈ A := List.mem_of_getElem? hi
    unfold asks at ha
    have ha : (match lk S.T b with | none => false | some x => match lk S.T c with | none => true | some y => decide (y < x + g)) = true := ha
    cases hx : lk S.T b with
    | none => rw [hx] at ha; cases ha
    | some x =>
      rw [hx] at ha
      have ha : (match lk S.T c with | none => true | some y => decide (y < x + g)) = true := ha
      have lt : ∀ y, lk S.T c = some y → y < x + g := fun y hy => by
        rw [hy] at ha
        exact of_decide_eq_true ha
      have from_u : ∃ n, Wk A u b n x := by
        obtain ⟨u', x', n, t, h1, h2, h3⟩ := sd b x hx
        rw [lk_cons] at h1
        by_cases e : u = u'
        · rw [if_pos e] at h1
          cases h1
          subst e
          exact ⟨n, by rw [h3]; simpa using h2⟩
        · rw [if_neg e] at h1
          cases h1
      have hcu : c ≠ u := fun e => by
        subst e
        have := lt 0 p.zero
        obtain ⟨n, w⟩ := from_u
        have := np _ _ _ (w.trans (Wk.arc hm))
        omega
      have eT : (raised S i (b, c, g)).T = pt S.T c (x + g) := by
        show pt S.T c ((lk S.T b).getD 0 + g) = _
        rw [hx]
        rfl
      have eL : (raised S i (b, c, g)).L = pt S.L c i := rfl
      rw [eT, eL]
      -- the new way to c
      obtain ⟨qs, wb⟩ := p.way b x hx
      have wb' : Way A (pt S.L c i) u b qs := by
        rcases p.seg c i wb hcu with h | ⟨n, s, xc, xb, h1, h2, h3, h4⟩
        · exact h
        · rw [hx] at h2
          cases h2
          have := lt xc h1
          have := np _ _ _ (h3.trans (Wk.arc hm))
          omega
      have wc : Way A (pt S.L c i) u c (qs ++ [i]) := .step lk_pt_same hi wb'
      have grows : ∀ v y, lk S.T v = some y → ∃ z, lk (pt S.T c (x + g)) v = some z ∧ y ≤ z ∧ (v ≠ c → z = y) := fun v y hv => by
        by_cases e : v = c
        · subst e
          have := lt y hv
          exact ⟨_, lk_pt_same, by omega, fun z => (z rfl).elim⟩
        · exact ⟨y, by rw [lk_pt_ne e]; exact hv, Int.le_refl _, fun _ => rfl⟩
      refine ⟨?_, ?_, fun v y hv => ?_, fun v j hj => ?_⟩
      · rw [lk_pt_ne fun z => hcu z.symm]
        exact p.none_
      · rw [lk_pt_ne fun z => hcu z.symm]
        exact p.zero
      · by_cases e : v = c
        · rw [e]
          exact ⟨_, wc⟩
        · rw [lk_pt_ne e] at hv
          obtain ⟨ps, w⟩ := p.way v y hv
          clear hv
          induction w with
          | base h => exact ⟨[], .base (by rw [lk_pt_ne fun z => hcu z.symm]; exact h)⟩
          | @step v' b' g' j' ps' h1 h2 w' ih =>
            by_cases e2 : b' = c
            · rw [e2] at h2
              exact ⟨_, .step (by rw [lk_pt_ne e]; exact h1) h2 wc⟩
            · obtain ⟨qs', wq⟩ := ih e2
              exact ⟨_, .step (by rw [lk_pt_ne e]; exact h1) h2 wq⟩
      · by_cases e : v = c
        · subst e
          rw [lk_pt_same] at hj
          cases hj
          obtain ⟨z, hz, le, _⟩ := grows b x hx
          exact ⟨b, g, z, x + g, hi, hz, lk_pt_same, by omega⟩
        · rw [lk_pt_ne e] at hj
          obtain ⟨b', g', xb, xv, h3, h4, h5, h6⟩ := p.arc v j hj
          obtain ⟨z, hz, le, _⟩ := grows b' xb h4
          exact ⟨b', g', z, xv, h3, hz, by rw [lk_pt_ne e]; exact h5, by omega⟩
  · rw [show Wnd.rstep S i a = S from if_neg ha]
    exact p
theorem Ptr.rgo {A : List (Arc ν)} {u : ν} (np : NoPos A) : ∀ (B : List (Arc ν)) (i : Nat) (S : R3 ν), (∀ j, B[j]? = A[i + j]? ∨ B[j]? = none) → Sound A [(u, 0)] S.T → Ptr A u S.T S.L → Ptr A u (Wnd.rgo B i S).T (Wnd.rgo B i S).L
  | [], i, S, _, _, p => p
  | b :: r, i, S, m, sd, p => by
    have hi : A[i]? = some b := by
      rcases m 0 with h | h
      · exact h.symm
      · cases h
    refine Ptr.rgo np r (i + 1) (Wnd.rstep S i b) (fun j => ?_) (rstep_sound (List.mem_of_getElem? hi) sd) (p.rstep np hi sd)
    have := m (j + 1)
    rw [show i + 1 + j = i + (j + 1) by omega]
    exact this
theorem Ptr.round {A : List (Arc ν)} {u : ν} (np : NoPos A) {T : List (ν × Int)} {L : List (ν × Nat)} (sd : Sound A [(u, 0)] T) (p : Ptr A u T L) : Ptr A u (Wnd.rgo A 0 ⟨T, L, []⟩).T (Wnd.rgo A 0 ⟨T, L, []⟩).L :=
  Ptr.rgo np A 0 ⟨T, L, []⟩ (fun j => .inl (by rw [Nat.zero_add])) sd p
/-- at the end the way's total is the total -/
theorem Ptr.total {A : List (Arc ν)} {u : ν} {T : List (ν × Int)} {L : List (ν × Nat)} (p : Ptr A u T L) (c : Closed A T) {v : ν} {ps : List Nat} (w : Way A L u v ps) : lk T v = some (gapsAt A ps) := by
  induction w with
  | base h => exact p.zero
  | @step v b g i ps h1 h2 w ih =>
    obtain ⟨b', g', xb, xv, h3, h4, h5, h6⟩ := p.arc v i h1
    rw [h2] at h3
    cases h3
    rw [h4] at ih
    cases ih
    obtain ⟨y, h7, h8⟩ := c _ (List.mem_of_getElem? h2) _ h4
    have h7 : lk T v = some y := h7
    rw [h5] at h7
    cases h7
    have h8 : gapsAt A ps + g ≤ xv := h8
    have e : gapAt A i = g := by
      unfold gapAt
      rw [h2]
    rw [gapsAt_snoc, e, h5, show xv = gapsAt A ps + g by omega]
/-- a way as arcs, from u to v -/
theorem Way.arcs {A : List (Arc ν)} {L : List (ν × Nat)} {u v : ν} {ps : List Nat} (w : Way A L u v ps) : ∀ i ∈ ps, i < A.length := by
  induction w with
  | base h => intro i hi; cases hi
  | @step v b g i ps h1 h2 w ih =>
    intro j hj
    rcases List.mem_append.mp hj with hj | hj
    · exact ih j hj
    · rw [List.mem_singleton.mp hj]
      exact (List.getElem?_eq_some_iff.mp h2).1
theorem Way.wk {A : List (Arc ν)} {L : List (ν × Nat)} {u v : ν} {ps : List Nat} (w : Way A L u v ps) : Wk A u v ps.length (gapsAt A ps) := by
  induction w with
  | base h => exact .zero u
  | @step v b g i ps h1 h2 w ih =>
    have e : gapAt A i = g := by
      unfold gapAt
      rw [h2]
    rw [gapsAt_snoc, e, List.length_append]
    exact ih.trans (Wk.arc (List.mem_of_getElem? h2))
end
end Wnd

/-! the search for chains: totals raised round by round -/
namespace Wnd
open PySem PySem.Spec PyProof.Rows L2
theorem iteB {b : Bool} {A B : Prop} (e : b = true) (h : A) : if b = true then A else B := by
  subst e
  exact iteT h
theorem hu9_of {A : Around} {k : Nat} (hr : Room k A) : A.units + 9 < cLine := by
  have := hu_of64 hr
  omega
def intsV (T : List (Node × Int)) : List (Node × V) := T.map fun p => (p.1, V.int p.2)
def natsV (T : List (Node × Nat)) : List (Node × V) := T.map fun p => (p.1, V.int (p.2 : Nat))
theorem lk_ints (T : List (Node × Int)) (k : Node) : lk (intsV T) k = (lk T k).map V.int := lk_val V.int k T
theorem pt_ints (T : List (Node × Int)) (k : Node) (x : Int) : pt (intsV T) k (V.int x) = intsV (pt T k x) := pt_vals V.int k x T
theorem lk_nats (T : List (Node × Nat)) (k : Node) : lk (natsV T) k = (lk T k).map fun n : Nat => V.int (n : Int) := lk_val (fun n : Nat => V.int (n : Int)) k T
theorem pt_nats (T : List (Node × Nat)) (k : Node) (x : Nat) : pt (natsV T) k (V.int (x : Int)) = natsV (pt T k x) := pt_vals (fun n : Nat => V.int (n : Int)) k x T
theorem ints_len (T : List (Node × Int)) : (intsV T).length = T.length := List.length_map _
theorem nats_len (T : List (Node × Nat)) : (natsV T).length = T.length := List.length_map _
def arcOf (r : Rule) : Arc Node := (r.low, r.high, r.gap)
def arcsOf (rs : List (Rule × Addr)) : List (Arc Node) := rs.map fun p => arcOf p.1
theorem rgo_lens : ∀ (A : List (Arc Node)) (i : Nat) (S : R3 Node), (rgo A i S).T.length ≤ S.T.length + A.length ∧ (rgo A i S).L.length ≤ S.L.length + A.length ∧ (rgo A i S).R.length ≤ S.R.length + A.length
  | [], i, S => ⟨Nat.le_refl _, Nat.le_refl _, Nat.le_refl _⟩
  | a :: r, i, S => by
    obtain ⟨h1, h2, h3⟩ := rgo_lens r (i + 1) (rstep S i a)
    have k : (rstep S i a).T.length ≤ S.T.length + 1 ∧ (rstep S i a).L.length ≤ S.L.length + 1 ∧ (rstep S i a).R.length ≤ S.R.length + 1 := by
      unfold rstep
      split
      · refine ⟨pt_len, pt_len, ?_⟩
        show (S.R ++ [a.2.1]).length ≤ _
        rw [List.length_append, List.length_singleton]
        omega
      · omega
    have e : (rgo (a :: r) i S) = rgo r (i + 1) (rstep S i a) := rfl
    rw [e, List.length_cons]
    omega
section
variable {P : Program} {w : World} {K : PySem.W.Frag} {mg : Str → Option Value} {base : Heap}
def spRaise (P : Program) (w : World) : Sp := fun vs H Q _ => ∃ (a d l : Addr) (rs : List (Rule × Addr)) (T : List (Node × Int)) (L : List (Node × Nat)), vs = [.ref a, .ref d, .ref l] ∧ H a = some (.lst (rs.map fun p => V.ref p.2)) ∧ KeyTups H rs ∧ rs.length ≤ 2000 ∧
  H d = some (ndO P w d (intsV T)) ∧ H l = some (ndO P w l (natsV L)) ∧ d ≠ l ∧ T.length ≤ 500000 ∧ L.length ≤ 500000 ∧
  ∀ r H', Out (fun b => b = d ∨ b = l) H H' → H r = none → H' r = some (.lst ((rgo (arcsOf rs) 0 ⟨T, L, []⟩).R.map endV)) → H' d = some (ndO P w d (intsV (rgo (arcsOf rs) 0 ⟨T, L, []⟩).T)) → H' l = some (ndO P w l (natsV (rgo (arcsOf rs) 0 ⟨T, L, []⟩).L)) → Q (.ref r) H'
theorem NGet.i {P : Program} {w : World} {H : Hp} {a : Addr} {T : List (Node × Int)} {k : Node} {o : Option Int} (e : H a = some (ndO P w a (intsV T))) (h : lk T k = o) : NGet P w H a (endV k) (o.map V.int) := by
  rw [← h, ← lk_ints]
  exact NGet.n e
theorem NPut.i {P : Program} {w : World} {H : Hp} {a : Addr} {T : List (Node × Int)} {k : Node} {x : Int} (e : H a = some (ndO P w a (intsV T))) (hl : T.length < sizeLine) : NPut P w H a (endV k) (.int x) (L2.upd H a (ndO P w a (intsV (pt T k x)))) := by
  rw [← pt_ints]
  exact NPut.n e (by rw [ints_len]; exact hl)
theorem NPut.j {P : Program} {w : World} {H : Hp} {a : Addr} {T : List (Node × Nat)} {k : Node} {x : Nat} (e : H a = some (ndO P w a (natsV T))) (hl : T.length < sizeLine) : NPut P w H a (endV k) (.int (x : Int)) (L2.upd H a (ndO P w a (natsV (pt T k x)))) := by
  rw [← pt_nats]
  exact NPut.n e (by rw [nats_len]; exact hl)
theorem take_arcs {rs : List (Rule × Addr)} {i : Nat} (hi : i < rs.length) : (arcsOf rs).take (i + 1) = (arcsOf rs).take i ++ [arcOf rs[i].1] := by
  rw [List.take_add_one]
  unfold arcsOf
  rw [List.getElem?_map, List.getElem?_eq_getElem hi]
  rfl
theorem len_arcs (rs : List (Rule × Addr)) : (arcsOf rs).length = rs.length := List.length_map _
theorem nd_ne_lst {d : Addr} {L : List (Node × V)} {xs : List V} : ndO P w d L ≠ .lst xs := fun z => nomatch z
theorem nd_ne_tup {d : Addr} {L : List (Node × V)} {xs : List V} : ndO P w d L ≠ .tup xs := fun z => nomatch z
end
end Wnd

/-! a drawn system: names, rules that drawn numbers keep, these numbers -/
namespace Wnd
open PySem PySem.Spec PyProof.Rows L2
abbrev s_law_drawn : Stmt := top 52
theorem sc_law_drawn : FnScope ["_law_pen_here", "_law_most", "_law_many", "_law_nyms_here", "_law_goals"] ["_law_pen_here", "_law_most", "_law_many"] (defScope s_law_drawn) := ⟨rfl, rfl, rfl, by decide +kernel, rfl, by decide +kernel, by decide +kernel⟩
section
variable {P : Program} {w : World} {K : PySem.W.Frag} {mg : Str → Option Value} {base : Heap}
theorem keeps_of {rs : List (Rule × Addr)} {g : List (Str × Int)} (h : ∀ x ∈ rs, Holds g x.1) : Keeps (arcsOf rs) (valG g) := fun a b z m => by
  obtain ⟨x, hx, e⟩ := List.mem_map.mp m
  have := h x hx
  unfold arcOf at e
  cases e
  exact this
theorem cut_nat (xs : List V) (k : Nat) : cutV xs none (some (k : Int)) = xs.take k := by
  unfold cutV
  rw [HT.sIx_none, show HT.sIx xs.length xs.length (some (k : Int)) = min k xs.length from HT.sIx_nat _ _ k, List.drop_zero, Nat.sub_zero]
  by_cases hl : xs.length ≤ k
  · rw [Nat.min_eq_right hl, List.take_length, List.take_of_length_le hl]
  · rw [Nat.min_eq_left (by omega)]
def spDrawn : Sp := fun vs H Q _ => ∃ (p c : Addr) (n m k : Nat), vs = [.ref p, .int m, .int k] ∧ PenAt H p c n ∧ n ≤ 700000 ∧ m ≤ 60 ∧ k ≤ 500 ∧
  ∀ t an bg gl H' n' (ts : List Str) (rs : List (Rule × Addr)) (d1 d2 : Addr) (g1 g2 : List (Str × Int)), But p H H' → H t = none → H an = none → H bg = none → H gl = none → H d1 = none → H d2 = none → H' t = some (.tup [.ref an, .ref bg, .ref gl]) → H' an = some (.lst (ts.map V.str)) → NamesOk ts → (∀ t ∈ ts, t ∈ nymPool) → ts.length ≤ m →
    H' bg = some (.lst (rs.map fun x => V.ref x.2)) → KeyTups H' rs → (∀ x ∈ rs, RuleOk ts x.1) → rs.length ≤ 2 * k → H' gl = some (.lst [.ref d1, .ref d2]) → H' d1 = some (.dK (goalKV g1)) → H' d2 = some (.dK (goalKV g2)) → g1.map (·.1) = ts → g2.map (·.1) = ts →
    (∀ x ∈ g1, -900 ≤ x.2 ∧ x.2 ≤ 900) → (∀ x ∈ g2, -900 ≤ x.2 ∧ x.2 ≤ 900) → (∀ x ∈ rs, Holds g1 x.1) → PenAt H' p c n' → n' ≤ n + 4 * m + 4 * k + 10 → Q (.ref t) H'
theorem ok_drawn {f : Addr} {fd : FuncData} (D : DefAt K mg "_law_drawn" s_law_drawn ["_law_pen_here", "_law_most", "_law_many"] f fd) (O_law_draw : Ok P w K mg base 2 "_law_draw" ["_law_pen_here", "_law_under"] spDraw) (O_law_nyms : Ok P w K mg base 4 "_law_nyms" ["_law_pen_here", "_law_most"] spNyms)
    (O_law_goal : Ok P w K mg base 3 "_law_goal" ["_law_pen_here", "_law_nyms_here"] (spGoal K)) (O_law_gaps : Ok P w K mg base 3 "_law_gaps" ["_law_pen_here", "_law_nyms_here", "_law_goals", "_law_most"] spGaps) : Ok P w K mg base 5 "_law_drawn" ["_law_pen_here", "_law_most", "_law_many"] spDrawn := by
  refine D.ok (D.fn.ok sc_law_drawn (fun vs H Q E h => ?_) (fun cdv A outer s H vs Q E hr h => ?_))
  · obtain ⟨p, c, n, m, k, rfl, _⟩ := h
    rfl
  · obtain ⟨p, c, n, m, k, rfl, hP, hn, hm, hk, q⟩ := h
    have nd := sc_law_drawn.nd
    refine ⟨_, (pss_cons (ps_set (i := 3) nd rfl (Or.inl rfl) (pe_own O_law_nyms (hr.mono (by decide)) (pa_cons (pv 0) (pa_cons (pv 1) pa_nil))))
      (pss_cons (ps_set (i := 4) nd rfl (Or.inl rfl) (pe_lst (pa_cons (pe_own O_law_goal (hr.mono (by decide)) (pa_cons (pv 0) (pa_cons (pv 3) pa_nil))) (pa_cons (pe_own O_law_goal (hr.mono (by decide)) (pa_cons (pv 0) (pa_cons (pv 3) pa_nil))) pa_nil))))
      (pss_one (ps_ret (pe_tup (pa_cons (pv 3) (pa_cons (pe_own O_law_gaps (hr.mono (by decide)) (pa_cons (pv 0) (pa_cons (pv 3) (pa_cons (pe_slice sl_list (pv 4) po_none (po_some (pe_op op_add pe_int (pe_own O_law_draw (hr.mono (by decide)) (pa_cons (pv 0) (pa_cons pe_int pa_nil)))))) (pa_cons (pv 2) pa_nil))))) (pa_cons (pv 4) pa_nil)))))))), ?_⟩
    refine ⟨_, rfl, _, rfl, p, c, n, m, rfl, hP, by omega, by omega, fun ln H1 n1 ts b1 nln hln nn mem len P1 hn1 => ?_⟩
    have N : NamesOk ts := ⟨nn, fun t ht => pool_names t (mem t ht), by omega⟩
    have lp1 : ln ≠ p := P1.ne_strs hln
    -- the goals
    refine ⟨_, rfl, _, rfl, p, c, ln, n1, ts, rfl, P1, by omega, hln, nn, by omega, fun d1 H2 n2 g1 b2 nd1 hg1 e1 r1 P2 hn2 => ?_⟩
    have hln2 := b2 _ _ hln lp1
    refine ⟨_, rfl, _, rfl, p, c, ln, n2, ts, rfl, P2, by omega, hln2, nn, by omega, fun d2 H3 n3 g2 b3 nd2 hg2 e2 r2 P3 hn3 => ?_⟩
    have hln3 := b3 _ _ hln2 lp1
    have dp1 : d1 ≠ p := by
      obtain ⟨o, ho⟩ := P1.some
      exact (ne_of_none ho nd1).symm
    have dp2 : d2 ≠ p := by
      obtain ⟨o, ho⟩ := P2.some
      exact (ne_of_none ho nd2).symm
    have hg13 := b3 _ _ hg1 dp1
    refine ⟨by show 2 ≤ sizeLine; decide, fun gl ngl => ?_⟩
    have s4 := same_new (o := .lst [.ref d1, .ref d2]) ngl
    have hgl4 : (upd H3 gl (.lst [.ref d1, .ref d2])) gl = some (.lst [.ref d1, .ref d2]) := upd_same
    have P4 := P3.same s4
    have hln4 := s4 _ _ hln3
    have hg14 := s4 _ _ hg13
    have hg24 := s4 _ _ hg2
    generalize upd H3 gl (.lst [.ref d1, .ref d2]) = H4 at s4 hgl4 P4 hln4 hg14 hg24 ⊢
    refine ⟨_, rfl, _, rfl, _, rfl, _, rfl, _, rfl, p, c, n3, 2, rfl, P4, by omega, by decide, by decide, fun e H5 he0 he1 b5 P5 => ?_⟩
    obtain ⟨e, rfl⟩ := Int.eq_ofNat_of_zero_le he0
    have lp : ln ≠ p := lp1
    have glp : gl ≠ p := by
      obtain ⟨o, ho⟩ := P3.some
      exact (ne_of_none ho ngl).symm
    have hgl5 := b5 _ _ hgl4 glp
    refine ⟨1, (e : Int), rfl, rfl, ((1 + e : Nat) : Int), by rw [Int.natCast_add]; rfl, gl, _, rfl, SqL.of hgl5, fun sl nsl => ?_⟩
    rw [cut_nat]
    have s6 := same_new (o := .lst ([V.ref d1, V.ref d2].take (1 + e))) nsl
    have hsl6 : (upd H5 sl (.lst ([V.ref d1, V.ref d2].take (1 + e)))) sl = some (.lst ([V.ref d1, V.ref d2].take (1 + e))) := upd_same
    have P6 := P5.same s6
    have hln6 := s6 _ _ (b5 _ _ hln4 lp)
    have hgl6 := s6 _ _ hgl5
    have hg16 := s6 _ _ (b5 _ _ hg14 dp1)
    have hg26 := s6 _ _ (b5 _ _ hg24 dp2)
    generalize upd H5 sl (.lst ([V.ref d1, V.ref d2].take (1 + e))) = H6 at s6 hsl6 P6 hln6 hgl6 hg16 hg26 ⊢
    obtain ⟨gs, hgs⟩ : ∃ gs : List (Addr × List (Str × Int)), gs = [(d1, g1), (d2, g2)].take (1 + e) := ⟨_, rfl⟩
    have em : [V.ref d1, V.ref d2].take (1 + e) = gs.map fun x => V.ref x.1 := by
      rw [hgs, List.map_take]
      rfl
    have mem1 : ((d1, g1) : Addr × List (Str × Int)) ∈ gs := by
      rw [hgs, Nat.add_comm, List.take_succ_cons]
      exact List.mem_cons_self
    have memG : ∀ x ∈ gs, x = (d1, g1) ∨ x = (d2, g2) := fun x hx => by
      rw [hgs] at hx
      have := List.mem_of_mem_take hx
      simpa using this
    have lenG : gs.length ≤ 2 := by
      rw [hgs, List.length_take]
      exact Nat.min_le_right _ _
    rw [em] at hsl6
    refine ⟨_, rfl, p, c, ln, sl, n3 + 1, k, ts, gs, rfl, P6, by omega, hln6, N, ⟨hsl6, fun x hx => ?_⟩, fun x hx => ?_, List.length_pos_of_mem mem1, by omega, by omega, fun bg H7 n7 rs b7 nbg hbg hkt hro hh hlen P7 hn7 => ?_⟩
    · rcases memG x hx with rfl | rfl
      · exact hg16
      · exact hg26
    · rcases memG x hx with rfl | rfl
      · exact e1
      · exact e2
    have hln7 := b7 _ _ hln6 lp
    have hgl7 := b7 _ _ hgl6 glp
    have hg17 := b7 _ _ hg16 dp1
    have hg27 := b7 _ _ hg26 dp2
    refine ⟨_, rfl, by show 3 ≤ sizeLine; decide, fun t nt => ?_⟩
    have s8 := same_new (o := .tup [.ref ln, .ref bg, .ref gl]) nt
    have bA : But p H H2 := b1.trans b2
    have bB : But p H H3 := bA.trans b3
    have bC : But p H H5 := (bB.trans (But.of s4)).trans b5
    have bD : But p H H6 := bC.trans (But.of s6)
    have bE : But p H H7 := bD.trans b7
    have fr : ∀ {x : Addr} {X : Hp}, But p H X → X x = none → (∃ o, X p = some o) → H x = none := fun b hx hp => by
      obtain ⟨o, ho⟩ := hp
      exact b.free (ne_of_none ho hx).symm hx
    exact q t ln bg gl _ n7 ts rs d1 d2 g1 g2 (bE.trans (But.of s8)) (fr bE nt P7.some) nln (fr bD nbg P6.some) (fr bB ngl P3.some) (fr b1 nd1 P1.some) (fr bA nd2 P2.some) upd_same (s8 _ _ hln7) N mem len
      (s8 _ _ hbg) (fun x hx => s8 _ _ (hkt x hx)) hro hlen (s8 _ _ hgl7) (s8 _ _ hg17) (s8 _ _ hg27) e1 e2 r1 r2 (fun x hx => hh x hx _ mem1) (P7.same s8) (by omega)
end
end Wnd

namespace Wnd
open PySem PySem.Spec PyProof.Rows L2
section
variable {P : Program} {w : World} {K : PySem.W.Frag} {mg : Str → Option Value} {base : Heap}
/-! ### rules with a contradiction -/
def spTorn : Sp := fun vs H Q _ => ∃ (p c a b : Addr) (n : Nat) (ts : List Str) (rs : List (Rule × Addr)), vs = [.ref p, .ref a, .ref b] ∧ PenAt H p c n ∧ n ≤ 800000 ∧ H a = some (.lst (ts.map V.str)) ∧ NamesOk ts ∧
  H b = some (.lst (rs.map fun x => V.ref x.2)) ∧ KeyTups H rs ∧ (∀ x ∈ rs, RuleOk ts x.1) ∧ rs.length ≤ 1000 ∧
  ∀ r H' n' (rs' : List (Rule × Addr)), But p H H' → r ≠ p → H' r = some (.lst (rs'.map fun x => V.ref x.2)) → KeyTups H' rs' → (∀ x ∈ rs', RuleOk ts x.1) → rs'.length ≤ rs.length + 3 → PenAt H' p c n' → n' ≤ n + 9 → Q (.ref r) H'
end
end Wnd

/-! numbers made by a comprehension of pairs, copied, changed -/
namespace Wnd
open PySem PySem.Spec PyProof.Rows L2
/-- [(nym, ..) for nym in nyms]: the j-th number has R j -/
theorem lc_pairs {K : PySem.W.Frag} {p c an D : Addr} {n0 m : Nat} {ts : List Str} {H1 : Hp} {gT : TG} {tt : TT} {te : TE} {vs : List Nat} {σ : L2.St} {Qd : Hp → Prop} (R : Nat → Int → Prop) (hD : H1 D = none) (hP : PenAt H1 p c n0) (hA : H1 an = some (.lst (ts.map V.str))) (hz : ts.length < 1000)
    (hs : ∀ (j : Nat) (hj : j < ts.length) (Hc : Hp) (Nx : Hp → Prop), But p H1 Hc → PenAt Hc p c (n0 + m * j) →
      (∀ (v : Int) (H' : Hp), R j v → But p Hc H' → PenAt H' p c (n0 + m * (j + 1)) → ∀ T, H' T = none → ∃ acc, (upd H' T (.tup [.str ts[j], .int v])) D = some (.lst acc) ∧ acc.length < sizeLine ∧ Nx (upd (upd H' T (.tup [.str ts[j], .int v])) D (.lst (acc ++ [.ref T])))) →
      gT (.str ts[j]) (wipe σ vs) Hc fun σ2 H2 => wipe σ2 vs = wipe σ vs ∧ tt σ2 H2 fun b H3 => if b = true then te σ2 H3 fun y H4 => ∃ acc, H4 D = some (.lst acc) ∧ acc.length < sizeLine ∧ Nx (upd H4 D (.lst (acc ++ [y]))) else Nx H3)
    (hd : ∀ (Hc : Hp) (ps : List Addr) (g : List (Str × Int)), g.map (·.1) = ts → (∀ (j : Nat) (h : j < g.length), R j g[j].2) → Paired (fun u x => Hc u = some (.tup [.str x.1, .int x.2])) ps g → Hc D = some (.lst (ps.map V.ref)) → But p H1 Hc → PenAt Hc p c (n0 + m * ts.length) → Qd Hc) :
    ∃ W : Nat → Nat → Hp → Prop, (∃ m, W 0 m (upd H1 D (.lst []))) ∧ ∀ i m H, W i m H →
      ((Itl K an).stop i H ∧ Qd H) ∨ ((Itl K an).go i H ∧ ∃ Nx : Hp → Prop, (∀ H', Nx H' → ∃ m', m' < m ∧ W (i + 1) m' H') ∧ ∀ x H', (Itl K an).yld i H x H' → gT x (wipe σ vs) H' fun σ2 H2 => wipe σ2 vs = wipe σ vs ∧ tt σ2 H2 fun b H3 =>
        if b = true then te σ2 H3 fun y H4 => ∃ acc, H4 D = some (.lst acc) ∧ acc.length < sizeLine ∧ Nx (upd H4 D (.lst (acc ++ [y]))) else Nx H3) := by
  obtain ⟨nDp, nDc⟩ := hP.out hD
  have nap := hP.ne_strs hA
  have big : sizeLine > 100000 := by decide
  refine lc_it (walk_list (xs := ts.map V.str)) (fun j Hc => ∃ (ps : List Addr) (g : List (Str × Int)), g.map (·.1) = ts.take j ∧ (∀ (i : Nat) (h : i < g.length), R i g[i].2) ∧ Paired (fun u x => Hc u = some (.tup [.str x.1, .int x.2])) ps g ∧ Hc D = some (.lst (ps.map V.ref)) ∧ But p H1 Hc ∧ PenAt Hc p c (n0 + m * j))
    ⟨[], [], rfl, fun _ h => absurd h (Nat.not_lt_zero _), .nil, upd_same, But.new hD, hP.same (same_new hD)⟩ (fun j Hc _ ⟨_, _, _, _, _, _, b, _⟩ => SqL.of (b _ _ hA nap)) ?_ ?_
  · rintro j x Hc H' hj ⟨ps, g, hg, hb, hp, h2, b, hPc⟩ ⟨rfl, hx⟩
    obtain ⟨t, ht, rfl⟩ := get_map hx
    have hj' : j < ts.length := by rwa [List.length_map] at hj
    have et : ts[j] = t := by
      rw [List.getElem?_eq_getElem hj'] at ht
      exact Option.some.inj ht
    have hgl : g.length = j := by
      have h2 : (g.map (·.1)).length = (ts.take j).length := by rw [hg]
      rw [List.length_map, List.length_take] at h2
      omega
    have hpl : ps.length = j := by
      have h1 := hp.length
      omega
    have h0 := hs j hj' H' (fun Hx => ∃ (ps : List Addr) (g : List (Str × Int)), g.map (·.1) = ts.take (j + 1) ∧ (∀ (i : Nat) (h : i < g.length), R i g[i].2) ∧ Paired (fun u x => Hx u = some (.tup [.str x.1, .int x.2])) ps g ∧ Hx D = some (.lst (ps.map V.ref)) ∧ But p H1 Hx ∧ PenAt Hx p c (n0 + m * (j + 1))) b hPc
      (fun v X hv bX PX T hT => ?_)
    · rwa [et] at h0
    · have h2' := bX _ _ h2 nDp
      have nDT : D ≠ T := ne_of_none h2' hT
      obtain ⟨nTp, nTc⟩ := PX.out hT
      refine ⟨ps.map V.ref, by rw [upd_ne nDT]; exact h2', by rw [List.length_map]; omega, ps ++ [T], g ++ [(t, v)], ?_, ?_, ?_, ?_, ?_, ?_⟩
      · rw [List.map_append, hg, List.take_add_one, ht]
        rfl
      · intro i hi
        rw [List.length_append, List.length_singleton] at hi
        by_cases z : i < g.length
        · rw [List.getElem_append_left z]
          exact hb i z
        · have : i = j := by omega
          subst this
          rw [List.getElem_append_right (by omega)]
          simpa [hgl] using hv
      · refine Paired.snoc (Paired.mono (fun u x hu => ?_) hp) ?_
        · have hu3 := bX _ _ hu (hPc.ne_of hu fun xs z => nomatch z)
          rw [upd_ne (ne_of hu3 h2' fun z => nomatch z), upd_ne (ne_of_none hu3 hT)]
          exact hu3
        · rw [upd_ne nDT.symm, et]
          exact upd_same
      · rw [upd_same, List.map_append]
        rfl
      · intro z o hz nz
        rw [upd_ne (ne_of_none hz hD), upd_ne (ne_of_none (bX _ _ (b _ _ hz nz) nz) hT)]
        exact bX _ _ (b _ _ hz nz) nz
      · exact (PX.same (same_new hT)).upd nDp nDc
  · rintro Hc ⟨ps, g, hg, hb, hp, h2, b, hPc⟩
    rw [List.length_map] at hg hPc
    rw [List.take_length] at hg
    exact hd Hc ps g hg hb hp h2 b hPc
/-- one number changed -/
def setG (g : List (Str × Int)) (t : Str) (v : Int) : List (Str × Int) := g.map fun x => if x.1 = t then (x.1, v) else x
theorem setG_keys (g : List (Str × Int)) (t : Str) (v : Int) : (setG g t v).map (·.1) = g.map (·.1) := by
  unfold setG
  rw [List.map_map]
  refine List.map_congr_left fun x _ => ?_
  show (if x.1 = t then (x.1, v) else x).1 = x.1
  split <;> rfl
theorem put_goal {g : List (Str × Int)} {t : Str} {v : Int} (h : t ∈ g.map (·.1)) : putK (goalKV g) (Sum.inr t : Key) (V.int v) = goalKV (setG g t v) := by
  obtain ⟨y, hy, e⟩ := List.mem_map.mp h
  unfold putK
  have z : ((goalKV g).any fun kv => decide (kv.1 = (Sum.inr t : Key))) = true := List.any_eq_true.mpr ⟨(Sum.inr y.1, V.int y.2), List.mem_map.mpr ⟨y, hy, rfl⟩, decide_eq_true (by rw [e])⟩
  rw [if_pos z]
  unfold goalKV setG
  rw [List.map_map, List.map_map]
  refine List.map_congr_left fun x _ => ?_
  show (if (Sum.inr x.1 : Key) = Sum.inr t then ((Sum.inr x.1 : Key), V.int v) else (Sum.inr x.1, V.int x.2)) = (Sum.inr (if x.1 = t then (x.1, v) else x).1, V.int (if x.1 = t then (x.1, v) else x).2)
  by_cases z : x.1 = t
  · rw [if_pos (by rw [z]), if_pos z]
  · rw [if_neg (fun w => z (by injection w)), if_neg z]
theorem setG_bound {g : List (Str × Int)} {t : Str} {v lo hi : Int} (hb : ∀ x ∈ g, lo ≤ x.2 ∧ x.2 ≤ hi) (hv : lo ≤ v ∧ v ≤ hi) : ∀ x ∈ setG g t v, lo ≤ x.2 ∧ x.2 ≤ hi := by
  intro x hx
  obtain ⟨y, hy, rfl⟩ := List.mem_map.mp hx
  split
  · exact hv
  · exact hb y hy
theorem valG_set {g : List (Str × Int)} {t : Str} {v : Int} (h : t ∈ g.map (·.1)) : ∀ e : Option Str, (∀ u, e = some u → u ∈ g.map (·.1)) → valG (setG g t v) e = if e = some t then v else valG g e := by
  intro e he
  cases e with
  | none => rfl
  | some u =>
    have hu := he u rfl
    clear he
    induction g with
    | nil => exact nomatch hu
    | cons x g ih =>
      show ((setG (x :: g) t v).lookup u).getD 0 = _
      have e1 : setG (x :: g) t v = (if x.1 = t then (x.1, v) else x) :: setG g t v := rfl
      rw [e1]
      by_cases z : x.1 = u
      · subst z
        by_cases y : x.1 = t
        · rw [if_pos y, if_pos (by rw [y]), List.lookup_cons, show (x.1 == x.1) = true from beq_self_eq_true _]
          rfl
        · rw [if_neg y, if_neg (fun w => y (by injection w)), List.lookup_cons, show (x.1 == x.1) = true from beq_self_eq_true _]
          show x.2 = (List.lookup x.1 (x :: g)).getD 0
          rw [show List.lookup x.1 (x :: g) = some x.2 by rw [show x = (x.1, x.2) from rfl, List.lookup_cons, show (x.1 == x.1) = true from beq_self_eq_true _]]
          rfl
      · have hu2 : u ∈ g.map (·.1) := (List.mem_cons.mp hu).elim (fun w => absurd w.symm z) id
        have e2 : (List.lookup u ((if x.1 = t then (x.1, v) else x) :: setG g t v)) = List.lookup u (setG g t v) := by
          have k : (if x.1 = t then (x.1, v) else x).1 = x.1 := by split <;> rfl
          generalize (if x.1 = t then (x.1, v) else x) = w at k
          obtain ⟨a, b⟩ := w
          rw [List.lookup_cons, show (u == a) = false from beq_eq_false_iff_ne.mpr fun q => z (k ▸ q.symm)]
        have e3 : valG (x :: g) (some u) = valG g (some u) := by
          show (List.lookup u (x :: g)).getD 0 = _
          obtain ⟨a, b⟩ := x
          rw [List.lookup_cons, show (u == a) = false from beq_eq_false_iff_ne.mpr fun q => z q.symm]
          rfl
        rw [e2, e3]
        by_cases y : u = t
        · subst y
          by_cases m : u ∈ g.map (·.1)
          · exact ih m hu2
          · exact absurd hu2 m
        · rw [if_neg (fun w => y (by injection w))]
          by_cases m : t ∈ g.map (·.1)
          · have := ih m hu2
            rw [if_neg (fun w => y (by injection w))] at this
            exact this
          · have e4 : setG g t v = g := by
              unfold setG
              have : ∀ x ∈ g, (if x.1 = t then (x.1, v) else x) = x := fun x hx => if_neg fun (w : x.1 = t) => m (w ▸ List.mem_map.mpr ⟨x, hx, rfl⟩)
              rw [List.map_congr_left this, List.map_id']
            rw [e4]
            rfl
end Wnd

/-! numbers near given ones; a drawn case -/
namespace Wnd
open PySem PySem.Spec PyProof.Rows L2
section
variable {P : Program} {w : World} {K : PySem.W.Frag} {mg : Str → Option Value} {base : Heap}
/-- within a lock on d -/
theorem But.lock {p d : Addr} {H H' : Hp} {u : HO} {od : Obj} (hd : H d = some u) (nd : d ≠ p) (b : But p (L2.upd H d (.frz od u)) H') : But p H (L2.upd H' d u) := fun x o hx nx => by
  by_cases e : x = d
  · subst e
    rw [upd_same, ← hd, hx]
  · rw [upd_ne e]
    exact b _ _ (by rw [upd_ne e]; exact hx) nx
theorem DGet.z {H : Hp} {a : Addr} {kvs : List (Key × V)} {od : Obj} {k : Key} (e : H a = some (.frz od (.dK kvs))) : DGet H a (kV k) (valV kvs k) := .inl ⟨kvs, k, .inr ⟨od, e⟩, rfl, rfl⟩
/-- [(nym, ..) for nym in ..]: the j-th number has R j; any walk -/
theorem lc_pairsW {J : It} {G : Hp → Prop} {Y : Nat → Hp → V → Hp → Prop} {p c D : Addr} {n0 m : Nat} {ts : List Str} {H1 : Hp} {gT : TG} {tt : TT} {te : TE} {vs : List Nat} {σ : L2.St} {Qd : Hp → Prop} (wk : Walk J ts.length G Y) (R : Nat → Int → Prop) (hD : H1 D = none) (hP : PenAt H1 p c n0) (hz : ts.length < 1000)
    (hG : ∀ Hc, But p H1 Hc → G Hc) (hY : ∀ j Hc x H', j < ts.length → Y j Hc x H' → H' = Hc ∧ (∀ h : j < ts.length, x = .str ts[j]))
    (hs : ∀ (j : Nat) (hj : j < ts.length) (Hc : Hp) (Nx : Hp → Prop), But p H1 Hc → PenAt Hc p c (n0 + m * j) →
      (∀ (v : Int) (H' : Hp), R j v → But p Hc H' → PenAt H' p c (n0 + m * (j + 1)) → ∀ T, H' T = none → ∃ acc, (upd H' T (.tup [.str ts[j], .int v])) D = some (.lst acc) ∧ acc.length < sizeLine ∧ Nx (upd (upd H' T (.tup [.str ts[j], .int v])) D (.lst (acc ++ [.ref T])))) →
      gT (.str ts[j]) (wipe σ vs) Hc fun σ2 H2 => wipe σ2 vs = wipe σ vs ∧ tt σ2 H2 fun b H3 => if b = true then te σ2 H3 fun y H4 => ∃ acc, H4 D = some (.lst acc) ∧ acc.length < sizeLine ∧ Nx (upd H4 D (.lst (acc ++ [y]))) else Nx H3)
    (hd : ∀ (Hc : Hp) (ps : List Addr) (g : List (Str × Int)), g.map (·.1) = ts → (∀ (j : Nat) (h : j < g.length), R j g[j].2) → Paired (fun u x => Hc u = some (.tup [.str x.1, .int x.2])) ps g → Hc D = some (.lst (ps.map V.ref)) → But p H1 Hc → PenAt Hc p c (n0 + m * ts.length) → Qd Hc) :
    ∃ W : Nat → Nat → Hp → Prop, (∃ m, W 0 m (upd H1 D (.lst []))) ∧ ∀ i m H, W i m H →
      (J.stop i H ∧ Qd H) ∨ (J.go i H ∧ ∃ Nx : Hp → Prop, (∀ H', Nx H' → ∃ m', m' < m ∧ W (i + 1) m' H') ∧ ∀ x H', J.yld i H x H' → gT x (wipe σ vs) H' fun σ2 H2 => wipe σ2 vs = wipe σ vs ∧ tt σ2 H2 fun b H3 =>
        if b = true then te σ2 H3 fun y H4 => ∃ acc, H4 D = some (.lst acc) ∧ acc.length < sizeLine ∧ Nx (upd H4 D (.lst (acc ++ [y]))) else Nx H3) := by
  obtain ⟨nDp, nDc⟩ := hP.out hD
  have big : sizeLine > 100000 := by decide
  refine lc_it wk (fun j Hc => ∃ (ps : List Addr) (g : List (Str × Int)), g.map (·.1) = ts.take j ∧ (∀ (i : Nat) (h : i < g.length), R i g[i].2) ∧ Paired (fun u x => Hc u = some (.tup [.str x.1, .int x.2])) ps g ∧ Hc D = some (.lst (ps.map V.ref)) ∧ But p H1 Hc ∧ PenAt Hc p c (n0 + m * j))
    ⟨[], [], rfl, fun _ h => absurd h (Nat.not_lt_zero _), .nil, upd_same, But.new hD, hP.same (same_new hD)⟩ (fun j Hc _ ⟨_, _, _, _, _, _, b, _⟩ => hG _ b) ?_ ?_
  · rintro j x Hc H' hj ⟨ps, g, hg, hb, hp, h2, b, hPc⟩ hy
    obtain ⟨rfl, hx⟩ := hY _ _ _ _ hj hy
    have hx := hx hj
    subst hx
    have ht : ts[j]? = some ts[j] := List.getElem?_eq_getElem hj
    have hgl : g.length = j := by
      have h2 : (g.map (·.1)).length = (ts.take j).length := by rw [hg]
      rw [List.length_map, List.length_take] at h2
      omega
    have hpl : ps.length = j := by
      have h1 := hp.length
      omega
    refine hs j hj H' (fun Hx => ∃ (ps : List Addr) (g : List (Str × Int)), g.map (·.1) = ts.take (j + 1) ∧ (∀ (i : Nat) (h : i < g.length), R i g[i].2) ∧ Paired (fun u x => Hx u = some (.tup [.str x.1, .int x.2])) ps g ∧ Hx D = some (.lst (ps.map V.ref)) ∧ But p H1 Hx ∧ PenAt Hx p c (n0 + m * (j + 1))) b hPc
      (fun v X hv bX PX T hT => ?_)
    have h2' := bX _ _ h2 nDp
    have nDT : D ≠ T := ne_of_none h2' hT
    obtain ⟨nTp, nTc⟩ := PX.out hT
    refine ⟨ps.map V.ref, by rw [upd_ne nDT]; exact h2', by rw [List.length_map]; omega, ps ++ [T], g ++ [(ts[j], v)], ?_, ?_, ?_, ?_, ?_, ?_⟩
    · rw [List.map_append, hg, List.take_add_one, ht]
      rfl
    · intro i hi
      rw [List.length_append, List.length_singleton] at hi
      by_cases z : i < g.length
      · rw [List.getElem_append_left z]
        exact hb i z
      · have : i = j := by omega
        subst this
        rw [List.getElem_append_right (by omega)]
        simpa [hgl] using hv
    · refine Paired.snoc (Paired.mono (fun u x hu => ?_) hp) ?_
      · have hu3 := bX _ _ hu (hPc.ne_of hu fun xs z => nomatch z)
        rw [upd_ne (ne_of hu3 h2' fun z => nomatch z), upd_ne (ne_of_none hu3 hT)]
        exact hu3
      · rw [upd_ne nDT.symm]
        exact upd_same
    · rw [upd_same, List.map_append]
      rfl
    · intro z o hz nz
      rw [upd_ne (ne_of_none hz hD), upd_ne (ne_of_none (bX _ _ (b _ _ hz nz) nz) hT)]
      exact bX _ _ (b _ _ hz nz) nz
    · exact (PX.same (same_new hT)).upd nDp nDc
  · rintro Hc ⟨ps, g, hg, hb, hp, h2, b, hPc⟩
    rw [List.take_length] at hg
    exact hd Hc ps g hg hb hp h2 b hPc
/-- as lc_pairsW, whatever is walked: the j-th item is iv j -/
theorem lc_pairsX {J : It} {G : Hp → Prop} {Y : Nat → Hp → V → Hp → Prop} {p c D : Addr} {n0 m : Nat} {ts : List Str} {H1 : Hp} {gT : TG} {tt : TT} {te : TE} {vs : List Nat} {σ : L2.St} {Qd : Hp → Prop} (iv : Nat → V) (wk : Walk J ts.length G Y) (R : Nat → Int → Prop) (hD : H1 D = none) (hP : PenAt H1 p c n0) (hz : ts.length < 1000)
    (hG : ∀ Hc, But p H1 Hc → G Hc) (hY : ∀ j Hc x H', j < ts.length → Y j Hc x H' → H' = Hc ∧ x = iv j)
    (hs : ∀ (j : Nat) (hj : j < ts.length) (Hc : Hp) (Nx : Hp → Prop), But p H1 Hc → PenAt Hc p c (n0 + m * j) →
      (∀ (v : Int) (H' : Hp), R j v → But p Hc H' → PenAt H' p c (n0 + m * (j + 1)) → ∀ T, H' T = none → ∃ acc, (upd H' T (.tup [.str ts[j], .int v])) D = some (.lst acc) ∧ acc.length < sizeLine ∧ Nx (upd (upd H' T (.tup [.str ts[j], .int v])) D (.lst (acc ++ [.ref T])))) →
      gT (iv j) (wipe σ vs) Hc fun σ2 H2 => wipe σ2 vs = wipe σ vs ∧ tt σ2 H2 fun b H3 => if b = true then te σ2 H3 fun y H4 => ∃ acc, H4 D = some (.lst acc) ∧ acc.length < sizeLine ∧ Nx (upd H4 D (.lst (acc ++ [y]))) else Nx H3)
    (hd : ∀ (Hc : Hp) (ps : List Addr) (g : List (Str × Int)), g.map (·.1) = ts → (∀ (j : Nat) (h : j < g.length), R j g[j].2) → Paired (fun u x => Hc u = some (.tup [.str x.1, .int x.2])) ps g → Hc D = some (.lst (ps.map V.ref)) → But p H1 Hc → PenAt Hc p c (n0 + m * ts.length) → Qd Hc) :
    ∃ W : Nat → Nat → Hp → Prop, (∃ m, W 0 m (upd H1 D (.lst []))) ∧ ∀ i m H, W i m H →
      (J.stop i H ∧ Qd H) ∨ (J.go i H ∧ ∃ Nx : Hp → Prop, (∀ H', Nx H' → ∃ m', m' < m ∧ W (i + 1) m' H') ∧ ∀ x H', J.yld i H x H' → gT x (wipe σ vs) H' fun σ2 H2 => wipe σ2 vs = wipe σ vs ∧ tt σ2 H2 fun b H3 =>
        if b = true then te σ2 H3 fun y H4 => ∃ acc, H4 D = some (.lst acc) ∧ acc.length < sizeLine ∧ Nx (upd H4 D (.lst (acc ++ [y]))) else Nx H3) := by
  obtain ⟨nDp, nDc⟩ := hP.out hD
  have big : sizeLine > 100000 := by decide
  refine lc_it wk (fun j Hc => ∃ (ps : List Addr) (g : List (Str × Int)), g.map (·.1) = ts.take j ∧ (∀ (i : Nat) (h : i < g.length), R i g[i].2) ∧ Paired (fun u x => Hc u = some (.tup [.str x.1, .int x.2])) ps g ∧ Hc D = some (.lst (ps.map V.ref)) ∧ But p H1 Hc ∧ PenAt Hc p c (n0 + m * j))
    ⟨[], [], rfl, fun _ h => absurd h (Nat.not_lt_zero _), .nil, upd_same, But.new hD, hP.same (same_new hD)⟩ (fun j Hc _ ⟨_, _, _, _, _, _, b, _⟩ => hG _ b) ?_ ?_
  · rintro j x Hc H' hj ⟨ps, g, hg, hb, hp, h2, b, hPc⟩ hy
    obtain ⟨rfl, hx⟩ := hY _ _ _ _ hj hy
    subst hx
    have ht : ts[j]? = some ts[j] := List.getElem?_eq_getElem hj
    have hgl : g.length = j := by
      have h2 : (g.map (·.1)).length = (ts.take j).length := by rw [hg]
      rw [List.length_map, List.length_take] at h2
      omega
    have hpl : ps.length = j := by
      have h1 := hp.length
      omega
    refine hs j hj H' (fun Hx => ∃ (ps : List Addr) (g : List (Str × Int)), g.map (·.1) = ts.take (j + 1) ∧ (∀ (i : Nat) (h : i < g.length), R i g[i].2) ∧ Paired (fun u x => Hx u = some (.tup [.str x.1, .int x.2])) ps g ∧ Hx D = some (.lst (ps.map V.ref)) ∧ But p H1 Hx ∧ PenAt Hx p c (n0 + m * (j + 1))) b hPc
      (fun v X hv bX PX T hT => ?_)
    have h2' := bX _ _ h2 nDp
    have nDT : D ≠ T := ne_of_none h2' hT
    obtain ⟨nTp, nTc⟩ := PX.out hT
    refine ⟨ps.map V.ref, by rw [upd_ne nDT]; exact h2', by rw [List.length_map]; omega, ps ++ [T], g ++ [(ts[j], v)], ?_, ?_, ?_, ?_, ?_, ?_⟩
    · rw [List.map_append, hg, List.take_add_one, ht]
      rfl
    · intro i hi
      rw [List.length_append, List.length_singleton] at hi
      by_cases z : i < g.length
      · rw [List.getElem_append_left z]
        exact hb i z
      · have : i = j := by omega
        subst this
        rw [List.getElem_append_right (by omega)]
        simpa [hgl] using hv
    · refine Paired.snoc (Paired.mono (fun u x hu => ?_) hp) ?_
      · have hu3 := bX _ _ hu (hPc.ne_of hu fun xs z => nomatch z)
        rw [upd_ne (ne_of hu3 h2' fun z => nomatch z), upd_ne (ne_of_none hu3 hT)]
        exact hu3
      · rw [upd_ne nDT.symm]
        exact upd_same
    · rw [upd_same, List.map_append]
      rfl
    · intro z o hz nz
      rw [upd_ne (ne_of_none hz hD), upd_ne (ne_of_none (bX _ _ (b _ _ hz nz) nz) hT)]
      exact bX _ _ (b _ _ hz nz) nz
    · exact (PX.same (same_new hT)).upd nDp nDc
  · rintro Hc ⟨ps, g, hg, hb, hp, h2, b, hPc⟩
    rw [List.take_length] at hg
    exact hd Hc ps g hg hb hp h2 b hPc
def spNear : Sp := fun vs H Q _ => ∃ (p c d : Addr) (n : Nat) (g : List (Str × Int)), vs = [.ref p, .ref d] ∧ PenAt H p c n ∧ n ≤ 900000 ∧ H d = some (.dK (goalKV g)) ∧ (g.map (·.1)).Nodup ∧ g.length < 1000 ∧
  ∀ r H' n' (g' : List (Str × Int)), But p H H' → H r = none → H' r = some (.dK (goalKV g')) → g'.map (·.1) = g.map (·.1) → (∀ (j : Nat) (h : j < g.length) (h' : j < g'.length), g[j].2 - 3 ≤ g'[j].2 ∧ g'[j].2 ≤ g[j].2 + 4) → PenAt H' p c n' → n' ≤ n + g.length → Q (.ref r) H'
end
end Wnd

/-! Windowsteps: != of two lists whose items are equal dicts. -/
namespace PySem.SeqAt
open AutoSeq1 (wpAny_loadPart')
open MeetsSeq MeetsSeq2 MeetsSeq3 SeqRoads2
section
variable {prog : Program} {w : World}
theorem wnd_ne_loopIn (l b : Addr) (items items2 : Array Value) (n n2 : Nat) (dd dd2 : Option Addr) (sl sl2 : Array (Option Value)) (hsz : items.size = items2.size) (e : Nat → Bool) (k : Nat) :
    ∀ i : Nat, items.size - i = k → MeetsIn prog w (Builtin.«list.__eq__.loop» ⟨[.ref l, .ref b, rawInt i, rawInt 3], []⟩)
      (fun A R s => s.heap.get? l = some { cls := .type "list", dict := dd, data := .seq items n, slots := sl } ∧ s.heap.get? b = some { cls := .type "list", dict := dd2, data := .seq items2 n2, slots := sl2 } ∧
        (∀ j (h1 : j < items.size) (h2 : j < items2.size), EqP prog w A.in1 s items[j] items2[j] (e j)) ∧
        R (.ok (.ret (.bool (!((List.range items.size).drop i).all e)))) s) := by
  induction k with
  | zero =>
    intro i hk A R s h
    obtain ⟨hp, g, d, tk, os⟩ := s; obtain ⟨hl, hb, he, h⟩ := h
    wp_walk using wpAny_loadPart' hl, wpAny_loadPart' hb
    have hi1 : items[((i : Nat) : Int).toNat]? = none := by simp; omega
    have hi2 : items2[((i : Nat) : Int).toNat]? = none := by simp; omega
    have hd : (List.range items.size).drop i = [] := by simp; omega
    rw [hd] at h
    rw [hi1, hi2]
    wp_walk using wpAny_loadPart' hl, wpAny_loadPart' hb
    show R (.ok (.ret (.bool (items.size != items2.size)))) _
    rw [hsz]
    simpa using h
  | succ k ih =>
    intro i hk A R s h
    obtain ⟨hp, g, d, tk, os⟩ := s; obtain ⟨hl, hb, he, h⟩ := h
    wp_walk using wpAny_loadPart' hl, wpAny_loadPart' hb
    have hlt : i < items.size := by omega
    have hlt2 : i < items2.size := by omega
    have hi1 : items[((i : Nat) : Int).toNat]? = some items[i] := by simp [hlt]
    have hi2 : items2[((i : Nat) : Int).toNat]? = some items2[i] := by simp [hlt2]
    have hd : (List.range items.size).drop i = i :: (List.range items.size).drop (i + 1) := by simp [List.drop_eq_getElem_cons, hlt]
    have hc : ((i : Int) + 1) = ((i + 1 : Nat) : Int) := by push_cast; rfl
    rw [hd, List.all_cons] at h
    rw [hi1, hi2]
    refine wpAny_bind (he i hlt hlt2 _ _ ?_)
    cases hb' : e i with
    | true =>
      rw [hb'] at h
      wp_walk
      rw [hc]
      exact ⟨plainId_quiet plain_eq_loop _, codeAny_builtin entry_eq_loop (by
        rw [Around.under_plainId plain_eq_loop _]
        exact ih (i + 1) (by omega) A R _ ⟨hl, hb, he, by simpa using h⟩)⟩
    | false =>
      rw [hb'] at h
      wp_walk using wpAny_loadPart' hl, wpAny_loadPart' hb
      rw [hi1, hi2]
      wp_walk
      simpa using h
theorem wnd_list_neIn (l b : Addr) (items items2 : Array Value) (n n2 : Nat) (dd dd2 : Option Addr) (sl sl2 : Array (Option Value)) (hsz : items.size = items2.size) (e : Nat → Bool) :
    MeetsIn prog w (Builtin.«list.__ne__» ⟨[.ref l, .ref b], []⟩)
      (fun A R s => s.heap.get? l = some { cls := .type "list", dict := dd, data := .seq items n, slots := sl } ∧ s.heap.get? b = some { cls := .type "list", dict := dd2, data := .seq items2 n2, slots := sl2 } ∧
        (∀ j (h1 : j < items.size) (h2 : j < items2.size), EqP prog w A.in1 s items[j] items2[j] (e j)) ∧
        R (.ok (.ret (.bool (!(List.range items.size).all e)))) s) := by
  intro A R s h
  obtain ⟨hp, g, d, tk, os⟩ := s; obtain ⟨hl, hb, he, h⟩ := h
  have f3 := AutoSeq1.sub_list_list
  have hne : ¬ (items.size != items2.size) = true := by simp [hsz]
  wp_walk using wpAny_loadPart' hl, wpAny_loadPart' hb
  exact ⟨plainId_quiet plain_eq_loop _, codeAny_builtin entry_eq_loop (by
    rw [Around.under_plainId plain_eq_loop _]
    exact wnd_ne_loopIn l b items items2 n n2 dd dd2 sl sl2 hsz e _ 0 rfl A R _ ⟨hl, hb, he, by simpa using h⟩)⟩
theorem wnd_rcNeP {A : Around} {s : Shared} {l b : Addr} {items items2 : Array Value} {e : Nat → Bool} (hl : s.heap.IsList l items) (hb : s.heap.IsList b items2) (hsz : items.size = items2.size) (hu : A.units < cLine)
    (he : ∀ j (h1 : j < items.size) (h2 : j < items2.size), EqP prog w A.in1 s items[j] items2[j] (e j)) (E Q : Value → Shared → Prop) (h : Q (.bool (!(List.range items.size).all e)) s) : wpAny (model prog w) A (richCompare .NotEq (.ref l) (.ref b)) Q E s := by
  obtain ⟨⟨cls, dd, data, sl⟩, ho, hc, n, hd⟩ := id hl
  obtain ⟨⟨cls2, dd2, data2, sl2⟩, ho2, hc2, n2, hd2⟩ := id hb
  simp only at hc hd hc2 hd2
  subst hc hd hc2 hd2
  have ta : s.TypeIs (.ref l) "list" := ⟨_, ho, rfl⟩
  have tb : s.TypeIs (.ref b) "list" := ⟨_, ho2, rfl⟩
  exact wpAny_richCompare_same_room (op := .NotEq) ta tb F.slot_list_ne (call_meetsIn F.slot_list_ne ta F.entry_list_ne (F.args_list_ne_2 _ _) (wnd_list_neIn l b items items2 n n2 dd dd2 sl sl2 hsz e)
    ⟨ho, ho2, he, show Value.bool (!(List.range items.size).all e) ≠ Value.notImplemented ∧ Q (.bool (!(List.range items.size).all e)) s from ⟨(fun x => nomatch x), h⟩⟩) hu
end
end PySem.SeqAt
namespace Wnd
open PySem PySem.Spec PyProof.Rows L2
variable {X : Cx}
def rNeV (K : PySem.W.Frag) : R2 := fun x y H Q => ∃ n, n ≤ 60 ∧ (∃ a b xs ys, x = .ref a ∧ y = .ref b ∧ SqL K H a xs ∧ SqL K H b ys ∧ Paired (EqV K H n) xs ys) ∧ Q (.bl false) H
theorem op_neV (hu : X.A.units + 64 < cLine) : OpR X (compareOp .NotEq) (rNeV X.K) := by
  intro pins s σ H x y v u Q I rx ry h
  obtain ⟨n, hn, ⟨a, b, xs, ys, rfl, rfl, ha, hb, hp⟩, q⟩ := h
  cases (show v = Value.ref a from rx)
  cases (show u = Value.ref b from ry)
  obtain ⟨us, r1, p1, _⟩ := I.list ha
  obtain ⟨ws, r2, p2, _⟩ := I.list hb
  have hsz : us.toArray.size = ws.toArray.size := by
    rw [List.size_toArray, List.size_toArray, ← r1.length, ← r2.length]
    exact Paired.length hp
  refine SeqAt.wnd_rcNeP (A := X.A) (e := fun _ => true) p1.isList p2.isList hsz (by omega) (fun j h1 h2 => ?_) _ _ ?_
  · have k := items_run (eqV_run I n X.A.in1 (by show X.A.units + 1 + n < cLine; omega)) hp r1 r2 j (by simpa using h1) (by simpa using h2)
    simpa using k
  · rw [show ((List.range us.toArray.size).all fun _ => true) = true from List.all_eq_true.mpr fun _ _ => rfl]
    exact ⟨.bl false, H, I, rfl, q⟩
end Wnd

/-! A list comprehension whose new list is told not to lie where the modules are kept. Statements and proofs follow the library's lc_core, pe_lc, ps_setLc; only that fact is added. -/
namespace Wnd
open PySem PySem.Spec PyProof.Rows L2
section
variable {X : Cx}
def tLcN (wi : TI) (g : TG) (tt : TT) (te : TE) (vs : List Nat) : TE := fun σ H Q => wi σ H fun J H1 => ∀ D, H1 D = none → D ≠ sysModules → ∃ W : Nat → Nat → Hp → Prop, (∃ m, W 0 m (upd H1 D (.lst []))) ∧ ∀ i m H, W i m H →
  (J.stop i H ∧ Q (.ref D) H) ∨ (J.go i H ∧ ∃ Nx : Hp → Prop, (∀ H', Nx H' → ∃ m', m' < m ∧ W (i + 1) m' H') ∧ ∀ x H', J.yld i H x H' → g x (wipe σ vs) H' fun σ2 H2 => wipe σ2 vs = wipe σ vs ∧ tt σ2 H2 fun b H3 =>
    if b = true then te σ2 H3 fun y H4 => ∃ acc, H4 D = some (.lst acc) ∧ acc.length < sizeLine ∧ Nx (upd H4 D (.lst (acc ++ [y]))) else Nx H3)
theorem lc_coreN {pins : List (Addr × Obj)} {s : Shared} {σ : L2.St} {H : Hp} {Q : VK} {elt tg iter : Expr} {ifs : List Expr} {scope : Scope} {own : List (Str × Nat)} {pos pos' : Pos} {wi : TI} {g : TG} {tt : TT} {te : TE} {use : Option (Value → Sem Unit)} {Qf : Value → Shared → Prop}
    (hc : X.calm = true) (hN : X.N.Nodup) (I : Inv X pins σ H s) (hi : PI X tg iter wi) (ok : BlkOk X.N X.env.scope scope own)
    (hg : ∀ (s : Shared) (H : Hp) (C : Addr) (cl : List (Str × Addr)) (fp : List Addr), PG (X.blk s H scope (compEnvC scope cl C X.env) fp) tg g) (ht : ∀ (s : Shared) (H : Hp) (C : Addr) (cl : List (Str × Addr)) (fp : List Addr), PTs (X.blk s H scope (compEnvC scope cl C X.env) fp) ifs tt)
    (he : ∀ (s : Shared) (H : Hp) (C : Addr) (cl : List (Str × Addr)) (fp : List Addr), PE (X.blk s H scope (compEnvC scope cl C X.env) fp) elt te) (hs : ∀ x, foldedSetIterable iter X.env x = pure x)
    (h : tLcN wi g tt te (own.map (·.2)) σ H Q)
    (hRR : ∀ D C s' m H', Inv X pins σ H' s' → Q (.ref D) H' → s'.heap.Ns C m → FpOk X pins H' C → compPost (model X.prog X.w) X.A X.xe use Qf (.ref D) C (.ok .next) s') :
    wpAny (model X.prog X.w) X.A (comprehension (.ListComp elt [⟨tg, iter, ifs, 0⟩] scope pos) scope X.env pos' (newList []) false (eval iter X.env) use) Qf X.xe s := by
  have hfree : ∀ y ∈ scope.names, y.2 = .free → ∃ c, X.env.cells.lookup y.1 = some c := fun y hy e => by
    rcases ok.free y hy e with k | k
    · exact I.ok.has _ (.inl k)
    · exact I.ok.has _ (.inr k)
  refine wpAny_comprehension_free (use := use) rfl hs (closure_ok hfree) ok.kind (fun y hy e => by rw [ok.uniq y hy, e])
    (thn (hi.run pins s σ H _ I h) fun xv s1 hx => thn hx fun itv s2 h2 => ?_)
  obtain ⟨it, fp, tn, J, H2, e, I2, T, st2, f2, q⟩ := h2
  subst e
  refine wpAny_newObj_type (newEnv_comp ?_) (by show 0 ≤ sizeLine; decide)
  generalize hD : s2.heap.objs.size = D
  have hDn : H2 D = none := I2.hok.fresh (Nat.le_of_eq hD)
  obtain ⟨W, ⟨m0, w0⟩, turn⟩ := q D hDn (by rw [← hD]; exact Nat.ne_of_gt I2.big)
  -- the new list
  generalize hs3 : ({ s2 with heap := s2.heap.push { cls := .type "list", data := .seq ([] : List Value).toArray } } : Shared) = s3
  have I3 : Inv X pins σ (upd H2 D (.lst [])) s3 := by
    rw [← hs3]
    refine I2.laid (t' := s2.toks) (fun b o e => Heap.get?_push_of_some _ e) (Nat.le_of_eq hD) ⟨Nat.zero_le _, [], 0, .nil, ?_⟩
    rw [← hD]
    exact Heap.get?_push_size _ rfl
  have h3 : s3.heap = s2.heap.push { cls := .type "list", data := .seq ([] : List Value).toArray } := by rw [← hs3]
  have sz : ∀ b ∈ fp, b < s2.heap.objs.size := fun b hb => by
    obtain ⟨o, e, _⟩ := T.obj _ _ st2 b hb
    exact Heap.lt_size e
  have f3 : ∀ b ∈ fp, FpOk X pins (upd H2 D (.lst [])) b ∧ b < s3.heap.objs.size := fun b hb => by
    have hlt := sz b hb
    refine ⟨⟨?_, (f2 b hb).2⟩, by rw [h3, Heap.size_push]; exact Nat.lt_succ_of_lt hlt⟩
    rw [upd_ne (by rw [← hD]; exact Nat.ne_of_lt hlt)]
    exact (f2 b hb).1
  have st3 : tn 0 s3.heap := T.keep _ _ _ st2 fun b _ o e => by rw [h3]; exact Heap.get?_push_of_some _ e
  have I4 := block_start I3 ok hN f3
  have pg := hg s3 (upd H2 D (.lst [])) s3.heap.objs.size (cellsFrom (s3.heap.objs.size + 1) scope.names (cloFrom X.env.cells scope.names [])) fp
  have pt := ht s3 (upd H2 D (.lst [])) s3.heap.objs.size (cellsFrom (s3.heap.objs.size + 1) scope.names (cloFrom X.env.cells scope.names [])) fp
  have pe := he s3 (upd H2 D (.lst [])) s3.heap.objs.size (cellsFrom (s3.heap.objs.size + 1) scope.names (cloFrom X.env.cells scope.names [])) fp
  show codeAny _ _ (.compStart (.ListComp elt [⟨tg, iter, ifs, 0⟩] scope pos) 0 (.ref it) (.ref D) (compEnvC scope (cellsFrom (s3.heap.objs.size + 1) scope.names (cloFrom X.env.cells scope.names [])) s3.heap.objs.size X.env)) (compPost (model X.prog X.w) X.A X.xe use Qf (.ref D) s3.heap.objs.size) { s3 with heap := pushCells (s3.heap.push { cls := .type "dict", data := .dict #[] }) scope.names }
  have nfp : ∀ b ∈ fp, (upd H2 D (.lst [])) b = none := fun b hb => (f3 b hb).1.1
  generalize hce : compEnvC scope (cellsFrom (s3.heap.objs.size + 1) scope.names (cloFrom X.env.cells scope.names [])) s3.heap.objs.size X.env = ce at I4 pg pt pe ⊢
  have cL : ce.locals = s3.heap.objs.size := by subst hce; rfl
  generalize hH3 : upd H2 D (.lst []) = H3 at I3 I4 pg pt pe w0 nfp f3
  generalize hs4 : ({ s3 with heap := pushCells (s3.heap.push { cls := .type "dict", data := .dict #[] }) scope.names } : Shared) = s4 at I4 ⊢
  have st4 : tn 0 s4.heap := T.keep _ _ _ st3 fun b _ o e => by rw [← hs4]; exact pushCells_keeps _ _ _ _ (Heap.get?_push_of_some _ e)
  have stat : ∀ {σ' : L2.St} {H' : Hp} {s' : Shared}, Inv (X.blk s3 H3 scope ce fp) [] σ' H' s' → (∀ b ∈ fp, H' b = none) → ∀ b ∈ fp, FpOk (X.blk s3 H3 scope ce fp) [] H' b := fun {σ' H' s'} I' hn b hb =>
    ⟨hn b hb, (I'.ok.exf b hb).1, I'.ok.exfs b hb, .inl hb, fun x c e => (I'.ok.exf b hb).2 x c e, fun p hp => absurd (show p ∈ ([] : List (Addr × Obj)) ++ [] from hp) (by simp)⟩
  have loop : codeAny (model X.prog X.w) X.A (.compLoop (.ListComp elt [⟨tg, iter, ifs, 0⟩] scope pos) 0 (.ref it) (.ref D) ce) (compPost (model X.prog X.w) X.A X.xe use Qf (.ref D) s3.heap.objs.size) s4 := by
    refine compLoop_any (fun n s' => ∃ i H', Inv (X.blk s3 H3 scope ce fp) [] (wipe σ (own.map (·.2))) H' s' ∧ tn i s'.heap ∧ (∀ b ∈ fp, H' b = none) ∧ W i n H') ?_ m0 ⟨0, H3, I4, st4, nfp, w0⟩
    rintro n s5 ⟨i, H5, I5, st5, n5, w5⟩
    rcases turn i n H5 w5 with ⟨stop, qq⟩ | ⟨go, Nx, hNx, step⟩
    · have td := T.done (X.blk s3 H3 scope ce fp) rfl rfl rfl hc i [] s5 _ H5 (fun _ _ => False) I5 (stat I5 n5) st5 stop
      refine thnF td fun r s6 ⟨hr, I6⟩ => ?_
      subst hr
      -- back in the def's context
      have I7 : Inv X pins σ H5 s6 := I3.call' (ch := fp) I6.os I6.base I6.hok I6.bare fun b hb => ⟨(f3 b hb).1.2.2.2.1, (f3 b hb).1.2.1, (f3 b hb).1.2.2.2.2.1, (f3 b hb).1.2.2.2.2.2⟩
      have nC : H5 s3.heap.objs.size = none := by
        have z : H5 ce.locals = none := I6.free
        rw [cL] at z
        exact z
      obtain ⟨m, hn, _⟩ := I6.loc
      have hn : s6.heap.Ns ce.locals m := hn
      rw [cL] at hn
      exact hRR D s3.heap.objs.size s6 m H5 I7 qq hn (I3.fpOk (Nat.le_refl _) nC)
    · have ti := T.item (X.blk s3 H3 scope ce fp) rfl rfl rfl hc i [] s5 _ H5 (fun _ _ => False) I5 (stat I5 n5) st5 go
      refine thnF ti fun r s6 ⟨u, hr, h6⟩ => ?_
      subst hr
      refine thnF h6 fun _ s7 ⟨x, H7, I7, r7, y7, st7, n7⟩ => ?_
      have I7' := I7.pinned (stat I7 n7) (T.obj _ _ st7)
      refine thnF (pg.run _ s7 _ H7 x u _ I7' r7 (step x H7 y7)) fun _ s8 ⟨σ8, H8, I8, hw8, q8⟩ => ?_
      refine thnF (pt.run _ s8 σ8 H8 _ I8 q8) fun b s9 ⟨H9, I9, q9⟩ => ?_
      -- the turn's end
      have fin : ∀ {s' : Shared} {H' : Hp}, Inv (X.blk s3 H3 scope ce fp) ([] ++ pinsAt fp s7.heap) σ8 H' s' → Nx H' → ∃ m, m < n ∧ ∃ i H', Inv (X.blk s3 H3 scope ce fp) [] (wipe σ (own.map (·.2))) H' s' ∧ tn i s'.heap ∧ (∀ b ∈ fp, H' b = none) ∧ W i m H' := fun {s' H'} I' nx => by
        obtain ⟨m', hm, w'⟩ := hNx H' nx
        have pin' : ∀ b ∈ fp, ∀ o, s7.heap.get? b = some o → s'.heap.get? b = some o ∧ H' b = none := fun b hb o e =>
          let z := I'.pin (b, o) (List.mem_append_right _ (List.mem_append_right _ (mem_pinsAt hb e)))
          ⟨z.1, z.2.1⟩
        have hl : (wipe σ (own.map (·.2))).length = σ8.length := by rw [← hw8, wipe_length]
        refine ⟨m', hm, i + 1, H', (I'.unpinned (pins := [])).weak hl (fun j v e => ?_), T.keep _ _ _ st7 fun b hb o e => (pin' b hb o e).1, fun b hb => ?_, w'⟩
        · rw [← hw8] at e
          exact (wipe_some e).1
        · obtain ⟨o, e, _⟩ := T.obj _ _ st7 b hb
          exact (pin' b hb o e).2
      cases b with
      | false =>
        simp only [Bool.false_eq_true, if_false] at q9 ⊢
        exact fin I9 q9
      | true =>
        simp only [if_true] at q9 ⊢
        refine thnF (pe.run _ s9 σ8 H9 _ I9 q9) fun z s10 ⟨yv, H10, I10, r10, acc, hD10, hz10, nx⟩ => ?_
        exact app_ok (X := X.blk s3 H3 scope ce fp) I10 hD10 hz10 r10 fun s11 I11 => fin I11 nx
  exact codeAny_compStart_list loop (T.self X.A 0 _ _ _ st4 loop)
theorem pe_lcN {elt tg iter : Expr} {ifs : List Expr} {scope : Scope} {own : List (Str × Nat)} {pos : Pos} {wi : TI} {g : TG} {tt : TT} {te : TE} (hc : X.calm = true) (hN : X.N.Nodup) (hi : PI X tg iter wi) (ok : BlkOk X.N X.env.scope scope own)
    (hg : ∀ (s : Shared) (H : Hp) (C : Addr) (cl : List (Str × Addr)) (fp : List Addr), PG (X.blk s H scope (compEnvC scope cl C X.env) fp) tg g) (ht : ∀ (s : Shared) (H : Hp) (C : Addr) (cl : List (Str × Addr)) (fp : List Addr), PTs (X.blk s H scope (compEnvC scope cl C X.env) fp) ifs tt)
    (he : ∀ (s : Shared) (H : Hp) (C : Addr) (cl : List (Str × Addr)) (fp : List Addr), PE (X.blk s H scope (compEnvC scope cl C X.env) fp) elt te) (hs : ∀ x, foldedSetIterable iter X.env x = pure x := by intro _; rfl) :
    PE X (.ListComp elt [⟨tg, iter, ifs, 0⟩] scope pos) (tLcN wi g tt te (own.map (·.2))) := by
  refine ⟨fun pins s σ H Q I h => ?_⟩
  rw [eval_ListComp]
  refine lc_coreN hc hN I hi ok hg ht he hs h fun D C s' m H' I' q hn f => ⟨m, hn, fun h'' sb => ?_⟩
  obtain ⟨f0, f1, f2, f3, f4, f5⟩ := f
  exact ⟨.ref D, H', I'.turned (t' := s'.toks) (fun b o hb e => (sb.2 b hb).trans e) f0 f1 f3 f4 f5, rfl, q⟩
theorem ps_setLcN {i : Nat} {y : Str} {py : Pos} {elt tg iter : Expr} {ifs : List Expr} {scope : Scope} {own : List (Str × Nat)} {pos spos : Pos} {wi : TI} {g : TG} {tt : TT} {te : TE} (hc : X.calm = true) (hN : X.N.Nodup) (hy : X.N[i]? = some y) (hyl : X.env.scope.names.lookup y = some .local)
    (hsw : swapsWith (.ListComp elt [⟨tg, iter, ifs, 0⟩] scope pos) (some (.Name y py)) spos.line X.env = pure true) (hi : PI X tg iter wi) (ok : BlkOk X.N X.env.scope scope own)
    (hg : ∀ (s : Shared) (H : Hp) (C : Addr) (cl : List (Str × Addr)) (fp : List Addr), PG (X.blk s H scope (compEnvC scope cl C X.env) fp) tg g) (ht : ∀ (s : Shared) (H : Hp) (C : Addr) (cl : List (Str × Addr)) (fp : List Addr), PTs (X.blk s H scope (compEnvC scope cl C X.env) fp) ifs tt)
    (he : ∀ (s : Shared) (H : Hp) (C : Addr) (cl : List (Str × Addr)) (fp : List Addr), PE (X.blk s H scope (compEnvC scope cl C X.env) fp) elt te) (hs : ∀ x, foldedSetIterable iter X.env x = pure x := by intro _; rfl) :
    PS X (.Assign [.Name y py] (.ListComp elt [⟨tg, iter, ifs, 0⟩] scope pos) spos) (tAsg (tLcN wi g tt te (own.map (·.2))) (gName i)) := by
  refine ⟨fun pins s σ H D I h => ?_⟩
  rw [exec_Assign_Name_used _ _ _ _ hsw]
  refine wpAny_bind (wpAny_standAt (wpAny_bind ?_))
  show wpAny _ X.A (do let _ ← comprehension (.ListComp elt [⟨tg, iter, ifs, 0⟩] scope pos) scope X.env (firstIterPos [⟨tg, iter, ifs, 0⟩] pos) (newList []) false (eval iter X.env) (some (assign (.Name y py) X.env))) _ _ s
  have h : tLcN wi g tt te (own.map (·.2)) σ H (fun x H1 => gName i x σ H1 D.nx) := h
  refine wpAny_bind (thn (lc_coreN (Qf := fun _ s' => SP X pins D .next s') hc hN I hi ok hg ht he hs h fun L C s' m H' I' q hn f => ?_) fun _ s' hq => wpAny_pure (wpAny_pure hq))
  show wpAny _ _ (assign (.Name y py) X.env (.ref L)) _ _ _
  refine wpAny_assign_Name (store_ok2 (v := V.ref L) I' hN hy (.inl hyl) rfl (fun s2 I2 ⟨a, sb, ha⟩ => ?_) (.inr hyl))
  obtain ⟨f0, f1, f2, f3, f4, f5⟩ := f
  have haC : C ≠ a := by
    rcases ha with z | z
    · rw [z]; exact f1
    · exact fun e => f4 y a z e.symm
  refine ⟨m, hn.sameBut sb haC, fun h3 sb3 => ?_⟩
  exact ⟨_, H', I2.turned (t' := s2.toks) (fun b o hb e => (sb3.2 b hb).trans e) f0 f1 f3 f4 f5, q⟩section
variable {e : Expr} {te : TE} {p pos apos cpos : Pos}
/-- list(d.items()), the new list told not to lie where the modules are kept; it follows the library's pe_listItems -/
def tListItemsN (te : TE) : TE := fun σ H Q => te σ H fun x H1 => ∃ (d : Addr) (kvs : List (Key × V)), x = .ref d ∧ H1 d = some (.dK kvs) ∧
  ∀ (H' : Hp) (p : Addr) (ts : List Addr), (∀ b o, H1 b = some o → H' b = some o) → H1 p = none → p ≠ sysModules → (∀ t ∈ ts, H1 t = none) → p ∉ ts → H' p = some (.lst (ts.map V.ref)) → Paired (fun (t : Addr) (q : Key × V) => H' t = some (.tup [kV q.1, q.2])) ts kvs → Q (.ref p) H'
open LiI in
/-- list(e.items()) -/
theorem pe_listItemsN (hc : X.calm = true) (he : PE X e te) (hg : Gl X "list") (hm : X.mg "list" = none) (hv : bootBuiltins "list" = some (.type "list")) (hbase : attributeBase e "items" X.env (eval e X.env) = eval e X.env := by rfl) (hline : (apos.endLine == cpos.line) = true := by rfl)
    (hs : starEach [.Call (.Attribute e "items" apos) [] [] cpos] X.env = (false, eval (.Call (.Attribute e "items" apos) [] [] cpos) X.env) :: starEach [] X.env := by rfl) :
    PE X (.Call (.Name "list" p) [.Call (.Attribute e "items" apos) [] [] cpos] [] pos) (tListItemsN te) := by
  refine ⟨fun pins s σ H Q I hq => ?_⟩
  refine wpAny_Call_Name_kw (ld_blt I hg hm hv ?_)
  refine PyProof.Rows.callWith_type1 ?_ hs rfl
  rw [hs]
  show wpAny _ _ (spliced ((false, eval (.Call (.Attribute e "items" apos) [] [] cpos) X.env) :: backTo pos (starEach [] X.env))) _ _ s
  refine Calls.spliced_cons ?_
  refine wpAny_Call_method (T := "dict") (id := "dict.items") hbase rfl hline F.plainAttrs_dict F.slot_dict_items F.type_dict_items (thn (he.run pins s σ H _ I hq) fun u s1 ⟨x, H1, I1, rx, d, kvs, ex, hd, q⟩ => ?_)
  subst ex
  obtain rfl : u = Value.ref d := rx
  obtain ⟨hz, hs0, vs, kv, hdo⟩ := I1.hok d _ hd
  obtain ⟨ep, hat⟩ := hdo.dictAt
  have lk : kvs.length = vs.length := Paired.length kv
  have I2 : Inv X pins σ H1 { s1 with heap := s1.heap.push { cls := .type "dict_items", data := .fields #[.ref d] } } := I1.kept (t' := s1.toks) fun b ob q => Heap.get?_push_of_some _ q
  refine ⟨hdo.typeIs, hdo.mapOf.noDict, ?_⟩
  show wpAny _ _ (callWith cpos (.builtin "dict.items") [.ref d] [] []) _ X.xe s1
  refine method_meetsIn F.slot_dict_items F.entry_dict_items rfl (PySem.evalArgs_none ⟨rfl, hdo.typeIs, F.args_dict_items_1 _, _, meets_dict_items (mixKind X.prog X.w) d hs0, ⟨vs, hdo⟩, ?_⟩)
  refine Calls.spliced_nil ?_
  refine PySem.W.kdx_call (knd := mixKind X.prog X.w) (kvs := vs) (ep := ep) (I1.ok.hd hc) ⟨_, Heap.get?_push_size _ rfl, rfl, rfl⟩ (hat.push _) (by omega) fun h' tk acc c as hk hS hl hG hacc => ?_
  obtain ⟨H', k1, k2, k3, k4, k5, k6, J⟩ := items_laid (tk := tk) I2 hz kv hk hS hl hG hacc
  exact ⟨.ref _, H', J, rfl, q H' _ as k1 k2 (Nat.ne_of_gt I2.big) k3 k4 k5 k6⟩
end
end
end Wnd

/-! dicts made name by name -/
namespace Wnd
open PySem PySem.Spec PyProof.Rows L2
theorem iteTe {b : Bool} {p q : Prop} (h : b = true) (x : p) : if b = true then p else q := by
  rw [h]
  exact x
theorem iteFe {b : Bool} {p q : Prop} (h : b = false) (x : q) : if b = true then p else q := by
  rw [h]
  exact x
theorem pi_listK {X : Cx} {tg e : Expr} {te : TE} (K : PySem.W.Frag) (he : PE X e te) (h : X.K = K := by rfl) : PI X tg e (iList K te) := by
  subst h
  exact pi_list he
theorem tYes_mk {σ : L2.St} {H : Hp} {Q : Bool → Hp → Prop} (h : Q true H) : tYes σ H Q := h
def mapG (F : Str → Int) (ns : List Str) : List (Str × Int) := ns.map fun t => (t, F t)
theorem mapG_keys (F : Str → Int) (ns : List Str) : (mapG F ns).map (·.1) = ns := by
  unfold mapG
  rw [List.map_map]
  exact List.map_id' ns
theorem put_fresh {g : List (Str × Int)} {t : Str} {v : Int} (h : t ∉ g.map (·.1)) : putK (goalKV g) (Sum.inr t : Key) (V.int v) = goalKV (g ++ [(t, v)]) := by
  unfold putK
  have z : ¬ ((goalKV g).any fun kv => decide (kv.1 = (Sum.inr t : Key))) = true := fun z => by
    obtain ⟨y, hy, e⟩ := List.any_eq_true.mp z
    obtain ⟨x, hx, rfl⟩ := List.mem_map.mp hy
    have e : (Sum.inr x.1 : Key) = Sum.inr t := of_decide_eq_true e
    injection e with e
    exact h (e ▸ List.mem_map.mpr ⟨x, hx, rfl⟩)
  rw [if_neg z]
  unfold goalKV
  rw [List.map_append]
  rfl
/-- {t: F t for t in names} -/
theorem dc_goal {K : PySem.W.Frag} {l D : Addr} {ns : List Str} (F : Str → Int) {H1 : Hp} {gT : TG} {tt : TT} {tk tv : TE} {vs : List Nat} {σ : L2.St} {Qd : Hp → Prop} (hl : H1 l = some (.lst (ns.map V.str))) (nn : ns.Nodup) (hz : ns.length < 1000) (hD : H1 D = none)
    (hs : ∀ (i : Nat) (hi : i < ns.length) (Hc : Hp) (Nx : Hp → Prop), Same H1 Hc → (∀ H', Same Hc H' → ∃ kvs k, V.str ns[i] = kV k ∧ H' D = some (.dK kvs) ∧ kvs.length < sizeLine ∧ Nx (upd H' D (.dK (putK kvs k (V.int (F ns[i])))))) →
      gT (V.str ns[i]) (wipe σ vs) Hc fun σ2 H2 => wipe σ2 vs = wipe σ vs ∧ tt σ2 H2 fun b H3 => if b = true then tk σ2 H3 fun y H4 => tv σ2 H4 fun z H5 => ∃ kvs k, y = kV k ∧ H5 D = some (.dK kvs) ∧ kvs.length < sizeLine ∧ Nx (upd H5 D (.dK (putK kvs k z))) else Nx H3)
    (hd : ∀ Hc, Same H1 Hc → Hc D = some (.dK (goalKV (mapG F ns))) → Qd Hc) :
    ∃ W : Nat → Nat → Hp → Prop, (∃ m, W 0 m (upd H1 D (.dK []))) ∧ ∀ i m H, W i m H →
      ((Itl K l).stop i H ∧ Qd H) ∨ ((Itl K l).go i H ∧ ∃ Nx : Hp → Prop, (∀ H', Nx H' → ∃ m', m' < m ∧ W (i + 1) m' H') ∧ ∀ x H', (Itl K l).yld i H x H' → gT x (wipe σ vs) H' fun σ2 H2 => wipe σ2 vs = wipe σ vs ∧ tt σ2 H2 fun b H3 =>
        if b = true then tk σ2 H3 fun y H4 => tv σ2 H4 fun z H5 => ∃ kvs k, y = kV k ∧ H5 D = some (.dK kvs) ∧ kvs.length < sizeLine ∧ Nx (upd H5 D (.dK (putK kvs k z))) else Nx H3) := by
  have big : sizeLine > 100000 := by decide
  refine dc_it (walk_list (xs := ns.map V.str)) (fun i Hc => Same H1 Hc ∧ Hc D = some (.dK (goalKV (mapG F (ns.take i))))) ⟨same_new hD, upd_same⟩ (fun i Hc _ h => SqL.of (h.1 _ _ hl)) ?_ ?_
  · rintro i v Hc H' hi ⟨sc, hd⟩ ⟨rfl, hv⟩
    have hi' : i < ns.length := by rwa [List.length_map] at hi
    rw [List.getElem?_map, List.getElem?_eq_getElem hi'] at hv
    cases hv
    refine hs i hi' H' (fun H => Same H1 H ∧ H D = some (.dK (goalKV (mapG F (ns.take (i + 1)))))) sc fun H'' s'' => ⟨goalKV (mapG F (ns.take i)), Sum.inr ns[i], rfl, s'' _ _ hd, ?_, ?_, ?_⟩
    · unfold goalKV mapG
      rw [List.length_map, List.length_map, List.length_take]
      omega
    · intro b o hb
      rw [upd_ne (ne_of_none hb hD)]
      exact s'' _ _ (sc _ _ hb)
    · have ne : ns[i] ∉ (mapG F (ns.take i)).map (·.1) := by
        rw [mapG_keys]
        intro m
        obtain ⟨j, hj, e⟩ := List.getElem_of_mem m
        rw [List.length_take] at hj
        rw [List.getElem_take] at e
        have := (List.getElem_inj (h₀ := by omega) (h₁ := hi') nn).mp e
        omega
      rw [put_fresh ne, upd_same]
      congr 3
      rw [List.take_add_one, List.getElem?_eq_getElem hi']
      unfold mapG
      rw [List.map_append]
      rfl
  · rintro Hc ⟨sc, hd'⟩
    rw [List.length_map, List.take_length] at hd'
    exact hd Hc sc hd'
/-- [(t, F t) for t in names] -/
theorem lc_mapG {K : PySem.W.Frag} {l D : Addr} {ns : List Str} (F : Str → Int) {H1 : Hp} {gT : TG} {tt : TT} {te : TE} {vs : List Nat} {σ : L2.St} {Qd : Hp → Prop} (hl : H1 l = some (.lst (ns.map V.str))) (hz : ns.length < 1000) (hD : H1 D = none)
    (hs : ∀ (i : Nat) (hi : i < ns.length) (Hc : Hp) (Nx : Hp → Prop), Same H1 Hc → (∀ H', Same Hc H' → ∀ T, H' T = none → ∃ acc, (upd H' T (.tup [.str ns[i], .int (F ns[i])])) D = some (.lst acc) ∧ acc.length < sizeLine ∧ Nx (upd (upd H' T (.tup [.str ns[i], .int (F ns[i])])) D (.lst (acc ++ [.ref T])))) →
      gT (V.str ns[i]) (wipe σ vs) Hc fun σ2 H2 => wipe σ2 vs = wipe σ vs ∧ tt σ2 H2 fun b H3 => if b = true then te σ2 H3 fun y H4 => ∃ acc, H4 D = some (.lst acc) ∧ acc.length < sizeLine ∧ Nx (upd H4 D (.lst (acc ++ [y]))) else Nx H3)
    (hd : ∀ Hc ps, Same H1 Hc → Hc D = some (.lst (ps.map V.ref)) → Paired (fun u x => Hc u = some (.tup [.str x.1, .int x.2])) ps (mapG F ns) → Qd Hc) :
    ∃ W : Nat → Nat → Hp → Prop, (∃ m, W 0 m (upd H1 D (.lst []))) ∧ ∀ i m H, W i m H →
      ((Itl K l).stop i H ∧ Qd H) ∨ ((Itl K l).go i H ∧ ∃ Nx : Hp → Prop, (∀ H', Nx H' → ∃ m', m' < m ∧ W (i + 1) m' H') ∧ ∀ x H', (Itl K l).yld i H x H' → gT x (wipe σ vs) H' fun σ2 H2 => wipe σ2 vs = wipe σ vs ∧ tt σ2 H2 fun b H3 =>
        if b = true then te σ2 H3 fun y H4 => ∃ acc, H4 D = some (.lst acc) ∧ acc.length < sizeLine ∧ Nx (upd H4 D (.lst (acc ++ [y]))) else Nx H3) := by
  have big : sizeLine > 100000 := by decide
  refine lc_it (walk_list (xs := ns.map V.str)) (fun i Hc => ∃ ps, Same H1 Hc ∧ Hc D = some (.lst (ps.map V.ref)) ∧ Paired (fun u x => Hc u = some (.tup [.str x.1, .int x.2])) ps (mapG F (ns.take i))) ⟨[], same_new hD, upd_same, .nil⟩ (fun i Hc _ ⟨_, s, _⟩ => SqL.of (s _ _ hl)) ?_ ?_
  · rintro i v Hc H' hi ⟨ps, sc, hd, hp⟩ ⟨rfl, hv⟩
    have hi' : i < ns.length := by rwa [List.length_map] at hi
    rw [List.getElem?_map, List.getElem?_eq_getElem hi'] at hv
    cases hv
    have hpl : ps.length = i := by
      have := hp.length
      unfold mapG at this
      rw [List.length_map, List.length_take] at this
      omega
    refine hs i hi' H' (fun H => ∃ ps, Same H1 H ∧ H D = some (.lst (ps.map V.ref)) ∧ Paired (fun u x => H u = some (.tup [.str x.1, .int x.2])) ps (mapG F (ns.take (i + 1)))) sc fun H'' s'' T nT => ?_
    have h2 := s'' _ _ hd
    have nDT : D ≠ T := ne_of_none h2 nT
    refine ⟨ps.map V.ref, by rw [upd_ne nDT]; exact h2, by rw [List.length_map]; omega, ps ++ [T], fun b o hb => ?_, by rw [upd_same, List.map_append]; rfl, ?_⟩
    · rw [upd_ne (ne_of_none hb hD), upd_ne (ne_of_none (s'' _ _ (sc _ _ hb)) nT)]
      exact s'' _ _ (sc _ _ hb)
    · have em : mapG F (ns.take (i + 1)) = mapG F (ns.take i) ++ [(ns[i], F ns[i])] := by
        rw [List.take_add_one, List.getElem?_eq_getElem hi']
        unfold mapG
        rw [List.map_append]
        rfl
      rw [em]
      refine Paired.snoc (Paired.mono (fun u x hu => ?_) hp) ?_
      · have hu2 := s'' _ _ hu
        rw [upd_ne (ne_of hu2 h2 fun z => nomatch z), upd_ne (ne_of_none hu2 nT)]
        exact hu2
      · rw [upd_ne nDT.symm]
        exact upd_same
  · rintro Hc ⟨ps, sc, hd', hp⟩
    rw [List.length_map, List.take_length] at hp
    exact hd Hc ps sc hd' hp
structure NumAt (H : Hp) (ns : List Str) (d : Addr) (g : List (Str × Int)) : Prop where
  at_ : H d = some (.dK (goalKV g))
  ok : NumsOk ns g
theorem NumAt.same {H H' : Hp} {ns : List Str} {d : Addr} {g : List (Str × Int)} (h : NumAt H ns d g) (s : Same H H') : NumAt H' ns d g := ⟨s _ _ h.at_, h.ok⟩
theorem NumAt.get {H : Hp} {ns : List Str} {d : Addr} {g : List (Str × Int)} (h : NumAt H ns d g) {t : Str} (m : t ∈ ns) : DGet H d (V.str t) (some (.int (valG g (some t)))) := by
  have := DGet.k (k := Sum.inr t) h.at_
  rwa [goal_val (h.ok.1.mem_iff.mpr m)] at this
/-- numbers of these names -/
structure DictAt (H : Hp) (ts : List Str) (d : Addr) (g : List (Str × Int)) : Prop where
  at_ : H d = some (.dK (goalKV g))
  keys : (g.map (·.1)).Perm ts
  bnd : ∀ x ∈ g, -99999 ≤ x.2 ∧ x.2 ≤ 99999
theorem DictAt.same {H H' : Hp} {ts : List Str} {d : Addr} {g : List (Str × Int)} (h : DictAt H ts d g) (s : Same H H') : DictAt H' ts d g := ⟨s _ _ h.at_, h.keys, h.bnd⟩
theorem DictAt.but {H H' : Hp} {p : Addr} {ts : List Str} {d : Addr} {g : List (Str × Int)} (h : DictAt H ts d g) (b : But p H H') (hp : ∃ ys, H p = some (.lst ys)) : DictAt H' ts d g := by
  obtain ⟨ys, hp⟩ := hp
  exact ⟨b _ _ h.at_ (ne_of h.at_ hp fun z => nomatch z), h.keys, h.bnd⟩
theorem DictAt.num {H : Hp} {ts : List Str} {d : Addr} {g : List (Str × Int)} (h : DictAt H ts d g) : NumAt H (sortN ts) d g := ⟨h.at_, h.keys.trans (sortN_perm ts).symm, h.bnd⟩
theorem DictAt.nodup {H : Hp} {ts : List Str} {d : Addr} {g : List (Str × Int)} (h : DictAt H ts d g) (n : ts.Nodup) : (g.map (·.1)).Nodup := h.keys.nodup_iff.mpr n
theorem DictAt.len {H : Hp} {ts : List Str} {d : Addr} {g : List (Str × Int)} (h : DictAt H ts d g) : g.length = ts.length := by
  have := h.keys.length_eq
  rw [List.length_map] at this
  exact this
/-- a dict made name by name, held against numbers -/
theorem vals_same {ns : List Str} {F : Str → Int} {g : List (Str × Int)} (hk : (g.map (·.1)).Perm ns) (h : ∀ t ∈ ns, F t = valG g (some t)) : (goalKV (mapG F ns)).length = (goalKV g).length ∧ ∀ p ∈ goalKV (mapG F ns), valV (goalKV g) p.1 = some p.2 ∧ flatB p.2 = true := by
  refine ⟨?_, fun p hp => ?_⟩
  · unfold goalKV mapG
    rw [List.length_map, List.length_map, List.length_map]
    have := hk.length_eq
    rw [List.length_map] at this
    exact this.symm
  · unfold goalKV mapG at hp
    rw [List.map_map] at hp
    obtain ⟨t, ht, rfl⟩ := List.mem_map.mp hp
    refine ⟨?_, rfl⟩
    show valV (goalKV g) (Sum.inr t) = some (V.int (F t))
    rw [goal_val (hk.mem_iff.mpr ht), h t ht]
end Wnd

/-! fixed settings, pairs of prices; the class Task -/
namespace Wnd
open PySem PySem.Spec PyProof.Rows L2
abbrev s_Prices_is_fixed : Stmt := inClass (top 37) 5
theorem sc_Prices_is_fixed : FnScope ["self", "name"] ["self", "name"] (defScope s_Prices_is_fixed) := ⟨rfl, rfl, rfl, by decide +kernel, rfl, by decide +kernel, by decide +kernel⟩
abbrev s_Prices_pair_of : Stmt := inClass (top 37) 6
theorem sc_Prices_pair_of : FnScope ["self", "name"] ["self", "name"] (defScope s_Prices_pair_of) := ⟨rfl, rfl, rfl, by decide +kernel, rfl, by decide +kernel, by decide +kernel⟩
abbrev s_Task___init : Stmt := inClass (top 38) 0
theorem sc_Task___init : FnScope ["self", "system", "numbers", "prices", "name"] ["self", "system", "numbers", "prices"] (defScope s_Task___init) := ⟨rfl, rfl, rfl, by decide +kernel, rfl, by decide +kernel, by decide +kernel⟩
abbrev s_Task_system : Stmt := inClass (top 38) 1
theorem sc_Task_system : FnScope ["self"] ["self"] (defScope s_Task_system) := ⟨rfl, rfl, rfl, by decide +kernel, rfl, by decide +kernel, by decide +kernel⟩
abbrev s_Task_numbers : Stmt := inClass (top 38) 2
theorem sc_Task_numbers : FnScope ["self"] ["self"] (defScope s_Task_numbers) := ⟨rfl, rfl, rfl, by decide +kernel, rfl, by decide +kernel, by decide +kernel⟩
abbrev s_Task_prices : Stmt := inClass (top 38) 3
theorem sc_Task_prices : FnScope ["self"] ["self"] (defScope s_Task_prices) := ⟨rfl, rfl, rfl, by decide +kernel, rfl, by decide +kernel, by decide +kernel⟩
theorem iteFq {A B : Prop} {b : Bool} (h : b = false) (x : B) : if b = true then A else B := by rw [h]; exact x
theorem iteTq {A B : Prop} {b : Bool} (h : b = true) (x : A) : if b = true then A else B := by rw [h]; exact x
def fixB (G : Own) (t : Str) : Bool := match valO G t with
  | some none => true
  | _ => false
def pairN (r l : Int) (G : Own) (t : Str) : Int × Int := match valO G t with
  | some (some i) => (i, i)
  | _ => (r, l)
def costC (r l : Int) (G : Own) (t : Str) (c : Int) : Int := if c = 0 then 0 else if c > 0 then c * (pairN r l G t).1 else (-c) * (pairN r l G t).2
section
variable {P : Program} {w : World} {K : PySem.W.Frag} {mg : Str → Option Value} {base : Heap}
def spFixed (C : Addr) : Sp := fun vs H Q _ => ∃ (x : Addr) (t : Str) (r l : Int) (g : Own), vs = [.ref x, .str t] ∧ PrcAt C H x r l g ∧ Q (.bl (fixB g t)) H
theorem ok_isFixed {C : Addr} {qn : Str} {f : Addr} {fd : FuncData} (F : Fun K "is_fixed" qn s_Prices_is_fixed f fd) (T : PrC K mg C) : FnOk P w K mg base CX0 1 f fd ["self", "name"] (spFixed C) := by
  refine F.ok sc_Prices_is_fixed (fun vs H Q E h => ?_) (fun cdv A outer s H vs Q E hr h => ?_)
  · obtain ⟨x, t, r, l, g, rfl, _⟩ := h
    rfl
  · obtain ⟨x, t, r, l, g, rfl, ⟨dx, ls, h1, h2, h3⟩, q⟩ := h
    have hu := hu_of hr
    refine ⟨_, (pss_one (ps_ret (pe_and (pe_cmp (pc_din hu (pv 1) (pe_fld (pv 0) rfl))) (pe_one (pe_cmpR op_isN (pe_dget hu (pe_fld (pv 0) rfl) (pv 1) (fun _ _ => rfl)) pe_non (nomark _)))))), ?_⟩
    have dg : DGet H ls (V.str t) ((valO g t).map optV) := by
      have := DGet.k (k := Sum.inr t) h2
      rwa [val_own] at this
    refine ⟨_, rfl, _, rfl, x, C, dx, _, _, rfl, h1, T.cl, T.nS, prF_single _ _ _, ls, _, rfl, dg, ?_⟩
    unfold fixB at q
    cases e : valO g t with
    | none =>
      rw [e] at q
      exact ⟨_, rfl, q⟩
    | some o =>
      rw [e] at q dg
      refine ⟨_, rfl, iteT ⟨_, rfl, x, C, dx, _, _, rfl, h1, T.cl, T.nS, prF_single _ _ _, _, rfl, ls, _, rfl, dg, rfl, ?_⟩⟩
      cases o with
      | none => exact q
      | some i => exact q
def spPair (C : Addr) : Sp := fun vs H Q _ => ∃ (x : Addr) (t : Str) (r l : Int) (g : Own), vs = [.ref x, .str t] ∧ PrcAt C H x r l g ∧ fixB g t = false ∧ ∀ T, H T = none → Q (.ref T) (upd H T (.tup [.int (pairN r l g t).1, .int (pairN r l g t).2]))
theorem ok_pairOf {C : Addr} {qn : Str} {f : Addr} {fd : FuncData} (F : Fun K "pair_of" qn s_Prices_pair_of f fd) (T : PrC K mg C) : FnOk P w K mg base CX0 1 f fd ["self", "name"] (spPair C) := by
  refine F.ok sc_Prices_pair_of (fun vs H Q E h => ?_) (fun cdv A outer s H vs Q E hr h => ?_)
  · obtain ⟨x, t, r, l, g, rfl, _⟩ := h
    rfl
  · obtain ⟨x, t, r, l, g, rfl, ⟨dx, ls, h1, h2, h3⟩, hf, q⟩ := h
    have hu := hu_of hr
    refine ⟨_, (pss_cons (ps_if (pt_cmp (pc_din hu (pv 1) (pe_fld (pv 0) rfl))) (pss_one (ps_ret (pe_tup (pa_cons (pe_dget hu (pe_fld (pv 0) rfl) (pv 1) (fun _ _ => rfl)) (pa_cons (pe_dget hu (pe_fld (pv 0) rfl) (pv 1) (fun _ _ => rfl)) pa_nil))))) pss_nil)
      (pss_one (ps_ret (pe_tup (pa_cons (pe_fld (pv 0) rfl) (pa_cons (pe_fld (pv 0) rfl) pa_nil)))))), ?_⟩
    have dg : DGet H ls (V.str t) ((valO g t).map optV) := by
      have := DGet.k (k := Sum.inr t) h2
      rwa [val_own] at this
    refine ⟨_, rfl, _, rfl, x, C, dx, _, _, rfl, h1, T.cl, T.nS, prF_single _ _ _, ls, _, rfl, dg, _, rfl, ?_⟩
    unfold pairN at q
    unfold fixB at hf
    cases e : valO g t with
    | none =>
      rw [e] at q
      refine iteF ⟨_, rfl, x, C, dx, _, _, rfl, h1, T.cl, T.nR, prF_rais _ _ _, _, rfl, x, C, dx, _, _, rfl, h1, T.cl, T.nL, prF_low _ _ _, by show 2 ≤ sizeLine; decide, fun T hT => q T hT⟩
    | some o =>
      rw [e] at q dg hf
      cases o with
      | none => cases hf
      | some i =>
        exact iteT ⟨_, rfl, x, C, dx, _, _, rfl, h1, T.cl, T.nS, prF_single _ _ _, _, rfl, ls, _, rfl, dg, _, rfl, x, C, dx, _, _, rfl, h1, T.cl, T.nS, prF_single _ _ _, _, rfl, ls, _, rfl, dg, by show 2 ≤ sizeLine; decide, fun T hT => q T hT⟩
theorem pairN_ok {r l : Int} {g : Own} (h : PrV r l g) (t : Str) : Pr9 (pairN r l g t).1 ∧ Pr9 (pairN r l g t).2 := by
  unfold pairN
  cases e : valO g t with
  | none => exact ⟨h.r, h.l⟩
  | some o =>
    cases o with
    | none => exact ⟨h.r, h.l⟩
    | some i =>
      have := h.own.vals _ (val_in e) i rfl
      exact ⟨this, this⟩
def spChange (C : Addr) : Sp := fun vs H Q _ => ∃ (x : Addr) (t : Str) (c r l : Int) (g : Own), vs = [.ref x, .str t, .int c] ∧ PrcAt C H x r l g ∧ (c ≠ 0 → fixB g t = false) ∧ -1000000 ≤ c ∧ c ≤ 1000000 ∧ ∀ H', Same H H' → Q (.int (costC r l g t c)) H'
end
end Wnd

/-! tasks; prices of numbers -/
namespace Wnd
open PySem PySem.Spec PyProof.Rows L2
section
variable {P : Program} {w : World} {K : PySem.W.Frag} {mg : Str → Option Value} {base : Heap}
def taF (sx ld px : Addr) : List (Str × V) := putF "_prices" (.ref px) (putF "_numbers" (.ref ld) (putF "_system" (.ref sx) []))
theorem taF_pr (sx ld px : Addr) : (taF sx ld px).lookup ("_prices" : Str) = some (.ref px) := by
  unfold taF
  rw [lookup_putF, if_pos rfl]
theorem taF_num (sx ld px : Addr) : (taF sx ld px).lookup ("_numbers" : Str) = some (.ref ld) := by
  unfold taF
  rw [lookup_putF, if_neg (by decide +kernel), lookup_putF, if_pos rfl]
theorem taF_sys (sx ld px : Addr) : (taF sx ld px).lookup ("_system" : Str) = some (.ref sx) := by
  unfold taF
  rw [lookup_putF, if_neg (by decide +kernel), lookup_putF, if_neg (by decide +kernel), lookup_putF, if_pos rfl]
theorem taF_no {sx ld px : Addr} {m : Str} (h1 : ¬ m = "_prices") (h2 : ¬ m = "_numbers") (h3 : ¬ m = "_system") : (taF sx ld px).lookup m = none := by
  unfold taF
  rw [lookup_putF, if_neg h1, lookup_putF, if_neg h2, lookup_putF, if_neg h3]
  rfl
structure TaC (K : PySem.W.Frag) (mg : Str → Option Value) (CT : Addr) : Prop where
  cl : Cls K CT
  nS : NoAttr K CT "_system"
  nN : NoAttr K CT "_numbers"
  nP : NoAttr K CT "_prices"
  mgC : mg "Task" = some (.ref CT)
/-- numbers in the order of the names -/
def ordG (ns : List Str) (g : List (Str × Int)) : List (Str × Int) := mapG (fun t => valG g (some t)) ns
theorem ordG_ok {ns : List Str} {g : List (Str × Int)} (h : NumsOk ns g) (nodup : ns.Nodup) : NumsOk ns (ordG ns g) := by
  unfold ordG
  refine ⟨by rw [mapG_keys], fun x hx => ?_⟩
  unfold mapG at hx
  obtain ⟨t, ht, rfl⟩ := List.mem_map.mp hx
  have m : t ∈ g.map (·.1) := h.1.mem_iff.mpr ht
  obtain ⟨y, hy, e⟩ := List.mem_map.mp m
  have nd : (g.map (·.1)).Nodup := h.1.nodup_iff.mpr nodup
  have : valG g (some t) = y.2 := by
    show (g.lookup t).getD 0 = _
    have := lookup_nodup (t := y.1) (v := y.2) nd hy
    rw [← e, this]
    rfl
  show -99999 ≤ valG g (some t) ∧ valG g (some t) ≤ 99999
  rw [this]
  exact h.2 y hy
theorem lookup_map (F : Str → Int) (t : Str) : ∀ ns : List Str, t ∈ ns → (mapG F ns).lookup t = some (F t)
  | [], h => nomatch h
  | n :: ns, h => by
    unfold mapG
    rw [List.map_cons, List.lookup_cons]
    by_cases e : t = n
    · subst e
      simp
    · have : (t == n) = false := by simpa using e
      rw [this]
      rcases List.mem_cons.mp h with h | h
      · exact absurd h e
      · exact lookup_map F t ns h
theorem valG_map {F : Str → Int} {t : Str} {ns : List Str} (h : t ∈ ns) : valG (mapG F ns) (some t) = F t := by
  show ((mapG F ns).lookup t).getD 0 = _
  rw [lookup_map F t ns h]
  rfl
/-- a task stands at x: its system, its numbers, its prices -/
structure TaV (C CP : Addr) (H : Hp) (sx ld px : Addr) (ns : List Str) (L : List (Rule × Addr)) (g : List (Str × Int)) (r l : Int) (G : Own) : Prop where
  sys : SysAt C H sx ns L
  num : H ld = some (.dK (goalKV (ordG ns g)))
  ok : NumsOk ns g
  pr : PrcAt CP H px r l G
def TaskAt (C CP CT : Addr) (H : Hp) (x : Addr) (ns : List Str) (L : List (Rule × Addr)) (g : List (Str × Int)) (r l : Int) (G : Own) : Prop := ∃ dx sx ld px, H x = some (.ins CT dx (taF sx ld px)) ∧ TaV C CP H sx ld px ns L g r l G
theorem TaV.same {C CP : Addr} {H H' : Hp} {sx ld px : Addr} {ns : List Str} {L : List (Rule × Addr)} {g : List (Str × Int)} {r l : Int} {G : Own} (h : TaV C CP H sx ld px ns L g r l G) (s : Same H H') : TaV C CP H' sx ld px ns L g r l G := ⟨h.sys.same s, s _ _ h.num, h.ok, h.pr.same s⟩
theorem TaskAt.same {C CP CT : Addr} {H H' : Hp} {x : Addr} {ns : List Str} {L : List (Rule × Addr)} {g : List (Str × Int)} {r l : Int} {G : Own} (h : TaskAt C CP CT H x ns L g r l G) (s : Same H H') : TaskAt C CP CT H' x ns L g r l G := by
  obtain ⟨dx, sx, ld, px, h1, h2⟩ := h
  exact ⟨dx, sx, ld, px, s _ _ h1, h2.same s⟩
theorem TaskAt.ins {C CP CT : Addr} {H : Hp} {x : Addr} {ns : List Str} {L : List (Rule × Addr)} {g : List (Str × Int)} {r l : Int} {G : Own} (h : TaskAt C CP CT H x ns L g r l G) : ∃ dx fs, H x = some (.ins CT dx fs) := by
  obtain ⟨dx, sx, ld, px, h1, h2⟩ := h
  exact ⟨dx, _, h1⟩
theorem sys_ok {C : Addr} {H : Hp} {x : Addr} {ns : List Str} {L : List (Rule × Addr)} (h : SysAt C H x ns L) : SysOk ns L := by
  obtain ⟨_, _, _, _, _, _, _, h⟩ := h
  exact h
theorem SysAt.wr {C CT : Addr} {X : Hp} {sx x dx : Addr} {fs : List (Str × V)} {o : HO} {ns : List Str} {L : List (Rule × Addr)} (h : SysAt C X sx ns L) (hx : X x = some (.ins CT dx fs)) (hf : fs.lookup ("_rules" : Str) = none) : SysAt C (L2.upd X x o) sx ns L := by
  obtain ⟨dy, ln, lr, h1, h2, h3, h4, h5⟩ := h
  have n1 : sx ≠ x := ne_of h1 hx fun z => by
    injection z with a b c
    rw [← c, sysF_rules] at hf
    cases hf
  refine ⟨dy, ln, lr, ?_, ?_, ?_, fun p hp => ?_, h5⟩
  · rw [upd_ne n1]; exact h1
  · rw [upd_ne (ne_of h2 hx fun z => nomatch z)]; exact h2
  · rw [upd_ne (ne_of h3 hx fun z => nomatch z)]; exact h3
  · rw [upd_ne (ne_of (h4 p hp) hx fun z => nomatch z)]; exact h4 p hp
def spTaInit (C CT : Addr) : Sp := fun vs H Q _ => ∃ (x dx sx d px : Addr) (ns : List Str) (L : List (Rule × Addr)) (g : List (Str × Int)), vs = [.ref x, .ref sx, .ref d, .ref px] ∧ H x = some (.ins CT dx []) ∧ SysAt C H sx ns L ∧ H d = some (.dK (goalKV g)) ∧ NumsOk ns g ∧
  ∀ ld H', But x H H' → H ld = none → H' x = some (.ins CT dx (taF sx ld px)) → H' ld = some (.dK (goalKV (ordG ns g))) → Q .non H'
theorem ok_taInit {C CT : Addr} {qn : Str} {f : Addr} {fd : FuncData} (F : Fun K "__init__" qn s_Task___init f fd) (T : TaC K mg CT) (PN : OkP P w K mg base C 1 "names" (spNames C)) (O_check_numbers : Ok P w K mg base 5 "check_numbers" ["system", "thing"] (spCheck C)) : FnOk P w K mg base CX0 6 f fd ["self", "system", "numbers", "prices"] (spTaInit C CT) := by
  refine F.ok sc_Task___init (fun vs H Q E h => ?_) (fun cdv A outer s H vs Q E hr h => ?_)
  · obtain ⟨x, dx, sx, d, px, ns, L, g, rfl, _⟩ := h
    rfl
  · obtain ⟨x, dx, sx, d, px, ns, L, g, rfl, hx, hs, hd, hg, q⟩ := h
    have nd := sc_Task___init.nd
    have hu := hu_of hr
    have big : sizeLine > 100000 := by decide
    refine ⟨_, (pss_cons (ps_expr (pe_own O_check_numbers (hr.mono (by decide)) (pa_cons (pv 1) (pa_cons (pv 2) pa_nil))))
      (pss_cons (ps_fld (pv 0) (pv 1) rfl)
      (pss_cons (ps_fld (pv 0) (pe_dc (own := [("name", 4)]) (g := gName 4) (tt := tYes) rfl nd (pi_list (pe_propO PN (hr.mono (by decide)) (pv 1))) (blkOk_by (own := [("name", 4)]) (N := ["self", "system", "numbers", "prices", "name"]) (sc := defScope s_Task___init) (by decide +kernel)) (fun _ _ _ _ _ => (pg_name (i := 4) nd rfl (Or.inl rfl))) (fun _ _ _ _ _ => pts_nil) (fun _ _ _ _ _ => (pv 4)) (fun _ _ _ _ _ => (pe_dget hu (pv 2) (pv 4) (fun _ _ => rfl)))) rfl)
      (pss_one (ps_fld (pv 0) (pv 3) rfl))))), ?_⟩
    refine ⟨_, rfl, _, rfl, sx, d, ns, L, g, rfl, hs, hd, hg, fun H1 s1 => ?_⟩
    refine ⟨_, rfl, _, rfl, x, CT, dx, [], rfl, s1 _ _ hx, T.cl, T.nS, by show 0 < 1000; decide, ?_⟩
    have b2 : But x H (upd H1 x (.ins CT dx (putF (Str.ofString "_system") (.ref sx) []))) := (But.of s1).trans But.upd
    have hx2 : (upd H1 x (.ins CT dx (putF (Str.ofString "_system") (.ref sx) []))) x = some (.ins CT dx (putF (Str.ofString "_system") (.ref sx) [])) := upd_same
    have hsx : SysAt C (upd H1 x (.ins CT dx (putF (Str.ofString "_system") (.ref sx) []))) sx ns L := (hs.same s1).wr (s1 _ _ hx) rfl
    generalize upd H1 x (.ins CT dx (putF (Str.ofString "_system") (.ref sx) [])) = H2 at b2 hx2 hsx ⊢
    have hd2 := b2 _ _ hd (ne_of hd hx fun z => nomatch z)
    obtain ⟨dx', fs', hi⟩ := prop_at hsx
    refine ⟨_, rfl, sx, dx', fs', rfl, hi, sx, ns, L, rfl, hsx, fun l hl => ?_⟩
    have s3 := same_new (o := .lst (ns.map V.str)) hl
    have hl3 := upd_same (H := H2) (a := l) (o := .lst (ns.map V.str))
    generalize upd H2 l (.lst (ns.map V.str)) = H3 at s3 hl3 ⊢
    refine ⟨l, rfl, ⟨_, SqL.of hl3⟩, fun D hD => ?_⟩
    have ok := sys_ok hs
    have nodup : ns.Nodup := ok.names.1
    have lN : ns.length < 64 := ok.names.2.2
    refine dc_it (walk_list (xs := ns.map V.str)) (fun i Hc => Same H3 Hc ∧ Hc D = some (.dK (goalKV (ordG (ns.take i) g)))) ⟨same_new hD, upd_same⟩ (fun i Hc _ h => SqL.of (h.1 _ _ hl3)) ?_ ?_
    · rintro i v Hc H' hi ⟨sc, hd'⟩ ⟨rfl, hv⟩
      obtain ⟨t, ht, rfl⟩ := get_map hv
      have mt := List.mem_of_getElem? ht
      have hi' : i < ns.length := by rwa [List.length_map] at hi
      have mg' : t ∈ g.map (·.1) := hg.1.mem_iff.mpr mt
      have dg1 : DGet H' d (V.str t) (some (.int (valG g (some t)))) := by
        have := DGet.k (k := Sum.inr t) (sc _ _ (s3 _ _ hd2))
        rwa [goal_val mg'] at this
      refine ⟨rfl, _, rfl, _, rfl, _, rfl, d, _, rfl, dg1, goalKV (ordG (ns.take i) g), Sum.inr t, rfl, hd', ?_, ?_, ?_⟩
      · unfold goalKV ordG mapG
        rw [List.length_map, List.length_map, List.length_take]
        omega
      · intro b o hb
        rw [upd_ne (ne_of_none hb hD)]
        exact sc _ _ hb
      · have ne : t ∉ (ordG (ns.take i) g).map (·.1) := by
          unfold ordG
          rw [mapG_keys]
          intro m
          obtain ⟨j, hj, e⟩ := List.getElem_of_mem m
          rw [List.length_take] at hj
          rw [List.getElem_take] at e
          rw [List.getElem?_eq_getElem hi'] at ht
          have := (List.getElem_inj (h₀ := by omega) (h₁ := hi') nodup).mp (e.trans (Option.some.inj ht).symm)
          omega
        rw [put_fresh ne, upd_same]
        congr 3
        rw [List.take_add_one, ht]
        unfold ordG mapG
        rw [List.map_append]
        rfl
    · rintro Hc ⟨sc, hd'⟩
      rw [List.length_map, List.take_length] at hd'
      have s23 := s3.trans sc
      have hxc := s23 _ _ hx2
      refine ⟨_, rfl, x, CT, dx, _, rfl, hxc, T.cl, T.nN, by show 1 < 1000; decide, ?_⟩
      have dxn : D ≠ x := ne_of hd' hxc fun z => nomatch z
      have hx4 : (upd Hc x (.ins CT dx (putF (Str.ofString "_numbers") (.ref D) (putF (Str.ofString "_system") (.ref sx) [])))) x = some (.ins CT dx (putF (Str.ofString "_numbers") (.ref D) (putF (Str.ofString "_system") (.ref sx) []))) := upd_same
      have hD4 : (upd Hc x (.ins CT dx (putF (Str.ofString "_numbers") (.ref D) (putF (Str.ofString "_system") (.ref sx) [])))) D = some (.dK (goalKV (ordG ns g))) := by
        rw [upd_ne dxn]
        exact hd'
      have b4 : But x H (upd Hc x (.ins CT dx (putF (Str.ofString "_numbers") (.ref D) (putF (Str.ofString "_system") (.ref sx) [])))) := (b2.trans (But.of s23)).trans But.upd
      generalize upd Hc x (.ins CT dx (putF (Str.ofString "_numbers") (.ref D) (putF (Str.ofString "_system") (.ref sx) []))) = H4 at hx4 hD4 b4 ⊢
      refine ⟨_, rfl, _, rfl, x, CT, dx, _, rfl, hx4, T.cl, T.nP, by show 2 < 1000; decide, ?_⟩
      refine q D _ (b4.trans But.upd) (b2.free dxn (s3.free hD)) upd_same ?_
      rw [upd_ne dxn]
      exact hD4
def spTaSys (C CP CT : Addr) : Sp := fun vs H Q _ => ∃ (x dx sx ld px : Addr), vs = [.ref x] ∧ H x = some (.ins CT dx (taF sx ld px)) ∧ Q (.ref sx) H
def spTaPr (C CP CT : Addr) : Sp := fun vs H Q _ => ∃ (x dx sx ld px : Addr), vs = [.ref x] ∧ H x = some (.ins CT dx (taF sx ld px)) ∧ Q (.ref px) H
def spTaNum (C CP CT : Addr) : Sp := fun vs H Q _ => ∃ (x dx sx ld px : Addr) (g : List (Str × Int)), vs = [.ref x] ∧ H x = some (.ins CT dx (taF sx ld px)) ∧ H ld = some (.dK (goalKV g)) ∧ ∀ d, H d = none → Q (.ref d) (upd H d (.dK (goalKV g)))
theorem ok_taSys {C CP CT : Addr} {qn : Str} {f : Addr} {fd : FuncData} (F : Fun K "system" qn s_Task_system f fd) (T : TaC K mg CT) : FnOk P w K mg base CX0 1 f fd ["self"] (spTaSys C CP CT) := by
  refine F.ok sc_Task_system (fun vs H Q E h => ?_) (fun cdv A outer s H vs Q E hr h => ?_)
  · obtain ⟨x, dx, sx, ld, px, rfl, _⟩ := h
    rfl
  · obtain ⟨x, dx, sx, ld, px, rfl, h1, q⟩ := h
    refine ⟨_, (pss_one (ps_ret (pe_fld (pv 0) rfl))), ?_⟩
    exact ⟨_, rfl, x, CT, dx, _, _, rfl, h1, T.cl, T.nS, taF_sys _ _ _, q⟩
theorem ok_taPr {C CP CT : Addr} {qn : Str} {f : Addr} {fd : FuncData} (F : Fun K "prices" qn s_Task_prices f fd) (T : TaC K mg CT) : FnOk P w K mg base CX0 1 f fd ["self"] (spTaPr C CP CT) := by
  refine F.ok sc_Task_prices (fun vs H Q E h => ?_) (fun cdv A outer s H vs Q E hr h => ?_)
  · obtain ⟨x, dx, sx, ld, px, rfl, _⟩ := h
    rfl
  · obtain ⟨x, dx, sx, ld, px, rfl, h1, q⟩ := h
    refine ⟨_, (pss_one (ps_ret (pe_fld (pv 0) rfl))), ?_⟩
    exact ⟨_, rfl, x, CT, dx, _, _, rfl, h1, T.cl, T.nP, taF_pr _ _ _, q⟩
theorem ok_taNum {C CP CT : Addr} {qn : Str} {f : Addr} {fd : FuncData} (F : Fun K "numbers" qn s_Task_numbers f fd) (T : TaC K mg CT) (Bd : mg "dict" = none) : FnOk P w K mg base CX0 1 f fd ["self"] (spTaNum C CP CT) := by
  refine F.ok sc_Task_numbers (fun vs H Q E h => ?_) (fun cdv A outer s H vs Q E hr h => ?_)
  · obtain ⟨x, dx, sx, ld, px, g, rfl, _⟩ := h
    rfl
  · obtain ⟨x, dx, sx, ld, px, g, rfl, h1, h2, q⟩ := h
    refine ⟨_, (pss_one (ps_ret (pe_callTy call_dictD (by rfl) Bd (by decide +kernel) (pa_cons (pe_fld (pv 0) rfl) pa_nil)))), ?_⟩
    exact ⟨_, rfl, x, CT, dx, _, _, rfl, h1, T.cl, T.nN, taF_num _ _ _, ld, _, rfl, Rd.of h2, q⟩
end
end Wnd

/-! prices of numbers -/
namespace Wnd
open PySem PySem.Spec PyProof.Rows L2
section
variable {P : Program} {w : World} {K : PySem.W.Frag} {mg : Str → Option Value} {base : Heap}
theorem take_snoc {α : Type} {xs : List α} {i : Nat} {t : α} (h : xs[i]? = some t) : xs.take (i + 1) = xs.take i ++ [t] := by
  rw [List.take_add_one, h]
  rfl
theorem filt_one {p : Str → Bool} {ns : List Str} {i : Nat} {t : Str} (h : ns[i]? = some t) : (ns.take (i + 1)).filter p = (ns.take i).filter p ++ (if p t = true then [t] else []) := by
  rw [take_snoc h, List.filter_append]
  congr 1
  by_cases e : p t = true
  · rw [if_pos e, List.filter_cons_of_pos e, List.filter_nil]
  · rw [if_neg e, List.filter_cons_of_neg e, List.filter_nil]
theorem ord_key {ns : List Str} {g : List (Str × Int)} {i : Nat} {k : Key} {v : V} (h : (goalKV (ordG ns g))[i]? = some (k, v)) : ∃ t, ns[i]? = some t ∧ k = Sum.inr t := by
  unfold goalKV ordG mapG at h
  rw [List.map_map, List.getElem?_map] at h
  obtain ⟨t, ht, e⟩ := Option.map_eq_some_iff.mp h
  injection e with e1 e2
  exact ⟨t, ht, e1.symm⟩
theorem ord_len (ns : List Str) (g : List (Str × Int)) : (goalKV (ordG ns g)).length = ns.length := by
  unfold goalKV ordG mapG
  rw [List.length_map, List.length_map]
theorem ord_mem {ns : List Str} {g : List (Str × Int)} {t : Str} (h : t ∈ ns) : t ∈ (ordG ns g).map (·.1) := by
  unfold ordG
  rw [mapG_keys]
  exact h
def brkB (G : Own) (g gn : List (Str × Int)) (t : Str) : Bool := fixB G t && !decide (valG gn (some t) = valG g (some t))
/-- the price of numbers; none if a fixed setting is changed -/
def priceO (ns : List Str) (r l : Int) (G : Own) (g gn : List (Str × Int)) : Option Int :=
  if ns.any (brkB G g gn) then none else some ((ns.map fun t => costC r l G t (valG gn (some t) - valG g (some t))).sum)
def spPriceOf (C CP CT : Addr) : Sp := fun vs H Q _ => ∃ (x d : Addr) (ns : List Str) (L : List (Rule × Addr)) (g gn : List (Str × Int)) (r l : Int) (G : Own), vs = [.ref x, .ref d] ∧ TaskAt C CP CT H x ns L g r l G ∧ H d = some (.dK (goalKV gn)) ∧ NumsOk ns gn ∧ ∀ H', Same H H' → Q (optV (priceO ns r l G g gn)) H'
theorem lookup_in {t : Str} {v : Int} : ∀ {g : List (Str × Int)}, g.lookup t = some v → (t, v) ∈ g
  | [], h => nomatch h
  | (k, u) :: g, h => by
    rw [List.lookup_cons] at h
    by_cases e : t = k
    · subst e
      simp at h
      rw [h]
      exact List.mem_cons_self
    · have : (t == k) = false := by simpa using e
      rw [this] at h
      exact List.mem_cons_of_mem _ (lookup_in h)
theorem nums_bound {ns : List Str} {g : List (Str × Int)} (h : NumsOk ns g) (t : Str) : -99999 ≤ valG g (some t) ∧ valG g (some t) ≤ 99999 := by
  show -99999 ≤ (g.lookup t).getD 0 ∧ (g.lookup t).getD 0 ≤ 99999
  cases e : g.lookup t with
  | none => exact ⟨by decide, by decide⟩
  | some v =>
    exact h.2 _ (lookup_in e)
def solB (ns : List Str) (L : List (Rule × Addr)) (r l : Int) (G : Own) (g gn : List (Str × Int)) : Bool := (priceO ns r l G g gn).isSome && (firstR gn L).isNone
def spIsSol (C CP CT : Addr) : Sp := fun vs H Q _ => ∃ (x d : Addr) (ns : List Str) (L : List (Rule × Addr)) (g gn : List (Str × Int)) (r l : Int) (G : Own), vs = [.ref x, .ref d] ∧ TaskAt C CP CT H x ns L g r l G ∧ H d = some (.dK (goalKV gn)) ∧ NumsOk ns gn ∧ ∀ H', Same H H' → Q (.bl (solB ns L r l G g gn)) H'
end
end Wnd

/-! xs[::2] -/
namespace Wnd
open PySem PySem.Spec PyProof.Rows L2
theorem vals_picked {xs : List V} {its : List Value} (r : Vals xs its) : ∀ is : List Nat, Vals (is.filterMap (xs[·]?)) (is.filterMap (its.toArray[·]?))
  | [] => .nil
  | i :: is => by
    have ih := vals_picked r is
    rw [List.filterMap_cons, List.filterMap_cons]
    have hl := r.length
    by_cases h : i < xs.length
    · have e1 : xs[i]? = some xs[i] := List.getElem?_eq_getElem h
      obtain ⟨w, ew, rw'⟩ := r.get e1
      have e2 : its.toArray[i]? = some w := by simpa using ew
      rw [e1, e2]
      exact .cons rw' ih
    · have e1 : xs[i]? = none := List.getElem?_eq_none (by omega)
      have e2 : its.toArray[i]? = none := by simp; omega
      rw [e1, e2]
      exact ih
/-- a part of a list, its items picked by their places -/
def tStep2 (K : PySem.W.Frag) (te : TE) : TE := fun σ H Q => te σ H fun x H1 => ∃ a xs, x = .ref a ∧ SqL K H1 a xs ∧ ∀ ys p, (∀ y ∈ ys, y ∈ xs) → ys.length ≤ xs.length → H1 p = none → Q (.ref p) (upd H1 p (.lst ys))
theorem pe_step2 {X : Cx} {e : Expr} {te : TE} {k : Nat} {p2 p3 pos : Pos} (he : PE X e te) : PE X (.Subscript e (.Slice none none (some (.Constant (.int 2) k p2)) p3) pos) (tStep2 X.K te) := by
  refine ⟨fun pins s σ H Q I h => ?_⟩
  refine Subscript_ (thn (he.run pins s σ H _ I h) fun v s1 ⟨x, H1, I1, r1, q1⟩ => ?_)
  obtain ⟨a, xs, ex, hx, q⟩ := q1
  subst ex
  cases r1
  have hst : PO X (some (.Constant (.int 2) k p2)) (tPart (tC (.int 2))) := po_some pe_int
  refine wpAny_Slice (thn (po_none.run pins s1 σ H1 (fun o H2 => o = none ∧ H2 = H1) I1 ⟨rfl, rfl⟩) fun vl s2 ⟨l, H2, I2, pl, el, e2⟩ => ?_)
  subst el e2
  refine thn (po_none.run pins s2 σ H2 (fun o H3 => o = none ∧ H3 = H2) I2 ⟨rfl, rfl⟩) fun vu s3 ⟨u, H3, I3, pu, eu, e3⟩ => ?_
  subst eu e3
  refine thn (hst.run pins s3 σ H3 (fun o H4 => o = some 2 ∧ H4 = H3) I3 ⟨2, rfl, rfl, rfl⟩) fun vs s4 ⟨o, H4, I4, ps, eo, e4⟩ => ?_
  subst eo e4
  have I5 : Inv X pins σ H4 { s4 with heap := s4.heap.push { cls := .type "slice", data := .fields #[vl, vu, vs] } } := I4.kept (t' := s4.toks) fun b ob q => Heap.get?_push_of_some _ q
  obtain ⟨its, r, ht, hz⟩ := I5.list hx
  have hlen := r.length
  show wpAny (model X.prog X.w) X.A (subscriptTail e (.Slice none none (some (.Constant (.int 2) k p2)) p3) (.ref a) (.ref s4.heap.objs.size)) (EP X pins σ Q) X.xe { s4 with heap := s4.heap.push { cls := .type "slice", data := .fields #[vl, vu, vs] } }
  refine tail_any (ops := [.ref a, .ref s4.heap.objs.size]) ht.isList.typeIs (PySem.slot_list_getitem.lookup) ?_ (by with_unfolding_all rfl)
  refine wpAny_getItem_list_slice ht.isList (Heap.IsSliceOf.new _ vl vu vs) pl pu ps (by decide) ?_ (by rw [List.size_toArray]; omega)
  obtain ⟨is, his⟩ : ∃ is, sliceRange (sliceBounds none none (some 2) its.toArray.size).1 (sliceBounds none none (some 2) its.toArray.size).2.1 (sliceBounds none none (some 2) its.toArray.size).2.2 = is := ⟨_, rfl⟩
  have lis : is.length ≤ xs.length := by
    rw [← his]
    refine sliceRange_length_le _ _ _ _ (fun _ => ⟨?_, ?_⟩) fun h => absurd (show (2 : Int) > 0 by decide) h
    · show (0 : Int) ≤ 0
      exact Int.le_refl _
    · show ((its.toArray.size : Nat) : Int) ≤ (xs.length : Nat)
      rw [List.size_toArray]
      omega
  have ep : slicePick its.toArray none none (some 2) = (is.filterMap (its.toArray[·]?)).toArray := by
    unfold slicePick
    rw [his]
  rw [ep]
  have rv := vals_picked r is
  have mem : ∀ y ∈ is.filterMap (xs[·]?), y ∈ xs := fun y hy => by
    obtain ⟨i, _, e⟩ := List.mem_filterMap.mp hy
    exact List.mem_of_getElem? e
  have len : (is.filterMap (xs[·]?)).length ≤ xs.length := Nat.le_trans (List.length_filterMap_le _ _) lis
  refine ⟨.ref _, _, I5.laid (t' := s4.toks) (o := .lst (is.filterMap (xs[·]?))) (fun b ob q => Heap.get?_push_of_some _ q) (Nat.le_refl _) ?_, rfl, q _ _ mem len (I5.hok.fresh (Nat.le_refl _))⟩
  exact ⟨by omega, _, 0, rv, Heap.get?_push_size _ rfl⟩
end Wnd

/-! prices drawn by the law, and made -/
namespace Wnd
open PySem PySem.Spec PyProof.Rows L2
abbrev s_law_deal : Stmt := top 53
theorem sc_law_deal : FnScope ["_law_pen_here", "_law_nyms_here", "_law_found", "_law_own", "_law_one", "_law_road", "_law_turn"] ["_law_pen_here", "_law_nyms_here"] (defScope s_law_deal) := ⟨rfl, rfl, rfl, by decide +kernel, rfl, by decide +kernel, by decide +kernel⟩
abbrev s_law_prices : Stmt := top 54
theorem sc_law_prices : FnScope ["_law_deal_here", "_law_found", "_law_one"] ["_law_deal_here"] (defScope s_law_prices) := ⟨rfl, rfl, rfl, by decide +kernel, rfl, by decide +kernel, by decide +kernel⟩
abbrev s_law_there : Stmt := top 56
theorem sc_law_there : FnScope ["_law_model_here"] ["_law_model_here"] (defScope s_law_there) := ⟨rfl, rfl, rfl, by decide +kernel, rfl, by decide +kernel, by decide +kernel⟩
theorem pickV {xs : List V} {d : Int} (h0 : 0 ≤ d) (h1 : d < xs.length) : ∃ w, w ∈ xs ∧ atI xs d = some w := by
  obtain ⟨k, rfl⟩ := Int.eq_ofNat_of_zero_le h0
  have hk : k < xs.length := by omega
  exact ⟨xs[k], List.getElem_mem hk, atI_nat (List.getElem?_eq_getElem hk)⟩
section
variable {P : Program} {w : World} {K : PySem.W.Frag} {mg : Str → Option Value} {base : Heap}
/-- a deal of the law lies at T -/
structure DealAt (H : Hp) (T d : Addr) (r l : Int) (G : Own) : Prop where
  t : H T = some (.tup [.int r, .int l, .ref d])
  d : H d = some (.dK (ownKV G))
  r : Pr9 r
  l : Pr9 l
  ok : OwnOk G
  len : G.length ≤ 30
theorem DealAt.same {H H' : Hp} {T d : Addr} {r l : Int} {G : Own} (h : DealAt H T d r l G) (s : Same H H') : DealAt H' T d r l G := ⟨s _ _ h.t, s _ _ h.d, h.r, h.l, h.ok, h.len⟩
def spDeal : Sp := fun vs H Q _ => ∃ (p c an : Addr) (n : Nat) (ts : List Str), vs = [.ref p, .ref an] ∧ PenAt H p c n ∧ n ≤ 600000 ∧ H an = some (.lst (ts.map V.str)) ∧ (∀ t ∈ ts, nameB t = true) ∧ ts.length ≤ 25 ∧
  ∀ T d r l G H' n', But p H H' → H T = none → H d = none → DealAt H' T d r l G → G.length ≤ 26 → PenAt H' p c n' → n' ≤ n + 60 → Q (.ref T) H'
theorem ok_deal {f : Addr} {fd : FuncData} (D : DefAt K mg "_law_deal" s_law_deal ["_law_pen_here", "_law_nyms_here"] f fd) (B : Blt mg) (O_law_draw : Ok P w K mg base 2 "_law_draw" ["_law_pen_here", "_law_under"] spDraw) : Ok P w K mg base 3 "_law_deal" ["_law_pen_here", "_law_nyms_here"] spDeal := by
  refine D.ok (D.fn.ok sc_law_deal (fun vs H Q E h => ?_) (fun cdv A outer s H vs Q E hr h => ?_))
  · obtain ⟨p, c, an, n, ts, rfl, _⟩ := h
    rfl
  · obtain ⟨p, c, an, n, ts, rfl, hP, hn, han, nms, lts, q⟩ := h
    have nd := sc_law_deal.nd
    have hu := hu_of hr
    have big : sizeLine > 100000 := by decide
    refine ⟨_, (pss_cons (ps_setLc (i := 2) (own := [("_law_turn", 6)]) (g := gName 6) (tt := tYes) (by rfl) nd rfl rfl (sw_true rfl rfl rfl (by decide +kernel)) (pi_range1 (by rfl) B.range (pa_cons pe_int pa_nil)) (blkOk_by (own := [("_law_turn", 6)]) (N := ["_law_pen_here", "_law_nyms_here", "_law_found", "_law_own", "_law_one", "_law_road", "_law_turn"]) (sc := defScope s_law_deal) (by decide +kernel)) (fun _ _ _ _ _ => (pg_name (i := 6) nd rfl (Or.inl rfl))) (fun _ _ _ _ _ => pts_nil) (fun _ _ _ _ _ => (pe_ix (ix_listK K) (pe_lst (pa_cons pe_int (pa_cons pe_int (pa_cons pe_int (pa_cons pe_int (pa_cons pe_int (pa_cons (pe_op op_add pe_int (pe_own O_law_draw (hr.mono (by decide)) (pa_cons (pv 0) (pa_cons pe_int pa_nil)))) pa_nil))))))) (pe_own O_law_draw (hr.mono (by decide)) (pa_cons (pv 0) (pa_cons pe_int pa_nil))) (fun _ _ => rfl))))
      (pss_cons (ps_set (i := 3) nd rfl (Or.inl rfl) pe_dnewK)
      (pss_cons (ps_for PassesOwn.never rfl (pi_list (pe_op op_cat (pe_callTy call_list_of (by rfl) B.list (by decide +kernel) (pa_cons (pv 1) pa_nil)) (pe_lst (pa_cons pe_str pa_nil)))) (pg_name (i := 4) nd rfl (Or.inl rfl)) (pss_cons (ps_set (i := 5) nd rfl (Or.inl rfl) (pe_own O_law_draw (hr.mono (by decide)) (pa_cons (pv 0) (pa_cons pe_int pa_nil))))
      (pss_one (ps_if (pt_cmpR op_lt (pv 5) pe_int (nomark _)) (pss_one (ps_dput hu (pv 3) (pv 4) (pe_ix ix_list (pe_lst (pa_cons pe_non (pa_cons (pe_op op_add pe_int (pe_own O_law_draw (hr.mono (by decide)) (pa_cons (pv 0) (pa_cons pe_int pa_nil)))) pa_nil))) (pv 5) (fun _ _ => rfl)) rfl)) pss_nil))))
      (pss_one (ps_ret (pe_tup (pa_cons (pe_ix ix_list (pv 2) pe_int (fun _ _ => rfl)) (pa_cons (pe_ix ix_list (pv 2) pe_int (fun _ _ => rfl)) (pa_cons (pv 3) pa_nil))))))))), ?_⟩
    refine ⟨2, rfl, by decide, by decide, fun tw ntw => ?_⟩
    obtain ⟨twp, twc⟩ := hP.out ntw
    refine lc_it walk_range (fun k H' => ∃ vs : List Int, vs.length = k ∧ (∀ v ∈ vs, Pr9 v) ∧ H' tw = some (.lst (vs.map V.int)) ∧ But p H H' ∧ PenAt H' p c (n + 2 * k)) ⟨[], rfl, (fun _ h => nomatch h), upd_same, But.new ntw, hP.same (same_new ntw)⟩ (fun _ _ _ _ => True.intro) ?_ ?_
    · rintro k x Hc2 H' hk ⟨vs, lv, h9, htw, b, Pk⟩ ⟨rfl, rfl⟩
      have hk : k < 2 := hk
      refine ⟨rfl, ?_⟩
      refine ⟨_, rfl, p, c, _, 9, rfl, Pk, by omega, by decide, by decide, fun e H3 he0 he1 b3 P3 => ⟨_, _, rfl, rfl, by show 6 ≤ sizeLine; decide, fun l nl => ?_⟩⟩
      have b03 := b.trans b3
      have htw3 := b3 _ _ htw twp
      have u4 := same_new (o := .lst [V.int 1, V.int 1, V.int 2, V.int 5, V.int 999, V.int (1 + e)]) nl
      have lp := (P3.out nl).1
      have hl4 : (upd H3 l (.lst [V.int 1, V.int 1, V.int 2, V.int 5, V.int 999, V.int (1 + e)])) l = some (.lst ([1, 1, 2, 5, 999, 1 + e].map V.int)) := upd_same
      have P4 := P3.same u4
      have htw4 := u4 _ _ htw3
      have b04 := b03.trans (But.of u4)
      change tCall spDraw [] E0 _ _ (upd H3 l (.lst [V.int 1, V.int 1, V.int 2, V.int 5, V.int 999, V.int (1 + e)])) _
      generalize upd H3 l (.lst [V.int 1, V.int 1, V.int 2, V.int 5, V.int 999, V.int (1 + e)]) = H4 at u4 hl4 P4 htw4 b04 ⊢
      refine ⟨_, rfl, p, c, _, 6, rfl, P4, by omega, by decide, by decide, fun e2 H5 f0 f1 b5 P5 => ?_⟩
      obtain ⟨wd, hw, he⟩ := pick (xs := [1, 1, 2, 5, 999, 1 + e]) f0 f1
      have hw9 : Pr9 wd := by
        simp only [List.mem_cons, List.not_mem_nil, or_false] at hw
        unfold Pr9
        omega
      refine ⟨l, _, e2, _, rfl, rfl, SqL.of (b5 _ _ hl4 lp), he, ?_⟩
      have htw5 := b5 _ _ htw4 twp
      refine ⟨vs.map V.int, htw5, by rw [List.length_map]; omega, vs ++ [wd], by rw [List.length_append, lv]; rfl, fun v hv => ?_, by rw [upd_same, List.map_append]; rfl, fun b' o' hb n => ?_, (P5.upd twp (fun z => twc z)).le (by omega)⟩
      · rcases List.mem_append.mp hv with hv | hv
        · exact h9 v hv
        · rw [List.mem_singleton.mp hv]
          exact hw9
      · rw [upd_ne (ne_of_none hb ntw)]
        exact b5 _ _ (b04 _ _ hb n) n
    rintro H1 ⟨vs, lv, h9, htw, b1, P1⟩
    match vs, lv, h9 with
    | [r, l], _, h9 =>
    have hr9 := h9 r List.mem_cons_self
    have hl9 := h9 l (.tail _ List.mem_cons_self)
    have han1 := b1 _ _ han (hP.ne_strs han)
    refine fun d nd0 => ?_
    have dp := (P1.out nd0).1
    have ndH : H d = none := b1.free dp nd0
    have u2 := same_new (o := .dK []) nd0
    have hd2 : (upd H1 d (.dK [])) d = some (.dK (ownKV [])) := upd_same
    have P2 := P1.same u2
    have htw2 := u2 _ _ htw
    have han2 := u2 _ _ han1
    have b2 := b1.trans (But.of u2)
    have twd : tw ≠ d := ne_of_none htw nd0
    generalize upd H1 d (.dK []) = H2 at u2 hd2 P2 htw2 han2 b2 ⊢
    refine ⟨_, rfl, an, _, rfl, .inl (SqL.of han2), fun l1 nl1 => ?_⟩
    have u3 := same_new (o := .lst (ts.map V.str)) nl1
    have h13 : (upd H2 l1 (.lst (ts.map V.str))) l1 = some (.lst (ts.map V.str)) := upd_same
    have P3 := P2.same u3
    have htw3 := u3 _ _ htw2
    have hd3 := u3 _ _ hd2
    have b3 := b2.trans (But.of u3)
    generalize upd H2 l1 (.lst (ts.map V.str)) = H3 at u3 h13 P3 htw3 hd3 b3 ⊢
    refine ⟨by show 1 ≤ sizeLine; decide, fun l2 nl2 => ?_⟩
    have u4 := same_new (o := .lst [V.str "nobody"]) nl2
    have h24 : (upd H3 l2 (.lst [V.str "nobody"])) l2 = some (.lst [V.str "nobody"]) := upd_same
    have P4 := P3.same u4
    have htw4 := u4 _ _ htw3
    have hd4 := u4 _ _ hd3
    have h14 := u4 _ _ h13
    have b4 := b3.trans (But.of u4)
    generalize upd H3 l2 (.lst [V.str "nobody"]) = H4 at u4 h24 P4 htw4 hd4 h14 b4 ⊢
    refine ⟨l1, l2, _, _, rfl, rfl, h14, h24, by rw [List.length_map]; show _ + 1 ≤ _; omega, fun l3 nl3 => ?_⟩
    have u5 := same_new (o := .lst (ts.map V.str ++ [V.str "nobody"])) nl3
    have h35 : (upd H4 l3 (.lst (ts.map V.str ++ [V.str "nobody"]))) l3 = some (.lst ((ts ++ [("nobody" : Str)]).map V.str)) := by
      rw [upd_same, List.map_append]
      rfl
    have P5 := P4.same u5
    have htw5 := u5 _ _ htw4
    have hd5 := u5 _ _ hd4
    have b5 := b4.trans (But.of u5)
    have l3p := (P4.out nl3).1
    have l3d : l3 ≠ d := (ne_of_none hd4 nl3).symm
    generalize upd H4 l3 (.lst (ts.map V.str ++ [V.str "nobody"])) = H5 at u5 h35 P5 htw5 hd5 b5 ⊢
    clear u2 u3 u4 u5 h13 h14 h24 P1 P2 P3 P4 htw htw2 htw3 htw4 hd2 hd3 hd4 b1 b2 b3 b4 nl1 nl2 nl3 han1 han2 nd0
    obtain ⟨us, eus⟩ : ∃ us : List Str, ts ++ [("nobody" : Str)] = us := ⟨_, rfl⟩
    have nmu : ∀ t ∈ us, nameB t = true := fun t ht => by
      rw [← eus] at ht
      rcases List.mem_append.mp ht with ht | ht
      · exact nms t ht
      · rw [List.mem_singleton.mp ht]
        decide +kernel
    have lus : us.length ≤ 26 := by
      rw [← eus, List.length_append]
      show ts.length + 1 ≤ 26
      omega
    rw [eus] at h35
    refine ⟨l3, rfl, ⟨_, SqL.of h35⟩, ?_⟩
    refine for_it (walk_list (xs := us.map V.str)) (fun k σ Hk => ∃ (o4 o5 o6 : Option V) (g : Own), σ = [some (.ref p), some (.ref an), some (.ref tw), some (.ref d), o4, o5, o6] ∧ (∀ b o, H5 b = some o → b ≠ p → b ≠ d → Hk b = some o) ∧ Hk d = some (.dK (ownKV g)) ∧ OwnOk g ∧ g.length ≤ k ∧ PenAt Hk p c (n + 4 + 2 * k))
      ⟨_, _, _, [], rfl, (fun b o h _ _ => h), hd5, ownOk_nil, Nat.le_refl _, P5.le (by omega)⟩ (fun k σ Hk _ h => by
        obtain ⟨_, _, _, _, _, b, _⟩ := h
        exact SqL.of (b _ _ h35 l3p l3d)) ?_ ?_
    · rintro k v σ Hz Hk hk ⟨o4, o5, o6, g, rfl, bk, hdk, okg, lg, Pk⟩ ⟨rfl, hv⟩
      rw [List.length_map] at hk
      rw [List.getElem?_map, List.getElem?_eq_getElem hk] at hv
      cases hv
      have nmt := nmu _ (List.getElem_mem hk)
      generalize us[k] = t at nmt ⊢
      refine ⟨_, rfl, p, c, _, 5, rfl, Pk, by omega, by decide, by decide, fun e H6 he0 he1 b6 P6 => ?_⟩
      have dpk := (dp : d ≠ p)
      have hd6 := b6 _ _ hdk dp
      have bk6 : ∀ b o, H5 b = some o → b ≠ p → b ≠ d → H6 b = some o := fun b o h n1 n2 => b6 _ _ (bk b o h n1 n2) n1
      refine ⟨_, rfl, _, _, rfl, rfl, _, rfl, ?_⟩
      refine ite2 (fun he2 => ?_) (fun _ => ⟨_, _, _, g, rfl, bk6, hd6, okg, by omega, P6.le (by omega)⟩)
      have he2 : e < 2 := of_decide_eq_true he2
      refine ⟨_, rfl, p, c, _, 12, rfl, P6, by omega, by decide, by decide, fun e2 H7 f0 f1 b7 P7 => ⟨_, _, rfl, rfl, by show 2 ≤ sizeLine; decide, fun l4 nl4 => ?_⟩⟩
      have hd7 := b7 _ _ hd6 dp
      have u8 := same_new (o := .lst [V.non, V.int (1 + e2)]) nl4
      have hl8 : (upd H7 l4 (.lst [V.non, V.int (1 + e2)])) l4 = some (.lst [V.non, V.int (1 + e2)]) := upd_same
      have hd8 := u8 _ _ hd7
      have P8 := P7.same u8
      have bk8 : ∀ b o, H5 b = some o → b ≠ p → b ≠ d → (upd H7 l4 (.lst [V.non, V.int (1 + e2)])) b = some o := fun b o h n1 n2 => u8 _ _ (b7 _ _ (bk6 b o h n1 n2) n1)
      obtain ⟨w8, hm8, hat8⟩ := pickV (xs := [V.non, V.int (1 + e2)]) he0 he2
      obtain ⟨o, rfl, hov⟩ : ∃ o : Option Int, w8 = optV o ∧ ∀ i, o = some i → Pr9 i := by
        simp only [List.mem_cons, List.not_mem_nil, or_false] at hm8
        rcases hm8 with rfl | rfl
        · exact ⟨none, rfl, fun _ z => nomatch z⟩
        · exact ⟨some (1 + e2), rfl, fun _ z => by cases z; exact ⟨by omega, by omega⟩⟩
      refine ⟨_, rfl, l4, _, e, _, rfl, rfl, SqL.of hl8, hat8, ?_⟩
      change ∃ v, _ ∧ _
      generalize upd H7 l4 (.lst [V.non, V.int (1 + e2)]) = H8 at u8 hl8 hd8 P8 bk8 ⊢
      have lkv : (ownKV g).length ≤ 26 := by unfold ownKV; rw [List.length_map]; omega
      refine ⟨_, rfl, _, rfl, d, _, rfl, DPut.k (k := Sum.inr t) hd8 (by omega), ?_⟩
      rw [put_own]
      have lput := put_len (g := g) (t := t) (o := o)
      refine ⟨_, _, _, putO g t o, rfl, fun b o' h n1 n2 => ?_, upd_same, okg.put nmt hov, by omega, (P8.upd dp (fun z => ?_)).le (by omega)⟩
      · rw [upd_ne n2]
        exact bk8 _ _ h n1 n2
      · obtain ⟨_, _, _, _, _, hc, _⟩ := P8
        rw [← z, hd8] at hc
        cases hc
    · rintro σ Hk ⟨o4, o5, o6, g, rfl, bk, hdk, okg, lg, Pk⟩
      have lg : g.length ≤ 26 := by rw [List.length_map] at lg; omega
      have htwk := bk _ _ htw5 twp twd
      refine ⟨_, rfl, tw, _, 0, .int r, rfl, rfl, SqL.of htwk, atI_nat (j := 0) rfl, _, rfl, tw, _, 1, .int l, rfl, rfl, SqL.of htwk, atI_nat (j := 1) rfl, _, rfl, by show 3 ≤ sizeLine; decide, fun T nT => ?_⟩
      have nTp := (Pk.out nT).1
      have nTd : T ≠ d := (ne_of_none hdk nT).symm
      have sT := same_new (o := .tup [.int r, .int l, .ref d]) nT
      have TH : H T = none := by
        cases e : H T with
        | none => rfl
        | some o =>
          have := bk _ _ (b5 _ _ e nTp) nTp nTd
          rw [nT] at this
          cases this
      refine q T d r l g _ _ (fun b o hb nb => ?_) TH ndH ⟨upd_same, sT _ _ hdk, hr9, hl9, okg, by omega⟩ lg (Pk.same sT) (by rw [List.length_map]; omega)
      rw [upd_ne (ne_of_none hb TH)]
      exact bk _ _ (b5 _ _ hb nb) nb (ne_of_none hb ndH)
def spPricesL (CP : Addr) : Sp := fun vs H Q _ => ∃ (T d : Addr) (r l : Int) (G : Own), vs = [.ref T] ∧ DealAt H T d r l G ∧ ∀ y H', Same H H' → PrNew CP H H' y r l (sortO G) → Q (.ref y) H'
theorem sub_len {g G : Own} (h : (g.map (·.1)).Nodup) (hs : ∀ t ∈ g.map (·.1), t ∈ G.map (·.1)) : g.length ≤ G.length := by
  have := nodup_len h hs
  rwa [List.length_map, List.length_map] at this
theorem put_sub {g G : Own} {t : Str} {o : Option Int} (hs : ∀ t ∈ g.map (·.1), t ∈ G.map (·.1)) (ht : t ∈ G.map (·.1)) : ∀ s ∈ (putO g t o).map (·.1), s ∈ G.map (·.1) := fun s h => by
  rw [put_keys] at h
  split at h
  · exact hs s h
  · rcases List.mem_append.mp h with h | h
    · exact hs s h
    · rw [List.mem_singleton.mp h]
      exact ht
theorem own_at {G : Own} {k : Nat} (h : (G.map (·.1)).Nodup) (hk : k < G.length) : valO G (G[k]).1 = some (G[k]).2 := by
  unfold valO
  have : G.find? (fun x => decide (x.1 = (G[k]).1)) = some G[k] := by
    induction G generalizing k with
    | nil => exact absurd hk (Nat.not_lt_zero _)
    | cons x G ih =>
      rw [List.map_cons, List.nodup_cons] at h
      cases k with
      | zero => simp
      | succ k =>
        have hk' : k < G.length := by rw [List.length_cons] at hk; omega
        rw [List.getElem_cons_succ, List.find?_cons]
        have : ¬ x.1 = (G[k]).1 := fun e => h.1 (List.mem_map.mpr ⟨_, List.getElem_mem hk', e.symm⟩)
        rw [decide_eq_false this]
        exact ih h.2 hk'
  rw [this]
  rfl
theorem ok_pricesL {CP : Addr} {f : Addr} {fd : FuncData} (D : DefAt K mg "_law_prices" s_law_prices ["_law_deal_here"] f fd) (B : Blt mg) (OPr : OkPr P w K mg base CP 4) (OW : OkM P w K mg base CP 6 "with_price" (spWithPr CP)) : Ok P w K mg base 7 "_law_prices" ["_law_deal_here"] (spPricesL CP) := by
  refine D.ok (D.fn.ok sc_law_prices (fun vs H Q E h => ?_) (fun cdv A outer s H vs Q E hr h => ?_))
  · obtain ⟨T, d, r, l, G, rfl, _⟩ := h
    rfl
  · obtain ⟨T, d, r, l, G, rfl, hT, q⟩ := h
    have nd := sc_law_prices.nd
    have hu := hu_of hr
    have big : sizeLine > 100000 := by decide
    refine ⟨_, (pss_cons (ps_set (i := 1) nd rfl (Or.inl rfl) (pe_prRL OPr (hr.mono (by decide)) (pk_cons (pe_ix ix_tup (pv 0) pe_int (fun _ _ => rfl)) (pk_cons (pe_ix ix_tup (pv 0) pe_int (fun _ _ => rfl)) pk_nil))))
      (pss_cons (ps_for PassesOwn.never rfl (pi_list (pe_step2 (pe_callTy (call_listD rfl) (by rfl) B.list (by decide +kernel) (pa_cons (pe_ix ix_tup (pv 0) pe_int (fun _ _ => rfl)) pa_nil)))) (pg_name (i := 2) nd rfl (Or.inl rfl)) (pss_one (ps_set (i := 1) nd rfl (Or.inl rfl) (pe_methM OW (hr.mono (by decide)) (pv 1) (pa_cons (pv 2) (pa_cons (pe_ifExp (pt_cmpR op_isN (pe_dget hu (pe_ix ix_tup (pv 0) pe_int (fun _ _ => rfl)) (pv 2) (fun _ _ => rfl)) pe_non (nomark _)) pe_int pe_non) pa_nil))))))
      (pss_cons (ps_lock (ps_for PassesOwn.never rfl (pi_keys (pe_ix ix_tup (pv 0) pe_int (fun _ _ => rfl))) (pg_name (i := 2) nd rfl (Or.inl rfl)) (pss_one (ps_set (i := 1) nd rfl (Or.inl rfl) (pe_methM OW (hr.mono (by decide)) (pv 1) (pa_cons (pv 2) (pa_cons (pe_dget hu (pe_ix ix_tup (pv 0) pe_int (fun _ _ => rfl)) (pv 2) (fun _ _ => rfl)) pa_nil)))))))
      (pss_one (ps_ret (pv 1)))))), ?_⟩
    have tAt : ∀ X, X T = some (.tup [.int r, .int l, .ref d]) → SqT K X T [.int r, .int l, .ref d] := fun X h => SqT.of h
    refine ⟨_, rfl, T, _, 0, .int r, rfl, rfl, SqT.of hT.t, atI_nat (j := 0) rfl, _, rfl, T, _, 1, .int l, rfl, rfl, SqT.of hT.t, atI_nat (j := 1) rfl, rfl, r, l, rfl, hT.r, hT.l, fun x0 H1 s1 new1 => ?_⟩
    have T1 := hT.same s1
    refine ⟨_, rfl, T, _, 2, .ref d, rfl, rfl, SqT.of T1.t, atI_nat (j := 2) rfl, d, _, rfl, Rd.of T1.d, fun lk nlk => ?_⟩
    have s2 := s1.trans (same_new (o := .lst ((ownKV G).map fun kv => kV kv.1)) nlk)
    have hlk : (upd H1 lk (.lst ((ownKV G).map fun kv => kV kv.1))) lk = some (.lst ((ownKV G).map fun kv => kV kv.1)) := upd_same
    have new2 := new1.same (same_new (o := .lst ((ownKV G).map fun kv => kV kv.1)) nlk)
    generalize upd H1 lk (.lst ((ownKV G).map fun kv => kV kv.1)) = H2 at s2 hlk new2 ⊢
    refine ⟨lk, _, rfl, SqL.of hlk, fun ys ly mem lys nly => ?_⟩
    have s3 := s2.trans (same_new (o := .lst ys) nly)
    have hly : (upd H2 ly (.lst ys)) ly = some (.lst ys) := upd_same
    have new3 := new2.same (same_new (o := .lst ys) nly)
    generalize upd H2 ly (.lst ys) = H3 at s3 hly new3 ⊢
    clear hlk new1 new2 nlk nly s2 s1 T1
    have memk : ∀ y ∈ ys, ∃ t, y = .str t ∧ t ∈ G.map (·.1) := fun y hy => by
      obtain ⟨kv, hkv, e⟩ := List.mem_map.mp (mem y hy)
      unfold ownKV at hkv
      obtain ⟨x, hx, rfl⟩ := List.mem_map.mp hkv
      exact ⟨x.1, e.symm, List.mem_map.mpr ⟨x, hx, rfl⟩⟩
    have nmG : ∀ t ∈ G.map (·.1), nameB t = true := fun t ht => by
      obtain ⟨x, hx, rfl⟩ := List.mem_map.mp ht
      exact hT.ok.names x hx
    have lG := hT.len
    refine ⟨ly, rfl, ⟨_, SqL.of hly⟩, ?_⟩
    refine for_it (walk_list (xs := ys)) (fun k σ Hk => ∃ (o2 : Option V) (y : Addr) (g : Own), σ = [some (.ref T), some (.ref y), o2] ∧ Same H3 Hk ∧ PrNew CP H Hk y r l (sortO g) ∧ (g.map (·.1)).Nodup ∧ ∀ t ∈ g.map (·.1), t ∈ G.map (·.1))
      ⟨_, x0, [], rfl, Same.refl _, by rw [show sortO [] = [] from by simp [sortO, sortN]]; exact new3, List.nodup_nil, (fun _ h => nomatch h)⟩ (fun k σ Hk _ h => by
        obtain ⟨_, _, _, _, b, _⟩ := h
        exact SqL.of (b _ _ hly)) ?_ ?_
    · rintro k v σ Hz Hk hk ⟨o2, y, g, rfl, sk, newk, ndg, subg⟩ ⟨rfl, hv⟩
      obtain ⟨t, rfl, ht⟩ := memk v (List.mem_of_getElem? hv)
      have Tk := (hT.same s3).same sk
      obtain ⟨dx, ls, hi, hls, hpv, n1, n2⟩ := id newk
      have lg := sub_len ndg subg
      obtain ⟨o', ho'⟩ := Option.isSome_iff_exists.mp (val_mem.mpr ht)
      have dg : DGet Hk d (V.str t) (some (optV o')) := by
        have := DGet.k (k := Sum.inr t) Tk.d
        rwa [val_own, ho'] at this
      have fin : ∀ (o : Option Int), (∀ i, o = some i → Pr9 i) → spWithPr CP [.ref y, .str t, optV o] Hk (fun v H' => ∃ (o2 : Option V) (y : Addr) (g : Own), [some (.ref T), some v, some (.str t)] = [some (.ref T), some (.ref y), o2] ∧ Same H3 H' ∧ PrNew CP H H' y r l (sortO g) ∧ (g.map (·.1)).Nodup ∧ ∀ t ∈ g.map (·.1), t ∈ G.map (·.1)) E0 := fun o ho =>
        ⟨y, t, o, r, l, sortO g, rfl, newk.at_, nmG t ht, ho, by rw [sortO_len]; omega, fun y' H' s' new' => by
          rw [sortO_put ndg] at new'
          exact ⟨_, y', putO g t o, rfl, sk.trans s', new'.from_ (s3.trans sk), put_nodup ndg, put_sub subg ht⟩⟩
      refine ⟨_, rfl, y, dx, _, rfl, hi, prF_no (by decide) (by decide) (by decide), _, rfl, _, rfl, T, _, 2, .ref d, rfl, rfl, SqT.of Tk.t, atI_nat (j := 2) rfl, _, rfl, d, _, rfl, dg, rfl, _, rfl, ?_⟩
      cases o' with
      | none => exact iteT (fin (some 3) fun i z => by cases z; exact ⟨by decide, by decide⟩)
      | some i => exact iteF (fin none fun i z => nomatch z)
    · rintro σ Hk ⟨o2, y, g, rfl, sk, newk, ndg, subg⟩
      have Tk := (hT.same s3).same sk
      have sHk := s3.trans sk
      refine ⟨d, _, Tk.d, True.intro, fun od => ?_⟩
      have dT : T ≠ d := ne_of Tk.t Tk.d fun z => nomatch z
      have hf : (upd Hk d (.frz od (.dK (ownKV G)))) d = some (.frz od (.dK (ownKV G))) := upd_same
      have hTf : (upd Hk d (.frz od (.dK (ownKV G)))) T = some (.tup [.int r, .int l, .ref d]) := by
        rw [upd_ne dT]
        exact Tk.t
      have keepf : ∀ b o, H b = some o → b ≠ d → (upd Hk d (.frz od (.dK (ownKV G)))) b = some o := fun b o hb n => by
        rw [upd_ne n]
        exact sHk _ _ hb
      have newf : PrNew CP H (upd Hk d (.frz od (.dK (ownKV G)))) y r l (sortO g) := by
        obtain ⟨dx, ls, h1, h2, h3, h4, h5⟩ := newk
        exact ⟨dx, ls, by rw [upd_ne (ne_of h1 Tk.d fun z => nomatch z)]; exact h1, by rw [upd_ne (fun e => by rw [e] at h5; rw [hT.d] at h5; cases h5)]; exact h2, h3, h4, h5⟩
      obtain ⟨Hf, eHf⟩ : ∃ Hf, upd Hk d (.frz od (.dK (ownKV G))) = Hf := ⟨_, rfl⟩
      rw [eHf] at hf hTf keepf newf ⊢
      clear eHf
      refine ⟨_, rfl, T, _, 2, .ref d, rfl, rfl, SqT.of hTf, atI_nat (j := 2) rfl, d, od, rfl, .inl ⟨_, hf, ?_⟩⟩
      refine for_it walk_keys (fun k σ Hc => ∃ (o2 : Option V) (y : Addr) (g : Own), σ = [some (.ref T), some (.ref y), o2] ∧ Same Hf Hc ∧ PrNew CP H Hc y r l (sortO g) ∧ (g.map (·.1)).Nodup ∧ (∀ t ∈ g.map (·.1), t ∈ G.map (·.1)) ∧ ∀ (j : Nat) (h : j < G.length), j < k → valO g (G[j]).1 = some (G[j]).2)
        ⟨_, y, g, rfl, Same.refl _, newf, ndg, subg, fun j h z => absurd z (Nat.not_lt_zero _)⟩ (fun k σ Hc _ h => by
          obtain ⟨_, _, _, _, b, _⟩ := h
          exact b _ _ hf) ?_ ?_
      · rintro k v σ Hz Hc hk ⟨o2, y, g, rfl, sc, newc, ndg, subg, done⟩ ⟨rfl, kk, v', hk1, rfl⟩
        have hk : k < G.length := by unfold ownKV at hk; rwa [List.length_map] at hk
        unfold ownKV at hk1
        rw [List.getElem?_map, List.getElem?_eq_getElem hk] at hk1
        cases hk1
        have ht : (G[k]).1 ∈ G.map (·.1) := List.mem_map.mpr ⟨_, List.getElem_mem hk, rfl⟩
        have vt := own_at hT.ok.nodup hk
        have ov := hT.ok.vals _ (List.getElem_mem hk)
        have nmt := nmG _ ht
        obtain ⟨dx, ls, hi, hls, hpv, n1, n2⟩ := id newc
        have lg := sub_len ndg subg
        have dg : DGet Hc d (V.str (G[k]).1) (some (optV (G[k]).2)) := by
          have := DGet.z (k := Sum.inr (G[k]).1) (sc _ _ hf)
          rwa [val_own, vt] at this
        have freeH : ∀ z, Hc z = none → H z = none := fun z hz => by
          cases e : H z with
          | none => rfl
          | some o =>
            by_cases ed : z = d
            · rw [ed, sc _ _ hf] at hz
              cases hz
            · rw [sc _ _ (keepf _ _ e ed)] at hz
              cases hz
        refine ⟨_, rfl, y, dx, _, rfl, hi, prF_no (by decide) (by decide) (by decide), _, rfl, _, rfl, T, _, 2, .ref d, rfl, rfl, SqT.of (sc _ _ hTf), atI_nat (j := 2) rfl, _, rfl, d, _, rfl, dg, y, (G[k]).1, (G[k]).2, r, l, sortO g, rfl, newc.at_, nmt, ov, by rw [sortO_len]; omega, fun y' H' s' new' => ?_⟩
        rw [sortO_put ndg] at new'
        obtain ⟨dx', ls', a1, a2, a3, a4, a5⟩ := new'
        refine ⟨_, y', putO g (G[k]).1 (G[k]).2, rfl, sc.trans s', ⟨dx', ls', a1, a2, a3, freeH _ a4, freeH _ a5⟩, put_nodup ndg, put_sub subg ht, fun j hj hjk => ?_⟩
        rw [val_put]
        by_cases e : (G[j]).1 = (G[k]).1
        · rw [if_pos e]
          have := own_at hT.ok.nodup hj
          rw [e, vt] at this
          exact this
        · rw [if_neg e]
          refine done j hj ?_
          have : j ≠ k := fun z => e (by subst z; rfl)
          omega
      · rintro σ Hc ⟨o2, y, g, rfl, sc, newc, ndg, subg, done⟩
        have ldk : (ownKV G).length = G.length := by unfold ownKV; rw [List.length_map]
        refine ⟨sc _ _ hf, _, rfl, ?_⟩
        have perm : (g.map (·.1)).Perm (G.map (·.1)) := (List.perm_ext_iff_of_nodup ndg hT.ok.nodup).mpr fun t => ⟨subg t, fun ht => by
          obtain ⟨x, hx, rfl⟩ := List.mem_map.mp ht
          obtain ⟨j, hj, e⟩ := List.getElem_of_mem hx
          have := done j hj (by omega)
          rw [e] at this
          exact val_mem.mp (by rw [this]; rfl)⟩
        have eS : sortO g = sortO G := sortO_ext perm fun t => by
          by_cases ht : t ∈ G.map (·.1)
          · obtain ⟨x, hx, rfl⟩ := List.mem_map.mp ht
            obtain ⟨j, hj, e⟩ := List.getElem_of_mem hx
            have h1 := done j hj (by omega)
            have h2 := own_at hT.ok.nodup hj
            rw [e] at h1 h2
            rw [h1, h2]
          · have h1 : valO G t = none := by
              cases e : valO G t with
              | none => rfl
              | some o => exact absurd (val_mem.mp (by rw [e]; rfl)) ht
            have h2 : valO g t = none := by
              cases e : valO g t with
              | none => rfl
              | some o => exact absurd (subg t (val_mem.mp (by rw [e]; rfl))) ht
            rw [h1, h2]
        rw [eS] at newc
        refine q y _ (fun b o hb => ?_) ?_
        · by_cases e : b = d
          · rw [e, upd_same, ← hT.d, ← e, hb]
          · rw [upd_ne e]
            exact sc _ _ (keepf _ _ hb e)
        · obtain ⟨dx, ls, h1, h2, h3, h4, h5⟩ := newc
          exact ⟨dx, ls, by rw [upd_ne (fun e => by rw [e, hT.d] at h4; cases h4)]; exact h1, by rw [upd_ne (fun e => by rw [e, hT.d] at h5; cases h5)]; exact h2, h3, h4, h5⟩
end
end Wnd

/-! System(list(..), list(..)) at once -/
namespace Wnd
open PySem PySem.Spec PyProof.Rows L2
section
def tSysL (C : Addr) (t1 t2 : TE) : TE := fun σ H Q => t1 σ H fun v1 H1 => ∃ (a : Addr) (ts : List Str), v1 = .ref a ∧ H1 a = some (.lst (ts.map V.str)) ∧ NamesOk ts ∧ ∀ H2, Same H1 H2 → t2 σ H2 fun v2 H3 => ∃ (b : Addr) (rs : List (Rule × Addr)), v2 = .ref b ∧ Same H2 H3 ∧ H3 b = some (.lst (rs.map fun p => V.ref p.2)) ∧ KeyTups H3 rs ∧
  (∀ p ∈ rs, RuleOk ts p.1) ∧ rs.length < 100000 ∧ ∀ x L H', Same H3 H' → SysNew C H3 H' x (sortN ts) L → L.map (·.1) = canon (rs.map (·.1)) → L.length ≤ rs.length → Q (.ref x) H'
def rList (K : PySem.W.Frag) : List V → Hp → VK → Prop := fun xs H Q => ∃ p ys, xs = [.ref p] ∧ (SqL K H p ys ∨ SqT K H p ys) ∧ ∀ l, H l = none → Q (.ref l) (upd H l (.lst ys))
/-- a reading may be made weaker, result by result -/
def Mono (t : TE) : Prop := ∀ σ H (Q R : V → Hp → Prop), (∀ v H', Q v H' → R v H') → t σ H Q → t σ H R
theorem mono_var (i : Nat) : Mono (tVar i) := fun σ H Q R h => by
  rintro ⟨v, h1, h2⟩
  exact ⟨v, h1, h _ _ h2⟩
theorem pe_sysW {X : Cx} {C : Addr} {e : Expr} {t1 t2 : TE} (m1 : Mono t1) (m2 : Mono t2) (h : PE X e (tMake C (spInit C) [] E0 (tCons (tCB (rList X.K) (tCons t1 tNil)) (tCons (tCB (rList X.K) (tCons t2 tNil)) tNil)))) : PE X e (tSysL C t1 t2) := by
  refine ⟨fun pins s σ H Q I hq => h.run pins s σ H Q I ?_⟩
  refine m1 _ _ _ _ (fun v1 H1 g => ?_) hq
  obtain ⟨a, ts, rfl, hA, N, g⟩ := g
  refine ⟨a, _, rfl, .inl (SqL.of hA), fun l1 n1 => ?_⟩
  have s1 := same_new (o := .lst (ts.map V.str)) n1
  refine m2 _ _ _ _ (fun v2 H3 g => ?_) (g _ s1)
  obtain ⟨b, rs, rfl, s2, hB, hk, hro, hz, q⟩ := g
  refine ⟨b, _, rfl, .inl (SqL.of hB), fun l2 n2 => ?_⟩
  have hl1 : H3 l1 = some (.lst (ts.map V.str)) := s2 _ _ upd_same
  have s3 := same_new (o := .lst (rs.map fun p => V.ref p.2)) n2
  refine fun x dx nx ndx _ => init_sys (ts := ts) (rs := rs) nx ndx (s3 _ _ hl1) N upd_same (fun p hp => s3 _ _ (hk p hp)) hro hz fun H' s4 hS => ⟨rfl, ?_⟩
  have eL : (inOrder (putAll rs [])).map (·.1) = canon (rs.map (·.1)) := inOrder_canon rs
  refine q x _ H' (s3.trans s4) (hS.from_ s3) eL ?_
  have h1 := congrArg List.length eL
  have h2 := canon_len (rs.map (·.1))
  rw [List.length_map] at h1 h2
  omega
end
end Wnd

/-! models of the law; tasks made of them; their prices -/
namespace Wnd
open PySem PySem.Spec PyProof.Rows L2
abbrev s_law_task : Stmt := top 57
theorem sc_law_task : FnScope ["_law_model_here"] ["_law_model_here"] (defScope s_law_task) := ⟨rfl, rfl, rfl, by decide +kernel, rfl, by decide +kernel, by decide +kernel⟩
section
variable {P : Program} {w : World} {K : PySem.W.Frag} {mg : Str → Option Value} {base : Heap}
theorem mono_ixT {K : PySem.W.Frag} (i : Nat) (c : Int) : Mono (tOp (rIxT K) (tVar i) (tC (.int c))) := fun σ H Q R h => by
  rintro ⟨v, h1, p, xs, j, z, e1, e2, h2, h3, q⟩
  exact ⟨v, h1, p, xs, j, z, e1, e2, h2, h3, h _ _ q⟩
/-- a model of the law lies at M -/
structure ModelAt (H : Hp) (M an gp d0 T d : Addr) (ts : List Str) (rs : List (Rule × Addr)) (g : List (Str × Int)) (r l : Int) (G : Own) : Prop where
  m : H M = some (.tup [.ref an, .ref gp, .ref d0, .ref T])
  an : H an = some (.lst (ts.map V.str))
  ok : NamesOk ts
  gp : H gp = some (.lst (rs.map fun x => V.ref x.2))
  kt : KeyTups H rs
  ro : ∀ x ∈ rs, RuleOk ts x.1
  lr : rs.length ≤ 1000
  d0 : H d0 = some (.dK (goalKV g))
  nums : NumsOk ts g
  deal : DealAt H T d r l G
theorem ModelAt.same {H H' : Hp} {M an gp d0 T d : Addr} {ts : List Str} {rs : List (Rule × Addr)} {g : List (Str × Int)} {r l : Int} {G : Own} (h : ModelAt H M an gp d0 T d ts rs g r l G) (s : Same H H') : ModelAt H' M an gp d0 T d ts rs g r l G :=
  ⟨s _ _ h.m, s _ _ h.an, h.ok, s _ _ h.gp, fun x hx => s _ _ (h.kt x hx), h.ro, h.lr, s _ _ h.d0, h.nums, h.deal.same s⟩
theorem ModelAt.but {p c : Addr} {n : Nat} {H H' : Hp} {M an gp d0 T d : Addr} {ts : List Str} {rs : List (Rule × Addr)} {g : List (Str × Int)} {r l : Int} {G : Own} (h : ModelAt H M an gp d0 T d ts rs g r l G) (P : PenAt H p c n) (b : But p H H') : ModelAt H' M an gp d0 T d ts rs g r l G :=
  ⟨b _ _ h.m (P.ne_of h.m fun _ z => nomatch z), b _ _ h.an (P.ne_strs h.an), h.ok, b _ _ h.gp (P.ne_refs (L := rs.map (·.2)) (by rw [List.map_map]; exact h.gp)), fun x hx => b _ _ (h.kt x hx) (P.ne_of (h.kt x hx) fun _ z => nomatch z), h.ro, h.lr, b _ _ h.d0 (P.ne_of h.d0 fun _ z => nomatch z), h.nums,
    ⟨b _ _ h.deal.t (P.ne_of h.deal.t fun _ z => nomatch z), b _ _ h.deal.d (P.ne_of h.deal.d fun _ z => nomatch z), h.deal.r, h.deal.l, h.deal.ok, h.deal.len⟩⟩
theorem SysAt.butP {C x p c : Addr} {H H' : Hp} {n : Nat} {ns : List Str} {L : List (Rule × Addr)} (h : SysAt C H x ns L) (P : PenAt H p c n) (b : But p H H') : SysAt C H' x ns L := by
  obtain ⟨dx, ln, lr, h1, h2, h3, h4, h5⟩ := h
  exact ⟨dx, ln, lr, b _ _ h1 (P.ne_of h1 fun _ z => nomatch z), b _ _ h2 (P.ne_strs h2), b _ _ h3 (P.ne_refs (L := L.map (·.2)) (by rw [List.map_map]; exact h3)), fun q hq => b _ _ (h4 q hq) (P.ne_of (h4 q hq) fun _ z => nomatch z), h5⟩
theorem TaskAt.butP {C CP CT x p c : Addr} {H H' : Hp} {n : Nat} {ns : List Str} {L : List (Rule × Addr)} {g : List (Str × Int)} {r l : Int} {G : Own} (h : TaskAt C CP CT H x ns L g r l G) (P : PenAt H p c n) (b : But p H H') : TaskAt C CP CT H' x ns L g r l G := by
  obtain ⟨dx, sx, ld, px, h1, ⟨h2, h3, h4, dp, lp, h5, h6, h7⟩⟩ := h
  exact ⟨dx, sx, ld, px, b _ _ h1 (P.ne_of h1 fun _ z => nomatch z), ⟨h2.butP P b, b _ _ h3 (P.ne_of h3 fun _ z => nomatch z), h4, dp, lp, b _ _ h5 (P.ne_of h5 fun _ z => nomatch z), b _ _ h6 (P.ne_of h6 fun _ z => nomatch z), h7⟩⟩
def spThereL (C : Addr) : Sp := fun vs H Q _ => ∃ (M an gp d0 T d : Addr) (ts : List Str) (rs : List (Rule × Addr)) (g : List (Str × Int)) (r l : Int) (G : Own), vs = [.ref M] ∧ ModelAt H M an gp d0 T d ts rs g r l G ∧
  ∀ x L H', Same H H' → SysNew C H H' x (sortN ts) L → L.map (·.1) = canon (rs.map (·.1)) → L.length ≤ rs.length → Q (.ref x) H'
theorem ok_thereL {C : Addr} {f : Addr} {fd : FuncData} (D : DefAt K mg "_law_there" s_law_there ["_law_model_here"] f fd) (B : Blt mg) (C_System : mg "System" = some (.ref C)) (OM : OkMk P w K mg base C 5 ["self", "names", "rules"] (spInit C)) : Ok P w K mg base 7 "_law_there" ["_law_model_here"] (spThereL C) := by
  refine D.ok (D.fn.ok sc_law_there (fun vs H Q E h => ?_) (fun cdv A outer s H vs Q E hr h => ?_))
  · obtain ⟨M, an, gp, d0, T, d, ts, rs, g, r, l, G, rfl, _⟩ := h
    rfl
  · obtain ⟨M, an, gp, d0, T, d, ts, rs, g, r, l, G, rfl, hM, q⟩ := h
    refine ⟨_, (pss_one (ps_ret (pe_sysW (mono_ixT 0 0) (mono_ixT 0 1) (pe_mk OM (hr.mono (by decide)) C_System (pa_cons (pe_callTy call_list_of (by rfl) B.list (by decide +kernel) (pa_cons (pe_ix ix_tup (pv 0) pe_int (fun _ _ => rfl)) pa_nil)) (pa_cons (pe_callTy call_list_of (by rfl) B.list (by decide +kernel) (pa_cons (pe_ix ix_tup (pv 0) pe_int (fun _ _ => rfl)) pa_nil)) pa_nil)))))), ?_⟩
    exact ⟨_, rfl, M, _, 0, .ref an, rfl, rfl, SqT.of hM.m, atI_nat (j := 0) rfl, an, ts, rfl, hM.an, hM.ok, fun H2 s2 => ⟨_, rfl, M, _, 1, .ref gp, rfl, rfl, SqT.of (s2 _ _ hM.m), atI_nat (j := 1) rfl, gp, rs, rfl, Same.refl _, s2 _ _ hM.gp, fun p hp => s2 _ _ (hM.kt p hp), hM.ro, (by have := hM.lr; omega), fun x L H3 s3 hS eL lL => q x L H3 (s2.trans s3) (hS.from_ s2) eL lL⟩⟩
theorem task_init {C CP CT x dx sx d px : Addr} {H : Hp} {ns : List Str} {L : List (Rule × Addr)} {g : List (Str × Int)} {r l : Int} {G : Own} {Qn : VK} {E : XK} (nx : H x = none) (ndx : H dx = none) (hs : SysAt C H sx ns L) (hd : H d = some (.dK (goalKV g))) (hn : NumsOk ns g) (hp : PrcAt CP H px r l G)
    (h : ∀ H', Same H H' → TaskAt C CP CT H' x ns L g r l G → Qn .non H') : spTaInit C CT [.ref x, .ref sx, .ref d, .ref px] (upd (upd H dx (.own x)) x (.ins CT dx [])) Qn E := by
  have s0 : Same H (upd (upd H dx (.own x)) x (.ins CT dx [])) := fun b o hb => by
    rw [upd_ne (ne_of_none hb nx), upd_ne (ne_of_none hb ndx)]
    exact hb
  refine ⟨x, dx, sx, d, px, ns, L, g, rfl, upd_same, hs.same s0, s0 _ _ hd, hn, fun ld H' b nld h1 h2 => ?_⟩
  have s1 : Same H H' := fun b' o hb => b _ _ (s0 _ _ hb) (ne_of_none hb nx)
  exact h H' s1 ⟨dx, sx, ld, px, h1, ⟨hs.same s1, h2, hn, hp.same s1⟩⟩
def spTaskL (C CP CT : Addr) : Sp := fun vs H Q _ => ∃ (M an gp d0 T d : Addr) (ts : List Str) (rs : List (Rule × Addr)) (g : List (Str × Int)) (r l : Int) (G : Own), vs = [.ref M] ∧ ModelAt H M an gp d0 T d ts rs g r l G ∧
  ∀ x L H', Same H H' → TaskAt C CP CT H' x (sortN ts) L g r l (sortO G) → L.map (·.1) = canon (rs.map (·.1)) → L.length ≤ rs.length → Q (.ref x) H'
theorem nums_sort {ts : List Str} {g : List (Str × Int)} (h : NumsOk ts g) : NumsOk (sortN ts) g := ⟨h.1.trans (sortN_perm ts).symm, h.2⟩
theorem ok_taskL {C CP CT : Addr} {f : Addr} {fd : FuncData} (D : DefAt K mg "_law_task" s_law_task ["_law_model_here"] f fd) (C_Task : mg "Task" = some (.ref CT)) (OT : OkMk P w K mg base CT 6 ["self", "system", "numbers", "prices"] (spTaInit C CT)) (O_law_there : Ok P w K mg base 7 "_law_there" ["_law_model_here"] (spThereL C)) (O_law_prices : Ok P w K mg base 7 "_law_prices" ["_law_deal_here"] (spPricesL CP)) :
    Ok P w K mg base 8 "_law_task" ["_law_model_here"] (spTaskL C CP CT) := by
  refine D.ok (D.fn.ok sc_law_task (fun vs H Q E h => ?_) (fun cdv A outer s H vs Q E hr h => ?_))
  · obtain ⟨M, an, gp, d0, T, d, ts, rs, g, r, l, G, rfl, _⟩ := h
    rfl
  · obtain ⟨M, an, gp, d0, T, d, ts, rs, g, r, l, G, rfl, hM, q⟩ := h
    refine ⟨_, (pss_one (ps_ret (pe_mk OT (hr.mono (by decide)) C_Task (pa_cons (pe_own O_law_there (hr.mono (by decide)) (pa_cons (pv 0) pa_nil)) (pa_cons (pe_ix ix_tup (pv 0) pe_int (fun _ _ => rfl)) (pa_cons (pe_own O_law_prices (hr.mono (by decide)) (pa_cons (pe_ix ix_tup (pv 0) pe_int (fun _ _ => rfl)) pa_nil)) pa_nil)))))), ?_⟩
    refine ⟨_, rfl, M, an, gp, d0, T, d, ts, rs, g, r, l, G, rfl, hM, fun sx L H1 s1 hS eL lL => ?_⟩
    have M1 := hM.same s1
    refine ⟨_, rfl, M, _, 2, .ref d0, rfl, rfl, SqT.of M1.m, atI_nat (j := 2) rfl, ?_⟩
    refine ⟨_, rfl, M, _, 3, .ref T, rfl, rfl, SqT.of M1.m, atI_nat (j := 3) rfl, T, d, r, l, G, rfl, M1.deal, fun px H2 s2 hP => ?_⟩
    exact fun x dx nx ndx _ => task_init nx ndx (hS.at_.same s2) (s2 _ _ M1.d0) (nums_sort hM.nums) hP.at_ fun H3 s3 ta => ⟨rfl, q x L H3 ((s1.trans s2).trans s3) ta eL lL⟩
theorem perm_sum {a b : List Int} (p : a.Perm b) : a.sum = b.sum := by
  induction p with
  | nil => rfl
  | cons x _ ih => rw [List.sum_cons, List.sum_cons, ih]
  | swap x y l => rw [List.sum_cons, List.sum_cons, List.sum_cons, List.sum_cons]; omega
  | trans _ _ ih1 ih2 => rw [ih1, ih2]
theorem priceO_perm {ns ts : List Str} {r l : Int} {G : Own} {g gn : List (Str × Int)} (p : ns.Perm ts) : priceO ns r l G g gn = priceO ts r l G g gn := by
  unfold priceO
  have h1 : ns.any (brkB G g gn) = ts.any (brkB G g gn) := by
    rw [Bool.eq_iff_iff, List.any_eq_true, List.any_eq_true]
    exact ⟨fun ⟨t, ht, e⟩ => ⟨t, p.mem_iff.mp ht, e⟩, fun ⟨t, ht, e⟩ => ⟨t, p.mem_iff.mpr ht, e⟩⟩
  have h2 : (ns.map fun t => costC r l G t (valG gn (some t) - valG g (some t))).sum = (ts.map fun t => costC r l G t (valG gn (some t) - valG g (some t))).sum := perm_sum (p.map _)
  rw [h1, h2]
theorem fix_sort (G : Own) (t : Str) : fixB (sortO G) t = fixB G t := by
  unfold fixB
  rw [val_sort]
theorem pair_sort (r l : Int) (G : Own) (t : Str) : pairN r l (sortO G) t = pairN r l G t := by
  unfold pairN
  rw [val_sort]
theorem priceO_sort {ts : List Str} {r l : Int} {G : Own} {g gn : List (Str × Int)} : priceO ts r l (sortO G) g gn = priceO ts r l G g gn := by
  unfold priceO
  have h1 : brkB (sortO G) g gn = brkB G g gn := by
    funext t
    unfold brkB
    rw [fix_sort]
  have h2 : (fun t => costC r l (sortO G) t (valG gn (some t) - valG g (some t))) = fun t => costC r l G t (valG gn (some t) - valG g (some t)) := by
    funext t
    unfold costC
    rw [pair_sort]
  rw [h1, h2]
def spLawPrice : Sp := fun vs H Q _ => ∃ (M hd an gp d0 T d : Addr) (ts : List Str) (rs : List (Rule × Addr)) (g gn : List (Str × Int)) (r l : Int) (G : Own), vs = [.ref M, .ref hd] ∧ ModelAt H M an gp d0 T d ts rs g r l G ∧ H hd = some (.dK (goalKV gn)) ∧ NumsOk ts gn ∧ Q (optV (priceO ts r l G g gn)) H
end
end Wnd

/-! contradictions and tightest gaps of a system -/
namespace Wnd
open PySem PySem.Spec PyProof.Rows L2
section
variable {P : Program} {w : World} {K : PySem.W.Frag} {mg : Str → Option Value} {base : Heap}
/-- the things of a system: the ground, the settings -/
def things (ns : List Str) : List Node := none :: ns.map some
theorem things_v (ns : List Str) : (things ns).map endV = V.non :: ns.map V.str := by
  unfold things
  rw [List.map_cons, List.map_map]
  rfl
theorem things_nodup {ns : List Str} (h : ns.Nodup) : (things ns).Nodup := by
  refine List.nodup_cons.mpr ⟨fun z => ?_, ?_⟩
  · obtain ⟨x, _, e⟩ := List.mem_map.mp z
    cases e
  · exact List.Pairwise.map some (fun a b hab e => hab (Option.some.inj e)) h
theorem endIn_mem {ns : List Str} {e : Node} (h : endIn ns e = true) : e ∈ things ns := by
  cases e with
  | none => exact List.mem_cons_self
  | some t =>
    obtain ⟨x, hx, e⟩ := List.any_eq_true.mp (show ns.any _ = true from h)
    refine List.mem_cons_of_mem _ (List.mem_map.mpr ⟨x, hx, ?_⟩)
    first
      | exact congrArg some (of_decide_eq_true e)
      | exact congrArg some (of_decide_eq_true e).symm
      | exact congrArg some (by simpa using e)
      | exact congrArg some (by simpa using e).symm
theorem arcs_in {ns : List Str} {rs : List (Rule × Addr)} (h : ∀ p ∈ rs, RuleOk ns p.1) : ∀ x y g, (x, y, g) ∈ arcsOf rs → x ∈ things ns ∧ y ∈ things ns := fun x y g m => by
  obtain ⟨p, hp, e⟩ := List.mem_map.mp m
  have r := h p hp
  unfold arcOf at e
  cases e
  exact ⟨endIn_mem r.low, endIn_mem r.high⟩
def spFrom0 (P : Program) (w : World) : Sp := fun vs H Q _ => ∃ (th a : Addr) (ns : List Node) (rs : List (Rule × Addr)), vs = [.ref th, .ref a] ∧ H th = some (.lst (ns.map endV)) ∧ ns.Nodup ∧ 0 < ns.length ∧ ns.length ≤ 64 ∧
  H a = some (.lst (rs.map fun p => V.ref p.2)) ∧ KeyTups H rs ∧ rs.length ≤ 2000 ∧
  ∀ t d l r H' k, Same H H' → H t = none → H d = none → H l = none → H r = none → H' t = some (.tup [.ref d, .ref l, .ref r]) → H' d = some (ndO P w d (intsV (itr (arcsOf rs) ns k).T)) → H' l = some (ndO P w l (natsV (itr (arcsOf rs) ns k).L)) → H' r = some (.lst ((itr (arcsOf rs) ns k).R.map endV)) →
    k ≤ ns.length → ((itr (arcsOf rs) ns k).R = [] ∨ k = ns.length) → Q (.ref t) H'
/-- no ring rises: there is none -/
def spRing : Sp := fun vs H Q _ => ∃ (th a : Addr) (ns : List Node) (rs : List (Rule × Addr)), vs = [.ref th, .ref a] ∧ H th = some (.lst (ns.map endV)) ∧ ns.Nodup ∧ 0 < ns.length ∧ ns.length ≤ 64 ∧
  H a = some (.lst (rs.map fun p => V.ref p.2)) ∧ KeyTups H rs ∧ rs.length ≤ 2000 ∧ NoPos (arcsOf rs) ∧ (∀ x y g, (x, y, g) ∈ arcsOf rs → x ∈ ns ∧ y ∈ ns) ∧ ∀ H', Same H H' → Q .non H'
/-! ### of a system whose rules agree -/
def spContra (C : Addr) : Sp := fun vs H Q _ => ∃ (x : Addr) (ns : List Str) (L : List (Rule × Addr)), vs = [.ref x] ∧ SysAt C H x ns L ∧ L.length ≤ 2000 ∧ NoPos (arcsOf L) ∧ ∀ H', Same H H' → Q .non H'
end
end Wnd

/-! Windowsteps: when totals still rise in the last round, the last arcs hold a ring, and its total is above 0. -/
namespace Wnd
section
variable {ν : Type} [DecidableEq ν]
theorem asks_back {T : List (ν × Int)} {c : ν} {z : Int} {a : Arc ν} (grow : ∀ y, lk T c = some y → y ≤ z) (hn : a.1 ≠ c) (h : asks (pt T c z) a = true) : asks T a = true := by
  unfold asks at h ⊢
  rw [lk_pt_ne hn] at h
  cases hx : lk T a.1 with
  | none => rw [hx] at h; cases h
  | some x =>
    rw [hx] at h
    dsimp only at h ⊢
    by_cases e : a.2.1 = c
    · rw [e, lk_pt_same] at h
      have h := of_decide_eq_true h
      rw [e]
      cases hy : lk T c with
      | none => rfl
      | some y =>
        have := grow y hy
        exact decide_eq_true (by omega)
    · rw [lk_pt_ne e] at h
      exact h
/-- ρ, τ: the round and the time of the last raise -/
structure RI (A : List (Arc ν)) (S : R3 ν) (ρ τ : ν → Nat) (k i t : Nat) : Prop where
  has : ∀ v, 0 < ρ v → ∃ j, lk S.L v = some j
  ptr : ∀ (v : ν) (j : Nat), lk S.L v = some j → ∃ b g xb xv, A[j]? = some (b, v, g) ∧ lk S.T b = some xb ∧ lk S.T v = some xv ∧ xv ≤ xb + g ∧ (xv = xb + g → τ b < τ v) ∧ ρ v ≤ ρ b + 1
  time : ∀ v, τ v ≤ t
  le : ∀ v, ρ v ≤ k
  ex1 : ∀ (j : Nat) (a : Arc ν), j < i → A[j]? = some a → asks S.T a = true → k ≤ ρ a.1
  ex2 : ∀ (j : Nat) (a : Arc ν), A[j]? = some a → asks S.T a = true → k ≤ ρ a.1 + 1
  rk : ∀ v ∈ S.R, ρ v = k
theorem RI.step {A : List (Arc ν)} (ne : ∀ b c g, (b, c, g) ∈ A → b ≠ c) {S : R3 ν} {ρ τ : ν → Nat} {k i t : Nat} {a : Arc ν} (hi : A[i]? = some a) (h : RI A S ρ τ k i t) : ∃ ρ' τ', RI A (rstep S i a) ρ' τ' k (i + 1) (t + 1) := by
  obtain ⟨b, c, g⟩ := a
  by_cases ha : asks S.T (b, c, g) = true
  · have hbc : b ≠ c := ne b c g (List.mem_of_getElem? hi)
    have k2 := h.ex2 i _ hi ha
    have k2 : k ≤ ρ b + 1 := k2
    rw [show rstep S i (b, c, g) = raised S i (b, c, g) from if_pos ha]
    have ha' := ha
    unfold asks at ha'
    cases hx : lk S.T b with
    | none => rw [show lk S.T (b, c, g).1 = none from hx] at ha'; cases ha'
    | some x =>
      rw [show lk S.T (b, c, g).1 = some x from hx] at ha'
      have ha' : (match lk S.T c with | none => true | some y => decide (y < x + g)) = true := ha'
      have lt : ∀ y, lk S.T c = some y → y < x + g := fun y hy => by
        rw [hy] at ha'
        exact of_decide_eq_true ha'
      have eT : (raised S i (b, c, g)).T = pt S.T c (x + g) := by
        show pt S.T c ((lk S.T b).getD 0 + g) = _
        rw [hx]
        rfl
      have eL : (raised S i (b, c, g)).L = pt S.L c i := rfl
      have eR : (raised S i (b, c, g)).R = S.R ++ [c] := rfl
      refine ⟨fun v => if v = c then k else ρ v, fun v => if v = c then t + 1 else τ v, ?_⟩
      constructor
      · intro v hv
        rw [eL]
        by_cases e : v = c
        · rw [e]
          exact ⟨i, lk_pt_same⟩
        · rw [lk_pt_ne e]
          rw [if_neg e] at hv
          exact h.has v hv
      · intro v j hj
        rw [eL] at hj
        rw [eT]
        by_cases e : v = c
        · subst e
          rw [lk_pt_same] at hj
          cases hj
          refine ⟨b, g, x, x + g, hi, by rw [lk_pt_ne hbc]; exact hx, lk_pt_same, Int.le_refl _, fun _ => ?_, ?_⟩
          · rw [if_neg hbc, if_pos rfl]
            have := h.time b
            omega
          · rw [if_neg hbc, if_pos rfl]
            exact k2
        · rw [lk_pt_ne e] at hj
          obtain ⟨b', g', xb, xv, h1, h2, h3, h4, h5, h6⟩ := h.ptr v j hj
          by_cases e2 : b' = c
          · subst e2
            have l2 := lt xb h2
            have l3 := h.le b'
            refine ⟨b', g', x + g, xv, h1, lk_pt_same, by rw [lk_pt_ne e]; exact h3, by omega, fun z => by omega, ?_⟩
            rw [if_neg e, if_pos rfl]
            omega
          · refine ⟨b', g', xb, xv, h1, by rw [lk_pt_ne e2]; exact h2, by rw [lk_pt_ne e]; exact h3, h4, fun z => ?_, ?_⟩
            · rw [if_neg e, if_neg e2]
              exact h5 z
            · rw [if_neg e, if_neg e2]
              exact h6
      · intro v
        have := h.time v
        show (if v = c then t + 1 else τ v) ≤ t + 1
        split <;> omega
      · intro v
        have := h.le v
        show (if v = c then k else ρ v) ≤ k
        split <;> omega
      · intro j a hj hA hs
        rw [eT] at hs
        show k ≤ if a.1 = c then k else ρ a.1
        by_cases e : a.1 = c
        · rw [if_pos e]
          exact Nat.le_refl _
        · rw [if_neg e]
          by_cases ej : j < i
          · exact h.ex1 j a ej hA (asks_back (fun y hy => Int.le_of_lt (lt y hy)) e hs)
          · have : j = i := by omega
            subst this
            rw [hi] at hA
            cases hA
            exfalso
            unfold asks at hs
            rw [show lk (pt S.T c (x + g)) (b, c, g).1 = some x by rw [lk_pt_ne hbc]; exact hx] at hs
            have hs : (match lk (pt S.T c (x + g)) c with | none => true | some y => decide (y < x + g)) = true := hs
            rw [lk_pt_same] at hs
            have hs := of_decide_eq_true hs
            omega
      · intro j a hA hs
        rw [eT] at hs
        show k ≤ (if a.1 = c then k else ρ a.1) + 1
        by_cases e : a.1 = c
        · rw [if_pos e]
          omega
        · rw [if_neg e]
          exact h.ex2 j a hA (asks_back (fun y hy => Int.le_of_lt (lt y hy)) e hs)
      · intro v hv
        rw [eR] at hv
        show (if v = c then k else ρ v) = k
        by_cases e : v = c
        · rw [if_pos e]
        · rw [if_neg e]
          rcases List.mem_append.mp hv with hv | hv
          · exact h.rk v hv
          · exact (e (List.mem_singleton.mp hv)).elim
  · rw [show rstep S i (b, c, g) = S from if_neg ha]
    refine ⟨ρ, τ, h.has, h.ptr, fun v => Nat.le_succ_of_le (h.time v), h.le, fun j a hj hA hs => ?_, h.ex2, h.rk⟩
    by_cases ej : j < i
    · exact h.ex1 j a ej hA hs
    · have : j = i := by omega
      subst this
      rw [hi] at hA
      cases hA
      exact (ha hs).elim
theorem RI.rgo {A : List (Arc ν)} (ne : ∀ b c g, (b, c, g) ∈ A → b ≠ c) {k : Nat} : ∀ (B : List (Arc ν)) (i t : Nat) (S : R3 ν) (ρ τ : ν → Nat), (∀ j, j < B.length → B[j]? = A[i + j]?) → RI A S ρ τ k i t → ∃ ρ' τ' t', RI A (Wnd.rgo B i S) ρ' τ' k (i + B.length) t'
  | [], i, t, S, ρ, τ, _, h => ⟨ρ, τ, t, h⟩
  | b :: r, i, t, S, ρ, τ, m, h => by
    have hi : A[i]? = some b := (m 0 (by rw [List.length_cons]; omega)).symm
    obtain ⟨ρ1, τ1, h1⟩ := h.step ne hi
    obtain ⟨ρ2, τ2, t2, h2⟩ := RI.rgo ne r (i + 1) (t + 1) (Wnd.rstep S i b) ρ1 τ1 (fun j hj => by
      have := m (j + 1) (by rw [List.length_cons]; omega)
      rw [show i + 1 + j = i + (j + 1) by omega]
      exact this) h1
    rw [List.length_cons, show i + (r.length + 1) = i + 1 + r.length by omega]
    exact ⟨ρ2, τ2, t2, h2⟩
theorem RI.itr {A : List (Arc ν)} (ne : ∀ b c g, (b, c, g) ∈ A → b ≠ c) (ns : List ν) : ∀ k, ∃ ρ τ t, RI A (Wnd.itr A ns (k + 1)) ρ τ (k + 1) A.length t := fun k => by
  have from_ : ∀ k ρ τ t, RI A ⟨(Wnd.itr A ns k).T, (Wnd.itr A ns k).L, []⟩ ρ τ (k + 1) 0 t → ∃ ρ τ t, RI A (Wnd.itr A ns (k + 1)) ρ τ (k + 1) A.length t := fun k ρ τ t h => by
    obtain ⟨ρ', τ', t', h'⟩ := RI.rgo ne A 0 t _ ρ τ (fun j _ => by rw [Nat.zero_add]) h
    rw [Nat.zero_add] at h'
    exact ⟨ρ', τ', t', h'⟩
  induction k with
  | zero =>
    refine from_ 0 (fun _ => 0) (fun _ => 0) 0 ⟨fun v h => absurd h (Nat.lt_irrefl 0), fun v j h => ?_, fun _ => Nat.le_refl _, fun _ => Nat.zero_le _, fun j a h => absurd h (Nat.not_lt_zero _), fun j a _ _ => Nat.le_refl _, fun v h => by cases h⟩
    cases h
  | succ k ih =>
    obtain ⟨ρ, τ, t, h⟩ := ih
    refine from_ (k + 1) ρ τ t ⟨h.has, h.ptr, h.time, fun v => Nat.le_succ_of_le (h.le v), fun j a z => absurd z (Nat.not_lt_zero _), fun j a hA hs => ?_, fun v z => by cases z⟩
    have hj : j < A.length := (List.getElem?_eq_some_iff.mp hA).1
    exact Nat.succ_le_succ (h.ex1 j a hj hA hs)
/-! ### following the last arcs -/
def lastOf (L : List (ν × Nat)) (v : ν) : Nat := (lk L v).getD 0
def nx (A : List (Arc ν)) (L : List (ν × Nat)) (v : ν) : ν := match A[lastOf L v]? with
  | some a => a.1
  | none => v
def it (A : List (Arc ν)) (L : List (ν × Nat)) : Nat → ν → ν
  | 0, v => v
  | m + 1, v => it A L m (nx A L v)
def tl (A : List (Arc ν)) (L : List (ν × Nat)) : Nat → ν → List Nat
  | 0, _ => []
  | m + 1, v => lastOf L v :: tl A L m (nx A L v)
theorem it_succ (A : List (Arc ν)) (L : List (ν × Nat)) : ∀ m v, it A L (m + 1) v = nx A L (it A L m v)
  | 0, v => rfl
  | m + 1, v => it_succ A L m (nx A L v)
theorem it_add (A : List (Arc ν)) (L : List (ν × Nat)) : ∀ a b v, it A L (a + b) v = it A L a (it A L b v)
  | a, 0, v => rfl
  | a, b + 1, v => by
    show it A L (a + b + 1) v = it A L a (it A L b (nx A L v))
    exact it_add A L a b (nx A L v)
theorem tl_succ (A : List (Arc ν)) (L : List (ν × Nat)) : ∀ m v, tl A L (m + 1) v = tl A L m v ++ [lastOf L (it A L m v)]
  | 0, v => rfl
  | m + 1, v => by
    show lastOf L v :: tl A L (m + 1) (nx A L v) = _
    rw [tl_succ A L m (nx A L v)]
    rfl
theorem tl_len (A : List (Arc ν)) (L : List (ν × Nat)) : ∀ m v, (tl A L m v).length = m
  | 0, v => rfl
  | m + 1, v => by
    show (tl A L m (nx A L v)).length + 1 = m + 1
    rw [tl_len A L m]
/-- along arcs of L, from u to v -/
inductive Pth (A : List (Arc ν)) (L : List (ν × Nat)) : ν → ν → List Nat → Prop where
  | nil (u : ν) : Pth A L u u []
  | snoc {u v b : ν} {g : Int} {i : Nat} {ps : List Nat} : lk L v = some i → A[i]? = some (b, v, g) → Pth A L u b ps → Pth A L u v (ps ++ [i])
theorem Pth.of_nil {A : List (Arc ν)} {L : List (ν × Nat)} {u v : ν} {ps : List Nat} (p : Pth A L u v ps) (e : ps = []) : u = v := by
  cases p with
  | nil => rfl
  | snoc _ _ _ => simp at e
/-- from where there is a last arc it is one of this end -/
def Good (A : List (Arc ν)) (L : List (ν × Nat)) (v : ν) : Prop := ∃ i b g, lk L v = some i ∧ A[i]? = some (b, v, g)
theorem Good.nx {A : List (Arc ν)} {L : List (ν × Nat)} {v : ν} (h : Good A L v) : ∃ g, lk L v = some (lastOf L v) ∧ A[lastOf L v]? = some (nx A L v, v, g) := by
  obtain ⟨i, b, g, h1, h2⟩ := h
  have e : lastOf L v = i := by
    unfold lastOf
    rw [h1]
    rfl
  refine ⟨g, by rw [e]; exact h1, ?_⟩
  unfold Wnd.nx
  rw [e, h2]
theorem pth_tl {A : List (Arc ν)} {L : List (ν × Nat)} : ∀ (m : Nat) (v : ν), (∀ j, j < m → Good A L (it A L j v)) → Pth A L (it A L m v) v (tl A L m v).reverse
  | 0, v, _ => .nil v
  | m + 1, v, h => by
    obtain ⟨g, h1, h2⟩ := (h 0 (Nat.succ_pos _)).nx
    have h2 : A[lastOf L v]? = some (nx A L v, v, g) := h2
    have h1 : lk L v = some (lastOf L v) := h1
    show Pth A L (it A L m (nx A L v)) v (lastOf L v :: tl A L m (nx A L v)).reverse
    rw [List.reverse_cons]
    exact .snoc h1 h2 (pth_tl m (nx A L v) fun j hj => h (j + 1) (Nat.succ_lt_succ hj))
theorem RI.sum {A : List (Arc ν)} {S : R3 ν} {ρ τ : ν → Nat} {k i t : Nat} (h : RI A S ρ τ k i t) {u v : ν} {ps : List Nat} (p : Pth A S.L u v ps) : ∀ xu xv, lk S.T u = some xu → lk S.T v = some xv → xv ≤ xu + gapsAt A ps ∧ (xv = xu + gapsAt A ps → ps ≠ [] → τ u < τ v) := by
  induction p with
  | nil =>
    intro xu xv h1 h2
    rw [h1] at h2
    cases h2
    exact ⟨by show xu ≤ xu + 0; omega, fun _ z => (z rfl).elim⟩
  | @snoc v b g i ps h1 h2 p ih =>
    intro xu xv e1 e2
    obtain ⟨b', g', xb, xv', k1, k2, k3, k4, k5, k6⟩ := h.ptr v i h1
    rw [h2] at k1
    cases k1
    rw [e2] at k3
    cases k3
    obtain ⟨i1, i2⟩ := ih xu xb e1 k2
    have eg : gapAt A i = g := by
      unfold gapAt
      rw [h2]
    rw [gapsAt_snoc, eg]
    refine ⟨by omega, fun z _ => ?_⟩
    have t1 := k5 (by omega)
    by_cases en : ps = []
    · rw [p.of_nil en]
      exact t1
    · exact Nat.lt_trans (i2 (by omega) en) t1
theorem RI.ring {A : List (Arc ν)} {S : R3 ν} {ρ τ : ν → Nat} {k i t : Nat} (h : RI A S ρ τ k i t) {v : ν} {ps : List Nat} (p : Pth A S.L v v ps) (n : ps ≠ []) : 0 < gapsAt A ps := by
  have hv : ∃ x, lk S.T v = some x := by
    cases p with
    | nil => exact (n rfl).elim
    | snoc h1 h2 p =>
      obtain ⟨_, _, _, xv, _, _, k3, _⟩ := h.ptr v _ h1
      exact ⟨xv, k3⟩
  obtain ⟨x, hx⟩ := hv
  obtain ⟨h1, h2⟩ := h.sum p x x hx hx
  by_cases e : x = x + gapsAt A ps
  · exact absurd (h2 e n) (Nat.lt_irrefl _)
  · omega
theorem least_of {p : Nat → Prop} : ∀ n, p n → ∃ m, p m ∧ m ≤ n ∧ ∀ k, k < m → ¬ p k := fun n => by
  induction n using Nat.strongRecOn with
  | _ n ih =>
    intro h
    by_cases e : ∃ k, k < n ∧ p k
    · obtain ⟨k, hk, hp⟩ := e
      obtain ⟨m, h1, h2, h3⟩ := ih k hk hp
      exact ⟨m, h1, by omega, h3⟩
    · exact ⟨n, h, Nat.le_refl _, fun k hk hp => e ⟨k, hk, hp⟩⟩
/-- behind as many last arcs as there are nodes there is a ring -/
theorem ring_at {A : List (Arc ν)} (ne : ∀ b c g, (b, c, g) ∈ A → b ≠ c) {ns : List ν} (hA : ∀ a b g, (a, b, g) ∈ A → a ∈ ns ∧ b ∈ ns) {x : ν} {r : List ν} (h0 : 0 < ns.length) (hR : (itr A ns ns.length).R = x :: r) :
    (∀ j, j < ns.length → Good A (itr A ns ns.length).L (it A (itr A ns ns.length).L j x)) ∧ ∃ m, 0 < m ∧ m ≤ ns.length ∧ it A (itr A ns ns.length).L m (it A (itr A ns ns.length).L ns.length x) = it A (itr A ns ns.length).L ns.length x ∧
      (∀ k, 0 < k → k < m → it A (itr A ns ns.length).L k (it A (itr A ns ns.length).L ns.length x) ≠ it A (itr A ns ns.length).L ns.length x) ∧ (∀ j, Good A (itr A ns ns.length).L (it A (itr A ns ns.length).L j (it A (itr A ns ns.length).L ns.length x))) ∧
      Pth A (itr A ns ns.length).L (it A (itr A ns ns.length).L ns.length x) (it A (itr A ns ns.length).L ns.length x) (tl A (itr A ns ns.length).L m (it A (itr A ns ns.length).L ns.length x)).reverse ∧ 0 < gapsAt A (tl A (itr A ns ns.length).L m (it A (itr A ns ns.length).L ns.length x)).reverse := by
  obtain ⟨n, hn⟩ : ∃ n, ns.length = n + 1 := ⟨ns.length - 1, by omega⟩
  obtain ⟨ρ, τ, t, I⟩ := RI.itr ne ns n
  rw [← hn] at I
  generalize itr A ns ns.length = S at I hR ⊢
  have good : ∀ v, 0 < ρ v → Good A S.L v := fun v hv => by
    obtain ⟨j, hj⟩ := I.has v hv
    obtain ⟨b, g, _, _, h1, _⟩ := I.ptr v j hj
    exact ⟨j, b, g, hj, h1⟩
  have down : ∀ j, j ≤ ns.length → ns.length ≤ ρ (it A S.L j x) + j := fun j => by
    induction j with
    | zero =>
      intro _
      have := I.rk x (by rw [hR]; exact List.mem_cons_self)
      show ns.length ≤ ρ x + 0
      omega
    | succ j ih =>
      intro hj
      have h1 := ih (by omega)
      have hv : 0 < ρ (it A S.L j x) := by omega
      obtain ⟨i, hi⟩ := I.has _ hv
      obtain ⟨b, g, _, _, k1, _, _, _, _, k6⟩ := I.ptr _ i hi
      obtain ⟨g', q1, q2⟩ := (good _ hv).nx
      rw [hi] at q1
      have q1 := Option.some.inj q1
      rw [← q1, k1] at q2
      have q3 : b = nx A S.L (it A S.L j x) := by
        have := Option.some.inj q2
        exact congrArg (·.1) this
      rw [it_succ, ← q3]
      omega
  have goodx : ∀ j, j < ns.length → Good A S.L (it A S.L j x) := fun j hj => good _ (by have := down j (by omega); omega)
  have inn : ∀ j, j ≤ ns.length → it A S.L j x ∈ ns := fun j hj => by
    cases j with
    | zero =>
      obtain ⟨i, b, g, _, h2⟩ := goodx 0 h0
      exact (hA _ _ _ (List.mem_of_getElem? h2)).2
    | succ j =>
      obtain ⟨g, _, h2⟩ := (goodx j hj).nx
      rw [it_succ]
      exact (hA _ _ _ (List.mem_of_getElem? h2)).1
  refine ⟨goodx, ?_⟩
  -- two of them are the same
  have dup : ∃ i j, i < j ∧ j ≤ ns.length ∧ it A S.L i x = it A S.L j x := by
    have hnd : ¬ ((List.range (ns.length + 1)).map fun j => it A S.L j x).Nodup := fun z => by
      have := nodup_len (vs := ns) z (fun y hy => by
        obtain ⟨j, hj, rfl⟩ := List.mem_map.mp hy
        exact inn j (by have := List.mem_range.mp hj; omega))
      rw [List.length_map, List.length_range] at this
      omega
    obtain ⟨xs, a, ys, zs, e⟩ := not_nodup hnd
    have len := congrArg List.length e
    simp only [List.length_map, List.length_range, List.length_append, List.length_cons] at len
    have e1 : ((List.range (ns.length + 1)).map fun j => it A S.L j x)[xs.length]? = some a := by
      rw [e, List.getElem?_append_right (Nat.le_refl _), Nat.sub_self]
      rfl
    have e2 : ((List.range (ns.length + 1)).map fun j => it A S.L j x)[xs.length + 1 + ys.length]? = some a := by
      rw [e, List.getElem?_append_right (by omega), show xs.length + 1 + ys.length - xs.length = ys.length + 1 by omega, List.getElem?_cons_succ, List.getElem?_append_right (Nat.le_refl _), Nat.sub_self]
      rfl
    rw [List.getElem?_map, List.getElem?_range (by omega)] at e1 e2
    have e1 := Option.some.inj e1
    have e2 := Option.some.inj e2
    exact ⟨xs.length, xs.length + 1 + ys.length, by omega, by omega, e1.trans e2.symm⟩
  obtain ⟨i, j, hij, hj, e⟩ := dup
  have back : ∀ q, ∃ q', q' < j ∧ it A S.L q x = it A S.L q' x := fun q => by
    induction q using Nat.strongRecOn with
    | _ q ih =>
      by_cases hq : q < j
      · exact ⟨q, hq, rfl⟩
      · obtain ⟨q', h1, h2⟩ := ih (q - j + i) (by omega)
        refine ⟨q', h1, ?_⟩
        rw [← h2, show q = q - j + j by omega, it_add, ← e, ← it_add]
        congr 1
        omega
  have per : it A S.L (j - i) (it A S.L ns.length x) = it A S.L ns.length x := by
    rw [← it_add, show j - i + ns.length = (ns.length - i) + j by omega, it_add, ← e, ← it_add]
    congr 1
    omega
  have goody : ∀ q, Good A S.L (it A S.L q (it A S.L ns.length x)) := fun q => by
    rw [← it_add]
    obtain ⟨q', h1, h2⟩ := back (q + ns.length)
    rw [h2]
    exact goodx q' (by omega)
  generalize it A S.L ns.length x = y at per goody ⊢
  obtain ⟨m, h1, h2, h3⟩ := least_of (p := fun m => 0 < m ∧ it A S.L m y = y) (j - i) ⟨by omega, per⟩
  have pp : Pth A S.L y y (tl A S.L m y).reverse := by
    have := pth_tl (A := A) (L := S.L) m y fun j _ => goody j
    rw [h1.2] at this
    exact this
  refine ⟨m, h1.1, by omega, h1.2, fun k k0 km z => h3 k km ⟨k0, z⟩, goody, pp, I.ring pp fun z => ?_⟩
  have := congrArg List.length z
  rw [List.length_reverse, tl_len] at this
  have := h1.1
  simp at *
  omega
/-- nothing raised: no ring rises -/
theorem itr_keeps {A : List (Arc ν)} {ns : List ν} (hA : ∀ a b g, (a, b, g) ∈ A → a ∈ ns ∧ b ∈ ns) {k : Nat} (hR : (itr A ns (k + 1)).R = []) : NoPos A := by
  obtain ⟨e1, e2⟩ := rgo_none A 0 ⟨(itr A ns k).T, (itr A ns k).L, []⟩ rfl hR
  have c : Closed A (itr A ns k).T := closed_of e2
  have all : ∀ v ∈ ns, ∃ x, lk (itr A ns k).T v = some x := fun v hv => by
    have z : ∀ k, Grows (itr A ns 0).T (itr A ns k).T := fun k => by
      induction k with
      | zero => exact Grows.refl _
      | succ k ih => exact ih.trans (rgo_grows A 0 ⟨(itr A ns k).T, (itr A ns k).L, []⟩)
    obtain ⟨y, h, _⟩ := z k v 0 (lk_zero_of hv)
    exact ⟨y, h⟩
  refine Keeps.noPos (φ := fun v => (lk (itr A ns k).T v).getD 0) fun a b g m => ?_
  obtain ⟨h1, h2⟩ := hA a b g m
  obtain ⟨x, hx⟩ := all a h1
  obtain ⟨y, hy, le⟩ := c _ m x hx
  have hy : lk (itr A ns k).T b = some y := hy
  show (lk (itr A ns k).T a).getD 0 + g ≤ (lk (itr A ns k).T b).getD 0
  rw [hx, hy]
  exact le
theorem Pth.wk {A : List (Arc ν)} {L : List (ν × Nat)} {u v : ν} {ps : List Nat} (p : Pth A L u v ps) : Wk A u v ps.length (gapsAt A ps) := by
  induction p with
  | nil => exact .zero _
  | @snoc v b g i ps h1 h2 p ih =>
    have e : gapAt A i = g := by
      unfold gapAt
      rw [h2]
    rw [gapsAt_snoc, e, List.length_append]
    exact ih.trans (Wk.arc (List.mem_of_getElem? h2))
end
end Wnd

/-! a ring that rises, found; contradictions of any system -/
namespace Wnd
open PySem PySem.Spec PyProof.Rows L2
section
variable {P : Program} {w : World} {K : PySem.W.Frag} {mg : Str → Option Value} {base : Heap}
/-- arcs that follow one another from u to v -/
def Lnk : Node → List (Arc Node) → Node → Prop
  | u, [], v => u = v
  | u, a :: r, v => a.1 = u ∧ Lnk a.2.1 r v
theorem Lnk.snoc {v b : Node} {g : Int} : ∀ {as : List (Arc Node)} {u : Node}, Lnk u as b → Lnk u (as ++ [(b, v, g)]) v
  | [], u, h => ⟨h.symm, rfl⟩
  | a :: r, u, h => ⟨h.1, Lnk.snoc h.2⟩
theorem Pth.rules {rs : List (Rule × Addr)} {L : List (Node × Nat)} {u v : Node} {ps : List Nat} (w : Pth (arcsOf rs) L u v ps) : ∃ ch : List (Rule × Addr), ch.length = ps.length ∧ (∀ k, k < ps.length → ∃ i p, ps[k]? = some i ∧ rs[i]? = some p ∧ ch[k]? = some p) ∧ (∀ p ∈ ch, p ∈ rs) ∧
    Lnk u (ch.map fun p => arcOf p.1) v ∧ (ch.map fun p => p.1.gap).sum = gapsAt (arcsOf rs) ps := by
  induction w with
  | nil => exact ⟨[], rfl, fun k hk => absurd hk (Nat.not_lt_zero _), (fun _ h => nomatch h), rfl, rfl⟩
  | @snoc v b g i ps h1 h2 w ih =>
    obtain ⟨ch, e, ix, m, lk', sm⟩ := ih
    obtain ⟨p, hp, ea⟩ : ∃ p, rs[i]? = some p ∧ arcOf p.1 = (b, v, g) := by
      unfold arcsOf at h2
      rw [List.getElem?_map] at h2
      cases hr : rs[i]? with
      | none => rw [hr] at h2; cases h2
      | some p =>
        rw [hr] at h2
        exact ⟨p, rfl, Option.some.inj h2⟩
    refine ⟨ch ++ [p], by rw [List.length_append, List.length_append, e]; rfl, fun k hk => ?_, fun q hq => ?_, ?_, ?_⟩
    · rw [List.length_append, List.length_singleton] at hk
      by_cases hl : k < ps.length
      · obtain ⟨j, q, a1, a2, a3⟩ := ix k hl
        exact ⟨j, q, by rw [List.getElem?_append_left hl]; exact a1, a2, by rw [List.getElem?_append_left (by omega)]; exact a3⟩
      · have : k = ps.length := by omega
        subst this
        refine ⟨i, p, ?_, hp, ?_⟩
        · rw [List.getElem?_append_right (Nat.le_refl _), Nat.sub_self]
          rfl
        · rw [← e, List.getElem?_append_right (Nat.le_refl _), Nat.sub_self]
          rfl
    · rcases List.mem_append.mp hq with hq | hq
      · exact m q hq
      · rw [List.mem_singleton.mp hq]
        exact List.mem_of_getElem? hp
    · rw [List.map_append, List.map_singleton, ea]
      exact lk'.snoc
    · have eg : gapAt (arcsOf rs) i = g := by
        unfold gapAt
        rw [h2]
      have ep : p.1.gap = g := by
        unfold arcOf at ea
        exact congrArg (fun z => z.2.2) ea
      rw [List.map_append, List.sum_append, sm, gapsAt_snoc, eg]
      show _ + (p.1.gap + 0) = _
      omega
theorem NGet.jj {P : Program} {w : World} {H : Hp} {a : Addr} {T : List (Node × Nat)} {k : Node} {o : Option Nat} (e : H a = some (ndO P w a (natsV T))) (h : lk T k = o) : NGet P w H a (endV k) (o.map fun n : Nat => V.int (n : Int)) := by
  rw [← h, ← lk_nats]
  exact NGet.n e
theorem scal_ends (a b : Node) : scal (endV a) (endV b) = true := by
  cases a <;> cases b <;> rfl
theorem Good.rule {rs : List (Rule × Addr)} {L : List (Node × Nat)} {v : Node} (h : Good (arcsOf rs) L v) : ∃ y, rs[lastOf L v]? = some y ∧ y ∈ rs ∧ y.1.low = Wnd.nx (arcsOf rs) L v ∧ lk L v = some (lastOf L v) := by
  obtain ⟨g, h1, h2⟩ := h.nx
  unfold arcsOf at h2
  rw [List.getElem?_map] at h2
  cases hr : rs[lastOf L v]? with
  | none => rw [hr] at h2; cases h2
  | some p =>
    rw [hr] at h2
    have h3 := Option.some.inj h2
    refine ⟨p, rfl, List.mem_of_getElem? hr, ?_, h1⟩
    unfold arcOf at h3
    exact congrArg (fun z => z.1) h3
def spRingTo (P : Program) (w : World) : Sp := fun vs H Q _ => ∃ (a l : Addr) (v : Node) (rs : List (Rule × Addr)) (L : List (Node × Nat)) (m : Nat), vs = [.ref a, .ref l, endV v] ∧ H a = some (.lst (rs.map fun p => V.ref p.2)) ∧ KeyTups H rs ∧ H l = some (ndO P w l (natsV L)) ∧
  0 < m ∧ m ≤ 1000 ∧ it (arcsOf rs) L m v = v ∧ (∀ k, 0 < k → k < m → it (arcsOf rs) L k v ≠ v) ∧ (∀ j, Good (arcsOf rs) L (it (arcsOf rs) L j v)) ∧
  ∀ r H', Same H H' → H r = none → H' r = some (.lst ((tl (arcsOf rs) L m v).reverse.map fun i : Nat => V.int (i : Int))) → Q (.ref r) H'
end
end Wnd

/-! contradictions of any system -/
namespace Wnd
open PySem PySem.Spec PyProof.Rows L2
section
variable {P : Program} {w : World} {K : PySem.W.Frag} {mg : Str → Option Value} {base : Heap}
def spRingF : Sp := fun vs H Q _ => ∃ (th a : Addr) (ns : List Node) (rs : List (Rule × Addr)), vs = [.ref th, .ref a] ∧ H th = some (.lst (ns.map endV)) ∧ ns.Nodup ∧ 0 < ns.length ∧ ns.length ≤ 64 ∧
  H a = some (.lst (rs.map fun p => V.ref p.2)) ∧ KeyTups H rs ∧ rs.length ≤ 2000 ∧ (∀ b c g, (b, c, g) ∈ arcsOf rs → b ≠ c) ∧ (∀ x y g, (x, y, g) ∈ arcsOf rs → x ∈ ns ∧ y ∈ ns) ∧ (∀ H', Same H H' → NoPos (arcsOf rs) → Q .non H') ∧
  ∀ r ps L v H', Same H H' → H r = none → H' r = some (.lst (ps.map fun i : Nat => V.int (i : Int))) → Pth (arcsOf rs) L v v ps → 0 < ps.length → ps.length ≤ ns.length → 0 < gapsAt (arcsOf rs) ps → Q (.ref r) H'
def spContraF (C : Addr) : Sp := fun vs H Q _ => ∃ (x : Addr) (ns : List Str) (L : List (Rule × Addr)), vs = [.ref x] ∧ SysAt C H x ns L ∧ L.length ≤ 2000 ∧ (∀ H', Same H H' → NoPos (arcsOf L) → Q .non H') ∧
  ∀ (r : Addr) (ch : List (Rule × Addr)) (u : Node) (H' : Hp), Same H H' → H r = none → H' r = some (.lst (ch.map fun p => V.ref p.2)) → (∀ p ∈ ch, p ∈ L) → Lnk u (ch.map fun p => arcOf p.1) u → 0 < ch.length → ch.length ≤ 64 → 0 < (ch.map fun p => p.1.gap).sum → ¬ NoPos (arcsOf L) → Q (.ref r) H'
end
end Wnd

namespace Wnd
open PySem PySem.Spec PyProof.Rows L2
section
variable {P : Program} {w : World} {K : PySem.W.Frag} {mg : Str → Option Value} {base : Heap}
/-! ### has_rule -/
def HasQ (K : PySem.W.Frag) (H : Hp) (y : V) (L : List (Rule × Addr)) (b : Bool) : Prop := (RulQ K H y false ∧ b = false) ∨ (∃ (q : Addr) (r : Rule), y = .ref q ∧ H q = some (.tup (ruleV r)) ∧ RulQ K H y true ∧ ROk r ∧ b = decide (r ∈ L.map (·.1)))
def spHas (K : PySem.W.Frag) (C : Addr) : Sp := fun vs H Q _ => ∃ (x : Addr) (y : V) (ns : List Str) (L : List (Rule × Addr)) (b : Bool), vs = [.ref x, y] ∧ SysAt C H x ns L ∧ HasQ K H y L b ∧ ∀ H', Same H H' → Q (.bl b) H'
theorem any_rules (r : Rule) : ∀ L : List (Rule × Addr), ((L.map fun p => ruleD p.1).any fun z => PyData.eqv z (ruleD r)) = decide (r ∈ L.map (·.1))
  | [] => by simp
  | x :: L => by
    rw [List.map_cons, List.any_cons, any_rules r L, eqv_rule, List.map_cons, Bool.eq_iff_iff]
    simp only [Bool.or_eq_true, decide_eq_true_eq, List.mem_cons]
    exact ⟨fun h => h.elim (fun e => .inl e.symm) .inr, fun h => h.elim (fun e => .inl e.symm) .inr⟩
end
end Wnd

/-! lists of rules: chains, rings, judged by the program -/
namespace Wnd
open PySem PySem.Spec PyProof.Rows L2
section
variable {P : Program} {w : World} {K : PySem.W.Frag} {mg : Str → Option Value} {base : Heap}
/-- rules that follow one another -/
def linkB (rs : List Rule) : Bool := (rs.zip rs.tail).all fun p => decide (p.1.high = p.2.low)
def memB (L rs : List Rule) : Bool := rs.all fun r => decide (r ∈ L)
def chainB (L rs : List Rule) : Bool := !rs.isEmpty && memB L rs && linkB rs
def gapSum (rs : List Rule) : Int := (rs.map fun r => r.gap).sum
def ringB (L rs : List Rule) : Bool := chainB L rs && decide (rs.head?.map (·.low) = rs.getLast?.map (·.high)) && decide (0 < gapSum rs)
theorem cut_tl (xs : List V) : cutV xs (some 1) none = xs.tail := by
  unfold cutV
  rw [HT.sIx_none, show HT.sIx xs.length 0 (some 1) = min 1 xs.length from HT.sIx_nat _ _ 1]
  cases xs with
  | nil => rfl
  | cons a r => simp
/-- a list of rules -/
structure RulesAt (H : Hp) (r : Addr) (ch : List (Rule × Addr)) : Prop where
  at_ : H r = some (.lst (ch.map fun p => V.ref p.2))
  keys : KeyTups H ch
  len : ch.length ≤ 100000
  ok : ∃ ts, NamesOk ts ∧ ∀ p ∈ ch, RuleOk ts p.1
theorem RulesAt.same {H H' : Hp} {r : Addr} {ch : List (Rule × Addr)} (h : RulesAt H r ch) (s : Same H H') : RulesAt H' r ch := ⟨s _ _ h.at_, fun p hp => s _ _ (h.keys p hp), h.len, h.ok⟩
theorem ends_dec (a b : Node) : decide (endV a = endV b) = decide (a = b) := by
  rw [Bool.eq_iff_iff, decide_eq_true_iff, decide_eq_true_iff]
  exact ⟨endV_inj, fun e => by rw [e]⟩
theorem zip_get {ch : List (Rule × Addr)} {i : Nat} {x y : V} (h1 : (ch.map fun p => V.ref p.2)[i]? = some x) (h2 : ((ch.map fun p => V.ref p.2).tail)[i]? = some y) : ∃ p q, ch[i]? = some p ∧ ch[i + 1]? = some q ∧ x = .ref p.2 ∧ y = .ref q.2 ∧ (((ch.map (·.1)).zip (ch.map (·.1)).tail).map fun z => decide (z.1.high = z.2.low))[i]? = some (decide (p.1.high = q.1.low)) := by
  rw [List.getElem?_map] at h1
  rw [List.getElem?_tail, List.getElem?_map] at h2
  cases e1 : ch[i]? with
  | none => rw [e1] at h1; cases h1
  | some p =>
    cases e2 : ch[i + 1]? with
    | none => rw [e2] at h2; cases h2
    | some q =>
      rw [e1] at h1
      rw [e2] at h2
      cases h1
      cases h2
      refine ⟨p, q, rfl, rfl, rfl, rfl, ?_⟩
      rw [List.getElem?_map, show ((ch.map (·.1)).zip (ch.map (·.1)).tail)[i]? = some (p.1, q.1) from List.getElem?_zip_eq_some.mpr ⟨by rw [List.getElem?_map, e1]; rfl, by rw [List.getElem?_tail, List.getElem?_map, e2]; rfl⟩]
      rfl
def spIsChain (C : Addr) : Sp := fun vs H Q _ => ∃ (x r : Addr) (ns : List Str) (L ch : List (Rule × Addr)), vs = [.ref x, .ref r] ∧ SysAt C H x ns L ∧ RulesAt H r ch ∧ ∀ H', Same H H' → Q (.bl (chainB (L.map (·.1)) (ch.map (·.1)))) H'
def spTotal : Sp := fun vs H Q _ => ∃ (r : Addr) (ch : List (Rule × Addr)), vs = [.ref r] ∧ RulesAt H r ch ∧ ∀ H', Same H H' → Q (.int (gapSum (ch.map (·.1)))) H'
end
end Wnd

/-! amounts of rules: their surplus, their total -/
namespace Wnd
open PySem PySem.Spec PyProof.Rows L2
abbrev s_surplus : Stmt := top 25
theorem sc_surplus : FnScope ["rules", "amounts", "name", "upwards", "downwards", "amount", "_", "high", "low"] ["rules", "amounts", "name"] (defScope s_surplus) := ⟨rfl, rfl, rfl, by decide +kernel, rfl, by decide +kernel, by decide +kernel⟩
abbrev s_is_within_prices : Stmt := top 26
theorem sc_is_within_prices : FnScope ["task", "name", "surplus", "raising", "lowering"] ["task", "name", "surplus"] (defScope s_is_within_prices) := ⟨rfl, rfl, rfl, by decide +kernel, rfl, by decide +kernel, by decide +kernel⟩
section
variable {P : Program} {w : World} {K : PySem.W.Frag} {mg : Str → Option Value} {base : Heap}
def pairR (b : Rule → Bool) (rs : List Rule) (as : List Int) : List Int := ((rs.zip as).filter fun p => b p.1).map (·.2)
def surN (t : Str) (rs : List Rule) (as : List Int) : Int := (pairR (fun r => decide (r.high = some t)) rs as).sum - (pairR (fun r => decide (r.low = some t)) rs as).sum
theorem pair_at {L : List (Rule × Addr)} {as : List Int} {i : Nat} {x y : V} (h1 : (L.map fun q => V.ref q.2)[i]? = some x) (h2 : (as.map V.int)[i]? = some y) : ∃ (q : Rule × Addr) (n : Int), q ∈ L ∧ n ∈ as ∧ x = .ref q.2 ∧ y = .int n ∧ ((L.map (·.1)).zip as)[i]? = some (q.1, n) := by
  obtain ⟨q, hq, rfl⟩ := get_map h1
  obtain ⟨n, hn, rfl⟩ := get_map h2
  refine ⟨q, n, List.mem_of_getElem? hq, List.mem_of_getElem? hn, rfl, rfl, ?_⟩
  rw [List.getElem?_zip_eq_some]
  exact ⟨by rw [List.getElem?_map, hq]; rfl, hn⟩
theorem filt_at {α : Type} (f : α → Bool) (xs : List α) {i : Nat} {y : α} (h : xs[i]? = some y) : (xs.take (i + 1)).filter f = (xs.take i).filter f ++ (if f y = true then [y] else []) := by
  rw [List.take_add_one, h, List.filter_append]
  by_cases e : f y = true
  · simp [e]
  · simp [e]
def spSurplus (K : PySem.W.Frag) : Sp := fun vs H Q _ => ∃ (b a : Addr) (t : Str) (L : List (Rule × Addr)) (as : List Int), vs = [.ref b, .ref a, .str t] ∧ H b = some (.lst (L.map fun x => V.ref x.2)) ∧ KeyTups H L ∧ H a = some (.lst (as.map V.int)) ∧ as.length = L.length ∧ L.length ≤ 1000 ∧
  ∀ H', Same H H' → Q (.int (surN t (L.map (·.1)) as)) H'
set_option maxHeartbeats 4000000 in
theorem ok_surplus {f : Addr} {fd : FuncData} (D : DefAt K mg "_surplus" s_surplus ["rules", "amounts", "name"] f fd) (B : Blt3 mg) (Bz : mg "zip" = none) : Ok P w K mg base 1 "_surplus" ["rules", "amounts", "name"] (spSurplus K) := by
  refine D.ok (D.fn.ok sc_surplus (fun vs H Q E h => ?_) (fun cdv A outer s H vs Q E hr h => ?_))
  · obtain ⟨b, a, t, L, as, rfl, _⟩ := h
    rfl
  · obtain ⟨b, a, t, L, as, rfl, hb, kt, ha, el, ll, q⟩ := h
    have nd := sc_surplus.nd
    have hu := hu_of hr
    have big : sizeLine > 100000 := by decide
    refine ⟨_, (pss_cons (ps_set (i := 3) nd rfl (Or.inl rfl) (pe_callB (cr_sum rfl) (by rfl) B.sum (by decide +kernel) (pa_cons (pe_lc (own := [("amount", 5), ("_", 6), ("high", 7)]) (g := gTup K 2 (gCons (gTup K 3 (gCons (gName 6) (gCons (gName 7) (gCons (gName 6) (gNil))))) (gCons (gName 5) (gNil)))) (by rfl) nd (pi_zip (by rfl) Bz (pa_cons (pv 0) (pa_cons (pv 1) pa_nil))) (blkOk_by (own := [("amount", 5), ("_", 6), ("high", 7)]) (N := ["rules", "amounts", "name", "upwards", "downwards", "amount", "_", "high", "low"]) (sc := defScope s_surplus) (by decide +kernel)) (fun _ _ _ _ _ => (pg_tupK K 2 rfl (pgs_cons (pg_tupK K 3 rfl (pgs_cons (pg_name (i := 6) nd rfl (Or.inl rfl)) (pgs_cons (pg_name (i := 7) nd rfl (Or.inl rfl)) (pgs_cons (pg_name (i := 6) nd rfl (Or.inl rfl)) pgs_nil)))) (pgs_cons (pg_name (i := 5) nd rfl (Or.inl rfl)) pgs_nil)))) (fun _ _ _ _ _ => (pts_one (pt_cmpR op_eq (pv 7) (pv 2) (nomark _)))) (fun _ _ _ _ _ => (pv 5))) pa_nil)))
      (pss_cons (ps_set (i := 4) nd rfl (Or.inl rfl) (pe_callB (cr_sum rfl) (by rfl) B.sum (by decide +kernel) (pa_cons (pe_lc (own := [("amount", 5), ("low", 8), ("_", 6)]) (g := gTup K 2 (gCons (gTup K 3 (gCons (gName 8) (gCons (gName 6) (gCons (gName 6) (gNil))))) (gCons (gName 5) (gNil)))) (by rfl) nd (pi_zip (by rfl) Bz (pa_cons (pv 0) (pa_cons (pv 1) pa_nil))) (blkOk_by (own := [("amount", 5), ("low", 8), ("_", 6)]) (N := ["rules", "amounts", "name", "upwards", "downwards", "amount", "_", "high", "low"]) (sc := defScope s_surplus) (by decide +kernel)) (fun _ _ _ _ _ => (pg_tupK K 2 rfl (pgs_cons (pg_tupK K 3 rfl (pgs_cons (pg_name (i := 8) nd rfl (Or.inl rfl)) (pgs_cons (pg_name (i := 6) nd rfl (Or.inl rfl)) (pgs_cons (pg_name (i := 6) nd rfl (Or.inl rfl)) pgs_nil)))) (pgs_cons (pg_name (i := 5) nd rfl (Or.inl rfl)) pgs_nil)))) (fun _ _ _ _ _ => (pts_one (pt_cmpR op_eq (pv 8) (pv 2) (nomark _)))) (fun _ _ _ _ _ => (pv 5))) pa_nil)))
      (pss_one (ps_ret (pe_op op_sub (pv 3) (pv 4)))))), ?_⟩
    refine ⟨_, rfl, _, rfl, b, a, _, _, rfl, SqL.of hb, SqL.of ha, fun D hD => ?_⟩
    refine lc_acc (walk_zip (xs := L.map fun x => V.ref x.2) (ys := as.map V.int) rfl) hD (fun i => ((((L.map (·.1)).zip as).take i).filter (fun p => decide (p.1.high = some t))).map fun p => V.int p.2) rfl (by rw [List.length_map, List.length_map]; omega) (fun i => by
      rw [List.length_map]
      have h1 := List.length_filter_le (fun p : Rule × Int => decide (p.1.high = some t)) (((L.map (·.1)).zip as).take i)
      rw [List.length_take] at h1
      omega) (fun X s => ⟨SqL.of (s _ _ hb), SqL.of (s _ _ ha)⟩) ?_ ?_
    · rintro i y Y Y' R Lk hi s1 ⟨T, v1, v2, rfl, nT, rfl, h1, h2⟩ hR hL
      obtain ⟨q', n, mq, mn, rfl, rfl, hz⟩ := pair_at h1 h2
      have ef := congrArg (List.map fun p : Rule × Int => V.int p.2) (filt_at (fun p : Rule × Int => decide (p.1.high = some t)) _ hz)
      rw [List.map_append] at ef
      have st := same_new (o := .tup [V.ref q'.2, V.int n]) nT
      have hq' := st _ _ (s1 _ _ (kt _ mq))
      refine ⟨T, _, rfl, SqT.of upd_same, rfl, _, _, rfl, q'.2, _, rfl, SqT.of hq', rfl, _, _, rfl, _, _, rfl, _, _, rfl, rfl, _, _, rfl, rfl, rfl, ?_⟩
      refine ⟨_, rfl, _, rfl, scal_ends q'.1.high (some t), ?_⟩
      have e0 : decide (endV q'.1.high = V.str t) = decide (q'.1.high = some t) := ends_dec _ (some t)
      rw [e0]
      refine ⟨_, rfl, ?_⟩
      by_cases h : q'.1.high = some t
      · refine iteTe (decide_eq_true h) ⟨_, rfl, hR _ _ ?_ st⟩
        rw [ef, decide_eq_true h, if_pos rfl]
        rfl
      · refine iteFe (decide_eq_false h) (hL _ ?_ st)
        rw [ef, decide_eq_false h, if_neg (fun z => nomatch z)]
        exact List.append_nil _
    intro H1 s1 hD1
    have lz : ((L.map (·.1)).zip as).take (min (L.map fun x => V.ref x.2).length (as.map V.int).length) = (L.map (·.1)).zip as := by
      refine List.take_of_length_le ?_
      rw [List.length_zip, List.length_map, List.length_map, List.length_map]
      exact Nat.le_refl _
    rw [lz] at hD1
    refine ⟨D, pairR (fun r => decide (r.high = some t)) (L.map (·.1)) as, rfl, SqL.of (by unfold pairR; rw [List.map_map]; exact hD1), ?_⟩
    have hb1 := s1 _ _ hb
    have ha1 := s1 _ _ ha
    have kt1 : KeyTups H1 L := fun y hy => s1 _ _ (kt y hy)
    refine ⟨_, rfl, _, rfl, b, a, _, _, rfl, SqL.of hb1, SqL.of ha1, fun D2 hD2 => ?_⟩
    clear lz
    refine lc_acc (walk_zip (xs := L.map fun x => V.ref x.2) (ys := as.map V.int) rfl) hD2 (fun i => ((((L.map (·.1)).zip as).take i).filter (fun p => decide (p.1.low = some t))).map fun p => V.int p.2) rfl (by rw [List.length_map, List.length_map]; omega) (fun i => by
      rw [List.length_map]
      have h1 := List.length_filter_le (fun p : Rule × Int => decide (p.1.low = some t)) (((L.map (·.1)).zip as).take i)
      rw [List.length_take] at h1
      omega) (fun X s => ⟨SqL.of (s _ _ hb1), SqL.of (s _ _ ha1)⟩) ?_ ?_
    · rintro i y Y Y' R Lk hi s3 ⟨T, v1, v2, rfl, nT, rfl, h1, h2⟩ hR hL
      obtain ⟨q', n, mq, mn, rfl, rfl, hz⟩ := pair_at h1 h2
      have ef := congrArg (List.map fun p : Rule × Int => V.int p.2) (filt_at (fun p : Rule × Int => decide (p.1.low = some t)) _ hz)
      rw [List.map_append] at ef
      have st := same_new (o := .tup [V.ref q'.2, V.int n]) nT
      have hq' := st _ _ (s3 _ _ (kt1 _ mq))
      refine ⟨T, _, rfl, SqT.of upd_same, rfl, _, _, rfl, q'.2, _, rfl, SqT.of hq', rfl, _, _, rfl, _, _, rfl, _, _, rfl, rfl, _, _, rfl, rfl, rfl, ?_⟩
      refine ⟨_, rfl, _, rfl, scal_ends q'.1.low (some t), ?_⟩
      have e0 : decide (endV q'.1.low = V.str t) = decide (q'.1.low = some t) := ends_dec _ (some t)
      rw [e0]
      refine ⟨_, rfl, ?_⟩
      by_cases h : q'.1.low = some t
      · refine iteTe (decide_eq_true h) ⟨_, rfl, hR _ _ ?_ st⟩
        rw [ef, decide_eq_true h, if_pos rfl]
        rfl
      · refine iteFe (decide_eq_false h) (hL _ ?_ st)
        rw [ef, decide_eq_false h, if_neg (fun z => nomatch z)]
        exact List.append_nil _
    intro H3 s3 hD3
    have lz : ((L.map (·.1)).zip as).take (min (L.map fun x => V.ref x.2).length (as.map V.int).length) = (L.map (·.1)).zip as := by
      refine List.take_of_length_le ?_
      rw [List.length_zip, List.length_map, List.length_map, List.length_map]
      exact Nat.le_refl _
    rw [lz] at hD3
    refine ⟨D2, pairR (fun r => decide (r.low = some t)) (L.map (·.1)) as, rfl, SqL.of (by unfold pairR; rw [List.map_map]; exact hD3), ?_⟩
    exact ⟨_, rfl, _, rfl, _, _, rfl, rfl, q _ (s1.trans s3)⟩
end
end Wnd

/-! a surplus within the prices -/
namespace Wnd
open PySem PySem.Spec PyProof.Rows L2

section
variable {P : Program} {w : World} {K : PySem.W.Frag} {mg : Str → Option Value} {base : Heap}
def inPr (r l : Int) (G : Own) (t : Str) (s : Int) : Bool := decide (-(pairN r l G t).2 ≤ s) && decide (s ≤ (pairN r l G t).1)
def spWithin (C CP CT : Addr) : Sp := fun vs H Q _ => ∃ (x : Addr) (t : Str) (s : Int) (ns : List Str) (L : List (Rule × Addr)) (g : List (Str × Int)) (r l : Int) (G : Own), vs = [.ref x, .str t, .int s] ∧ TaskAt C CP CT H x ns L g r l G ∧ fixB G t = false ∧ ∀ H', Same H H' → Q (.bl (inPr r l G t s)) H'
theorem ok_within {C CP CT : Addr} {f : Addr} {fd : FuncData} (D : DefAt K mg "_is_within_prices" s_is_within_prices ["task", "name", "surplus"] f fd) (TP : OkP P w K mg base CT 1 "prices" (spTaPr C CP CT)) (OPa : OkM P w K mg base CP 1 "pair_of" (spPair CP)) : Ok P w K mg base 3 "_is_within_prices" ["task", "name", "surplus"] (spWithin C CP CT) := by
  refine D.ok (D.fn.ok sc_is_within_prices (fun vs H Q E h => ?_) (fun cdv A outer s H vs Q E hr h => ?_))
  · obtain ⟨x, t, s, ns, L, g, r, l, G, rfl, _⟩ := h
    rfl
  · obtain ⟨x, t, su, ns, L, g, r, l, G, rfl, hx, hf, q⟩ := h
    have nd := sc_is_within_prices.nd
    refine ⟨_, (pss_cons (ps_asg (pe_methM OPa (hr.mono (by decide)) (pe_propO TP (hr.mono (by decide)) (pv 0)) (pa_cons (pv 1) pa_nil)) (pg_tup rfl (pgs_cons (pg_name (i := 3) nd rfl (Or.inl rfl)) (pgs_cons (pg_name (i := 4) nd rfl (Or.inl rfl)) pgs_nil))))
      (pss_one (ps_ret (pe_chain op_le op_le (pe_un un_neg (pv 4)) (pv 2) (pv 3))))), ?_⟩
    obtain ⟨dx, sx, ld, px, q1, tv⟩ := id hx
    obtain ⟨dp, lp, h5, h6, h7⟩ := id tv.pr
    refine ⟨_, rfl, x, dx, _, rfl, q1, x, dx, sx, ld, px, rfl, q1, ?_⟩
    refine ⟨px, dp, _, rfl, h5, prF_no (by decide) (by decide) (by decide), _, rfl, px, t, r, l, G, rfl, ⟨dp, lp, h5, h6, h7⟩, hf, fun T nT => ?_⟩
    have st := same_new (o := .tup [.int (pairN r l G t).1, .int (pairN r l G t).2]) nT
    refine ⟨T, _, rfl, SqT.of upd_same, rfl, _, _, rfl, _, _, rfl, rfl, ?_⟩
    have eI : inPr r l G t su = (decide (-(pairN r l G t).2 ≤ su) && decide (su ≤ (pairN r l G t).1)) := rfl
    rw [eI] at q
    refine ⟨_, rfl, _, rfl, _, rfl, -(pairN r l G t).2, su, rfl, rfl, _, rfl, ?_⟩
    refine ite2 (fun e => ?_) (fun e => ?_)
    · refine ⟨_, rfl, su, (pairN r l G t).1, rfl, rfl, ?_⟩
      rw [e, Bool.true_and] at q
      exact q _ st
    · rw [Bool.not_eq_true] at e
      rw [e, Bool.false_and] at q
      exact q _ st
end
end Wnd

/-! amounts of a task's rules -/
namespace Wnd
open PySem PySem.Spec PyProof.Rows L2
abbrev s_are_amounts : Stmt := top 24
theorem sc_are_amounts : FnScope ["task", "thing", "rules", "loose", "name", "amount"] ["task", "thing"] (defScope s_are_amounts) := ⟨rfl, rfl, rfl, by decide +kernel, rfl, by decide +kernel, by decide +kernel⟩
section
variable {P : Program} {w : World} {K : PySem.W.Frag} {mg : Str → Option Value} {base : Heap}
def looseN (G : Own) (ns : List Str) : List Str := ns.filter fun t => !fixB G t
def amtB (ns : List Str) (L : List (Rule × Addr)) (r l : Int) (G : Own) (as : List Int) : Bool :=
  decide ((as.length : Int) = (L.length : Int)) && ((as.all fun i => decide (0 ≤ i) && decide (i ≤ 999999999999)) && (looseN G ns).all fun t => inPr r l G t (surN t (L.map (·.1)) as))
def spAmt (C CP CT : Addr) : Sp := fun vs H Q _ => ∃ (x a : Addr) (as : List Int) (ns : List Str) (L : List (Rule × Addr)) (g : List (Str × Int)) (r l : Int) (G : Own), vs = [.ref x, .ref a] ∧ TaskAt C CP CT H x ns L g r l G ∧ H a = some (.lst (as.map V.int)) ∧ as.length ≤ 1000 ∧ L.length ≤ 1000 ∧ ns.length ≤ 1000 ∧ ∀ H', Same H H' → Q (.bl (amtB ns L r l G as)) H'
set_option maxHeartbeats 4000000 in
theorem ok_amounts {C CP CT : Addr} {f : Addr} {fd : FuncData} (D : DefAt K mg "_are_amounts" s_are_amounts ["task", "thing"] f fd) (B : Blt3 mg) (cG : ∃ t, mg "GREATEST_AMOUNT" = some (.int 999999999999 t)) (O_is_integer_within : Ok P w K mg base 2 "is_integer_within" ["thing", "least", "greatest"] (spIsIn K)) (TS : OkP P w K mg base CT 1 "system" (spTaSys C CP CT)) (TP : OkP P w K mg base CT 1 "prices" (spTaPr C CP CT))
    (PN : OkP P w K mg base C 1 "names" (spNames C)) (PR : OkP P w K mg base C 1 "rules" (spRulesP C)) (OF : OkM P w K mg base CP 1 "is_fixed" (spFixed CP)) (O_is_within_prices : Ok P w K mg base 3 "_is_within_prices" ["task", "name", "surplus"] (spWithin C CP CT)) (O_surplus : Ok P w K mg base 1 "_surplus" ["rules", "amounts", "name"] (spSurplus K)) : Ok P w K mg base 4 "_are_amounts" ["task", "thing"] (spAmt C CP CT) := by
  obtain ⟨gt, C_GREATEST_AMOUNT⟩ := cG
  refine D.ok (D.fn.ok sc_are_amounts (fun vs H Q E h => ?_) (fun cdv A outer s H vs Q E hr h => ?_))
  · obtain ⟨x, a, as, ns, L, g, r, l, G, rfl, _⟩ := h
    rfl
  · obtain ⟨x, a, as, ns, L, g, r, l, G, rfl, hx, ha, la, ll, ln, q⟩ := h
    have nd := sc_are_amounts.nd
    have hu := hu_of hr
    have big : sizeLine > 100000 := by decide
    refine ⟨_, (pss_cons (ps_set (i := 2) nd rfl (Or.inr rfl) (pe_propO PR (hr.mono (by decide)) (pe_propO TS (hr.mono (by decide)) (pv 0))))
      (pss_cons (ps_if (PW.pt (pw_or (pt_not (pt_val (pe_callB call_isi (by rfl) B.isinstance (by decide +kernel) (pa_cons (pv 1) (pa_cons (pe_bltn (v := .ty "list") (by rfl) B.list (by decide +kernel) rfl) pa_nil))))) (pw_or1 (pt_cmpR op_ne (pe_callB call_len_seq (by rfl) B.len PySem.boot_len (pa_cons (pv 1) pa_nil)) (pe_callB call_len_seq (by rfl) B.len PySem.boot_len (pa_cons (pv 2) pa_nil)) (nomark _))))) (pss_one (ps_ret pe_bl)) pss_nil)
      (pss_cons (ps_if (pt_not (pt_val (pe_callB (cr_all rfl) (by rfl) B.all (by decide +kernel) (pa_cons (pe_lc (own := [("amount", 5)]) (g := gName 5) (tt := tYes) (by rfl) nd (pi_list (pv 1)) (blkOk_by (own := [("amount", 5)]) (N := ["task", "thing", "rules", "loose", "name", "amount"]) (sc := defScope s_are_amounts) (by decide +kernel)) (fun _ _ _ _ _ => (pg_name (i := 5) nd rfl (Or.inl rfl))) (fun _ _ _ _ _ => pts_nil) (fun _ _ _ _ _ => (pe_own O_is_integer_within (hr.mono (by decide)) (pa_cons (pv 5) (pa_cons pe_int (pa_cons (pe_glob (v := .int 999999999999) rfl C_GREATEST_AMOUNT ⟨_, rfl⟩) pa_nil)))))) pa_nil)))) (pss_one (ps_ret pe_bl)) pss_nil)
      (pss_cons (ps_setLc (i := 3) (own := [("name", 4)]) (g := gName 4) (by rfl) nd rfl rfl (sw_true rfl rfl rfl (by decide +kernel)) (pi_list (pe_propO PN (hr.mono (by decide)) (pe_propO TS (hr.mono (by decide)) (pv 0)))) (blkOk_by (own := [("name", 4)]) (N := ["task", "thing", "rules", "loose", "name", "amount"]) (sc := defScope s_are_amounts) (by decide +kernel)) (fun _ _ _ _ _ => (pg_name (i := 4) nd rfl (Or.inl rfl))) (fun _ _ _ _ _ => (pts_one (pt_not (pt_val (pe_methM OF (hr.mono (by decide)) (pe_propO TP (hr.mono (by decide)) (pv 0)) (pa_cons (pv 4) pa_nil)))))) (fun _ _ _ _ _ => (pv 4)))
      (pss_one (ps_ret (pe_callB (cr_all rfl) (by rfl) B.all (by decide +kernel) (pa_cons (pe_lc (own := [("name", 4)]) (g := gName 4) (tt := tYes) (by rfl) nd (pi_list (pv 3)) (blkOk_by (own := [("name", 4)]) (N := ["task", "thing", "rules", "loose", "name", "amount"]) (sc := defScope s_are_amounts) (by decide +kernel)) (fun _ _ _ _ _ => (pg_name (i := 4) nd rfl (Or.inl rfl))) (fun _ _ _ _ _ => pts_nil) (fun _ _ _ _ _ => (pe_own O_is_within_prices (hr.mono (by decide)) (pa_cons (pv 0) (pa_cons (pv 4) (pa_cons (pe_own O_surplus (hr.mono (by decide)) (pa_cons (pv 2) (pa_cons (pv 1) (pa_cons (pv 4) pa_nil)))) pa_nil)))))) pa_nil)))))))), ?_⟩
    obtain ⟨dx, sx, ld, px, q1, tv⟩ := id hx
    obtain ⟨ds, lsn, lsr, y1, y2, y3, y4, y5⟩ := id tv.sys
    refine ⟨_, rfl, x, dx, _, rfl, q1, x, dx, sx, ld, px, rfl, q1, sx, ds, _, rfl, y1, sx, ns, L, rfl, tv.sys, fun lr nlr => ?_⟩
    have s1 := same_new (o := .lst (L.map fun p => V.ref p.2)) nlr
    have hlr : (upd H lr (.lst (L.map fun p => V.ref p.2))) lr = some (.lst (L.map fun p => V.ref p.2)) := upd_same
    generalize upd H lr (.lst (L.map fun p => V.ref p.2)) = H1 at s1 hlr ⊢
    have ha1 := s1 _ _ ha
    have tx1 := hx.same s1
    refine ⟨_, rfl, _, _, _, _, true, rfl, .ty _, .base (.lst ha1), kit_ty (by decide +kernel), true, rfl, iteF ?_⟩
    refine ⟨_, rfl, a, _, rfl, .inl (SqL.of ha1), _, rfl, lr, _, rfl, .inl (SqL.of hlr), ?_⟩
    rw [List.length_map, List.length_map]
    refine ⟨rfl, _, rfl, ?_⟩
    by_cases el : as.length = L.length
    · refine iteFe (by rw [el]; simp) ?_
      refine ⟨_, rfl, a, rfl, ⟨_, SqL.of ha1⟩, fun D hD => ?_⟩
      obtain ⟨bs, ebs⟩ : ∃ bs : List Bool, bs = as.map fun i => decide (0 ≤ i) && decide (i ≤ 999999999999) := ⟨_, rfl⟩
      refine lc_map (walk_list (xs := as.map V.int)) hD (bs.map V.bl) (by rw [ebs, List.length_map, List.length_map, List.length_map]) (by rw [List.length_map]; omega) (fun X sx => SqL.of (sx _ _ ha1)) ?_ ?_
      · rintro i y Y Y' hi R Lk s2 ⟨rfl, hy⟩ hR
        have hi' : i < as.length := by rwa [List.length_map, ebs, List.length_map] at hi
        rw [List.getElem?_map, List.getElem?_eq_getElem hi'] at hy
        cases hy
        have e0 : (bs.map V.bl)[i]'hi = V.bl (decide (0 ≤ as[i]) && decide (as[i] ≤ 999999999999)) := by
          subst ebs
          rw [List.getElem_map, List.getElem_map]
        rw [e0] at hR
        refine ⟨rfl, ?_⟩
        unfold tYes
        dsimp only
        rw [if_pos rfl]
        exact ⟨_, rfl, V.int as[i], 0, 999999999999, _, rfl, .inl ⟨_, rfl, rfl⟩, hR _ (Same.refl _)⟩
      intro H2 s2 hD2
      have s12 := s1.trans s2
      have tx2 := tx1.same s2
      refine ⟨D, bs, rfl, SqL.of hD2, _, rfl, ?_⟩
      have eb : bs.all id = as.all fun i => decide (0 ≤ i) && decide (i ≤ 999999999999) := by
        rw [ebs, List.all_map]
        rfl
      rw [eb]
      have eq0 : amtB ns L r l G as = ((as.all fun i => decide (0 ≤ i) && decide (i ≤ 999999999999)) && (looseN G ns).all fun t => inPr r l G t (surN t (L.map (·.1)) as)) := by
        unfold amtB
        rw [decide_eq_true (by omega : (as.length : Int) = (L.length : Int)), Bool.true_and]
      rw [eq0] at q
      clear eq0 eb ebs hD2 hD D
      cases e3 : (as.all fun i => decide (0 ≤ i) && decide (i ≤ 999999999999)) with
      | false =>
        rw [e3, Bool.false_and] at q
        refine iteT ?_
        exact q _ s12
      | true =>
        rw [e3, Bool.true_and] at q
        refine iteF ?_
        obtain ⟨dx, sx, ld, px, q1, tv⟩ := id tx2
        obtain ⟨ds, lsn, lsr, y1, y2, y3, y4, y5⟩ := id tv.sys
        have hlr2 := s2 _ _ hlr
        have ha2 := s2 _ _ ha1
        refine ⟨_, rfl, x, dx, _, rfl, q1, x, dx, sx, ld, px, rfl, q1, sx, ds, _, rfl, y1, sx, ns, L, rfl, tv.sys, fun lm nlm => ?_⟩
        have u3 := same_new (o := .lst (ns.map V.str)) nlm
        have hlm : (upd H2 lm (.lst (ns.map V.str))) lm = some (.lst (ns.map V.str)) := upd_same
        have s13 := s12.trans u3
        have hlr3 := u3 _ _ hlr2
        have ha3 := u3 _ _ ha2
        have tx3 := tx2.same u3
        generalize upd H2 lm (.lst (ns.map V.str)) = H3 at u3 hlm s13 hlr3 ha3 tx3 ⊢
        clear q1 tv y1 y2 y3 y4 y5 u3 nlm hlr2 ha2 tx2 s12 tx1 ha1 hlr
        refine ⟨lm, rfl, ⟨_, SqL.of hlm⟩, fun D hD => ?_⟩
        refine lc_acc (walk_list (xs := ns.map V.str)) hD (fun i => ((ns.take i).filter (fun t => !fixB G t)).map V.str) rfl (by rw [List.length_map]; omega) (fun i => by
          rw [List.length_map]
          have h1 := List.length_filter_le (fun t => !fixB G t) (ns.take i)
          rw [List.length_take] at h1
          omega) (fun X s => SqL.of (s _ _ hlm)) ?_ ?_
        · rintro i y Y Y' R Lk hi s4 ⟨rfl, hy⟩ hR hL
          obtain ⟨t, ht, rfl⟩ := get_map hy
          have ef := congrArg (List.map V.str) (filt_at (fun t => !fixB G t) ns ht)
          rw [List.map_append] at ef
          obtain ⟨dx, sx, ld, px, q1, tv⟩ := id (tx3.same s4)
          obtain ⟨dp, lp, h5, h6, h7⟩ := id tv.pr
          refine ⟨rfl, ?_⟩
          refine ⟨_, rfl, x, dx, _, rfl, q1, x, dx, sx, ld, px, rfl, q1, px, dp, _, rfl, h5, prF_no (by decide) (by decide) (by decide), _, rfl, px, t, r, l, G, rfl, ⟨dp, lp, h5, h6, h7⟩, _, rfl, ?_⟩
          cases hf : fixB G t with
          | true =>
            refine iteF (hL _ ?_ (Same.refl _))
            rw [ef, hf]
            exact List.append_nil _
          | false =>
            refine iteT ⟨_, rfl, hR _ _ ?_ (Same.refl _)⟩
            rw [ef, hf]
            rfl
        intro H4 s4 hD4
        have s14 := s13.trans s4
        have tx4 := tx3.same s4
        have hlr4 := s4 _ _ hlr3
        have ha4 := s4 _ _ ha3
        rw [List.length_map, List.take_length] at hD4
        change H4 D = some (.lst ((looseN G ns).map V.str)) at hD4
        have lo : (looseN G ns).length ≤ 1000 := by
          have := List.length_filter_le (fun t => !fixB G t) ns
          show (List.filter _ ns).length ≤ 1000
          omega
        have fx : ∀ t ∈ looseN G ns, fixB G t = false := fun t ht => by
          have := (List.mem_filter.mp ht).2
          simpa using this
        generalize looseN G ns = lo' at hD4 lo fx q
        clear s13 tx3 hlr3 ha3 s4 hlm hD H3
        refine ⟨_, rfl, D, rfl, ⟨_, SqL.of hD4⟩, fun D2 hD2 => ?_⟩
        obtain ⟨bs2, ebs2⟩ : ∃ bs2 : List Bool, bs2 = lo'.map fun t => inPr r l G t (surN t (L.map (·.1)) as) := ⟨_, rfl⟩
        refine lc_map (walk_list (xs := lo'.map V.str)) hD2 (bs2.map V.bl) (by rw [ebs2, List.length_map, List.length_map, List.length_map]) (by rw [List.length_map]; omega) (fun X sx => SqL.of (sx _ _ hD4)) ?_ ?_
        · rintro i y Y Y' hi R Lk s5 ⟨rfl, hy⟩ hR
          have hi' : i < lo'.length := by rwa [List.length_map, ebs2, List.length_map] at hi
          rw [List.getElem?_map, List.getElem?_eq_getElem hi'] at hy
          cases hy
          have e0 : (bs2.map V.bl)[i]'hi = V.bl (inPr r l G lo'[i] (surN lo'[i] (L.map (·.1)) as)) := by
            subst ebs2
            rw [List.getElem_map, List.getElem_map]
          rw [e0] at hR
          have mt := List.getElem_mem hi'
          generalize lo'[i] = t at mt hR ⊢
          have tx5 := tx4.same s5
          have kt5 : KeyTups Y' L := by
            obtain ⟨dx, sx, ld, px, q1, tv⟩ := tx5
            obtain ⟨ds, lsn, lsr, y1, y2, y3, y4, y5⟩ := tv.sys
            exact y4
          refine ⟨rfl, ?_⟩
          unfold tYes
          dsimp only
          rw [if_pos rfl]
          refine ⟨_, rfl, _, rfl, _, rfl, _, rfl, _, rfl, lr, a, t, L, as, rfl, s5 _ _ hlr4, kt5, s5 _ _ ha4, el, ll, fun X sx => ?_⟩
          exact ⟨x, t, _, ns, L, g, r, l, G, rfl, tx5.same sx, fx t mt, fun X2 sx2 => hR _ (sx.trans sx2)⟩
        · intro H5 s5 hD5
          refine ⟨D2, bs2, rfl, SqL.of hD5, ?_⟩
          have eb : bs2.all id = lo'.all fun t => inPr r l G t (surN t (L.map (·.1)) as) := by
            rw [ebs2, List.all_map]
            rfl
          rw [eb]
          exact q _ (s14.trans s5)
    · have e0 : amtB ns L r l G as = false := by
        unfold amtB
        rw [decide_eq_false (fun z => el (by omega)), Bool.false_and]
      rw [e0] at q
      refine iteTe (by simp; omega) ?_
      exact q _ s1
end
end Wnd

/-! the total of amounts -/
namespace Wnd
open PySem PySem.Spec PyProof.Rows L2
abbrev s_total_of_amounts : Stmt := top 20
theorem sc_total_of_amounts : FnScope ["task", "amounts", "old", "amount", "rule"] ["task", "amounts"] (defScope s_total_of_amounts) := ⟨rfl, rfl, rfl, by decide +kernel, rfl, by decide +kernel, by decide +kernel⟩
section
variable {P : Program} {w : World} {K : PySem.W.Frag} {mg : Str → Option Value} {base : Heap}
def totN (g : List (Str × Int)) (rs : List Rule) (as : List Int) : Int := ((rs.zip as).map fun p => p.2 * shortB g p.1).sum
def spTotOf (C CP CT : Addr) : Sp := fun vs H Q _ => ∃ (x a : Addr) (as : List Int) (ns : List Str) (L : List (Rule × Addr)) (g : List (Str × Int)) (r l : Int) (G : Own), vs = [.ref x, .ref a] ∧ TaskAt C CP CT H x ns L g r l G ∧ H a = some (.lst (as.map V.int)) ∧ as.length = L.length ∧ L.length ≤ 1000 ∧ (∀ i ∈ as, 0 ≤ i ∧ i ≤ 999999999999) ∧
  ∀ H', Same H H' → Q (.int (totN (ordG ns g) (L.map (·.1)) as)) H'
set_option maxHeartbeats 4000000 in
theorem ok_totOf {C CP CT : Addr} {f : Addr} {fd : FuncData} (D : DefAt K mg "total_of_amounts" s_total_of_amounts ["task", "amounts"] f fd) (B : Blt3 mg) (Bz : mg "zip" = none) (TS : OkP P w K mg base CT 1 "system" (spTaSys C CP CT)) (TN : OkP P w K mg base CT 1 "numbers" (spTaNum C CP CT))
    (PR : OkP P w K mg base C 1 "rules" (spRulesP C)) (O_shortfall_of : Ok P w K mg base 2 "shortfall_of" ["rule", "numbers"] spShortOf) : Ok P w K mg base 3 "total_of_amounts" ["task", "amounts"] (spTotOf C CP CT) := by
  refine D.ok (D.fn.ok sc_total_of_amounts (fun vs H Q E h => ?_) (fun cdv A outer s H vs Q E hr h => ?_))
  · obtain ⟨x, a, as, ns, L, g, r, l, G, rfl, _⟩ := h
    rfl
  · obtain ⟨x, a, as, ns, L, g, r, l, G, rfl, hx, ha, el, ll, ba, q⟩ := h
    have nd := sc_total_of_amounts.nd
    have hu := hu_of hr
    have big : sizeLine > 100000 := by decide
    refine ⟨_, (pss_cons (ps_set (i := 2) nd rfl (Or.inr rfl) (pe_propO TN (hr.mono (by decide)) (pv 0)))
      (pss_one (ps_ret (pe_callB (cr_sum rfl) (by rfl) B.sum (by decide +kernel) (pa_cons (pe_lc (own := [("amount", 3), ("rule", 4)]) (g := gTup K 2 (gCons (gName 3) (gCons (gName 4) (gNil)))) (tt := tYes) (by rfl) nd (pi_zip (by rfl) Bz (pa_cons (pv 1) (pa_cons (pe_propO PR (hr.mono (by decide)) (pe_propO TS (hr.mono (by decide)) (pv 0))) pa_nil))) (blkOk_by (own := [("amount", 3), ("rule", 4)]) (N := ["task", "amounts", "old", "amount", "rule"]) (sc := defScope s_total_of_amounts) (by decide +kernel)) (fun _ _ _ _ _ => (pg_tupK K 2 rfl (pgs_cons (pg_name (i := 3) nd rfl (Or.inl rfl)) (pgs_cons (pg_name (i := 4) nd rfl (Or.inl rfl)) pgs_nil)))) (fun _ _ _ _ _ => pts_nil) (fun _ _ _ _ _ => (pe_op op_mul (pv 3) (pe_own O_shortfall_of (hr.mono (by decide)) (pa_cons (pv 4) (pa_cons (pv 2) pa_nil)))))) pa_nil))))), ?_⟩
    obtain ⟨dx, sx, ld, px, q1, tv⟩ := id hx
    refine ⟨_, rfl, x, dx, _, rfl, q1, x, dx, sx, ld, px, ordG ns g, rfl, q1, tv.num, fun nd1 nnd1 => ?_⟩
    have s1 := same_new (o := .dK (goalKV (ordG ns g))) nnd1
    have hnd : (upd H nd1 (.dK (goalKV (ordG ns g)))) nd1 = some (.dK (goalKV (ordG ns g))) := upd_same
    generalize upd H nd1 (.dK (goalKV (ordG ns g))) = H1 at s1 hnd ⊢
    obtain ⟨dx, sx, ld, px, q1, tv⟩ := id (hx.same s1)
    obtain ⟨ds, lsn, lsr, y1, y2, y3, y4, y5⟩ := id tv.sys
    refine ⟨_, rfl, _, rfl, x, dx, _, rfl, q1, x, dx, sx, ld, px, rfl, q1, sx, ds, _, rfl, y1, sx, ns, L, rfl, tv.sys, fun lr nlr => ?_⟩
    have u2 := same_new (o := .lst (L.map fun p => V.ref p.2)) nlr
    have hlr : (upd H1 lr (.lst (L.map fun p => V.ref p.2))) lr = some (.lst (L.map fun p => V.ref p.2)) := upd_same
    have s2 := s1.trans u2
    have hnd2 := u2 _ _ hnd
    have kt2 : KeyTups (upd H1 lr (.lst (L.map fun p => V.ref p.2))) L := fun y hy => u2 _ _ (y4 y hy)
    have ha2 := s2 _ _ ha
    generalize upd H1 lr (.lst (L.map fun p => V.ref p.2)) = H2 at u2 hlr s2 hnd2 kt2 ha2 ⊢
    have ro := y5.rules
    have gk : (ordG ns g).map (·.1) = ns := mapG_keys _ _
    refine ⟨a, lr, _, _, rfl, SqL.of ha2, SqL.of hlr, fun D hD => ?_⟩
    have lz : min (as.map V.int).length (L.map fun p => V.ref p.2).length = ((L.map (·.1)).zip as).length := by
      rw [List.length_zip, List.length_map, List.length_map, List.length_map]
      omega
    have lz2 : ((L.map (·.1)).zip as).length ≤ 1000 := by
      rw [List.length_zip, List.length_map]
      omega
    refine lc_map (walk_zip (xs := as.map V.int) (ys := L.map fun p => V.ref p.2) rfl) hD ((((L.map (·.1)).zip as).map fun p => p.2 * shortB (ordG ns g) p.1).map V.int) (by rw [List.length_map, List.length_map, lz]) (by rw [lz]; omega) (fun X s => ⟨SqL.of (s _ _ ha2), SqL.of (s _ _ hlr)⟩) ?_ ?_
    · rintro i y Y Y' hi R Lk s3 ⟨T, v1, v2, rfl, nT, rfl, h1, h2⟩ hR
      obtain ⟨q', n, mq, mn, rfl, rfl, hz⟩ := pair_at h2 h1
      have e0 : ((((L.map (·.1)).zip as).map fun p => p.2 * shortB (ordG ns g) p.1).map V.int)[i]'hi = V.int (n * shortB (ordG ns g) q'.1) := by
        have : ((((L.map (·.1)).zip as).map fun p => p.2 * shortB (ordG ns g) p.1).map V.int)[i]? = some (V.int (n * shortB (ordG ns g) q'.1)) := by
          rw [List.getElem?_map, List.getElem?_map, hz]
          rfl
        rw [List.getElem?_eq_getElem hi] at this
        exact Option.some.inj this
      rw [e0] at hR
      have st := same_new (o := .tup [V.int n, V.ref q'.2]) nT
      have hq' := st _ _ (s3 _ _ (kt2 _ mq))
      have hn := ba n mn
      refine ⟨T, _, rfl, SqT.of upd_same, rfl, _, _, rfl, _, _, rfl, rfl, rfl, ?_⟩
      unfold tYes
      dsimp only
      rw [if_pos rfl]
      refine ⟨_, rfl, _, rfl, _, rfl, q'.2, nd1, q'.1, ordG ns g, rfl, hq', st _ _ (s3 _ _ hnd2), EndsIn.of (ro q' mq) fun t ht => by rw [gk]; exact ht, ?_⟩
      exact ⟨_, _, rfl, rfl, .inl ⟨by omega, by omega⟩, hR _ st⟩
    · intro H3 s3 hD3
      refine ⟨D, ((L.map (·.1)).zip as).map fun p => p.2 * shortB (ordG ns g) p.1, rfl, SqL.of hD3, ?_⟩
      exact q _ (s2.trans s3)
end
end Wnd

set_option maxHeartbeats 2000000
namespace Wnd
open PySem PySem.Spec PyProof.Rows L2

/-- an exception object that was caught and kept: its class, its dict -/
def ExK (cls : Value) (d : Option Addr) (a : Addr) : HO := .ext fun h => ∃ (oe : Obj) (vs : Array Value), h.get? a = some oe ∧ Zc cls d oe ∧ oe.data = .fields vs
theorem exK_ok {P : Program} {w : World} {H : Hp} {h : Heap} {a : Addr} {cls : Value} {d : Option Addr} {oe : Obj} {vs : Array Value} (e : h.get? a = some oe) (z : Zc cls d oe) (dd : oe.data = .fields vs) : ObjOk P w H h a (ExK cls d a) :=
  ⟨⟨oe, vs, e, z, dd⟩, ⟨oe, e⟩, fun _ _ ⟨o, v, q, r⟩ k => ⟨o, v, k o q, r⟩⟩

section
variable {X : Cx} {pins : List (Addr × Obj)} {σ : L2.St} {H : Hp} {s : Shared}
/-- a pinned record that was not there at the entry is tracked from now on -/
theorem track {a : Addr} {oe : Obj} {vs : Array Value} {cls : Value} {d : Option Addr} (I : Inv X ((a, oe) :: pins) σ H s) (hz : Zc cls d oe) (hd : oe.data = .fields vs) (n0 : X.s_0.heap.get? a = none)
    (np : ∀ p ∈ X.pn ++ pins, p.1 ≠ a) : Inv X pins σ (upd H a (ExK cls d a)) s := by
  obtain ⟨he, na, nL, nF, nc⟩ := I.pin (a, oe) (List.mem_append.mpr (.inr List.mem_cons_self))
  have he : s.heap.get? a = some oe := he
  have na : H a = none := na
  have nb : ∀ b o, X.s_0.heap.get? b = some o → b ≠ a := fun b o e z => by rw [z, n0] at e; cases e
  refine ⟨I.ok, I.os, I.bare, ⟨I.base.keep, I.base.slot, fun b o e n hx => ?_, I.base.there, fun b xs e => ?_, fun b o u e => ?_, fun b ps e => ?_⟩, I.loc, I.cell, ?_, fun x c e => ?_, fun p hp => ?_, fun b u e => ?_, I.len⟩
  · rw [upd_ne (nb b o e)]
    exact I.base.free b o e n hx
  · have q := I.base.tups b xs e
    rw [upd_ne (ne_of_none q na)]
    exact q
  · have q := I.base.frzs b o u e
    rw [upd_ne (ne_of_none q na)]
    exact q
  · obtain ⟨more, q⟩ := I.base.tbls b ps e
    exact ⟨more, by rw [upd_ne (ne_of_none q na)]; exact q⟩
  · rw [upd_ne (Ne.symm nL)]
    exact I.free
  · have hc : c ≠ a := fun z => by
      obtain ⟨v, o, ho, hv⟩ := I.cell x c e
      rw [z, he] at ho
      cases ho
      rw [hd] at hv
      cases hv
    rw [upd_ne hc]
    exact I.freeC x c e
  · have hp' : p ∈ X.pn ++ ((a, oe) :: pins) := by
      rcases List.mem_append.mp hp with h | h
      · exact List.mem_append.mpr (.inl h)
      · exact List.mem_append.mpr (.inr (.tail _ h))
    obtain ⟨e, n, r⟩ := I.pin p hp'
    exact ⟨e, by rw [upd_ne (np p hp)]; exact n, r⟩
  · by_cases hb : b = a
    · subst hb
      rw [upd_same] at e
      cases e
      exact exK_ok he hz hd
    · rw [upd_ne hb] at e
      exact (I.hok b u e).stay (fun c v _ q => q) (fun c q => by rw [upd_ne (ne_of_none q na)]; exact q) fun c xs q => by rw [upd_ne (ne_of_none q na)]; exact q
theorem unsuiteK {a : Addr} {q : Addr × Obj} (I : Inv (X.suite a (q :: (X.pn ++ pins))) [] σ H s) (ok : X.Ok) : Inv X (q :: pins) σ H s :=
  ⟨ok, I.os, I.bare, I.base, I.loc, I.cell, I.free, I.freeC, fun p hp => I.pin p (by
    rw [List.append_nil]
    show p ∈ q :: (X.pn ++ pins)
    rcases List.mem_append.mp hp with h | h
    · exact .tail _ (List.mem_append.mpr (.inl h))
    · rcases List.mem_cons.mp h with e | h
      · exact e ▸ List.mem_cons_self
      · exact .tail _ (List.mem_append.mpr (.inr h))), I.hok, I.len⟩
end

/-- what the clause 'except x as n' wishes of an exception of the body when the exception stays known behind it -/
def wKeep (K : PySem.W.Frag) (c : Value) (i : Nat) (ts : Addr → Value → Option Addr → TS) (Wout : WX) (D : Ends) : WX := fun cls d σ H =>
  ∃ b, PySem.W.exmOne K cls c = some b ∧ (b = true → ∀ a, H a = none → ts a cls d { nx := fun σ' H' => H' a = none → D.nx (σ'.set i none) (upd H' a (ExK cls d a)), rt := fun v H' => H' a = none → D.rt v (upd H' a (ExK cls d a)), bk := fun σ' H' => H' a = none → D.bk (σ'.set i none) (upd H' a (ExK cls d a)), ct := fun σ' H' => H' a = none → D.ct (σ'.set i none) (upd H' a (ExK cls d a)) } (σ.set i (some (.ref a))) H) ∧
    (b = false → Wout cls d σ H)

section
variable {X : Cx} {x n : Str} {c : Value} {i : Nat} {body suite : List Stmt} {b₀ : Stmt} {np pos pos' : Pos} {tb : WX → TS} {ts : Addr → Value → Option Addr → TS} {Wout : WX}
/-- try: body / except x as n: suite, where the suite's end leaves the exception known -/
theorem ps_try_keep (hs : X.stack = X.env :: X.outer) (hf : X.env.frame = some X.env.locals) (hex : X.ex = []) (hN : X.N.Nodup) (hi : X.N[i]? = some n) (hln : X.env.kindOf n = some .local) (hc : Names X x c) (tk : Takes X Wout)
    (hb : ∀ (W : WX) (pn : List (Addr × Obj)) (xe : Value → Shared → Prop), Takes (X.tr pn xe) W → PassesOwn (model X.prog X.w) X.A X.env xe → PSs (X.tr pn xe) body (tb W))
    (hsu : ∀ (a : Addr) (oe : Obj) (cls : Value) (d : Option Addr) (pn : List (Addr × Obj)), Zc cls d oe → (∃ vs, oe.data = .fields vs) → PSs (X.suite a ((a, oe) :: pn)) (b₀ :: suite) (ts a cls d)) :
    PS X (.Try body [.ExceptHandler (some (.Name x np)) (some n) (b₀ :: suite) pos'] [] [] pos) (fun D σ H => tb (wKeep X.K c i ts Wout D) D σ H) := by
  refine ⟨fun pins s σ H D I h => ?_⟩
  have ok := I.ok
  have hfr : X.A.frames = some (X.env :: X.outer) := by rw [ok.frames, hs]
  have hloc : Loc X.env.scope n := .inl hln
  refine wpAny_Try_except ?_
  refine wpAny_mono ((hb (wKeep X.K c i ts Wout D) (X.pn ++ pins) (fun e s₁ => wpAny (model X.prog X.w) X.A (noteFrame e X.env) (fun _ s₂ => wpAny (model X.prog X.w) X.A (setFlight e none) (fun _ s₃ =>
    wpAny (model X.prog X.w) X.A (handleBy e X.env [.ExceptHandler (some (.Name x np)) (some n) (b₀ :: suite) pos']) (SP X pins D) X.xe s₃) X.xe s₂) X.xe s₁) (fun u s' xx => ?_) PassesOwn.looking).run [] s σ H D (I.toTry _) h) (fun f s1 hsp => ?_) (fun e s1 he => he)
  · obtain ⟨a, B, sI, pins', σ', H', cls, d, rfl, J', nb, up, sky, na, os, ag, b, hb1, hyes, hno⟩ := xx
    have J : Inv X pins σ' H' sI := J'.ofTry ok
    have sky' : Sky B (X.env :: X.outer) a (Zc cls d) X.env.locals s'.heap := by rw [← hs]; exact sky
    show wpAny (model X.prog X.w) X.A (noteFrame (.ref a) X.env) _ _ _
    refine Sky.land Zc.steady hfr hf sky' fun h3 fl3 up3 => ?_
    have J3 : Inv X pins σ' H' { s' with heap := h3 } := J.landed nb fl3.1 (up.trans up3) os ag
    obtain ⟨oe3, vs3, he3, hz3, hd3⟩ := fl3.there
    have notFr : ∀ {h : Heap} {o : Obj} {vs : Array Value}, h.FunFrames B (X.env :: X.outer) → h.get? a = some o → o.data = .fields vs → a ∉ frs (X.env :: X.outer) := fun {h o vs} ff e dd hm => by
      obtain ⟨_, o', e', hnf⟩ := ff.mem hm
      rw [e] at e'; cases e'
      exact hnf _ dd
    have nfr := notFr fl3.2.2.1 he3 hd3
    have nL : a ≠ X.env.locals := fun z => nfr (List.mem_filterMap.mpr ⟨X.env, List.mem_cons_self, by rw [hf, z]⟩)
    have nF : a ∉ X.fs := fun hm => by
      obtain ⟨e, he, q⟩ := List.mem_filterMap.mp hm
      exact nfr (List.mem_filterMap.mpr ⟨e, List.mem_cons_of_mem _ he, q⟩)
    have nI : sI.heap.get? a = none := by
      cases e : sI.heap.get? a with
      | none => rfl
      | some o =>
        have z := nb a o e (by show a ∉ frs X.stack; rw [hs]; exact nfr)
        have hen : B.get? a = none := fl3.2.1
        rw [hen] at z
        cases z
    have nP : ∀ p ∈ X.pn ++ pins, p.1 ≠ a := fun p hp z => by
      have e := (J.pin p hp).1
      rw [z, nI] at e
      cases e
    have n0 : X.s_0.heap.get? a = none := by
      cases e : X.s_0.heap.get? a with
      | none => rfl
      | some o =>
        obtain ⟨o', z⟩ := J.base.there a o e (by rw [hex]; exact fun y => nomatch y)
        rw [nI] at z
        cases z
    have S3 := J3.suite he3 hd3 na nL nF
    refine wpAny_handleBy_cons (codeAny_handlers_test ?_) (by intro q; cases q)
    have LT : PySem.W.Looks (model X.prog X.w) h3 (typeOf (.ref a)) cls := fun A Q E s k q => wpAny_typeOf_ref (k _ _ he3) (by rw [hz3.1]; exact q)
    have LM := PySem.W.exm_one (M := model X.prog X.w) (J3.kIn) LT hb1
    have test : ∀ {Q : Value → Shared → Prop} {E : Value → Shared → Prop}, Q c { s' with heap := h3 } → wpAny (model X.prog X.w) (X.A.mark (some (.ref a))) (eval (.Name x np) X.env) Q E { s' with heap := h3 } := fun {Q E} q => by
      obtain ⟨hg, hdbg, hm | ⟨hm, hv, hnn⟩⟩ := hc
      · exact ld_glob (X := X.suite a ((a, oe3) :: (X.pn ++ pins))) S3 hg hm q hdbg
      · exact ld_blt (X := X.suite a ((a, oe3) :: (X.pn ++ pins))) S3 hg hm hv q hnn hdbg
    refine test (LM.here ?_)
    cases b with
    | true =>
      refine codeAny_handlers_suite_as ?_
      refine HandSPX.lands_againZ fl3 fun h4 fl4 up4 => ?_
      have J4 : Inv X pins σ' H' { s' with heap := h4 } := J.landed nb fl4.1 ((up.trans up3).trans up4) os ag
      obtain ⟨oe4, vs4, he4, hz4, hd4⟩ := fl4.there
      have S4 := J4.suite he4 hd4 na nL nF
      refine store_ok (X := X.suite a ((a, oe4) :: (X.pn ++ pins))) (v := .ref a) S4 hN hi hloc rfl (fun s5 S5 => ?_) (.inr hln)
      refine wpAny_mono ((hsu a oe4 cls d (X.pn ++ pins) hz4 ⟨_, hd4⟩).run [] s5 _ H' _ S5 (hyes rfl a na)) (fun f s6 hsp => ?_) (fun _ _ z => False.elim z)
      have end_ : ∀ {σ6 : L2.St} {H6 : Hp} {Q : Shared → Prop}, Inv (X.suite a ((a, oe4) :: (X.pn ++ pins))) [] σ6 H6 s6 → (H6 a = none → ∀ s7, Inv X pins (σ6.set i none) (upd H6 a (ExK cls d a)) s7 → Q s7) →
          wpAny (model X.prog X.w) X.A (do bindName X.env n .none; unbindBehindTheSuite X.env n pos') (fun _ s7 => Q s7) X.xe s6 := fun {σ6 H6 Q} S6 hq => by
        have U6 := unsuiteK S6 ok
        have n6 : H6 a = none := (U6.pin (a, oe4) (List.mem_append.mpr (.inr List.mem_cons_self))).2.1
        exact gone_ok U6 hN hi hln fun s7 J7 => hq n6 s7 (track J7 hz4 hd4 n0 nP)
      cases f with
      | next =>
        obtain ⟨σ6, H6, S6, q6⟩ := hsp
        exact end_ S6 fun n6 s7 J7 => ⟨_, _, J7, q6 n6⟩
      | brk =>
        obtain ⟨σ6, H6, S6, q6⟩ := hsp
        exact end_ S6 fun n6 s7 J7 => ⟨_, _, J7, q6 n6⟩
      | cont =>
        obtain ⟨σ6, H6, S6, q6⟩ := hsp
        exact end_ S6 fun n6 s7 J7 => ⟨_, _, J7, q6 n6⟩
      | ret u =>
        obtain ⟨v6, σ6, H6, S6, r6, q6⟩ := hsp
        exact end_ S6 fun n6 s7 J7 => ⟨_, _, _, J7, r6, q6 n6⟩
    | false =>
      show wpAny _ X.A (handleBy (.ref a) X.env []) _ _ _
      refine wpAny_handleBy_nil ?_
      obtain ⟨k1, k2, k3, oe, vs, T, oT, ts', he, hz, hd, h1, hr⟩ := id fl3
      unfold PySem.passOn
      refine wpAny_bind (wpAny_field he hd h1 ?_)
      rw [if_neg (show ¬ ((Value.ref T == Value.none) = true) from by simp)]
      have fin : wpAny (model X.prog X.w) X.A (setFlight (.ref a) X.env.frame) (fun _ s4 => wpAny (model X.prog X.w) X.A (throw (.ref a) : Sem Flow) (SP X pins D) X.xe s4) X.xe { s' with heap := h3 } := by
        rw [hf]
        refine HandSPX.setFlight_upZ fl3 fun h4 hh4 up4 => wpAny_throw (tk _ _ ?_)
        exact ⟨a, B, sI, pins, σ', H', cls, d, rfl, J, nb, (up.trans up3).trans up4, .inr (.inr (by rw [hs]; exact hh4)), na, os, ag, hno rfl⟩
      first
        | exact wpAny_bind (wpAny_pure (wpAny_bind fin))
        | exact wpAny_bind fin
  · cases f with
    | next =>
      obtain ⟨σ', H', J', q⟩ := hsp
      exact wpAny_execs_nil ⟨σ', H', J'.ofTry ok, q⟩
    | brk =>
      obtain ⟨σ', H', J', q⟩ := hsp
      exact ⟨σ', H', J'.ofTry ok, q⟩
    | cont =>
      obtain ⟨σ', H', J', q⟩ := hsp
      exact ⟨σ', H', J'.ofTry ok, q⟩
    | ret u =>
      obtain ⟨v, σ', H', J', r, q⟩ := hsp
      exact ⟨v, σ', H', J'.ofTry ok, r, q⟩
end
/-- isinstance(e, c), e a caught exception that was kept -/
def rIsK (K : PySem.W.Frag) : List V → Hp → VK → Prop := fun xs H Q => ∃ (a D : Addr) (c : V) (cv : Value) (b : Bool), xs = [.ref a, c] ∧ H a = some (ExK (.ref D) none a) ∧ ExcC K D ∧ (∀ u, RelV c u → u = cv) ∧ PySem.W.kitOne K (.ref D) cv = some b ∧ Q (.bl b) H
theorem call_isK {X : Cx} : CallR X (.builtin "isinstance") (rIsK X.K) := by
  intro pins s σ H xs us Q I r h
  obtain ⟨a, D, c, cv, b, rfl, ha, C, hcv, e, q⟩ := h
  cases r with
  | cons rx rr =>
    cases rr with
    | cons rt rr =>
      cases rr
      cases rx
      have ec := hcv _ rt
      subst ec
      have z : ObjOk X.prog X.w H s.heap a (.ext fun h => ∃ (oe : Obj) (vs : Array Value), h.get? a = some oe ∧ Zc (.ref D) none oe ∧ oe.data = .fields vs) := I.hok a _ ha
      obtain ⟨oe, vs, hget, hz, hv⟩ := z.1
      have J : PySem.W.InstAt s.heap a oe D none := by
        obtain ⟨oc, od, oda, osl⟩ := oe
        obtain ⟨h1, h2⟩ := hz
        dsimp only at h1 h2 hv
        subst h1 h2 hv
        exact ⟨hget, rfl, rfl, trivial⟩
      exact PySem.W.kia_one (PySem.W.handS_kitx_exc C.hg C.hk C.hs C.hd C.ha C.hn C.ht C.hm) I.kIn J e (fun z => nomatch z) fun tk => ⟨.bl b, H, I.kept (t' := tk) fun _ _ z => z, rfl, q⟩
end Wnd

/-! check_numbers of any object: it returns None or raises InvalidNumbers. -/
namespace Wnd
open PySem PySem.Spec PyProof.Rows L2
/-- a def that may raise, callable by its name -/
structure OkR (P : Program) (w : World) (K : PySem.W.Frag) (mg : Str → Option Value) (base : Heap) (k : Nat) (x : Str) (ps : List Str) (sp : Sp) : Prop where
  ex : ∃ (f : Addr) (fd : FuncData), mg x = some (.ref f) ∧ PySem.W.keepIn K (.ref f) = true ∧ Binds K fd ps [] ∧ FnOk P w K mg base (L2.CX P w) k f fd ps sp
theorem DefAt.okR {P : Program} {w : World} {K : PySem.W.Frag} {mg : Str → Option Value} {base : Heap} {x : Str} {st : Stmt} {ps : List Str} {f : Addr} {fd : FuncData} {k : Nat} {sp : Sp} (D : DefAt K mg x st ps f fd) (h : FnOk P w K mg base (L2.CX P w) k f fd ps sp) : OkR P w K mg base k x ps sp :=
  ⟨⟨f, fd, D.at_, D.fn.kp, D.bi, h⟩⟩
theorem OkR.mono {P : Program} {w : World} {K : PySem.W.Frag} {mg : Str → Option Value} {base : Heap} {x : Str} {ps : List Str} {j k : Nat} {sp : Sp} (O : OkR P w K mg base j x ps sp) (h : j ≤ k) : OkR P w K mg base k x ps sp := by
  obtain ⟨f, fd, a, b, c, d⟩ := O.ex
  exact ⟨⟨f, fd, a, b, c, d.mono h⟩⟩
/-- a call of it: what it raises is taken as the context takes it -/
theorem pe_ownR {X : Cx} {W : WX} {k : Nat} {x : Str} {ps : List Str} {sp : Sp} {p pos : Pos} {e : Expr} {es : List Expr} {t : TA} (O : OkR X.prog X.w X.K X.mg X.base k x ps sp) (hr : Room k X.A) (tk : Takes X W) (ha : PA X (e :: es) t) (hg : Gl X x := by rfl)
    (hdb : (x == ("__debug__" : Str)) = false := by decide) (he : starEach (e :: es) X.env = (false, eval e X.env) :: starEach es X.env := by rfl) (hpl : (backTo pos (starEach es X.env)).any (·.1) = false := by rfl) :
    PE X (.Call (.Name x p) (e :: es) [] pos) (tCallS sp (WE W) t) := by
  obtain ⟨f, fd, h1, h2, h3, h4⟩ := O.ex
  exact pe_callS h4 hr hg h1 h2 h3 (fun σ => passAt tk σ) ha hdb he hpl
/-- what a def's own context takes -/
theorem takesD {P : Program} {w : World} {K : PySem.W.Frag} {mg : Str → Option Value} {base : Heap} {N : List Str} {q : Str} {sc : Scope} {f : Addr} {cd : Value} {A : Around} {outer : List Env} {s : Shared} {H : Hp} {E : XK} :
    Takes (cxOf (L2.CX P w) P w K mg base N q sc f cd A outer s H E) (fun cls d _ H => E cls d H) := takes_of rfl rfl rfl rfl
/-- an own exception class without own __init__, from where the program raises it -/
structure RaiC (K : PySem.W.Frag) (mg : Str → Option Value) (x : Str) (C : Addr) : Prop where
  at_ : mg x = some (.ref C)
  q : PySem.W.excIn K C [.type "ValueError", .type "Exception", .type "BaseException", .type "object"] "ValueError.__new__" = true
  kp : PySem.W.keepIn K (.ref C) = true
  ex : PySem.W.subIn K (.ref C) (.type "BaseException") = some true
  ty : PySem.W.typeIn K (.ref C) = some (.type "type")
theorem pmk_rai {X : Cx} {x m : Str} {C : Addr} {j : Nat} {p p2 pos : Pos} (R : RaiC X.K X.mg x C) (hg : Gl X x := by rfl) (hdb : (x == ("__debug__" : Str)) = false := by decide) : PMk X (.Call (.Name x p) [.Constant (.str m) j p2] [] pos) (fun _ H Q => Q (.ref C) none H) :=
  pmk_own F.excBase_ValueError R.q R.at_ R.kp (raises_own R.ex R.ty) hg hdb
section
variable {P : Program} {w : World} {K : PySem.W.Frag} {mg : Str → Option Value} {base : Heap}
theorem tyx_same {H H' : Hp} {x : V} {t : Value} (h : TyX K H x t) (s : Same H H') : TyX K H' x t := by
  cases h with
  | base b =>
    refine .base ?_
    cases b with
    | non => exact .non
    | bl y => exact .bl y
    | int i => exact .int i
    | str y => exact .str y
    | flt y => exact .flt y
    | lst e => exact .lst (s _ _ e)
    | frz e => exact .frz (s _ _ e)
    | tup e => exact .tup (s _ _ e)
    | dK e => exact .dK (s _ _ e)
    | dT e => exact .dT (s _ _ e)
    | ins e cl ha hn htk hm => exact .ins (s _ _ e) cl ha hn htk hm
  | byt b => exact .byt b
  | set e => exact .set (s _ _ e)
  | kList e c => exact .kList e c
  | kTuple e c => exact .kTuple e c
  | kDict e c => exact .kDict e c
  | fTuple e => exact .fTuple (s _ _ e)
  | fDict e => exact .fDict (s _ _ e)
theorem IntQ.same {H H' : Hp} {x : V} {b : Bool} (h : IntQ K H x b) (s : Same H H') : IntQ K H' x b := by
  rcases h with h | h | ⟨t, h, r⟩
  · exact .inl h
  · exact .inr (.inl h)
  · exact .inr (.inr ⟨t, tyx_same h s, r⟩)
theorem InQ.same {H H' : Hp} {x : V} {lo hi : Int} {b : Bool} (h : InQ K H x lo hi b) (s : Same H H') : InQ K H' x lo hi b := by
  rcases h with h | ⟨h, r⟩
  · exact .inl h
  · exact .inr ⟨h.same s, r⟩
/-- what check_numbers finds of any object -/
def NumsQ (K : PySem.W.Frag) (H : Hp) (ns : List Str) (x : V) (b : Bool) : Prop := (∃ t, TyX K H x t ∧ PySem.W.kitOne K t (.type "dict") = some false ∧ b = false) ∨
  (∃ (d : Addr) (kvs : List (Key × V)) (nb : V → Bool), x = .ref d ∧ H d = some (.dK kvs) ∧ (∀ p ∈ kvs, InQ K H p.2 (-99999) 99999 (nb p.2)) ∧ b = (decide (kvs.length = ns.length) && ns.all fun t => match valV kvs (Sum.inr t) with | none => false | some v => nb v))
def spIsNumQ (K : PySem.W.Frag) : Sp := fun vs H Q _ => ∃ (x : V) (b : Bool), vs = [x] ∧ InQ K H x (-99999) 99999 b ∧ Q (.bl b) H
theorem ok_is_numberQ {f : Addr} {fd : FuncData} (D : DefAt K mg "is_number" s_is_number ["thing"] f fd) (C_GREATEST_NUMBER : ∃ t, mg "GREATEST_NUMBER" = some (.int 99999 t)) (O_is_integer_within : Ok P w K mg base 2 "is_integer_within" ["thing", "least", "greatest"] (spIsIn K)) : Ok P w K mg base 3 "is_number" ["thing"] (spIsNumQ K) := by
  obtain ⟨gt, C_GREATEST_NUMBER⟩ := C_GREATEST_NUMBER
  refine D.ok (D.fn.ok sc_is_number (fun vs H Q E h => ?_) (fun cdv A outer s H vs Q E hr h => ?_))
  · obtain ⟨i, b, rfl, _⟩ := h
    rfl
  · obtain ⟨x, b, rfl, hx, q⟩ := h
    refine ⟨_, (pss_one (ps_ret (pe_own O_is_integer_within (hr.mono (by decide)) (pa_cons (pv 0) (pa_cons (pe_un un_neg (pe_glob (v := .int 99999) rfl C_GREATEST_NUMBER ⟨_, rfl⟩)) (pa_cons (pe_glob (v := .int 99999) rfl C_GREATEST_NUMBER ⟨_, rfl⟩) pa_nil)))))), ?_⟩
    exact ⟨_, rfl, _, rfl, x, -99999, 99999, _, rfl, hx, q⟩
theorem mem_val {kvs : List (Key × V)} {k : Key} {v : V} (h : valV kvs k = some v) : ∃ p ∈ kvs, p.2 = v := by
  unfold valV at h
  obtain ⟨p, hp, e⟩ := Option.map_eq_some_iff.mp h
  exact ⟨p, List.mem_of_find?_eq_some hp, e⟩
def spAreQ (C : Addr) (K : PySem.W.Frag) : Sp := fun vs H Q _ => ∃ (x : Addr) (v : V) (ns : List Str) (L : List (Rule × Addr)) (b : Bool), vs = [.ref x, v] ∧ SysAt C H x ns L ∧ NumsQ K H ns v b ∧ ∀ H', Same H H' → Q (.bl b) H'
theorem ok_areQ {C : Addr} {f : Addr} {fd : FuncData} (D : DefAt K mg "are_numbers" s_are_numbers ["system", "thing"] f fd) (B : Blt2 mg) (PN : OkP P w K mg base C 1 "names" (spNames C)) (O_is_number : Ok P w K mg base 3 "is_number" ["thing"] (spIsNumQ K)) :
    Ok P w K mg base 4 "are_numbers" ["system", "thing"] (spAreQ C K) := by
  refine D.ok (D.fn.ok sc_are_numbers (fun vs H Q E h => ?_) (fun cdv A outer s H vs Q E hr h => ?_))
  · obtain ⟨x, v, ns, L, b, rfl, _⟩ := h
    rfl
  · obtain ⟨x, v, ns, L, b, rfl, hx, hv, q⟩ := h
    have nd := sc_are_numbers.nd
    have hu := hu_of hr
    refine ⟨_, (pss_cons (ps_set (i := 2) nd rfl (Or.inl rfl) (pe_propO PN (hr.mono (by decide)) (pv 0)))
      (pss_cons (ps_if (PW.pt (pw_or (pt_not (pt_val (pe_callB call_isi (by rfl) B.isinstance (by decide +kernel) (pa_cons (pv 1) (pa_cons (pe_bltn (v := .ty "dict") (by rfl) B.dict (by decide +kernel) rfl) pa_nil))))) (pw_or1 (pt_cmpR op_ne (pe_callB call_lenD (by rfl) B.len PySem.boot_len (pa_cons (pv 1) pa_nil)) (pe_callB call_len_seq (by rfl) B.len PySem.boot_len (pa_cons (pv 2) pa_nil)) (nomark _))))) (pss_one (ps_ret pe_bl)) pss_nil)
      (pss_one (ps_ret (pe_callB (cr_all rfl) (by rfl) B.all (by decide +kernel) (pa_cons (pe_lc (own := [("name", 3)]) (g := gName 3) (tt := tYes) (by rfl) nd (pi_list (pv 2)) (blkOk_by (own := [("name", 3)]) (N := ["system", "thing", "names", "name"]) (sc := defScope s_are_numbers) (by decide +kernel)) (fun _ _ _ _ _ => (pg_name (i := 3) nd rfl (Or.inl rfl))) (fun _ _ _ _ _ => pts_nil) (fun _ _ _ _ _ => (pe_and (pe_cmp (pc_din hu (pv 3) (pv 1))) (pe_one (pe_own O_is_number (hr.mono (by decide)) (pa_cons (pe_dget hu (pv 1) (pv 3) (fun _ _ => rfl)) pa_nil)))))) pa_nil)))))), ?_⟩
    obtain ⟨dx, fs, h1⟩ := prop_at hx
    refine ⟨_, rfl, x, dx, fs, rfl, h1, x, ns, L, rfl, hx, fun l hl => ?_⟩
    have s1 := same_new (o := .lst (ns.map V.str)) hl
    have hl1 := upd_same (H := H) (a := l) (o := .lst (ns.map V.str))
    generalize upd H l (.lst (ns.map V.str)) = H1 at s1 hl1 ⊢
    rcases hv with ⟨ty, hty, kt, rfl⟩ | ⟨d, kvs, nb, rfl, hd, hq, rfl⟩
    · refine ⟨_, rfl, _, _, _, _, false, rfl, .ty _, tyx_same hty s1, kt, false, rfl, ?_⟩
      exact q _ s1
    · have hd1 := s1 _ _ hd
      have lN : ns.length < 64 := by
        obtain ⟨_, _, _, _, _, _, _, ok⟩ := hx
        exact ok.names.2.2
      refine ⟨_, rfl, _, _, _, _, true, rfl, .ty _, .base (.dK hd1), kit_ty (by decide +kernel), true, rfl, ?_⟩
      refine ⟨_, rfl, d, _, rfl, hd1, _, rfl, l, _, rfl, .inl (SqL.of hl1), rfl, _, rfl, ?_⟩
      have e : decide ((V.int ((kvs.length : Nat) : Int)) = V.int (((ns.map V.str).length : Nat) : Int)) = decide (kvs.length = ns.length) := by
        rw [List.length_map]
        by_cases z : kvs.length = ns.length
        · rw [z]
          simp
        · rw [decide_eq_false z]
          refine decide_eq_false fun y => z ?_
          injection y with y
          omega
      rw [e]
      by_cases z : kvs.length = ns.length
      · rw [decide_eq_true z, Bool.true_and] at q
        rw [decide_eq_true z]
        refine iteF ?_
        refine ⟨_, rfl, l, rfl, ⟨_, SqL.of hl1⟩, fun D hD => ?_⟩
        obtain ⟨fb, hfb⟩ : ∃ fb : Str → Bool, fb = fun t => match valV kvs (Sum.inr t) with | none => false | some v => nb v := ⟨_, rfl⟩
        refine lc_map walk_list hD ((ns.map fb).map V.bl) (by simp only [List.length_map]) (by
          have : sizeLine > 1000 := by decide
          rw [List.length_map]
          omega) (fun H2 s2 => SqL.of (s2 _ _ hl1)) ?_ ?_
        · rintro i y H2 H' hi R W s2 ⟨rfl, hy⟩ hR
          obtain ⟨t, ht, rfl⟩ := get_map hy
          have hd2 := s2 _ _ hd1
          have et : ns[i]? = some t := ht
          have hR := hR _ (Same.refl _)
          have ei : ((ns.map fb).map V.bl)[i] = V.bl (fb t) := by
            rw [List.getElem_map, List.getElem_map]
            obtain ⟨h3, h4⟩ := List.getElem?_eq_some_iff.mp et
            rw [h4]
          rw [ei] at hR
          refine ⟨rfl, ?_⟩
          refine iteT (B := W H') ?_
          have hg := DGet.k (k := Sum.inr t) hd2
          refine ⟨_, rfl, _, rfl, d, _, rfl, hg, _, rfl, ?_⟩
          cases hv : valV kvs (Sum.inr t) with
          | none =>
            have : fb t = false := by rw [hfb]; show (match valV kvs (Sum.inr t) with | none => false | some v => nb v) = false; rw [hv]
            rw [this] at hR
            exact iteF hR
          | some v =>
            have : fb t = nb v := by rw [hfb]; show (match valV kvs (Sum.inr t) with | none => false | some v => nb v) = nb v; rw [hv]
            rw [this] at hR
            refine iteT ?_
            obtain ⟨p, hp, rfl⟩ := mem_val hv
            refine ⟨_, rfl, _, rfl, d, _, rfl, (by rwa [hv] at hg), ?_⟩
            exact ⟨_, _, rfl, InQ.same (hq p hp) (s1.trans s2), hR⟩
        · intro H2 s2 h2
          refine ⟨D, ns.map fb, rfl, SqL.of h2, ?_⟩
          have eb : (ns.map fb).all id = ns.all fun t => match valV kvs (Sum.inr t) with | none => false | some v => nb v := by
            rw [List.all_map, hfb]
            rfl
          rw [eb]
          exact q _ (s1.trans s2)
      · rw [decide_eq_false z]
        refine iteT ?_
        rw [decide_eq_false z, Bool.false_and] at q
        exact q _ s1
def spCheckR (C CI : Addr) (K : PySem.W.Frag) : Sp := fun vs H Q E => ∃ (x : Addr) (v : V) (ns : List Str) (L : List (Rule × Addr)) (b : Bool), vs = [.ref x, v] ∧ SysAt C H x ns L ∧ NumsQ K H ns v b ∧ (b = true → ∀ H', Same H H' → Q .non H') ∧ (b = false → ∀ H', Same H H' → E (.ref CI) none H')
theorem ok_checkR {C CI : Addr} {f : Addr} {fd : FuncData} (D : DefAt K mg "check_numbers" s_check_numbers ["system", "thing"] f fd) (O_are_numbers : Ok P w K mg base 4 "are_numbers" ["system", "thing"] (spAreQ C K)) (RI : RaiC K mg "InvalidNumbers" CI) :
    OkR P w K mg base 5 "check_numbers" ["system", "thing"] (spCheckR C CI K) := by
  refine D.okR (D.fn.okX sc_check_numbers (fun vs H Q E h => ?_) (fun cdv A outer s H vs Q E hr h => ?_))
  · obtain ⟨x, v, ns, L, b, rfl, _⟩ := h
    rfl
  · obtain ⟨x, v, ns, L, b, rfl, hx, hv, qT, qF⟩ := h
    refine ⟨_, (pss_one (ps_if (pt_not (pt_val (pe_own O_are_numbers (hr.mono (by decide)) (pa_cons (pv 0) (pa_cons (pv 1) pa_nil))))) (pss_one (ps_raise rfl takesD (pmk_rai RI))) pss_nil)), ?_⟩
    refine ⟨_, rfl, _, rfl, x, v, ns, L, b, rfl, hx, hv, fun H1 s1 => ⟨_, rfl, ?_⟩⟩
    cases b with
    | true => exact iteF (qT rfl _ s1)
    | false => exact iteT (qF rfl _ s1)
end
end Wnd

/-! total: it returns or raises -/
namespace Wnd
open PySem PySem.Spec PyProof.Rows L2
abbrev s_total : Stmt := top 23
theorem sc_total : FnScope ["task", "amounts"] ["task", "amounts"] (defScope s_total) := ⟨rfl, rfl, rfl, by decide +kernel, rfl, by decide +kernel, by decide +kernel⟩
section
variable {P : Program} {w : World} {K : PySem.W.Frag} {mg : Str → Option Value} {base : Heap}
theorem amtB_len {ns : List Str} {L : List (Rule × Addr)} {r l : Int} {G : Own} {as : List Int} (h : amtB ns L r l G as = true) : as.length = L.length ∧ ∀ i ∈ as, 0 ≤ i ∧ i ≤ 999999999999 := by
  unfold amtB at h
  rw [Bool.and_eq_true, Bool.and_eq_true, decide_eq_true_eq, List.all_eq_true] at h
  refine ⟨by omega, fun i hi => ?_⟩
  have := h.2.1 i hi
  rw [Bool.and_eq_true, decide_eq_true_eq, decide_eq_true_eq] at this
  exact this
def spTotalR (C CP CT CA : Addr) : Sp := fun vs H Q E => ∃ (x a : Addr) (as : List Int) (ns : List Str) (L : List (Rule × Addr)) (g : List (Str × Int)) (r l : Int) (G : Own), vs = [.ref x, .ref a] ∧ TaskAt C CP CT H x ns L g r l G ∧ H a = some (.lst (as.map V.int)) ∧ as.length ≤ 1000 ∧ L.length ≤ 1000 ∧ ns.length ≤ 1000 ∧
  (amtB ns L r l G as = true → ∀ H', Same H H' → Q (.int (totN (ordG ns g) (L.map (·.1)) as)) H') ∧ (amtB ns L r l G as = false → ∀ H', Same H H' → E (.ref CA) none H')
theorem ok_total {C CP CT CA : Addr} {f : Addr} {fd : FuncData} (D : DefAt K mg "total" s_total ["task", "amounts"] f fd) (O_are_amounts : Ok P w K mg base 4 "_are_amounts" ["task", "thing"] (spAmt C CP CT)) (O_total_of_amounts : Ok P w K mg base 3 "total_of_amounts" ["task", "amounts"] (spTotOf C CP CT)) (RA : RaiC K mg "InvalidAmounts" CA) :
    OkR P w K mg base 5 "total" ["task", "amounts"] (spTotalR C CP CT CA) := by
  refine D.okR (D.fn.okX sc_total (fun vs H Q E h => ?_) (fun cdv A outer s H vs Q E hr h => ?_))
  · obtain ⟨x, a, as, ns, L, g, r, l, G, rfl, _⟩ := h
    rfl
  · obtain ⟨x, a, as, ns, L, g, r, l, G, rfl, hx, ha, la, ll, ln, qT, qF⟩ := h
    refine ⟨_, (pss_cons (ps_if (pt_not (pt_val (pe_own O_are_amounts (hr.mono (by decide)) (pa_cons (pv 0) (pa_cons (pv 1) pa_nil))))) (pss_one (ps_raise rfl takesD (pmk_rai RA))) pss_nil)
      (pss_one (ps_ret (pe_own O_total_of_amounts (hr.mono (by decide)) (pa_cons (pv 0) (pa_cons (pv 1) pa_nil)))))), ?_⟩
    refine ⟨_, rfl, _, rfl, x, a, as, ns, L, g, r, l, G, rfl, hx, ha, la, ll, ln, fun H1 s1 => ⟨_, rfl, ?_⟩⟩
    cases e : amtB ns L r l G as with
    | false => exact iteT (qF e _ s1)
    | true =>
      refine iteF ?_
      obtain ⟨el, bnd⟩ := amtB_len e
      exact ⟨_, rfl, _, rfl, x, a, as, ns, L, g, r, l, G, rfl, hx.same s1, s1 _ _ ha, el, ll, bnd, fun H2 s2 => qT e _ (s1.trans s2)⟩
end
end Wnd

/-! amounts and their total, as the law tells them -/
namespace Wnd
open PySem PySem.Spec PyProof.Rows L2
abbrev s_law_are_amounts : Stmt := top 58
theorem sc_law_are_amounts : FnScope ["_law_model_here", "_law_thing", "_law_nyms_here", "_law_gaps_here", "_law_old", "_law_deal_here", "_law_asks", "_law_one", "_law_nym", "_law_up", "_law_down", "_law_summed", "_law_k"] ["_law_model_here", "_law_thing"] (defScope s_law_are_amounts) := ⟨rfl, rfl, rfl, by decide +kernel, rfl, by decide +kernel, by decide +kernel⟩
abbrev s_law_total : Stmt := top 59
theorem sc_law_total : FnScope ["_law_model_here", "_law_thing", "_law_asks", "_law_k"] ["_law_model_here", "_law_thing"] (defScope s_law_total) := ⟨rfl, rfl, rfl, by decide +kernel, rfl, by decide +kernel, by decide +kernel⟩
section
variable {P : Program} {w : World} {K : PySem.W.Frag} {mg : Str → Option Value} {base : Heap}
/-- amounts, by the definition: names in any order, rules in ascending order -/
def lamtB (ts : List Str) (cs : List Rule) (r l : Int) (G : Own) (as : List Int) : Bool :=
  decide ((as.length : Int) = (cs.length : Int)) && ((as.all fun i => decide (0 ≤ i) && decide (i ≤ 999999999999)) && ts.all fun t => fixB G t || inPr r l G t (surN t cs as))
theorem inPr_sort (r l : Int) (G : Own) (t : Str) (s : Int) : inPr r l (sortO G) t s = inPr r l G t s := by
  unfold inPr
  rw [pair_sort]
theorem amt_law {ts : List Str} {L : List (Rule × Addr)} {cs : List Rule} {r l : Int} {G : Own} {as : List Int} (e : L.map (·.1) = cs) : amtB (sortN ts) L r l (sortO G) as = lamtB ts cs r l G as := by
  unfold amtB lamtB
  have h1 : (looseN (sortO G) (sortN ts)).all (fun t => inPr r l (sortO G) t (surN t (L.map (·.1)) as)) = ts.all fun t => fixB G t || inPr r l G t (surN t cs as) := by
    rw [Bool.eq_iff_iff, List.all_eq_true, List.all_eq_true]
    unfold looseN
    constructor
    · intro h t ht
      by_cases f : fixB G t = true
      · rw [f]; rfl
      · have := h t (List.mem_filter.mpr ⟨(sortN_perm ts).mem_iff.mpr ht, by rw [fix_sort, Bool.eq_false_iff.mpr f]; rfl⟩)
        rw [inPr_sort, e] at this
        rw [this, Bool.or_true]
    · intro h t ht
      obtain ⟨m, f⟩ := List.mem_filter.mp ht
      have := h t ((sortN_perm ts).mem_iff.mp m)
      rw [fix_sort, Bool.not_eq_true'] at f
      rw [f, Bool.false_or] at this
      rw [inPr_sort, e]
      exact this
  rw [h1, ← e, List.length_map]
def spLTotal : Sp := fun vs H Q _ => ∃ (M a an gp d0 T d : Addr) (ts : List Str) (rs : List (Rule × Addr)) (g : List (Str × Int)) (r l : Int) (G : Own) (as : List Int), vs = [.ref M, .ref a] ∧ ModelAt H M an gp d0 T d ts rs g r l G ∧ H a = some (.lst (as.map V.int)) ∧ as.length = (canon (rs.map (·.1))).length ∧ (∀ i ∈ as, 0 ≤ i ∧ i ≤ 999999999999) ∧
  ∀ H', Same H H' → Q (.int (totN g (canon (rs.map (·.1))) as)) H'
theorem ModelAt.nsh {H : Hp} {M an gp d0 T d : Addr} {ts : List Str} {rs : List (Rule × Addr)} {g : List (Str × Int)} {r l : Int} {G : Own} (hM : ModelAt H M an gp d0 T d ts rs g r l G) : ∀ x ∈ rs, Named x.1 ∧ Short x.1 := fun y hy => ⟨(hM.ro y hy).named hM.ok, (hM.ro y hy).short hM.ok⟩
theorem ModelAt.lz {H : Hp} {M an gp d0 T d : Addr} {ts : List Str} {rs : List (Rule × Addr)} {g : List (Str × Int)} {r l : Int} {G : Own} (hM : ModelAt H M an gp d0 T d ts rs g r l G) : rs.length < 100000 := by
  have := hM.lr
  omega
theorem canon_le {rs L : List (Rule × Addr)} (h : L.map (·.1) = canon (rs.map (·.1))) : L.length ≤ rs.length := by
  have h1 : (L.map (·.1)).length ≤ (rs.map (·.1)).length := by rw [h]; exact canon_len _
  rwa [List.length_map, List.length_map] at h1
theorem ok_lTotal {f : Addr} {fd : FuncData} (D : DefAt K mg "_law_total" s_law_total ["_law_model_here", "_law_thing"] f fd) (B : Blt3 mg) (O_law_sorted : Ok P w K mg base 2 "_law_sorted" ["_law_gaps_here"] spSorted) (O_law_short : Ok P w K mg base 2 "_law_short" ["_law_held", "_law_ask"] spLawShort) : Ok P w K mg base 3 "_law_total" ["_law_model_here", "_law_thing"] spLTotal := by
  refine D.ok (D.fn.ok sc_law_total (fun vs H Q E h => ?_) (fun cdv A outer s H vs Q E hr h => ?_))
  · obtain ⟨M, a, an, gp, d0, T, d, ts, rs, g, r, l, G, as, rfl, _⟩ := h
    rfl
  · obtain ⟨M, a, an, gp, d0, T, d, ts, rs, g, r, l, G, as, rfl, hM, ha, la, bnd, q⟩ := h
    have nd := sc_law_total.nd
    have big : sizeLine > 100000 := by decide
    refine ⟨_, (pss_cons (ps_set (i := 2) nd rfl (Or.inr rfl) (pe_own O_law_sorted (hr.mono (by decide)) (pa_cons (pe_ix ix_tup (pv 0) pe_int (fun _ _ => rfl)) pa_nil)))
      (pss_one (ps_ret (pe_callB (cr_sum rfl) (by rfl) B.sum (by decide +kernel) (pa_cons (pe_lc (own := [("_law_k", 3)]) (g := gName 3) (tt := tYes) (by rfl) nd (pi_range1 (by rfl) B.range (pa_cons (pe_callB call_len_seq (by rfl) B.len PySem.boot_len (pa_cons (pv 2) pa_nil)) pa_nil)) (blkOk_by (own := [("_law_k", 3)]) (N := ["_law_model_here", "_law_thing", "_law_asks", "_law_k"]) (sc := defScope s_law_total) (by decide +kernel)) (fun _ _ _ _ _ => (pg_name (i := 3) nd rfl (Or.inl rfl))) (fun _ _ _ _ _ => pts_nil) (fun _ _ _ _ _ => (pe_op op_mul (pe_ix (ix_listK K) (pv 1) (pv 3) (fun _ _ => rfl)) (pe_own O_law_short (hr.mono (by decide)) (pa_cons (pe_ix (ix_tupK K) (pv 0) pe_int (fun _ _ => rfl)) (pa_cons (pe_ix (ix_listK K) (pv 2) (pv 3) (fun _ _ => rfl)) pa_nil)))))) pa_nil))))), ?_⟩
    refine ⟨_, rfl, M, _, 1, .ref gp, rfl, rfl, SqT.of hM.m, atI_nat (j := 1) rfl, ?_⟩
    refine ⟨gp, rs, rfl, hM.gp, hM.kt, hM.nsh, hM.lz, fun sr H1 L s1 nsr hsr eL mL => ?_⟩
    have lL : L.length ≤ 1000 := Nat.le_trans (canon_le eL) hM.lr
    have kt : KeyTups H1 L := fun y hy => s1 _ _ (hM.kt y (mL y hy))
    have M1 := hM.same s1
    have ha1 := s1 _ _ ha
    have lc : as.length = L.length := by rw [la, ← eL, List.length_map]
    refine ⟨_, rfl, sr, _, rfl, .inl (SqL.of hsr), _, rfl, Int.natCast_nonneg _, by rw [List.length_map]; omega, fun D hD => ?_⟩
    refine lc_map (walk_range (lo := 0)) hD ((((L.map (·.1)).zip as).map fun p => p.2 * shortB g p.1).map V.int) (by rw [List.length_map, List.length_map, List.length_zip, List.length_map]; simp; omega) (by rw [List.length_map]; simp; omega) (fun X _ => True.intro) ?_ ?_
    · rintro i y Y Y' hi R Lk s3 ⟨rfl, rfl⟩ hR
      have hi' : i < L.length := by
        rw [List.length_map, List.length_map, List.length_zip, List.length_map] at hi
        omega
      have hia : i < as.length := by omega
      have my := List.getElem_mem hi'
      have mn := bnd _ (List.getElem_mem hia)
      have e0 : ((((L.map (·.1)).zip as).map fun p => p.2 * shortB g p.1).map V.int)[i]'hi = V.int (as[i] * shortB g (L[i]).1) := by
        rw [List.getElem_map, List.getElem_map, List.getElem_zip, List.getElem_map]
      rw [e0] at hR
      have ei : ((0 : Int) + ((i : Nat) : Int)) = (i : Int) := Int.zero_add _
      have M3 := M1.same s3
      refine ⟨rfl, ?_⟩
      unfold tYes
      dsimp only
      rw [if_pos rfl]
      refine ⟨_, rfl, _, rfl, a, _, _, V.int as[i], rfl, rfl, SqL.of (s3 _ _ ha1), by rw [ei]; exact atI_nat (by rw [List.getElem?_map, List.getElem?_eq_getElem hia]; rfl), ?_⟩
      refine ⟨_, rfl, M, _, 2, .ref d0, rfl, rfl, SqT.of M3.m, atI_nat (j := 2) rfl, _, rfl, _, rfl, sr, _, _, .ref (L[i]).2, rfl, rfl, SqL.of (s3 _ _ hsr), by rw [ei]; exact atI_nat (by rw [List.getElem?_map, List.getElem?_eq_getElem hi']; rfl), ?_⟩
      refine ⟨d0, (L[i]).2, (L[i]).1, g, rfl, M3.d0, s3 _ _ (kt _ my), EndsIn.of (hM.ro _ (mL _ my)) fun t ht => hM.nums.1.mem_iff.mpr ht, ?_⟩
      exact ⟨_, _, rfl, rfl, .inl ⟨by omega, by omega⟩, hR _ (Same.refl _)⟩
    · intro H3 s3 hD3
      refine ⟨D, ((L.map (·.1)).zip as).map fun p => p.2 * shortB g p.1, rfl, SqL.of hD3, ?_⟩
      have := q _ (s1.trans s3)
      rw [← eL] at this
      exact this
def spLAmt : Sp := fun vs H Q _ => ∃ (M a an gp d0 T d : Addr) (ts : List Str) (rs : List (Rule × Addr)) (g : List (Str × Int)) (r l : Int) (G : Own) (as : List Int), vs = [.ref M, .ref a] ∧ ModelAt H M an gp d0 T d ts rs g r l G ∧ H a = some (.lst (as.map V.int)) ∧ as.length ≤ 1000 ∧
  ∀ H', Same H H' → Q (.bl (lamtB ts (canon (rs.map (·.1))) r l G as)) H'
theorem ok_lAmt {f : Addr} {fd : FuncData} (D : DefAt K mg "_law_are_amounts" s_law_are_amounts ["_law_model_here", "_law_thing"] f fd) (B : Blt3 mg) (O_law_sorted : Ok P w K mg base 2 "_law_sorted" ["_law_gaps_here"] spSorted) : Ok P w K mg base 3 "_law_are_amounts" ["_law_model_here", "_law_thing"] spLAmt := by
  refine D.ok (D.fn.ok sc_law_are_amounts (fun vs H Q E h => ?_) (fun cdv A outer s H vs Q E hr h => ?_))
  · obtain ⟨M, a, an, gp, d0, T, d, ts, rs, g, r, l, G, as, rfl, _⟩ := h
    rfl
  · obtain ⟨M, a, an, gp, d0, T, d, ts, rs, g, r, l, G, as, rfl, hM, ha, la, q⟩ := h
    have nd := sc_law_are_amounts.nd
    have hu := hu_of hr
    have big : sizeLine > 100000 := by decide
    refine ⟨_, (pss_cons (ps_asg (pv 0) (pg_tup rfl (pgs_cons (pg_name (i := 2) nd rfl (Or.inl rfl)) (pgs_cons (pg_name (i := 3) nd rfl (Or.inl rfl)) (pgs_cons (pg_name (i := 4) nd rfl (Or.inl rfl)) (pgs_cons (pg_name (i := 5) nd rfl (Or.inl rfl)) pgs_nil))))))
      (pss_cons (ps_set (i := 6) nd rfl (Or.inr rfl) (pe_own O_law_sorted (hr.mono (by decide)) (pa_cons (pv 3) pa_nil)))
      (pss_cons (ps_if (PW.pt (pw_or (pt_not (pt_val (pe_callB call_isi (by rfl) B.isinstance (by decide +kernel) (pa_cons (pv 1) (pa_cons (pe_bltn (v := .ty "list") (by rfl) B.list (by decide +kernel) rfl) pa_nil))))) (pw_or1 (pt_cmpR op_ne (pe_callB call_len_seq (by rfl) B.len PySem.boot_len (pa_cons (pv 1) pa_nil)) (pe_callB call_len_seq (by rfl) B.len PySem.boot_len (pa_cons (pv 6) pa_nil)) (nomark _))))) (pss_one (ps_ret pe_bl)) pss_nil)
      (pss_cons (ps_for PassesOwn.never rfl (pi_list (pv 1)) (pg_name (i := 7) nd rfl (Or.inl rfl)) (pss_one (ps_if (PW.pt (pw_or (pt_not (pt_val (pe_callB call_isi (by rfl) B.isinstance (by decide +kernel) (pa_cons (pv 7) (pa_cons (pe_bltn (v := .ty "int") (by rfl) B.int (by decide +kernel) rfl) pa_nil))))) (pw_or (pt_val (pe_callB call_isi (by rfl) B.isinstance (by decide +kernel) (pa_cons (pv 7) (pa_cons (pe_bltn (v := .ty "bool") (by rfl) B.bool (by decide +kernel) rfl) pa_nil)))) (pw_or1 (pt_not (pt_chain op_le op_lt pe_int (pv 7) (pe_op op_pow pe_int pe_int))))))) (pss_one (ps_ret pe_bl)) pss_nil)))
      (pss_cons (ps_for PassesOwn.never rfl (pi_list (pv 2)) (pg_name (i := 8) nd rfl (Or.inr rfl)) (pss_cons (ps_par (i := 9) (j := 10) rfl nd rfl rfl (by decide) rfl rfl (pa_cons (pe_dget2 hu (pe_ix ix_tup (pv 5) pe_int (fun _ _ => rfl)) (pv 8) (pe_ix ix_tup (pv 5) pe_int (fun _ _ => rfl)) ⟨rfl, rfl, rfl, rfl⟩) (pa_cons (pe_dget2 hu (pe_ix ix_tup (pv 5) pe_int (fun _ _ => rfl)) (pv 8) (pe_ix ix_tup (pv 5) pe_int (fun _ _ => rfl)) ⟨rfl, rfl, rfl, rfl⟩) pa_nil)) (by rfl))
      (pss_one (ps_if (pt_cmpR op_notN (pv 9) pe_non (nomark _)) (pss_cons (ps_set (i := 11) nd rfl (Or.inl rfl) (pe_callB (cr_sum rfl) (by rfl) B.sum (by decide +kernel) (pa_cons (pe_lc (own := [("_law_k", 12)]) (g := gName 12) (by rfl) nd (pi_range1 (by rfl) B.range (pa_cons (pe_callB call_len_seq (by rfl) B.len PySem.boot_len (pa_cons (pv 6) pa_nil)) pa_nil)) (blkOk_by (own := [("_law_k", 12)]) (N := ["_law_model_here", "_law_thing", "_law_nyms_here", "_law_gaps_here", "_law_old", "_law_deal_here", "_law_asks", "_law_one", "_law_nym", "_law_up", "_law_down", "_law_summed", "_law_k"]) (sc := defScope s_law_are_amounts) (by decide +kernel)) (fun _ _ _ _ _ => (pg_name (i := 12) nd rfl (Or.inl rfl))) (fun _ _ _ _ _ => (pts_one (pt_cmpR op_eq (pe_ix (ix_tupK K) (pe_ix (ix_listK K) (pv 6) (pv 12) (fun _ _ => rfl)) pe_int (fun _ _ => rfl)) (pv 8) (nomark _)))) (fun _ _ _ _ _ => (pe_ix (ix_listK K) (pv 1) (pv 12) (fun _ _ => rfl)))) pa_nil)))
      (pss_cons (ps_set (i := 11) nd rfl (Or.inl rfl) (pe_op op_sub (pv 11) (pe_callB (cr_sum rfl) (by rfl) B.sum (by decide +kernel) (pa_cons (pe_lc (own := [("_law_k", 12)]) (g := gName 12) (by rfl) nd (pi_range1 (by rfl) B.range (pa_cons (pe_callB call_len_seq (by rfl) B.len PySem.boot_len (pa_cons (pv 6) pa_nil)) pa_nil)) (blkOk_by (own := [("_law_k", 12)]) (N := ["_law_model_here", "_law_thing", "_law_nyms_here", "_law_gaps_here", "_law_old", "_law_deal_here", "_law_asks", "_law_one", "_law_nym", "_law_up", "_law_down", "_law_summed", "_law_k"]) (sc := defScope s_law_are_amounts) (by decide +kernel)) (fun _ _ _ _ _ => (pg_name (i := 12) nd rfl (Or.inl rfl))) (fun _ _ _ _ _ => (pts_one (pt_cmpR op_eq (pe_ix (ix_tupK K) (pe_ix (ix_listK K) (pv 6) (pv 12) (fun _ _ => rfl)) pe_int (fun _ _ => rfl)) (pv 8) (nomark _)))) (fun _ _ _ _ _ => (pe_ix (ix_listK K) (pv 1) (pv 12) (fun _ _ => rfl)))) pa_nil))))
      (pss_one (ps_if (pt_not (pt_chain op_le op_le (pe_op op_sub pe_int (pv 10)) (pv 11) (pv 9))) (pss_one (ps_ret pe_bl)) pss_nil)))) pss_nil))))
      (pss_one (ps_ret pe_bl))))))), ?_⟩
    refine ⟨_, rfl, M, _, rfl, SqT.of hM.m, rfl, _, _, rfl, _, _, rfl, _, _, rfl, _, _, rfl, rfl, ?_⟩
    refine ⟨_, rfl, ?_⟩
    refine ⟨gp, rs, rfl, hM.gp, hM.kt, hM.nsh, hM.lz, fun sr H1 L s1 nsr hsr eL mL => ?_⟩
    have lL : L.length ≤ 1000 := Nat.le_trans (canon_le eL) hM.lr
    have kt : KeyTups H1 L := fun y hy => s1 _ _ (hM.kt y (mL y hy))
    have M1 := hM.same s1
    have ha1 := s1 _ _ ha
    have lc : (canon (rs.map (·.1))).length = L.length := by rw [← eL, List.length_map]
    refine ⟨_, rfl, _, _, _, _, true, rfl, .ty _, .base (.lst ha1), kit_ty (by decide +kernel), true, rfl, iteF ?_⟩
    refine ⟨_, rfl, a, _, rfl, .inl (SqL.of ha1), _, rfl, sr, _, rfl, .inl (SqL.of hsr), ?_⟩
    rw [List.length_map, List.length_map]
    refine ⟨rfl, _, rfl, ?_⟩
    by_cases el : as.length = L.length
    case neg =>
      refine iteTe (by simp; omega) ?_
      have e0 : lamtB ts (canon (rs.map (·.1))) r l G as = false := by
        unfold lamtB
        rw [decide_eq_false (fun z => el (by omega)), Bool.false_and]
      rw [e0] at q
      exact q _ s1
    refine iteFe (by rw [el]; simp) ?_
    have e1 : lamtB ts (canon (rs.map (·.1))) r l G as = ((as.all fun i => decide (0 ≤ i) && decide (i ≤ 999999999999)) && ts.all fun t => fixB G t || inPr r l G t (surN t (canon (rs.map (·.1))) as)) := by
      unfold lamtB
      rw [decide_eq_true (by omega), Bool.true_and]
    rw [e1] at q
    refine ⟨_, rfl, a, rfl, ⟨_, SqL.of ha1⟩, ?_⟩
    refine for_it (walk_list (xs := as.map V.int)) (fun k σ Hk => ∃ o7 : Option V, σ = [some (.ref M), some (.ref a), some (.ref an), some (.ref gp), some (.ref d0), some (.ref T), some (.ref sr), o7, none, none, none, none, none] ∧ Hk = H1 ∧ (as.take k).all (fun i => decide (0 ≤ i) && decide (i ≤ 999999999999)) = true)
      ⟨_, rfl, rfl, rfl⟩ (fun k σ Hk _ h => by
        obtain ⟨_, _, e, _⟩ := h
        rw [e]
        exact SqL.of ha1) ?_ ?_
    · rintro k v σ Hz Hk hk ⟨o7, rfl, rfl, al⟩ ⟨rfl, hv⟩
      have hk' : k < as.length := by rwa [List.length_map] at hk
      rw [List.getElem?_map, List.getElem?_eq_getElem hk'] at hv
      cases hv
      refine ⟨_, rfl, _, _, _, _, true, rfl, .ty _, .base (.int _), kit_ty (by decide +kernel), true, rfl, iteF ?_⟩
      refine ⟨_, rfl, _, _, _, _, false, rfl, .ty _, .base (.int _), kit_ty (by decide +kernel), _, rfl, iteF ?_⟩
      have bad : (decide (0 ≤ as[k]) && decide (as[k] ≤ 999999999999)) = false → Q (.bl false) Hk := fun e => by
        have : (as.all fun i => decide (0 ≤ i) && decide (i ≤ 999999999999)) = false := by
          rw [Bool.eq_false_iff]
          intro z
          have := List.all_eq_true.mp z _ (List.getElem_mem hk')
          rw [e] at this
          cases this
        rw [this, Bool.false_and] at q
        exact q _ s1
      have good : (decide (0 ≤ as[k]) && decide (as[k] ≤ 999999999999)) = true → ((as.take (k + 1)).all fun i => decide (0 ≤ i) && decide (i ≤ 999999999999)) = true := fun e => by
        rw [take_snoc (List.getElem?_eq_getElem hk'), List.all_append, al, List.all_cons, e]
        rfl
      generalize as[k] = n at bad good
      refine ⟨_, rfl, 0, n, rfl, rfl, _, rfl, ?_⟩
      by_cases h0 : 0 ≤ n
      case neg =>
        refine iteFe (decide_eq_false h0) ?_
        refine ⟨_, rfl, iteT ?_⟩
        exact bad (by rw [decide_eq_false h0]; rfl)
      refine iteTe (decide_eq_true h0) ?_
      refine ⟨10, 12, rfl, rfl, ⟨by decide, by decide, by decide⟩, _, _, rfl, rfl, _, rfl, ?_⟩
      have e12 : decide (n < 10 ^ (12 : Int).toNat) = decide (n ≤ 999999999999) := by
        have : (10 : Int) ^ (12 : Int).toNat = 1000000000000 := by decide
        rw [this, Bool.eq_iff_iff, decide_eq_true_iff, decide_eq_true_iff]
        omega
      rw [e12]
      rw [decide_eq_true h0, Bool.true_and] at bad good
      cases e3 : decide (n ≤ 999999999999) with
      | false => exact iteT (bad e3)
      | true => exact iteF ⟨_, rfl, rfl, good e3⟩
    · rintro σ HX ⟨o7, rfl, rfl, al⟩
      rw [List.length_map, List.take_length] at al
      rw [al, Bool.true_and] at q
      refine ⟨_, rfl, an, rfl, ⟨_, SqL.of M1.an⟩, ?_⟩
      obtain ⟨cs, ecs⟩ : ∃ cs, canon (rs.map (·.1)) = cs := ⟨_, rfl⟩
      rw [ecs] at q lc eL
      refine for_it (walk_list (xs := ts.map V.str)) (fun k σ Hk => ∃ o8 o9 o10 o11 : Option V, σ = [some (.ref M), some (.ref a), some (.ref an), some (.ref gp), some (.ref d0), some (.ref T), some (.ref sr), o7, o8, o9, o10, o11, none] ∧ Same HX Hk ∧ (ts.take k).all (fun t => fixB G t || inPr r l G t (surN t cs as)) = true)
        ⟨_, _, _, _, rfl, Same.refl _, rfl⟩ (fun k σ Hk _ h => by
          obtain ⟨_, _, _, _, _, s, _⟩ := h
          exact SqL.of (s _ _ M1.an)) ?_ ?_
      · rintro k v σ Hz Hk hk ⟨o8, o9, o10, o11, rfl, sk, al2⟩ ⟨rfl, hv⟩
        obtain ⟨t, ht, rfl⟩ := get_map hv
        have mt := List.mem_of_getElem? ht
        have Mk := M1.same sk
        have d3 : DGet Hk d (V.str t) ((valO G t).map optV) := by
          have := DGet.k (k := Sum.inr t) Mk.deal.d
          rwa [val_own] at this
        have bad : (fixB G t || inPr r l G t (surN t cs as)) = false → ∀ H', Same H H' → Q (.bl false) H' := fun e H' s' => by
          have : (ts.all fun t => fixB G t || inPr r l G t (surN t cs as)) = false := by
            rw [Bool.eq_false_iff]
            intro z
            have := List.all_eq_true.mp z _ mt
            rw [e] at this
            cases this
          rw [this] at q
          exact q _ s'
        have good : (fixB G t || inPr r l G t (surN t cs as)) = true → ((ts.take (k + 1)).all fun t => fixB G t || inPr r l G t (surN t cs as)) = true := fun e => by
          rw [take_snoc ht, List.all_append, al2, List.all_cons, e]
          rfl
        refine ⟨_, rfl, T, _, 2, .ref d, rfl, rfl, SqT.of Mk.deal.t, atI_nat (j := 2) rfl, d, rfl, .inl ⟨_, Rd.of Mk.deal.d⟩, _, rfl, ?_⟩
        refine ⟨_, rfl, T, _, 0, .int r, rfl, rfl, SqT.of Mk.deal.t, atI_nat (j := 0) rfl, _, d3, ?_⟩
        refine ⟨_, rfl, T, _, 2, .ref d, rfl, rfl, SqT.of Mk.deal.t, atI_nat (j := 2) rfl, d, rfl, .inl ⟨_, Rd.of Mk.deal.d⟩, _, rfl, _, rfl, T, _, 1, .int l, rfl, rfl, SqT.of Mk.deal.t, atI_nat (j := 1) rfl, _, d3, ?_⟩
        have key : (((valO G t).map optV).getD (.int r) = .non ∧ fixB G t = true) ∨ ∃ u w : Int, ((valO G t).map optV).getD (.int r) = .int u ∧ ((valO G t).map optV).getD (.int l) = .int w ∧ pairN r l G t = (u, w) ∧ fixB G t = false := by
          unfold pairN fixB
          cases e : valO G t with
          | none => exact .inr ⟨r, l, rfl, rfl, rfl, rfl⟩
          | some o =>
            cases o with
            | none => exact .inl ⟨rfl, rfl⟩
            | some i => exact .inr ⟨i, i, rfl, rfl, rfl, rfl⟩
        generalize ((valO G t).map optV).getD (.int r) = up at key ⊢
        generalize ((valO G t).map optV).getD (.int l) = dn at key ⊢
        refine ⟨_, _, rfl, _, rfl, rfl, _, rfl, ?_⟩
        rcases key with ⟨rfl, fx⟩ | ⟨u, dw, rfl, rfl, ep, fx⟩
        · refine iteFe (by rw [decide_eq_true rfl]; rfl) ?_
          exact ⟨_, _, _, _, rfl, sk, good (by rw [fx]; rfl)⟩
        refine iteTe (by rw [decide_eq_false (fun z => nomatch z)]; rfl) ?_
        have hsrk := sk _ _ hsr
        have hak := sk _ _ ha1
        have ktk : KeyTups Hk L := fun y hy => sk _ _ (kt y hy)
        refine ⟨_, rfl, sr, _, rfl, .inl (SqL.of hsrk), _, rfl, Int.natCast_nonneg _, by rw [List.length_map]; omega, fun D hD => ?_⟩
        refine lc_acc (walk_range (lo := 0)) hD (fun i => (((cs.zip as).take i).filter (fun p => decide (p.1.high = some t))).map fun p => V.int p.2) rfl (by rw [List.length_map]; simp; omega) (fun i => by
          rw [List.length_map]
          have h1 := List.length_filter_le (fun p : Rule × Int => decide (p.1.high = some t)) ((cs.zip as).take i)
          rw [List.length_take] at h1
          omega) (fun X s => True.intro) ?_ ?_
        · rintro i y Y Y' R Lk hi s3 ⟨rfl, rfl⟩ hR hL
          rw [List.length_map] at hi
          have hi' : i < L.length := by simpa using hi
          have hia : i < as.length := by omega
          have ei : ((0 : Int) + ((i : Nat) : Int)) = (i : Int) := Int.zero_add _
          have hic : i < cs.length := by omega
          have ec : cs[i] = (L[i]).1 := by
            have : (L.map (·.1))[i]'(by rw [List.length_map]; exact hi') = (L[i]).1 := List.getElem_map _
            rw [← this]
            simp only [eL]
          have hz : (cs.zip as)[i]? = some ((L[i]).1, as[i]) := by
            rw [List.getElem?_zip_eq_some]
            exact ⟨by rw [List.getElem?_eq_getElem hic, ec], List.getElem?_eq_getElem hia⟩
          have ef := congrArg (List.map fun p : Rule × Int => V.int p.2) (filt_at (fun p : Rule × Int => decide (p.1.high = some t)) _ hz)
          rw [List.map_append] at ef
          have kt3 := s3 _ _ (ktk _ (List.getElem_mem hi'))
          refine ⟨rfl, ?_⟩
          refine ⟨_, rfl, _, rfl, sr, _, _, .ref (L[i]).2, rfl, rfl, SqL.of (s3 _ _ hsrk), by rw [ei]; exact atI_nat (by rw [List.getElem?_map, List.getElem?_eq_getElem hi']; rfl), ?_⟩
          refine ⟨(L[i]).2, _, 1, _, rfl, rfl, SqT.of kt3, atI_nat (j := 1) rfl, _, rfl, scal_ends (L[i]).1.high (some t), ?_⟩
          rw [show decide (endV (L[i]).1.high = V.str t) = decide ((L[i]).1.high = some t) from ends_dec _ (some t)]
          refine ⟨_, rfl, ?_⟩
          by_cases h : (L[i]).1.high = some t
          · refine iteTe (decide_eq_true h) ⟨_, rfl, _, rfl, a, _, _, .int as[i], rfl, rfl, SqL.of (s3 _ _ hak), by rw [ei]; exact atI_nat (by rw [List.getElem?_map, List.getElem?_eq_getElem hia]; rfl), hR _ _ ?_ (Same.refl _)⟩
            rw [ef, decide_eq_true h, if_pos rfl]
            rfl
          · refine iteFe (decide_eq_false h) (hL _ ?_ (Same.refl _))
            rw [ef, decide_eq_false h, if_neg (fun z => nomatch z)]
            exact List.append_nil _
        · intro H4 s4 hD4
          have lz : (cs.zip as).take ((L.map fun x => V.ref x.2).length : Int).toNat = cs.zip as := by
            refine List.take_of_length_le ?_
            rw [List.length_zip, List.length_map]
            simp
            omega
          rw [lz] at hD4
          refine ⟨D, pairR (fun r => decide (r.high = some t)) cs as, rfl, SqL.of (by unfold pairR; rw [List.map_map]; exact hD4), ?_⟩
          have hsr4 := s4 _ _ hsrk
          have ha4 := s4 _ _ hak
          have kt4 : KeyTups H4 L := fun y hy => s4 _ _ (ktk y hy)
          refine ⟨_, rfl, _, rfl, sr, _, rfl, .inl (SqL.of hsr4), _, rfl, Int.natCast_nonneg _, by rw [List.length_map]; omega, fun D2 hD2 => ?_⟩
          refine lc_acc (walk_range (lo := 0)) hD2 (fun i => (((cs.zip as).take i).filter (fun p => decide (p.1.low = some t))).map fun p => V.int p.2) rfl (by rw [List.length_map]; simp; omega) (fun i => by
            rw [List.length_map]
            have h1 := List.length_filter_le (fun p : Rule × Int => decide (p.1.low = some t)) ((cs.zip as).take i)
            rw [List.length_take] at h1
            omega) (fun X s => True.intro) ?_ ?_
          · rintro i y Y Y' R Lk hi s3 ⟨rfl, rfl⟩ hR hL
            rw [List.length_map] at hi
            have hi' : i < L.length := by simpa using hi
            have hia : i < as.length := by omega
            have ei : ((0 : Int) + ((i : Nat) : Int)) = (i : Int) := Int.zero_add _
            have hic : i < cs.length := by omega
            have ec : cs[i] = (L[i]).1 := by
              have : (L.map (·.1))[i]'(by rw [List.length_map]; exact hi') = (L[i]).1 := List.getElem_map _
              rw [← this]
              simp only [eL]
            have hz : (cs.zip as)[i]? = some ((L[i]).1, as[i]) := by
              rw [List.getElem?_zip_eq_some]
              exact ⟨by rw [List.getElem?_eq_getElem hic, ec], List.getElem?_eq_getElem hia⟩
            have ef := congrArg (List.map fun p : Rule × Int => V.int p.2) (filt_at (fun p : Rule × Int => decide (p.1.low = some t)) _ hz)
            rw [List.map_append] at ef
            have kt3 := s3 _ _ (kt4 _ (List.getElem_mem hi'))
            refine ⟨rfl, ?_⟩
            refine ⟨_, rfl, _, rfl, sr, _, _, .ref (L[i]).2, rfl, rfl, SqL.of (s3 _ _ hsr4), by rw [ei]; exact atI_nat (by rw [List.getElem?_map, List.getElem?_eq_getElem hi']; rfl), ?_⟩
            refine ⟨(L[i]).2, _, 0, _, rfl, rfl, SqT.of kt3, atI_nat (j := 0) rfl, _, rfl, scal_ends (L[i]).1.low (some t), ?_⟩
            rw [show decide (endV (L[i]).1.low = V.str t) = decide ((L[i]).1.low = some t) from ends_dec _ (some t)]
            refine ⟨_, rfl, ?_⟩
            by_cases h : (L[i]).1.low = some t
            · refine iteTe (decide_eq_true h) ⟨_, rfl, _, rfl, a, _, _, .int as[i], rfl, rfl, SqL.of (s3 _ _ ha4), by rw [ei]; exact atI_nat (by rw [List.getElem?_map, List.getElem?_eq_getElem hia]; rfl), hR _ _ ?_ (Same.refl _)⟩
              rw [ef, decide_eq_true h, if_pos rfl]
              rfl
            · refine iteFe (decide_eq_false h) (hL _ ?_ (Same.refl _))
              rw [ef, decide_eq_false h, if_neg (fun z => nomatch z)]
              exact List.append_nil _
          intro H5 s5 hD5
          rw [lz] at hD5
          refine ⟨D2, pairR (fun r => decide (r.low = some t)) cs as, rfl, SqL.of (by unfold pairR; rw [List.map_map]; exact hD5), ?_⟩
          refine ⟨_, _, rfl, rfl, ?_⟩
          have sx := (sk.trans s4).trans s5
          have eI : inPr r l G t (surN t cs as) = (decide (0 - dw ≤ surN t cs as) && decide (surN t cs as ≤ u)) := by
            unfold inPr
            rw [ep, Int.zero_sub]
          rw [eI, fx, Bool.false_or] at bad good
          refine ⟨_, rfl, 0, dw, rfl, rfl, _, rfl, 0 - dw, surN t cs as, rfl, rfl, _, rfl, ?_⟩
          by_cases h0 : 0 - dw ≤ surN t cs as
          case neg =>
            refine iteFe (decide_eq_false h0) ?_
            refine ⟨_, rfl, iteT ?_⟩
            exact bad (by rw [decide_eq_false h0]; rfl) _ (s1.trans sx)
          refine iteTe (decide_eq_true h0) ?_
          refine ⟨_, rfl, surN t cs as, u, rfl, rfl, _, rfl, ?_⟩
          rw [decide_eq_true h0, Bool.true_and] at bad good
          cases e3 : decide (surN t cs as ≤ u) with
          | false => exact iteT (bad e3 _ (s1.trans sx))
          | true => exact iteF ⟨_, _, _, _, rfl, sx, good e3⟩
      · rintro σ Hk ⟨o8, o9, o10, o11, rfl, sk, al2⟩
        rw [List.length_map, List.take_length] at al2
        rw [al2] at q
        exact q _ (s1.trans sk)
end
end Wnd

/-! models drawn by the law -/
namespace Wnd
open PySem PySem.Spec PyProof.Rows L2
abbrev s_law_model : Stmt := top 55
theorem sc_law_model : FnScope ["_law_pen_here", "_law_most", "_law_many", "_law_nyms_here", "_law_gaps_here", "_law_goals", "_law_old"] ["_law_pen_here", "_law_most", "_law_many"] (defScope s_law_model) := ⟨rfl, rfl, rfl, by decide +kernel, rfl, by decide +kernel, by decide +kernel⟩
section
variable {P : Program} {w : World} {K : PySem.W.Frag} {mg : Str → Option Value} {base : Heap}
theorem penL {H : Hp} {p c : Addr} {n : Nat} (h : PenAt H p c n) : ∃ ys, H p = some (.lst ys) := by
  obtain ⟨cs, i, z, g1, g2, g3, g4⟩ := h
  exact ⟨_, g4⟩
structure PreM (X : Hp) (an bg gl d1 d2 : Addr) (ts : List Str) (rs : List (Rule × Addr)) (g1 g2 : List (Str × Int)) : Prop where
  an : X an = some (.lst (ts.map V.str))
  bg : X bg = some (.lst (rs.map fun x => V.ref x.2))
  kt : KeyTups X rs
  gl : X gl = some (.lst [.ref d1, .ref d2])
  one : DictAt X ts d1 g1
  two : DictAt X ts d2 g2
theorem PreM.same {X Y : Hp} {an bg gl d1 d2 : Addr} {ts : List Str} {rs : List (Rule × Addr)} {g1 g2 : List (Str × Int)} (h : PreM X an bg gl d1 d2 ts rs g1 g2) (s : Same X Y) : PreM Y an bg gl d1 d2 ts rs g1 g2 :=
  ⟨s _ _ h.an, s _ _ h.bg, fun x hx => s _ _ (h.kt x hx), s _ _ h.gl, h.one.same s, h.two.same s⟩
theorem PreM.but {p c : Addr} {n : Nat} {X Y : Hp} {an bg gl d1 d2 : Addr} {ts : List Str} {rs : List (Rule × Addr)} {g1 g2 : List (Str × Int)} (h : PreM X an bg gl d1 d2 ts rs g1 g2) (P : PenAt X p c n) (b : But p X Y) : PreM Y an bg gl d1 d2 ts rs g1 g2 :=
  ⟨b _ _ h.an (P.ne_strs h.an), b _ _ h.bg (P.ne_refs (L := rs.map (·.2)) (by rw [List.map_map]; exact h.bg)), fun x hx => b _ _ (h.kt x hx) (P.ne_of (h.kt x hx) fun _ z => nomatch z), b _ _ h.gl (P.ne_refs (L := [d1, d2]) h.gl), h.one.but b (penL P), h.two.but b (penL P)⟩
/-- numbers that keep all rules -/
def Kept (ts : List Str) (rs : List (Rule × Addr)) : Prop := ∃ g : List (Str × Int), g.map (·.1) = ts ∧ (∀ x ∈ g, -900 ≤ x.2 ∧ x.2 ≤ 900) ∧ ∀ x ∈ rs, Holds g x.1
def spModelD : Sp := fun vs H Q _ => ∃ (p c : Addr) (n m k : Nat), vs = [.ref p, .int m, .int k] ∧ PenAt H p c n ∧ n ≤ 500000 ∧ m ≤ 20 ∧ k ≤ 200 ∧
  ∀ M an gp d0 T d ts rs g r l G H' n', But p H H' → ModelAt H' M an gp d0 T d ts rs g r l G → H M = none → H an = none → H d0 = none → H T = none → H d = none → (∀ t ∈ ts, t ∈ nymPool) → ts.length ≤ m → rs.length ≤ 2 * k → Kept ts rs → g.map (·.1) = ts → (∀ x ∈ g, -900 ≤ x.2 ∧ x.2 ≤ 900) → G.length ≤ 26 → PenAt H' p c n' → n' ≤ n + 5 * m + 4 * k + 80 → Q (.ref M) H'
set_option maxHeartbeats 4000000 in
theorem ok_modelD {f : Addr} {fd : FuncData} (D : DefAt K mg "_law_model" s_law_model ["_law_pen_here", "_law_most", "_law_many"] f fd) (O_law_draw : Ok P w K mg base 2 "_law_draw" ["_law_pen_here", "_law_under"] spDraw) (O_law_goal : Ok P w K mg base 3 "_law_goal" ["_law_pen_here", "_law_nyms_here"] (spGoal K)) (O_law_drawn : Ok P w K mg base 5 "_law_drawn" ["_law_pen_here", "_law_most", "_law_many"] spDrawn)
    (O_law_deal : Ok P w K mg base 3 "_law_deal" ["_law_pen_here", "_law_nyms_here"] spDeal) : Ok P w K mg base 6 "_law_model" ["_law_pen_here", "_law_most", "_law_many"] spModelD := by
  refine D.ok (D.fn.ok sc_law_model (fun vs H Q E h => ?_) (fun cdv A outer s H vs Q E hr h => ?_))
  · obtain ⟨p, c, n, m, k, rfl, _⟩ := h
    rfl
  · obtain ⟨p, c, n, m, k, rfl, Pc, hn, hm, hk', q⟩ := h
    have nd := sc_law_model.nd
    refine ⟨_, (pss_cons (ps_asg (pe_own O_law_drawn (hr.mono (by decide)) (pa_cons (pv 0) (pa_cons (pv 1) (pa_cons (pv 2) pa_nil)))) (pg_tup rfl (pgs_cons (pg_name (i := 3) nd rfl (Or.inl rfl)) (pgs_cons (pg_name (i := 4) nd rfl (Or.inl rfl)) (pgs_cons (pg_name (i := 5) nd rfl (Or.inl rfl)) pgs_nil)))))
      (pss_cons (ps_set (i := 6) nd rfl (Or.inl rfl) (pe_ix ix_list (pe_lst (pa_cons (pe_ix ix_list (pv 5) pe_int (fun _ _ => rfl)) (pa_cons (pe_ix ix_list (pv 5) pe_int (fun _ _ => rfl)) (pa_cons (pe_own O_law_goal (hr.mono (by decide)) (pa_cons (pv 0) (pa_cons (pv 3) pa_nil))) pa_nil)))) (pe_own O_law_draw (hr.mono (by decide)) (pa_cons (pv 0) (pa_cons pe_int pa_nil))) (fun _ _ => rfl)))
      (pss_one (ps_ret (pe_tup (pa_cons (pv 3) (pa_cons (pv 4) (pa_cons (pv 6) (pa_cons (pe_own O_law_deal (hr.mono (by decide)) (pa_cons (pv 0) (pa_cons (pv 3) pa_nil))) pa_nil))))))))), ?_⟩
    refine ⟨_, rfl, _, rfl, _, rfl, p, c, n, m, k, rfl, Pc, by omega, by omega, by omega, fun t an bg gl H2 n2 ts rs d1 d2 g1 g2 b2 nt nan nbg ngl nd1 nd2 ht han N mem hlen hbg hk hro hrl hgl hd1 hd2 k1 k2 v1 v2 hol P2 hn2 => ?_⟩
    refine ⟨t, _, rfl, SqT.of ht, rfl, _, _, rfl, _, _, rfl, _, _, rfl, rfl, ?_⟩
    have Y2 : PreM H2 an bg gl d1 d2 ts rs g1 g2 := ⟨han, hbg, hk, hgl, ⟨hd1, by rw [k1], fun x hx => by have := v1 x hx; omega⟩, ⟨hd2, by rw [k2], fun x hx => by have := v2 x hx; omega⟩⟩
    have pP : p ≠ an := by
      intro e
      obtain ⟨ys, hy⟩ := penL Pc
      rw [← e, hy] at nan
      cases nan
    obtain ⟨ysP, hyP⟩ := penL Pc
    clear ht hgl nt nbg ngl han hbg hk hd1 hd2
    refine ⟨_, rfl, gl, _, 0, .ref d1, rfl, rfl, SqL.of Y2.gl, atI_nat (j := 0) rfl, ?_⟩
    refine ⟨_, rfl, gl, _, 1, .ref d2, rfl, rfl, SqL.of Y2.gl, atI_nat (j := 1) rfl, ?_⟩
    have lN := N.2.2
    refine ⟨_, rfl, _, rfl, p, c, an, n2, ts, rfl, P2, by omega, Y2.an, N.1, by omega, fun r1 H3 n3 gq b3 nr1 hr1 e3 v3 P3 hn3 => ?_⟩
    have Y3 := Y2.but P2 b3
    have R3 : DictAt H3 ts r1 gq := ⟨hr1, by rw [e3], fun x hx => by have := v3 x hx; omega⟩
    have bH3 := b2.trans b3
    have nr1H : H r1 = none := by
      cases e : H r1 with
      | none => rfl
      | some o =>
        by_cases z : r1 = p
        · obtain ⟨ys, hy⟩ := penL P2
          rw [z, hy] at nr1
          cases nr1
        · rw [b2 _ _ e z] at nr1
          cases nr1
    refine ⟨by show 3 ≤ sizeLine; decide, fun l3 nl3 => ?_⟩
    have u4 := same_new (o := .lst [.ref d1, .ref d2, .ref r1]) nl3
    have hl3 : (upd H3 l3 (.lst [.ref d1, .ref d2, .ref r1])) l3 = some (.lst [.ref d1, .ref d2, .ref r1]) := upd_same
    have Y4 := Y3.same u4
    have R4 := R3.same u4
    have P4 := P3.same u4
    have bH4 := bH3.trans (But.of u4)
    generalize upd H3 l3 (.lst [.ref d1, .ref d2, .ref r1]) = H4 at u4 hl3 Y4 R4 P4 bH4 ⊢
    clear Y2 Y3 R3 b3 nr1 hr1 P2 P3 u4 nl3 bH3
    refine ⟨_, rfl, p, c, n3, 3, rfl, P4, by omega, by decide, by decide, fun e H5 he0 he1 b5 P5 => ?_⟩
    have Y5 := Y4.but P4 b5
    have hl5 := b5 _ _ hl3 (P4.ne_refs (L := [d1, d2, r1]) hl3)
    have R5 := R4.but b5 (penL P4)
    have bH5 := bH4.trans b5
    obtain ⟨ei, rfl⟩ := Int.eq_ofNat_of_zero_le he0
    have pick3 : ∃ dM gM, atI [V.ref d1, .ref d2, .ref r1] (ei : Int) = some (.ref dM) ∧ DictAt H5 ts dM gM ∧ (∀ x ∈ gM, -900 ≤ x.2 ∧ x.2 ≤ 900) ∧ gM.map (·.1) = ts ∧ H dM = none := by
      have h3 : ei < 3 := by omega
      match ei, h3 with
      | 0, _ => exact ⟨d1, g1, atI_nat (j := 0) rfl, Y5.one, v1, k1, nd1⟩
      | 1, _ => exact ⟨d2, g2, atI_nat (j := 1) rfl, Y5.two, v2, k2, nd2⟩
      | 2, _ => exact ⟨r1, gq, atI_nat (j := 2) rfl, R5, v3, e3, nr1H⟩
    obtain ⟨dM, gM, hat, M5, vM, kM, ndM⟩ := pick3
    refine ⟨l3, _, (ei : Int), .ref dM, rfl, rfl, SqL.of hl5, hat, ?_⟩
    clear hl3 hl5 hat R4 R5 Y4 P4 he0 he1 b5 bH4
    refine ⟨_, rfl, _, rfl, _, rfl, _, rfl, _, rfl, p, c, an, n3 + 1, ts, rfl, P5, by omega, Y5.an, N.2.1, by omega, fun T d r l' G H6 n6 b6 nT nd' hT lG26 P6 hn6 => ?_⟩
    have Y6 := Y5.but P5 b6
    have M6 := M5.but b6 (penL P5)
    have bH6 := bH5.trans b6
    have back : ∀ z, H5 z = none → H z = none := fun z hz => by
      cases e : H z with
      | none => rfl
      | some o =>
        by_cases y : z = p
        · obtain ⟨ys, hy⟩ := penL P5
          rw [y, hy] at hz
          cases hz
        · rw [bH5 _ _ e y] at hz
          cases hz
    refine ⟨by show 4 ≤ sizeLine; decide, fun M nM => ?_⟩
    have u7 := same_new (o := .tup [.ref an, .ref bg, .ref dM, .ref T]) nM
    have Y7 := Y6.same u7
    have M7 := M6.same u7
    refine q M an bg dM T d ts rs gM r l' G _ n6 (bH6.trans (But.of u7)) ⟨upd_same, Y7.an, N, Y7.bg, Y7.kt, hro, by omega, M7.at_, ⟨M7.keys, M7.bnd⟩, hT.same u7⟩ ?_ nan ndM (back _ nT) (back _ nd') mem hlen hrl ⟨g1, k1, v1, hol⟩ kM vM lG26 (P6.same u7) (by omega)
    cases e : H M with
    | none => rfl
    | some o =>
      by_cases y : M = p
      · obtain ⟨ys, hy⟩ := penL P6
        rw [y, hy] at nM
        cases nM
      · rw [bH6 _ _ e y] at nM
        cases nM
end
end Wnd

/-! amounts drawn by the law -/
namespace Wnd
open PySem PySem.Spec PyProof.Rows L2
abbrev s_law_amounts : Stmt := top 60
theorem sc_law_amounts : FnScope ["_law_pen_here", "_law_model_here", "_law_asks", "_law_found", "_law_turn", "_law_size", "_law_spot", "_law_k", "_law_good", "_law_j"] ["_law_pen_here", "_law_model_here"] (defScope s_law_amounts) := ⟨rfl, rfl, rfl, by decide +kernel, rfl, by decide +kernel, by decide +kernel⟩
section
variable {P : Program} {w : World} {K : PySem.W.Frag} {mg : Str → Option Value} {base : Heap}
def spAmounts : Sp := fun vs H Q _ => ∃ (p c : Addr) (n : Nat) (M an gp d0 T d : Addr) (ts : List Str) (rs : List (Rule × Addr)) (g : List (Str × Int)) (r l : Int) (G : Own), vs = [.ref p, .ref M] ∧ PenAt H p c n ∧ n ≤ 900000 ∧ ModelAt H M an gp d0 T d ts rs g r l G ∧
  ∀ a H' n' (as : List Int), But p H H' → H a = none → H' a = some (.lst (as.map V.int)) → as.length = (canon (rs.map (·.1))).length → (∀ i ∈ as, 0 ≤ i ∧ i ≤ 1000) → PenAt H' p c n' → n' ≤ n + 60 → Q (.ref a) H'
/-- a place of the list, or none yet -/
def spotV (o : Option Nat) : V := match o with | none => .non | some j => .int j
structure AmAt (H X : Hp) (p c sr a : Addr) (L : List (Rule × Addr)) (as : List Int) (m : Nat) (top : Int) : Prop where
  but : But p H X
  sr : X sr = some (.lst (L.map fun x => V.ref x.2))
  kt : KeyTups X L
  a : X a = some (.lst (as.map V.int))
  len : as.length = L.length
  bnd : ∀ i ∈ as, 0 ≤ i ∧ i ≤ top
  pen : PenAt X p c m
theorem AmAt.same {H X Y : Hp} {p c sr a : Addr} {L : List (Rule × Addr)} {as : List Int} {m : Nat} {top : Int} (h : AmAt H X p c sr a L as m top) (s : Same X Y) : AmAt H Y p c sr a L as m top :=
  ⟨h.but.trans (But.of s), s _ _ h.sr, fun y hy => s _ _ (h.kt y hy), s _ _ h.a, h.len, h.bnd, h.pen.same s⟩
theorem AmAt.step {H X Y : Hp} {p c sr a : Addr} {L : List (Rule × Addr)} {as : List Int} {m m' : Nat} {top : Int} (h : AmAt H X p c sr a L as m top) (np : a ≠ p) (b : But p X Y) (P : PenAt Y p c m') : AmAt H Y p c sr a L as m' top :=
  ⟨h.but.trans b, b _ _ h.sr (h.pen.ne_refs (L := L.map (·.2)) (by rw [List.map_map]; exact h.sr)), fun y hy => b _ _ (h.kt y hy) (h.pen.ne_of (h.kt y hy) fun _ z => nomatch z), b _ _ h.a np, h.len, h.bnd, P⟩
theorem AmAt.le {H X : Hp} {p c sr a : Addr} {L : List (Rule × Addr)} {as : List Int} {m m' : Nat} {top top' : Int} (h : AmAt H X p c sr a L as m top) (hm : m ≤ m') (ht : top ≤ top') : AmAt H X p c sr a L as m' top' :=
  ⟨h.but, h.sr, h.kt, h.a, h.len, fun i hi => by have := h.bnd i hi; omega, h.pen.le hm⟩
theorem AmAt.put {H X : Hp} {p c sr a : Addr} {L : List (Rule × Addr)} {as as' : List Int} {m : Nat} {top top' : Int} (h : AmAt H X p c sr a L as m top) (nap : a ≠ p) (nac : a ≠ c) (nsa : sr ≠ a) (ha : H a = none) (hl : as'.length = as.length) (hb : ∀ i ∈ as', 0 ≤ i ∧ i ≤ top') : AmAt H (L2.upd X a (.lst (as'.map V.int))) p c sr a L as' m top' :=
  ⟨fun b o hb' n => by rw [upd_ne (ne_of_none hb' ha)]; exact h.but _ _ hb' n, by rw [upd_ne nsa]; exact h.sr, fun y hy => by rw [upd_ne (ne_of (h.kt y hy) h.a fun z => nomatch z)]; exact h.kt y hy, upd_same, hl.trans h.len, hb, h.pen.upd nap nac⟩
theorem rep_zero (k : Nat) : (List.replicate k [V.int 0]).flatten = (List.replicate k (0 : Int)).map V.int := by
  induction k with
  | zero => rfl
  | succ k ih => rw [List.replicate_succ, List.replicate_succ, List.flatten_cons, ih]; rfl
set_option maxHeartbeats 4000000 in
theorem ok_lAmounts {f : Addr} {fd : FuncData} (D : DefAt K mg "_law_amounts" s_law_amounts ["_law_pen_here", "_law_model_here"] f fd) (B : Blt3 mg) (O_law_sorted : Ok P w K mg base 2 "_law_sorted" ["_law_gaps_here"] spSorted) (O_law_draw : Ok P w K mg base 2 "_law_draw" ["_law_pen_here", "_law_under"] spDraw) : Ok P w K mg base 3 "_law_amounts" ["_law_pen_here", "_law_model_here"] spAmounts := by
  refine D.ok (D.fn.ok sc_law_amounts (fun vs H Q E h => ?_) (fun cdv A outer s H vs Q E hr h => ?_))
  · obtain ⟨p, c, n, M, an, gp, d0, T, d, ts, rs, g, r, l, G, rfl, _⟩ := h
    rfl
  · obtain ⟨p, c, n, M, an, gp, d0, T, d, ts, rs, g, r, l, G, rfl, Pc, hn, hM, q⟩ := h
    have nd := sc_law_amounts.nd
    have big : sizeLine > 100000 := by decide
    refine ⟨_, (pss_cons (ps_set (i := 2) nd rfl (Or.inr rfl) (pe_own O_law_sorted (hr.mono (by decide)) (pa_cons (pe_ix ix_tup (pv 1) pe_int (fun _ _ => rfl)) pa_nil)))
      (pss_cons (ps_set (i := 3) nd rfl (Or.inl rfl) (pe_op op_rep (pe_lst (pa_cons pe_int pa_nil)) (pe_callB call_len_seq (by rfl) B.len PySem.boot_len (pa_cons (pv 2) pa_nil))))
      (pss_cons (ps_for PassesOwn.never rfl (pi_range1 (by rfl) B.range (pa_cons (pe_own O_law_draw (hr.mono (by decide)) (pa_cons (pv 0) (pa_cons pe_int pa_nil))) pa_nil)) (pg_name (i := 4) nd rfl (Or.inl rfl)) (pss_cons (ps_asg (pe_tup (pa_cons (pe_ix ix_list (pe_lst (pa_cons pe_int (pa_cons pe_int (pa_cons pe_int (pa_cons pe_int pa_nil))))) (pe_own O_law_draw (hr.mono (by decide)) (pa_cons (pv 0) (pa_cons pe_int pa_nil))) (fun _ _ => rfl)) (pa_cons pe_non pa_nil))) (pg_tup rfl (pgs_cons (pg_name (i := 5) nd rfl (Or.inl rfl)) (pgs_cons (pg_name (i := 6) nd rfl (Or.inr rfl)) pgs_nil))))
      (pss_one (ps_for PassesOwn.never rfl (pi_range1 (by rfl) B.range (pa_cons (pe_op op_add pe_int (pe_own O_law_draw (hr.mono (by decide)) (pa_cons (pv 0) (pa_cons pe_int pa_nil)))) pa_nil)) (pg_name (i := 7) nd rfl (Or.inl rfl)) (pss_cons (ps_setLc (i := 8) (own := [("_law_j", 9)]) (g := gName 9) (by rfl) nd rfl rfl (sw_true rfl rfl rfl (by decide +kernel)) (pi_range1 (by rfl) B.range (pa_cons (pe_callB call_len_seq (by rfl) B.len PySem.boot_len (pa_cons (pv 2) pa_nil)) pa_nil)) (blkOk_by (own := [("_law_j", 9)]) (N := ["_law_pen_here", "_law_model_here", "_law_asks", "_law_found", "_law_turn", "_law_size", "_law_spot", "_law_k", "_law_good", "_law_j"]) (sc := defScope s_law_amounts) (by decide +kernel)) (fun _ _ _ _ _ => (pg_name (i := 9) nd rfl (Or.inl rfl))) (fun _ _ _ _ _ => (pts_one (PW.pt (pw_or (pt_cmpR op_isN (pv 6) pe_non (nomark _)) (pw_or1 (pt_cmpR op_eq (pe_ix (ix_tupK K) (pe_ix (ix_listK K) (pv 2) (pv 9) (fun _ _ => rfl)) pe_int (fun _ _ => rfl)) (pe_ix (ix_tupK K) (pe_ix (ix_listK K) (pv 2) (pv 6) (fun _ _ => rfl)) pe_int (fun _ _ => rfl)) (nomark _))))))) (fun _ _ _ _ _ => (pv 9)))
      (pss_one (ps_if (pt_cmpR (op_neD (hu_of64 hr)) (pv 8) (pe_lst pa_nil) (nomark _)) (pss_cons (ps_set (i := 6) nd rfl (Or.inr rfl) (pe_ix ix_list (pv 8) (pe_own O_law_draw (hr.mono (by decide)) (pa_cons (pv 0) (pa_cons (pe_callB call_len_seq (by rfl) B.len PySem.boot_len (pa_cons (pv 8) pa_nil)) pa_nil))) (fun _ _ => rfl)))
      (pss_one (ps_asg (pe_op op_add (pe_ix ix_list (pv 3) (pv 6) (fun _ _ => rfl)) (pv 5)) (pg_sub (pv 3) (pv 6) set_list)))) pss_nil)))))))
      (pss_one (ps_ret (pv 3)))))), ?_⟩
    refine ⟨_, rfl, M, _, 1, .ref gp, rfl, rfl, SqT.of hM.m, atI_nat (j := 1) rfl, ?_⟩
    refine ⟨gp, rs, rfl, hM.gp, hM.kt, hM.nsh, hM.lz, fun sr H1 L s1 nsr hsr eL mL => ?_⟩
    have lL : L.length ≤ 1000 := Nat.le_trans (canon_le eL) hM.lr
    have kt : KeyTups H1 L := fun y hy => s1 _ _ (hM.kt y (mL y hy))
    have P1 := Pc.same s1
    refine ⟨by show 1 ≤ sizeLine; decide, fun l0 nl0 => ?_⟩
    have u2 := same_new (o := .lst [.int 0]) nl0
    have hl0 : (upd H1 l0 (.lst [.int 0])) l0 = some (.lst [.int 0]) := upd_same
    have s2 := s1.trans u2
    have hsr2 := u2 _ _ hsr
    have kt2 : KeyTups (upd H1 l0 (.lst [.int 0])) L := fun y hy => u2 _ _ (kt y hy)
    have P2 := P1.same u2
    generalize upd H1 l0 (.lst [.int 0]) = H2 at u2 hl0 s2 hsr2 kt2 P2 ⊢
    refine ⟨_, rfl, sr, _, rfl, .inl (SqL.of hsr2), l0, _, _, rfl, rfl, hl0, ?_, ?_, ?_, fun a na => ?_⟩
    · rw [List.length_map]; omega
    · rw [List.length_map]; omega
    · rw [List.length_map]
      show 1 * (L.length : Int).toNat ≤ sizeLine
      omega
    have naH : H a = none := s2.free na
    obtain ⟨nap, nac⟩ := P2.out na
    have nsa : sr ≠ a := ne_of_none hsr2 na
    have A3 : AmAt H (upd H2 a (.lst (List.replicate ((L.map fun x => V.ref x.2).length : Int).toNat [V.int 0]).flatten)) p c sr a L (List.replicate L.length 0) n 0 := by
      have u3 := same_new (o := .lst (List.replicate ((L.map fun x => V.ref x.2).length : Int).toNat [V.int 0]).flatten) na
      refine ⟨But.of (s2.trans u3), u3 _ _ hsr2, fun y hy => u3 _ _ (kt2 y hy), ?_, List.length_replicate, fun i hi => by have := List.eq_of_mem_replicate hi; omega, P2.same u3⟩
      rw [upd_same, rep_zero, List.length_map, Int.toNat_natCast]
    generalize upd H2 a (.lst (List.replicate ((L.map fun x => V.ref x.2).length : Int).toNat [V.int 0]).flatten) = H3 at A3 ⊢
    clear na u2 hl0 s2 hsr2 kt2 P2 P1 kt nl0 nsr hsr
    refine ⟨_, rfl, p, c, n, 5, rfl, A3.pen, by omega, by decide, by decide, fun e H4 he0 he1 b4 P4 => ?_⟩
    have A4 := A3.step nap b4 P4
    clear A3 b4 P4
    refine ⟨e, rfl, by omega, by omega, ?_⟩
    refine for_it (walk_range (lo := 0)) (fun j σ X => ∃ (o4 o5 o6 o7 o8 : Option V) (as : List Int), σ = [some (.ref p), some (.ref M), some (.ref sr), some (.ref a), o4, o5, o6, o7, o8, none] ∧ AmAt H X p c sr a L as (n + 1 + 6 * j) (20 * j))
      ⟨_, _, _, _, _, _, rfl, A4⟩ (fun _ _ _ _ _ => True.intro) ?_ ?_
    · clear A4
      rintro j x σ Hz X hj ⟨o4, o5, o6, o7, o8, as, rfl, Aj⟩ ⟨rfl, rfl⟩
      have hj : j < 5 := by simp at hj; omega
      refine ⟨by show 4 ≤ sizeLine; decide, fun l5 nl5 => ?_⟩
      have u5 := same_new (o := .lst [V.int 1, .int 1, .int 2, .int 5]) nl5
      have hl5 : (upd X l5 (.lst [V.int 1, .int 1, .int 2, .int 5])) l5 = some (.lst ([1, 1, 2, 5].map V.int)) := upd_same
      have A5 := Aj.same u5
      have nl5p := (Aj.pen.out nl5).1
      generalize upd X l5 (.lst [V.int 1, .int 1, .int 2, .int 5]) = H5 at u5 hl5 A5 ⊢
      refine ⟨_, rfl, p, c, _, 4, rfl, A5.pen, by omega, by decide, by decide, fun e5 H6 he50 he51 b6 P6 => ?_⟩
      have A6 := A5.step nap b6 P6
      have hl6 := b6 _ _ hl5 nl5p
      obtain ⟨z6, hz6, at6⟩ := pick (xs := [1, 1, 2, 5]) he50 (by show e5 < 4; exact he51)
      have hz6 : 0 ≤ z6 ∧ z6 ≤ 5 := by
        simp only [List.mem_cons, List.not_mem_nil, or_false] at hz6
        omega
      refine ⟨l5, _, e5, .int z6, rfl, rfl, SqL.of hl6, at6, by show 2 ≤ sizeLine; decide, fun T7 nT7 => ?_⟩
      have A7 := A6.same (same_new (o := .tup [V.int z6, .non]) nT7)
      refine ⟨T7, _, rfl, SqT.of upd_same, rfl, _, _, rfl, _, _, rfl, rfl, ?_⟩
      generalize upd H6 T7 (.tup [V.int z6, .non]) = H7 at A7 ⊢
      clear Aj u5 hl5 A5 nl5p he50 he51 b6 P6 A6 hl6 at6 nT7 nl5
      refine ⟨_, rfl, p, c, _, 4, rfl, A7.pen, by omega, by decide, by decide, fun e7 H8 he70 he71 b8 P8 => ?_⟩
      have A8 := A7.step nap b8 P8
      clear A7 b8 P8
      refine ⟨_, _, rfl, rfl, _, rfl, by omega, by omega, ?_⟩
      refine for_it (walk_range (lo := 0)) (fun k σ X => ∃ (o7 o8 : Option V) (sp : Option Nat) (as : List Int), σ = [some (.ref p), some (.ref M), some (.ref sr), some (.ref a), some (.int (0 + (j : Int))), some (.int z6), some (spotV sp), o7, o8, none] ∧ AmAt H X p c sr a L as (n + 1 + 6 * j + 2 + k) (20 * j + 5 * k) ∧ ∀ y, sp = some y → y < L.length)
        ⟨_, _, none, _, rfl, A8.le (by omega) (by omega), fun _ z => nomatch z⟩ (fun _ _ _ _ _ => True.intro) ?_ ?_
      · clear A8
        rintro k x σ Hz X hk ⟨o7, o8, sp, as, rfl, Ak, hsp⟩ ⟨rfl, rfl⟩
        have hk : k < 4 := by simp at hk; omega
        refine ⟨_, rfl, sr, _, rfl, .inl (SqL.of Ak.sr), _, rfl, Int.natCast_nonneg _, by rw [List.length_map]; omega, fun D hD => ?_⟩
        refine lc_it (walk_range (lo := 0)) (fun i Hc => Same X Hc ∧ ∃ js : List Nat, Hc D = some (.lst (js.map fun (y : Nat) => V.int (y : Int))) ∧ js.length ≤ i ∧ ∀ y ∈ js, y < L.length) ⟨same_new hD, [], upd_same, Nat.le_refl _, fun _ h => nomatch h⟩ (fun _ _ _ _ => True.intro) ?_ ?_
        · rintro i y Y Y' hi ⟨sY, js, hDY, ljs, bjs⟩ ⟨rfl, rfl⟩
          rw [List.length_map] at hi
          have hi' : i < L.length := by omega
          have ei : ((0 : Int) + ((i : Nat) : Int)) = (i : Int) := Int.zero_add _
          have AY := Ak.same sY
          refine ⟨rfl, ?_⟩
          have fin : ∃ acc, Y' D = some (.lst acc) ∧ acc.length < sizeLine ∧ Same X (upd Y' D (.lst (acc ++ [V.int (0 + (i : Int))]))) ∧ ∃ js : List Nat, (upd Y' D (.lst (acc ++ [V.int (0 + (i : Int))]))) D = some (.lst (js.map fun (y : Nat) => V.int (y : Int))) ∧ js.length ≤ i + 1 ∧ ∀ y ∈ js, y < L.length := by
            refine ⟨_, hDY, by rw [List.length_map]; omega, fun b o hb => ?_, js ++ [i], ?_, by rw [List.length_append]; simp; omega, fun y hy => ?_⟩
            · rw [upd_ne (ne_of_none hb hD)]
              exact sY _ _ hb
            · rw [upd_same, List.map_append, ei]
              rfl
            · rcases List.mem_append.mp hy with hy | hy
              · exact bjs y hy
              · rw [List.mem_singleton.mp hy]
                exact hi'
          cases sp with
          | none =>
            exact ⟨_, rfl, rfl, _, rfl, iteT (iteT ⟨_, rfl, fin⟩)⟩
          | some z =>
            have hz := hsp z rfl
            refine ⟨_, rfl, rfl, _, rfl, iteFe (decide_eq_false fun z => nomatch z) ?_⟩
            refine ⟨_, rfl, _, rfl, sr, _, _, .ref (L[i]).2, rfl, rfl, SqL.of AY.sr, by rw [ei]; exact atI_nat (by rw [List.getElem?_map, List.getElem?_eq_getElem hi']; rfl), ?_⟩
            refine ⟨(L[i]).2, _, 0, _, rfl, rfl, SqT.of (AY.kt _ (List.getElem_mem hi')), atI_nat (j := 0) rfl, ?_⟩
            refine ⟨_, rfl, _, rfl, sr, _, _, .ref (L[z]).2, rfl, rfl, SqL.of AY.sr, atI_nat (j := z) (by rw [List.getElem?_map, List.getElem?_eq_getElem hz]; rfl), ?_⟩
            refine ⟨(L[z]).2, _, 1, _, rfl, rfl, SqT.of (AY.kt _ (List.getElem_mem hz)), atI_nat (j := 1) rfl, ?_⟩
            refine ⟨scal_ends (L[i]).1.low (L[z]).1.high, _, rfl, ?_⟩
            refine ite2 (fun _ => ⟨_, rfl, fin⟩) (fun _ => ⟨sY, js, hDY, by omega, bjs⟩)
        · rintro Y ⟨sY, js, hDY, ljs, bjs⟩
          have AY := Ak.same sY
          have nDp := (Ak.pen.out hD).1
          obtain ⟨zs, ezs⟩ : ∃ zs : List Int, zs = js.map fun (y : Nat) => (y : Int) := ⟨_, rfl⟩
          have ejs : (js.map fun (y : Nat) => V.int (y : Int)) = zs.map V.int := by rw [ezs, List.map_map]; rfl
          rw [ejs] at hDY
          refine ⟨_, rfl, by show 0 ≤ sizeLine; decide, fun t nt => ?_⟩
          have st := same_new (o := .lst []) nt
          have At := AY.same st
          have hDt := st _ _ hDY
          refine ⟨_, _, .lst (SqL.of hDt) (dp_ints zs), .lst (SqL.of upd_same) (dp_ints []), shaped_ints zs, shaped_ints [], _, rfl, ?_⟩
          generalize upd Y t (.lst []) = Y1 at st At hDt ⊢
          cases js with
          | nil =>
            rw [List.map_nil] at ezs
            subst ezs
            refine iteFe (by simp [PyData.eqv, PyData.eqvAll]) ?_
            exact ⟨_, _, _, _, rfl, At.le (by omega) (by omega), hsp⟩
          | cons y0 js0 =>
            refine iteTe (by rw [ezs]; simp [PyData.eqv, PyData.eqvAll]) ?_
            have lzs : zs.length = (y0 :: js0).length := by rw [ezs, List.length_map]
            have ln : (y0 :: js0).length ≤ 1000 := by
              rw [List.length_map] at ljs
              omega
            refine ⟨_, rfl, _, rfl, _, rfl, D, _, rfl, .inl (SqL.of hDt), p, c, _, _, rfl, At.pen, by omega, ?_, ?_, fun e9 H9 he0 he1 b9 P9 => ?_⟩
            · rw [List.length_map, lzs, List.length_cons]; omega
            · rw [List.length_map, lzs]; omega
            rw [List.length_map, lzs] at he1
            obtain ⟨e9, rfl⟩ := Int.eq_ofNat_of_zero_le he0
            have hy : e9 < (y0 :: js0).length := by omega
            have A9 := At.step nap b9 P9
            have hD9 := b9 _ _ hDt nDp
            refine ⟨D, _, (e9 : Int), .int (((y0 :: js0)[e9] : Nat) : Int), rfl, rfl, SqL.of hD9, atI_nat (by rw [← ejs, List.getElem?_map, List.getElem?_eq_getElem hy]; rfl), ?_⟩
            have hsz := bjs _ (List.getElem_mem hy)
            generalize (y0 :: js0)[e9] = z at hsz ⊢
            have hza : z < as.length := by rw [A9.len]; exact hsz
            refine ⟨_, rfl, _, rfl, a, _, (z : Int), .int as[z], rfl, rfl, SqL.of A9.a, atI_nat (by rw [List.getElem?_map, List.getElem?_eq_getElem hza]; rfl), _, rfl, _, _, rfl, rfl, ?_⟩
            have ix : ixN (as.map V.int).length (z : Int) = some z := by
              unfold ixN
              rw [List.length_map, if_pos (by omega), if_pos (by omega)]
              simp
            refine ⟨_, rfl, _, rfl, a, _, (z : Int), z, rfl, rfl, A9.a, ix, ?_⟩
            refine ⟨_, _, some z, as.set z (as[z] + z6), rfl, ?_, fun y e => by cases e; exact hsz⟩
            have := (A9.put (as' := as.set z (as[z] + z6)) (top' := 20 * j + 5 * (k + 1)) nap nac nsa naH (List.length_set ..) fun i hi => ?_).le (m' := n + 1 + 6 * j + 2 + (k + 1)) (top' := 20 * j + 5 * (k + 1)) (by omega) (by omega)
            · rw [List.map_set] at this
              exact this
            · rcases List.mem_or_eq_of_mem_set hi with hi | rfl
              · have := A9.bnd i hi
                omega
              · have := A9.bnd _ (List.getElem_mem hza)
                omega
      · rintro σ X ⟨o7, o8, sp, as, rfl, Ak, hsp⟩
        exact ⟨_, _, _, _, _, _, rfl, Ak.le (by omega) (by omega)⟩
    · rintro σ X ⟨o4, o5, o6, o7, o8, as, rfl, Aj⟩
      exact ⟨_, rfl, q a X _ as Aj.but naH Aj.a (by rw [Aj.len, ← eL, List.length_map]) (fun i hi => by have := Aj.bnd i hi; omega) Aj.pen (by omega)⟩
end
end Wnd

set_option maxHeartbeats 4000000
/-! An own exception class over ValueError, whose __init__ begins with super().__init__(..): made, also by keyword; its fields; isinstance of it. -/
namespace Wnd
open PySem PySem.Spec PySem.Calls PyProof.Rows PySem.Builtin PySem.W

/-! ### the class called with keywords -/
section
variable {M : Model} {A : Around} {E : Value → Shared → Prop} {h : Heap} {g : Array GenState} {d : Drawn} {t : Nat} {os : OsState}
variable {nm q : Str} {C N : Addr} {bs bm bmB : List Value} {hdct : Bool} {sn : List Str} {sub : List Value} {ab : Bool} {col : Option Bool} {dd : Option Addr} {k0 k1 k2 k3 k5 : Option Value} {B newId initId : String}
theorem kw_check_new (F : ExcBaseFacts B newId initId bmB) (hT : ∀ X : String, bm.contains (.type X) = bmB.contains (.type X)) {rest : List Value} {kws : List (Str × Value)} {Q : Unit → Shared → Prop}
    (hC : h.get? C = some (excClassObj nm q C N bs bm hdct sn sub ab col dd k0 k1 k2 k3 k5 newId)) (hq : Q () ⟨h, g, d, t, os⟩) : wpAny M A (checkBuiltinCall newId ⟨.ref C :: rest, kws⟩) Q E ⟨h, g, d, t, os⟩ := by
  have hcont : (Value.ref C :: bm).contains (.type B) = true := by rw [List.contains_cons, hT, F.hasB, Bool.or_true]
  have hstar := F.noStar
  simp only [checkBuiltinCall, F.newKind, F.newSplit, F.newRow]
  repeat (first | refine wpAny_loadPart_at hC ?_ | (refine wpAny_isSubtype_exc hC ?_; rw [hcont]) | refine wpAny_staticBase_exc hC ?_ | refine wpAny_madeBy_exc hC ?_ | simp only [bne_self_eq_false, Bool.false_eq_true, if_false] | wp_step)
  exact hq
end
section
variable {prog : Program} {w : World} {A : Around} {E : Value → Shared → Prop} {R : Result → Shared → Prop} {h : Heap} {g : Array GenState} {d : Drawn} {t : Nat} {os : OsState}
variable {nm q : Str} {C N : Addr} {bs bm bmB : List Value} {hdct : Bool} {sn : List Str} {sub : List Value} {ab : Bool} {col : Option Bool} {dd : Option Addr} {k0 k1 k2 k3 k5 : Option Value} {B newId initId : String}
theorem kw_new (F : ExcBaseFacts B newId initId bmB) (hT : ∀ X : String, bm.contains (.type X) = bmB.contains (.type X)) {rest : List Value} {kws : List (Str × Value)}
    (hC : h.get? C = some (excClassObj nm q C N bs bm hdct sn sub ab col dd k0 k1 k2 k3 k5 newId))
    (hq : R (.ok (.ret (.ref (h.objs.size + 1)))) ⟨(h.push { cls := .type "tuple", data := .seq rest.toArray }).push
      { cls := .ref C, data := .fields #[.ref h.objs.size, .none, .none, .none, .bool false, .none] }, g, d, t, os⟩) (hrest : rest.length ≤ sizeLine) :
    codeAny (model prog w) A (.builtin newId ⟨.ref C :: rest, kws⟩) R ⟨h, g, d, t, os⟩ := by
  have hends := F.ends
  have hcB : (Value.ref C :: bm).contains (.type B) = true := by rw [List.contains_cons, hT, F.hasB, Bool.or_true]
  have hcA : (Value.ref C :: bm).contains (.type "AttributeError") = false := by rw [List.contains_cons, hT, F.noAttr]; rfl
  have hcN : (Value.ref C :: bm).contains (.type "NameError") = false := by rw [List.contains_cons, hT, F.noName]; rfl
  refine codeAny_builtinAt F.entry ?_
  unfold Builtin.«BaseException.__new__»
  refine PySem.wpAt_bind ?_
  show PySem.wpAt _ _ _ (stack >>= _) _ _ _
  refine PySem.wpAt_bind (PySem.wpAt_stack fun p below => PySem.wpAt_of_wpAny ?_)
  wp_walk
  refine PySem.wpAt_of_wpAny ?_
  rw [F.owner]
  repeat (first | with_reducible refine wpAny_madeHere_exc F.canon hC ?_ | with_reducible refine wpAny_loadPart_at hC ?_ | (with_reducible refine wpAny_isSubtype_exc hC ?_; first | rw [hcB] | rw [hcA] | rw [hcN]) | wp_step)
  show R _ _
  rw [Heap.size_push]
  exact hq
theorem kw_type_call (F : ExcBaseFacts B newId initId bmB) (hT : ∀ X : String, bm.contains (.type X) = bmB.contains (.type X)) {rest : List Value} {kws : List (Str × Value)} {fI : Addr} {Q : Fin → Shared → Prop}
    (hC : h.get? C = some (excClassObj nm q C N bs bm hdct sn sub ab col dd k0 k1 k2 k3 k5 newId))
    (hi : W.Looks (model prog w) h (typeLookup (.ref C) "__init__") (some (.ref fI))) (hb : ∀ self, W.Looks (model prog w) h (bindSpecial (.ref fI) self) (.ref fI, [self])) (hrest : rest.length ≤ sizeLine)
    (hq : codeAny (model prog w) A (.call (.ref fI) ⟨.ref (h.objs.size + 1) :: rest, kws⟩)
      (fun r s' => match r with | .ok (.ret v) => v = .none ∧ Q (.done (.ret (.ref (h.objs.size + 1)))) s' | .ok _ => False | .error e => E e s')
      ⟨(h.push (W.kdv_tup rest)).push (HandSPX.excO C h.objs.size), g, d, t, os⟩) :
    wpAny (model prog w) A (Builtin.«type.__call__» ⟨.ref C :: rest, kws⟩) Q E ⟨h, g, d, t, os⟩ := by
  repeat (first | with_reducible refine wpAny_loadPart_at hC ?_ | with_reducible refine wpAny_madeBy_exc hC ?_ | wp_step)
  refine codeAny_call_builtin_code (Code.quiet_builtin _ F.quiet) (kw_check_new F hT hC ?_)
  refine kw_new F hT hC ?_ hrest
  show wpAny _ _ _ _ _ _
  have k : ∀ b o, h.get? b = some o → ((h.push (W.kdv_tup rest)).push (HandSPX.excO C h.objs.size)).get? b = some o := fun b o e => Heap.get?_push_of_some _ (Heap.get?_push_of_some _ e)
  have hC₁ := k _ _ hC
  have hget : ((h.push (W.kdv_tup rest)).push (HandSPX.excO C h.objs.size)).get? (h.objs.size + 1) = some (HandSPX.excO C h.objs.size) := by heap_get
  have hcC : (Value.ref C :: bm).contains (.ref C) = true := by simp
  have i1 := hi.keeps k
  have b1 := (hb (.ref (h.objs.size + 1))).keeps k
  unfold isInstance
  repeat (first | with_reducible refine wpAny_loadPart_at hget ?_ | (with_reducible refine wpAny_isSubtype_exc hC₁ ?_; rw [hcC]) | wp_step)
  show wpAny _ _ (typeLookup (.ref C) _) _ _ _
  refine i1.at ?_
  refine wpAny_holding (wpAny_bind (b1.at ?_))
  refine wpAny_bind (wpAny_call (codeAny_mono hq fun r s' z => ?_))
  rcases r with e | (v | _ | _ | _) <;> first | exact z | exact z.elim | skip
  obtain ⟨rfl, z⟩ := z
  first
    | exact wpAny_pure (wpAny_pure z)
    | (wp_walk; exact z)
theorem kw_call (F : ExcBaseFacts B newId initId bmB) (hT : ∀ X : String, bm.contains (.type X) = bmB.contains (.type X)) {rest : List Value} {kws : List (Str × Value)} {fI : Addr}
    (hC : h.get? C = some (excClassObj nm q C N bs bm hdct sn sub ab col dd k0 k1 k2 k3 k5 newId))
    (hi : W.Looks (model prog w) h (typeLookup (.ref C) "__init__") (some (.ref fI))) (hb : ∀ self, W.Looks (model prog w) h (bindSpecial (.ref fI) self) (.ref fI, [self])) (hrest : rest.length ≤ sizeLine)
    (hq : codeAny (model prog w) (A.under (.builtin "type.__call__" ⟨.ref C :: rest, kws⟩)) (.call (.ref fI) ⟨.ref (h.objs.size + 1) :: rest, kws⟩) (W.InitBack (h.objs.size + 1) R)
      ⟨(h.push (W.kdv_tup rest)).push (HandSPX.excO C h.objs.size), g, d, t, os⟩) :
    codeAny (model prog w) A (.call (.ref C) ⟨rest, kws⟩) R ⟨h, g, d, t, os⟩ := by
  have f1 := tc_lookup
  have f2 := tc_bind (.ref C)
  have hTy : (⟨h, g, d, t, os⟩ : Shared).TypeIs (.ref C) "type" := ⟨_, hC, rfl⟩
  refine codeAny_of_tree ?_
  show wpAny _ _ (callAny (.ref C) _) _ _ _
  repeat (any_goals (first | assumption | with_reducible refine wpAny_loadPart_at hC ?_ | wp_step))
  refine ⟨rfl, ?_⟩
  refine codeAny_call_builtin_at (Code.quiet_builtin _ (by decide +kernel)) entry_typeCall (wpAny_check_type_call_sub hC (kw_type_call F hT hC hi hb hrest ?_))
  refine codeAny_mono hq fun r s' z => ?_
  rcases r with e | (v | _ | _ | _) <;> exact z
end
end Wnd

set_option maxHeartbeats 4000000
/-! super().__init__(..) as the first statement of an own exception's __init__. -/
namespace Wnd
open PySem PySem.Spec PySem.Calls PyProof.Rows PySem.W L2

/-- the context of such an __init__'s body -/
def cxI (CX : CXT) (P : Program) (w : World) (K : Frag) (mg : Str → Option Value) (base : Heap) (N : List Str) (qual : Str) (scope : Scope) (f : Addr) (cd : Value) (cc : Addr) (A : Around) (outer : List Env) (s : Shared) (H : Hp) (E : XK) : Cx where
  prog := P
  w := w
  K := K
  mg := mg
  base := base
  A := A.deeper (ksEnv qual scope s.heap.objs.size f cd cc)
  N := N
  s_0 := s
  H_0 := H
  env := ksEnv qual scope s.heap.objs.size f cd cc
  outer := outer
  stack := ksEnv qual scope s.heap.objs.size f cd cc :: outer
  ex := []
  fn := fun _ => false
  calm := true
  pn := []
  xe := fun e s' => wpAny (model P w) (A.deeper (ksEnv qual scope s.heap.objs.size f cd cc)) (leaving (ksEnv qual scope s.heap.objs.size f cd cc) e) (fun _ s'' => CX outer H s E e s'') (fun e' s'' => CX outer H s E e' s'') s'
structure SupScope (N P : List Str) (sc : Scope) : Prop where
  kind : sc.kind = .function
  co : sc.isCoroutine = false
  gen : sc.isGenerator = false
  nd : N.Nodup
  pre : N.take P.length = P
  par : ∀ x ∈ P, sc.names.lookup x = some .local
  nocell : ∀ y ∈ sc.names, y.2 ≠ .cell
  free : ∀ y ∈ sc.names, y.2 = .free → y.1 = "__class__"
theorem zip_rev {x : Str} {v : Value} : ∀ {P : List Str} {us : List Value} {i : Nat}, P.Nodup → P[i]? = some x → us[i]? = some v → (P.zip us).reverse.lookup x = some v
  | [], _, _, _, h, _ => by simp at h
  | _ :: _, [], _, _, _, h => by simp at h
  | p :: P, u :: us, i, nd, h1, h2 => by
    obtain ⟨np, nd⟩ := List.nodup_cons.mp nd
    rw [List.zip_cons_cons, List.reverse_cons, List.lookup_append]
    cases i with
    | zero =>
      simp at h1 h2
      subst h1 h2
      have e : ((P.zip us).reverse).lookup p = none := by
        rw [List.lookup_eq_none_iff]
        intro q hq
        have hm : q.1 ∈ P := (List.of_mem_zip (List.mem_reverse.mp hq)).1
        have : p ≠ q.1 := fun z => np (z ▸ hm)
        simpa using this
      rw [e]
      simp
    | succ i =>
      rw [zip_rev nd (by simpa using h1) (by simpa using h2)]
      rfl
theorem inv_startI {CX : CXT} {P : Program} {w : World} {K : Frag} {mg : Str → Option Value} {base : Heap} {N ps : List Str} {qual : Str} {scope : Scope} {f cc : Addr} {cd : Value} {A : Around} {outer : List Env} {s : Shared} {H : Hp} {E : XK} {us : List Value} {vs : List V} {h₁ : Heap} {tk : Nat} {oc : Obj} {cv : Option Value}
    (S : SupScope N ps scope) (hd : A.handled = none) (e0 : Env0 P w K mg base A outer s H) (hl : vs.length = ps.length) (r : Vals vs us) (lcc : K.lookup cc = some oc) (hcv : oc.data = .cell cv)
    (hns : h₁.Ns s.heap.objs.size fun x => (ps.zip us).reverse.lookup x) (kp : ∀ b o, s.heap.get? b = some o → h₁.get? b = some o) :
    Inv (cxI CX P w K mg base N qual scope f cd cc A outer s H E) [] (L2.start N vs) H { s with heap := h₁, toks := tk } := by
  have hpl : ps.length ≤ N.length := by have := congrArg List.length S.pre; rw [List.length_take] at this; omega
  have noA : ∀ b : Addr, b ∉ (cxI CX P w K mg base N qual scope f cd cc A outer s H E).ex := fun b z => absurd (show b ∈ ([] : List Addr) from z) (by simp)
  have hcb := e0.bs _ _ (e0.mod.kin _ _ lcc)
  have one : ∀ {y : Str} {c : Addr}, ([("__class__", cc)] : List (Str × Addr)).lookup y = some c → y = "__class__" ∧ c = cc := fun {y c} e => by
    have := PySem.mem_of_lookup e
    simp at this
    exact this
  refine ⟨⟨e0.mod, S.kind, rfl, rfl, Nat.le_refl _, fun y z c h1 h2 => (one h1).1.trans (one h2).1.symm, fun y hy => ?_, fun y c z _ => absurd (show false = true from z) Bool.false_ne_true, fun _ => hd, Around.frames_deeper e0.frames, .inr ⟨rfl, rfl⟩, fun b z => absurd z (noA b), e0.bs, e0.bsz, fun b _ _ => noA b, fun b z => absurd z (noA b), e0.funs, e0.frf⟩,
    rfl, e0.bare, Un.kept kp, ⟨_, hns, fun i y v h1 h2 h3 => ?_⟩, fun y c h => ?_, e0.hok.fresh (Nat.le_refl _), fun y c h => ?_, fun p hp => absurd (show p ∈ ([] : List (Addr × Obj)) from hp) (by simp), e0.hok.kept kp, ?_⟩
  · have hy : scope.names.lookup y = some .cell ∨ scope.names.lookup y = some .free := hy
    rcases hy with hy | hy
    · exact absurd rfl (S.nocell _ (PySem.mem_of_lookup hy))
    · have e : y = "__class__" := S.free _ (PySem.mem_of_lookup hy) rfl
      subst e
      exact ⟨cc, by simp [cxI]⟩
  · have hi : i < vs.length := by
      unfold L2.start at h2
      by_cases hi : i < vs.length
      · exact hi
      · rw [List.getElem?_append_right (by simpa using hi)] at h2
        rw [List.getElem?_replicate] at h2
        split at h2 <;> cases h2
    have ha : vs[i]? = some v := by
      unfold L2.start at h2
      rw [List.getElem?_append_left (by simpa using hi), List.getElem?_map] at h2
      cases e : vs[i]? with
      | none => rw [e] at h2; cases h2
      | some a => rw [e] at h2; cases h2; rfl
    obtain ⟨u, hu, rv⟩ := r.get ha
    have hp : ps[i]? = some y := by
      rw [← S.pre, List.getElem?_take_of_lt (by omega)]; exact h1
    have ndP : ps.Nodup := by rw [← S.pre]; exact S.nd.sublist (List.take_sublist _ _)
    exact ⟨u, rv, .inl ⟨S.par y (List.mem_of_getElem? hp), zip_rev ndP hp hu⟩⟩
  · obtain ⟨_, rfl⟩ := one h
    exact ⟨cv, oc, kp _ _ hcb.1, hcv⟩
  · obtain ⟨_, rfl⟩ := one h
    exact hcb.2
  · unfold L2.start
    show _ = N.length
    rw [List.length_append, List.length_map, List.length_replicate]
    omega

/-- a statement that is run where the frame's own code is known -/
def PAt (X : Cx) (body : List Stmt) (st : Stmt) (t : TS) : Prop := ∀ (pins : List (Addr × Obj)) (s : Shared) (σ : L2.St) (H : Hp) (D : Ends), Inv X pins σ H s → t D σ H → PySem.wpAt (model X.prog X.w) X.A (.func body X.env) (exec st X.env) (SP X pins D) X.xe s
/-- a def whose class cell is known and whose first statement needs its own frame -/
theorem fn_sup {CX : CXT} {P : Program} {w : World} {K : Frag} {mg : Str → Option Value} {base : Heap} {k : Nat} {f cc : Addr} {name qual : Str} {params : Arguments} {st0 : Stmt} {rest : List Stmt} {scope : Scope} {dV kV doc pm cdv ct oc : Value} {an od : Option Addr}
    {osl : Array (Option Value)} {N ps : List Str} {sp : Sp} {occ : Obj} {cv : Option Value} (lk : K.lookup f = some ⟨oc, od, .func (ksFn name qual params (st0 :: rest) scope dV kV doc pm an cdv ct cc), osl⟩) (hcd : codeIn K cdv qual = true) (S : SupScope N ps scope)
    (lcc : K.lookup cc = some occ) (hcv : occ.data = .cell cv) (len : ∀ vs H Q E, sp vs H Q E → vs.length = ps.length)
    (hbody : ∀ (A : Around) (outer : List Env) (s : Shared) (H : Hp) (vs : List V) (Q : VK) (E : XK), Room k (A.deeper (ksEnv qual scope s.heap.objs.size f cdv cc)) → sp vs H Q E →
      ∃ t0 t, PAt (cxI CX P w K mg base N qual scope f cdv cc A outer s H E) (st0 :: rest) st0 t0 ∧ PSs (cxI CX P w K mg base N qual scope f cdv cc A outer s H E) rest t ∧
        t0 { nx := fun σ' H' => t { nx := fun _ H' => Q .non H', rt := Q } σ' H', rt := Q } (L2.start N vs) H) :
    FnOk P w K mg base CX (k + 1) f (ksFn name qual params (st0 :: rest) scope dV kV doc pm an cdv ct cc) ps sp := by
  refine ⟨len, fun A outer s H args us vs Q E hr e0 hb r hsp => ?_⟩
  have hl := len _ _ _ _ hsp
  have KX : K.In s.heap := e0.mod.kin.keeps fun b o e => (e0.bs b o e).1
  have lim : s.heap.NoLimit := e0.mod.nolimit.keeps fun b o e => (e0.bs b o e).1
  refine ks_codeAny_call_defAt (fd := ksFn name qual params (st0 :: rest) scope dV kV doc pm an cdv ct cc) (body := st0 :: rest) (binds := ps.zip us) hr.depth (KX _ _ lk) rfl lim (codeRec_of KX hcd) rfl hb S.nocell (fun y hy => S.par _ (List.of_mem_zip (show (y.1, y.2) ∈ ps.zip us from hy)).1) (fun h₁ hns kp => ?_) S.co S.gen S.kind
  obtain ⟨t0, t, ht0, ht, hq⟩ := hbody A outer s H vs Q E (hr.deeper _) hsp
  have I : Inv (cxI CX P w K mg base N qual scope f cdv cc A outer s H E) [] (L2.start N vs) H { s with heap := h₁, toks := s.toks + (ps.zip us).length } := inv_startI S hr.hd e0 hl r lcc hcv hns kp
  have fin : ∀ {σ' : L2.St} {H' : Hp} {v : V} {u : Value} {s' : Shared}, Inv (cxI CX P w K mg base N qual scope f cdv cc A outer s H E) [] σ' H' s' → L2.RelV v u → Q v H' → CE outer P w H s Q u s' :=
    fun {σ' H' v u s'} J rv q => ⟨v, H', J.os, J.bare, J.base, J.hok, rv, q⟩
  have back : ∀ (fl : Flow) (s' : Shared), SP (cxI CX P w K mg base N qual scope f cdv cc A outer s H E) [] { nx := fun _ H' => Q .non H', rt := Q } fl s' → CR CX outer P w H s Q E (.ok (.ret (match fl with | .ret v => v | _ => .none))) s' := fun fl s' hs => by
    cases fl with
    | ret u =>
      obtain ⟨v, σ', H', J, rv, q⟩ := hs
      exact fin J rv q
    | next =>
      obtain ⟨σ', H', J, q⟩ := hs
      exact fin (v := V.non) (u := Value.none) J rfl q
    | brk =>
      obtain ⟨_, _, _, q⟩ := hs
      exact False.elim q
    | cont =>
      obtain ⟨_, _, _, q⟩ := hs
      exact False.elim q
  refine ks_wpAt_execs_cons (ks_wpAt_mono (ht0 [] _ _ _ _ I hq) (fun fl s' hs => ?_) fun _ _ z => z)
  cases fl with
  | next =>
    obtain ⟨σ', H', J, q⟩ := hs
    exact PySem.wpAt_of_wpAny (thn (ht.run [] s' σ' H' _ J q) fun fl s'' hs' => back fl s'' hs')
  | ret u =>
    obtain ⟨v, σ', H', J, rv, q⟩ := hs
    exact fin J rv q
  | brk =>
    obtain ⟨_, _, _, q⟩ := hs
    exact False.elim q
  | cont =>
    obtain ⟨_, _, _, q⟩ := hs
    exact False.elim q

/-- super().__init__(e), self an exception that is being made -/
def tSup (C : Addr) (te : TE) : TS := fun D σ H => ∃ a : Addr, σ[0]? = some (some (.ref a)) ∧ H a = some (exo a C none) ∧ te σ H fun _ H1 => H1 a = some (exo a C none) ∧ D.nx σ H1
/-- what the written part says of the class, its cell, its __init__'s code -/
structure SupC (P : Program) (K : Frag) (mg : Str → Option Value) (C cc cda : Addr) : Prop where
  cls : ∃ nm q N bs bm sn sub ab col dd k0 k1 k2 k3 k5, K.lookup C = some (excClassObj nm q C N bs bm true sn sub ab col dd k0 k1 k2 k3 k5 "ValueError.__new__") ∧ PySem.HandSPX.refsVE bm = true
  code : ∃ cl cd vs sl file tf, K.lookup cda = some ⟨cl, cd, .fields vs, sl⟩ ∧ vs[2]? = some (.str file tf) ∧ ((P.main.file : Str) == file) = true
  cell : ∃ cl cd sl, K.lookup cc = some ⟨cl, cd, .cell (some (.ref C)), sl⟩
  top : (P.main.scope.names.lookup ("super" : Str)).isSome = false
  sup : mg "super" = none
  any : nsIn K cStatics "thirdparty.any" = some none
  self : mroIn K C (.ref C) = some true
  init : ks_superIn K C C "__init__" = some (some (.builtin "ValueError.__init__"))
  ve : subIn K (.ref C) (.type "ValueError") = some true
theorem boot_super : bootBuiltins "super" = some (.type "super") := by first | boot_by_name | rfl | kernel_rfl
theorem pat_super {X : Cx} {body : List Stmt} {e : Expr} {te : TE} {p0 p1 p2 pos pos' : Pos} {f cc cda C : Addr} {fd : FuncData} {ar : Arg} {oc : Value} {od : Option Addr} {osl : Array (Option Value)} {pl : Sem Bool} (T : SupC X.prog X.K X.mg C cc cda)
    (lf : X.K.lookup f = some ⟨oc, od, .func fd, osl⟩) (hp : (fd.params.posonlyargs ++ fd.params.args).head? = some ar) (hN : X.N[0]? = some ar.arg) (hka : X.env.kindOf ar.arg = some .local)
    (hks : X.env.kindOf "super" = some .globalImplicit) (hkc : X.env.kindOf "__class__" = some .free) (hcc : X.env.cells.lookup ("__class__" : Str) = some cc) (hfu : X.env.func = some f) (hco : X.env.code = .ref cda) (he : PE X e te)
    (hi : interactive X.env = false := by rfl) (hsw : swapsWith (.Call (.Attribute (.Call (.Name "super" p0) [] [] p1) "__init__" p2) [e] [] pos) none pos'.line X.env = pure false := by rfl)
    (hev : eval (.Call (.Attribute (.Call (.Name "super" p0) [] [] p1) "__init__" p2) [e] [] pos) X.env = (do
      let ov ← attributeBase (.Call (.Name "super" p0) [] [] p1) "__init__" X.env (eval (.Call (.Name "super" p0) [] [] p1) X.env)
      standAt p2.atName
      let (f, first) ← holding [ov] (getMethod ov "__init__" pl)
      callWith pos f first (backTo pos (starEach [e] X.env)) []) := by rfl)
    (hst : starEach [e] X.env = (false, eval e X.env) :: starEach [] X.env := by rfl) (hpl : (backTo pos (starEach [] X.env)).any (·.1) = false := by rfl) :
    PAt X body (.Expr (.Call (.Attribute (.Call (.Name "super" p0) [] [] p1) "__init__" p2) [e] [] pos) pos') (tSup C te) := by
  intro pins s σ H D I h
  obtain ⟨a, ha0, hea, h⟩ := h
  obtain ⟨nm, q, N, bs, bm, sn, sub, ab, col, dd, k0, k1, k2, k3, k5, hCk, hbm⟩ := T.cls
  obtain ⟨ccl, cdd, cvs, ccs, file, tf, hcode, hvs, hfile⟩ := T.code
  obtain ⟨cl, cld, csl, hcell⟩ := T.cell
  obtain ⟨m, hn, hl⟩ := id I.loc
  obtain ⟨u, ru, lk⟩ := hl 0 ar.arg (.ref a) hN ha0 (.inl hka)
  obtain rfl : u = Value.ref a := ru
  have hself : m ar.arg = some (.ref a) := by
    rcases lk with ⟨_, e⟩ | ⟨k | k, _⟩
    · exact e
    · rw [hka] at k; cases k
    · rw [hka] at k; cases k
  obtain ⟨t1, hoe⟩ := exo_at I.hok hea
  obtain ⟨mb, g1, g2⟩ := I.mod.blt
  refine ks_wpAt_Expr_any (ks_wpAt_MethodCall (pl := pl) (ks_wpAt_super_base hks hkc (by decide) hfu (I.kIn _ _ lf) rfl hp hco (I.kIn _ _ hcode) rfl hvs hfile T.top ?_) hev) hi hsw
  refine ks_loadName_global I.ok.kind hks (Calls.loadGlobal_builtin (by rw [I.ok.glob]; exact I.mod.glob.keeps I.bk) T.sup (by rw [I.ok.blt]; exact g1.keeps I.bk) ((g2 "super" (by decide)).trans boot_super) ⟨rfl, ?_⟩)
  refine wpAny_loadName_free I.ok.kind hkc hcc ⟨_, I.kIn _ _ hcell, rfl⟩ ?_
  refine wpAny_loadName_local I.ok.kind hka hn hself ?_
  have hC := I.kIn _ _ hCk
  refine ks_wpAny_isType_cls hC rfl ⟨rfl, ?_⟩
  obtain ⟨hh, g, d, t, os⟩ := s
  refine ks_wpAny_call_super hC rfl hoe rfl (fun c z => by cases z) (looks_mroIn I.kIn T.self) (fun h' eso k => ?_)
  have I1 : Inv X pins σ H ⟨h', g, d, t, os⟩ := I.kept (t' := t) k
  have X1 := I1.kIn
  have hoe1 := k _ _ hoe
  have hcl : clsIn X.K C = some { name := nm, bases := bs, mro := .ref C :: bm, ns := N, qualname := q, hasDict := true, slotNames := sn, subclasses := sub, abstract := ab, collection := col, hasDel := false } := by unfold clsIn; rw [hCk] <;> rfl
  have inst1 : InstAt h' a _ C none := ⟨hoe1, rfl, rfl, trivial⟩
  have hI : Looks (model X.prog X.w) h' (isInstance (.ref a) (.type "ValueError")) true := inst1.type.andThen (looks_subIn X1 T.ve)
  have hal := T.init
  unfold ks_superIn at hal
  rw [hcl, Option.bind_some] at hal
  refine kxs_getMethod kxs_ValueError eso (looks_opaque X1 T.any) (l₀ := .ref C :: bm) ((looks_clsIn X1 hcl).andThen .now) rfl X1 hal hI (ks_ne X1 inst1 hcl) (by decide) ?_
  have hu : (h'.push (kxs_mw "ValueError.__init__" a)).get? h'.objs.size = some (kxs_mw "ValueError.__init__" a) := Heap.get?_push_size _ rfl
  have I2 : Inv X pins σ H ⟨h'.push (kxs_mw "ValueError.__init__" a), g, d, t + 1, os⟩ := I1.kept (t' := t + 1) fun b o e => Heap.get?_push_of_some _ e
  have nu : H h'.objs.size = none := I1.hok.fresh (Nat.le_refl _)
  have nL : h'.objs.size ≠ X.env.locals := fun z => Nat.lt_irrefl _ (z ▸ I1.lt : h'.objs.size < h'.objs.size)
  have nF : h'.objs.size ∉ X.fs := I1.nofs (Nat.le_refl _)
  have I3 : Inv X ((h'.objs.size, kxs_mw "ValueError.__init__" a) :: pins) σ H ⟨h'.push (kxs_mw "ValueError.__init__" a), g, d, t + 1, os⟩ := I2.pins_of fun p hp => by
    rcases List.mem_cons.mp hp with e | hp
    · subst e
      exact ⟨hu, nu, nL, nF, fun v z => by cases z⟩
    · exact I2.pin p (List.mem_append_right _ hp)
  show wpAny _ _ (callWith pos (.ref h'.objs.size) [] (backTo pos (starEach [e] X.env)) []) _ _ _
  rw [hst]
  refine kxs_callWith (i := "ValueError.__init__") (x := a) (by show (false || (backTo pos (starEach [] X.env)).any (·.1)) = false; rw [hpl]; rfl) (evalArgs_plain ?_)
  show wpAny _ _ (spliced ((false, eval e X.env) :: backTo pos (starEach [] X.env))) _ _ _
  refine Calls.spliced_cons (thn (he.run _ _ σ H _ I3 h) fun v s1 ⟨v', H1, I4, r1, e4, q4⟩ => ?_)
  have hu4 := (I4.pin _ (List.mem_append_right _ List.mem_cons_self)).1
  refine Calls.spliced_nil ⟨hu4, ?_⟩
  show wpAny _ _ (call (.ref h'.objs.size) [v]) _ _ _
  have I5 : Inv X pins σ H1 s1 := I4.pins_of fun p hp => I4.pin p (List.mem_append_right _ (.tail _ hp))
  obtain ⟨t4, ho4⟩ := exo_at I5.hok e4
  have hC4 := I5.kIn _ _ hCk
  obtain ⟨h4, g4, d4, t44, os4⟩ := s1
  refine wpAny_call (codeAny_of_tree ?_)
  show wpAny _ X.A.in1 (callAny (.ref h'.objs.size) ⟨[v], []⟩) _ _ _
  simp only [callAny]
  refine wpAny_bind (wpAny_load hu4 ?_)
  simp only [kxs_mw, show (Value.type "method-wrapper" == Value.type "method" || Value.type "method-wrapper" == Value.type "builtin_function_or_method" || Value.type "method-wrapper" == Value.type "method-wrapper") = true by decide, if_true]
  refine KFB.if_so (by decide) ?_
  refine wpAny_bind (check_bound_init F.excBase_ValueError.toExcCallFacts hC4 ho4 rfl ?_)
  refine wpAny_bind (wpAny_pure (wpAny_pure ?_))
  refine ⟨plainId_quiet F.excBase_ValueError.init.plain _, codeAny_builtin F.excBase_ValueError.initEntry ?_⟩
  refine exc_init_tree (cls := .ref C) (t0 := t4) (dv := none) (c2 := .none) (c3 := .none) (b4 := .bool false) ho4 (by show 1 ≤ sizeLine; rw [sizeLine_eq]; omega) fun h5 k5' e5 _ => ?_
  have J := I5.write (t' := t44) (x := a) (e := a) (o := exo a C none) (by rw [e4]; exact True.intro) (.inl rfl) k5' ⟨_, e5⟩ (exo_ok e5)
  have eu : upd H1 a (exo a C none) = H1 := by
    funext b
    by_cases hb : b = a
    · rw [hb, upd_same, e4]
    · rw [upd_ne hb]
  rw [eu] at J
  exact ⟨σ, H1, J, q4⟩
end Wnd

set_option maxHeartbeats 4000000
/-! Such an exception made as a value, its fields read, isinstance of it. -/
namespace Wnd
open PySem PySem.Spec PySem.Calls PyProof.Rows PySem.W L2

/-- C(e, ..), C's own __init__ keeping sp; the exception as a value -/
def tMkV (C : Addr) (sp : Sp) (ta : TA) : TE := fun σ H Q => ta σ H fun vs H1 => vs.length ≤ 1000 ∧ ∀ a, H1 a = none → sp (.ref a :: vs) (upd H1 a (exo a C none)) (fun v H2 => v = .non ∧ Q (.ref a) H2) (fun _ _ _ => False)
/-- C(k = v, ..) -/
def tMkVK (C : Addr) (m : Nat) (sp : Sp) (tk : TA) : TE := fun σ H Q => tk σ H fun zs H1 => zs.length = m ∧ ∀ a, H1 a = none → sp (.ref a :: zs) (upd H1 a (exo a C none)) (fun v H2 => v = .non ∧ Q (.ref a) H2) (fun _ _ _ => False)
/-- the class with its __init__ -/
structure OkX (P : Program) (w : World) (K : Frag) (mg : Str → Option Value) (base : Heap) (C : Addr) (k : Nat) (ps ks : List Str) (sp : Sp) : Prop where
  ex : ∃ (fI : Addr) (fd : FuncData), findIn K (.ref C) "__init__" = some (some (.ref fI)) ∧ typeIn K (.ref fI) = some (.type "function") ∧ Binds K fd ps [] ∧ KBn K fd ps 1 ks (fun us ws => us ++ ws) (fun vs zs => vs ++ zs) ∧ FnOk P w K mg base CX0 k fI fd ps sp
  cls : OexC K C
section
variable {X : Cx} {k : Nat} {C : Addr} {ps ks : List Str} {sp : Sp} {x : Str} {p pos : Pos} {e : Expr} {es : List Expr} {kws : List Keyword} {ta tk : TA}
theorem run_oexV {fI : Addr} {fd : FuncData} {pins : List (Addr × Obj)} {σ : L2.St} {H1 : Hp} {Q : VK} {s1 : Shared} {us ws : List Value} {vs zs : List V} (T : OexC X.K C) (iC : findIn X.K (.ref C) "__init__" = some (some (.ref fI))) (tI : typeIn X.K (.ref fI) = some (.type "function"))
    (F1 : FnOk X.prog X.w X.K X.mg X.base CX0 k fI fd ps sp) (hr : Room (k + 1) X.A) (I1 : Inv X pins σ H1 s1) (r1 : Vals vs us) (r2 : Vals zs ws) (hz : vs.length ≤ 1000) {kw : List (Str × Value)}
    (hb : ∀ (s : Shared) (a : Value), X.K.In s.heap → (a :: us ++ ws).length = ps.length → BindsTo s fd ⟨a :: us, kw⟩ (ps.zip (a :: us ++ ws)))
    (q1 : ∀ a, H1 a = none → sp (.ref a :: (vs ++ zs)) (upd H1 a (exo a C none)) (fun v H2 => v = .non ∧ Q (.ref a) H2) (fun _ _ _ => False)) :
    wpAny (model X.prog X.w) X.A (call (.ref C) us kw) (EP X pins σ Q) X.xe s1 := by
  obtain ⟨nm, q, N, bs, bm, sn, sub, ab, col, dd, k0, k1, k2, k3, k5, hC, hbm⟩ := T.cls
  obtain ⟨hp, g, dr, tk, os⟩ := s1
  have hsz : hp.objs.size ≤ hp.objs.size + 1 := Nat.le_succ _
  have hn : H1 (hp.objs.size + 1) = none := I1.hok.fresh hsz
  have hq := q1 (hp.objs.size + 1) hn
  have kk : ∀ b o, hp.get? b = some o → ((hp.push (kdv_tup us)).push (PySem.HandSPX.excO C hp.objs.size)).get? b = some o := fun b o e => Heap.get?_push_of_some _ (Heap.get?_push_of_some _ e)
  have hget : ((hp.push (kdv_tup us)).push (PySem.HandSPX.excO C hp.objs.size)).get? (hp.objs.size + 1) = some (PySem.HandSPX.excO C hp.objs.size) := by heap_get
  have I2 : Inv X pins σ (upd H1 (hp.objs.size + 1) (exo (hp.objs.size + 1) C none)) ⟨(hp.push (kdv_tup us)).push (PySem.HandSPX.excO C hp.objs.size), g, dr, tk, os⟩ :=
    I1.laid (t' := tk) (a := hp.objs.size + 1) (o := exo (hp.objs.size + 1) C none) (h' := (hp.push (kdv_tup us)).push (PySem.HandSPX.excO C hp.objs.size)) kk hsz (exo_ok hget)
  have r3 : Vals (V.ref (hp.objs.size + 1) :: (vs ++ zs)) (Value.ref (hp.objs.size + 1) :: (us ++ ws)) := .cons rfl (r1.append r2)
  have hl : (Value.ref (hp.objs.size + 1) :: us ++ ws).length = ps.length := by
    have e := r3.length
    rw [F1.len _ _ _ _ hq] at e
    exact e.symm
  have hus : us.length ≤ sizeLine := by
    rw [← Paired.length r1, sizeLine_eq]
    omega
  refine wpAny_call (kw_call F.excBase_ValueError (fun Y => PySem.HandSPX.refsVE_contains Y bm hbm) (I1.kIn _ _ hC) (looks_findIn I1.kIn iC) (fun self => bind_fn I1.kIn self tI) hus
    (codeAny_mono (F1.run _ X.stack _ _ ⟨Value.ref (hp.objs.size + 1) :: us, kw⟩ (Value.ref (hp.objs.size + 1) :: (us ++ ws)) _ _ (fun _ _ _ => False) (hr.make C us kw) (I2.env0.make C us kw) (hb _ (Value.ref (hp.objs.size + 1)) I2.kIn hl) r3 hq) fun r s' hq' => ?_))
  cases r with
  | error er => exact False.elim hq'
  | ok fl =>
    cases fl with
    | ret u =>
      obtain ⟨v, H', I3, rv, ev, q3⟩ := I2.after hq'
      subst ev
      exact ⟨rv, ⟨V.ref (hp.objs.size + 1), H', I3, rfl, q3⟩⟩
    | next => exact False.elim hq'
    | brk => exact False.elim hq'
    | cont => exact False.elim hq'
theorem pe_oexV (O : OkX X.prog X.w X.K X.mg X.base C k ps ks sp) (hr : Room (k + 1) X.A) (hm : X.mg x = some (.ref C)) (ha : PA X (e :: es) ta) (hg : Gl X x := by rfl)
    (hdb : (x == ("__debug__" : Str)) = false := by decide) (he : starEach (e :: es) X.env = (false, eval e X.env) :: starEach es X.env := by rfl) (hpl : (backTo pos (starEach es X.env)).any (·.1) = false := by rfl) :
    PE X (.Call (.Name x p) (e :: es) [] pos) (tMkV C sp ta) := by
  refine ⟨fun pins s σ H Q I h => ?_⟩
  obtain ⟨fI, fd, iC, tI, hb, hk, F1⟩ := O.ex
  refine wpAny_Call_Name_kw (ld_glob I hg hm ?_ hdb)
  refine callWith_K (h₀ := X.base) I.ok.mod.kin O.cls.kC (thn (ha.run pos pins s σ H _ I h) fun us s1 ⟨vs, H1, I1, r1, hz, q1⟩ => ⟨I1.kIn, ?_⟩) he hpl
  show wpAny _ _ (call (.ref C) us) _ _ _
  exact run_oexV (ws := []) (zs := []) O.cls iC tI F1 hr I1 r1 .nil hz (fun s a kin hl => by
    have z := hb s (a :: us) kin hl
    exact z) (fun a n => by rw [List.append_nil]; exact q1 a n)
theorem pe_oexVK (O : OkX X.prog X.w X.K X.mg X.base C k ps ks sp) (hr : Room (k + 1) X.A) (hm : X.mg x = some (.ref C)) (hkw : PK X kws tk) (hg : Gl X x := by rfl)
    (hall : (backToKw pos (keywordEach kws X.env)).all (·.1.isSome) = true := by rfl) (hks : (backToKw pos (keywordEach kws X.env)).filterMap (·.1) = ks := by rfl) (hdb : (x == ("__debug__" : Str)) = false := by decide)
    (hpl : ((backTo pos (starEach [] X.env)).any (·.1) || (backToKw pos (keywordEach kws X.env)).any (·.1.isNone)) = false := by rfl) :
    PE X (.Call (.Name x p) [] kws pos) (tMkVK C ks.length sp tk) := by
  refine ⟨fun pins s σ H Q I h => ?_⟩
  obtain ⟨fI, fd, iC, tI, hb, hk, F1⟩ := O.ex
  refine wpAny_Call_Name_kw (ld_glob I hg hm ?_ hdb)
  refine callWith_KW0 (h₀ := X.base) I.ok.mod.kin O.cls.kC hall ?_ hpl
  refine thn (hkw.run pos pins s σ H _ I h) fun ws s2 ⟨zs, H2, I2, rz, l2, q2⟩ => ⟨I2.kIn, ?_⟩
  rw [hks]
  exact run_oexV (us := []) (vs := []) O.cls iC tI F1 hr I2 .nil rz (by decide) (fun s a kin hl => hk.to s [a] ws kin rfl (rz.length.symm.trans l2)) (fun a n => q2 a n)
end

/-- at a: a made exception of the class at D -/
def ExcAt (H : Hp) (a D : Addr) : Prop := H a = some (ExO (.ref D) a) ∨ H a = some (ExK (.ref D) none a) ∨ ∃ (d : Addr) (fs : List (Str × V)), H a = some (exo a D (some d)) ∧ H d = some (exd d fs)
theorem ExcAt.inst {X : Cx} {pins : List (Addr × Obj)} {σ : L2.St} {H : Hp} {s : Shared} {a D : Addr} (I : Inv X pins σ H s) (h : ExcAt H a D) : ∃ ox od, InstAt s.heap a ox D od := by
  rcases h with h | h | ⟨d, fs, h, hd⟩
  · obtain ⟨oe, vs, e, hz, hv, _⟩ := ((I.hok a _ h : ObjOk X.prog X.w H s.heap a (.ext _))).1
    obtain ⟨oc, od, oda, osl⟩ := oe
    obtain ⟨h1, h2⟩ := hz
    dsimp only at h1 h2 hv
    subst h1 h2 hv
    exact ⟨_, none, e, rfl, rfl, trivial⟩
  · obtain ⟨oe, vs, e, hz, hv⟩ := ((I.hok a _ h : ObjOk X.prog X.w H s.heap a (.ext _))).1
    obtain ⟨oc, od, oda, osl⟩ := oe
    obtain ⟨h1, h2⟩ := hz
    dsimp only at h1 h2 hv
    subst h1 h2 hv
    exact ⟨_, none, e, rfl, rfl, trivial⟩
  · obtain ⟨t1, e⟩ := exo_at I.hok h
    obtain ⟨mA, ⟨od, es, ep, e2, _⟩, _⟩ := exd_at I.hok hd
    exact ⟨_, some od, e, rfl, rfl, e2⟩
/-- isinstance(e, c), e a made exception -/
def rIsX (K : Frag) : List V → Hp → VK → Prop := fun xs H Q => ∃ (a D : Addr) (c : V) (cv : Value) (b : Bool), xs = [.ref a, c] ∧ ExcAt H a D ∧ ExcC K D ∧ (∀ u, RelV c u → u = cv) ∧ kitOne K (.ref D) cv = some b ∧ Q (.bl b) H
theorem call_isX {X : Cx} : CallR X (.builtin "isinstance") (rIsX X.K) := by
  intro pins s σ H xs us Q I r h
  obtain ⟨a, D, c, cv, b, rfl, ha, C, hcv, e, q⟩ := h
  cases r with
  | cons rx rr =>
    cases rr with
    | cons rt rr =>
      cases rr
      cases rx
      have ec := hcv _ rt
      subst ec
      obtain ⟨ox, od, J⟩ := ha.inst I
      have hcl : (clsIn X.K D).isSome = true := by
        obtain ⟨cd, hc, _⟩ := any_some C.hd
        rw [hc] <;> rfl
      exact kia_one (kitx_exc (od := od) hcl C.hg C.hk C.hs C.ha C.hn C.ht C.hm) I.kIn J e (fun z => nomatch z) fun tk => ⟨.bl b, H, I.kept (t' := tk) fun _ _ z => z, rfl, q⟩
/-- e.f, e a made exception with a dict -/
def tXat (K : Frag) (f : Str) (te : TE) : TE := fun σ H Q => te σ H fun x H1 => ∃ (a C dx : Addr) (fs : List (Str × V)) (v : V), x = .ref a ∧ XfC K C ∧ findIn K (.ref C) f = some none ∧ H1 a = some (exo a C (some dx)) ∧ H1 dx = some (exd dx fs) ∧ fs.lookup f = some v ∧ Q v H1
theorem pe_xat {X : Cx} {e : Expr} {te : TE} {pos : Pos} {n : Str} (he : PE X e te) (hb : attributeBase e n X.env (eval e X.env) = eval e X.env := by rfl) : PE X (.Attribute e n pos) (tXat X.K n te) := by
  refine ⟨fun pins s σ H Q I h => ?_⟩
  refine attr_of hb (thn (he.run pins s σ H _ I h) fun u s1 hh => ?_)
  obtain ⟨x, H1, I1, rx, a, C, dx, fs, v, ex, T, hno, ea, ed, l, q⟩ := hh
  subst ex
  obtain rfl : u = Value.ref a := rx
  obtain ⟨t1, ha⟩ := exo_at I1.hok ea
  obtain ⟨mA, hns, hr⟩ := exd_at I1.hok ed
  obtain ⟨od, ho, hl⟩ := lookIn_ns hns
  obtain ⟨u, hu, ru⟩ := RelO.some_of (v := v) (o := mA n) (by rw [← l]; exact hr n)
  have J : InstAt s1.heap a _ C (some od) := ⟨ha, rfl, rfl, ho⟩
  exact HandSPX.exc_get I1.kIn J T.ga T.gg T.exC (findObj_own T.hdC hno rfl (by rw [hl, hu])) (handed_of ru) ⟨v, H1, I1.tok _, ru, q⟩
end Wnd

/-! Windowsteps: isinstance(e, (c1, c2, ..)), e a made exception. -/
namespace Wnd
open PySem PySem.Spec PyProof.Rows L2 PySem.W
def rIsXT (K : Frag) : List V → Hp → VK → Prop := fun xs H Q => (rIsX K xs H Q) ∨ ∃ (a D tp : Addr) (cs : List V) (us : List Value) (b : Bool), xs = [.ref a, .ref tp] ∧ ExcAt H a D ∧ ExcC K D ∧ H tp = some (.tup cs) ∧ Paired ClsV cs us ∧ kitAny K (.ref D) us = some b ∧ Q (.bl b) H
theorem call_isXT {X : Cx} : CallR X (.builtin "isinstance") (rIsXT X.K) := by
  intro pins s σ H xs us Q I r h
  rcases h with h | ⟨a, D, tp, cs, ws, b, rfl, ha, C, hT, k, e, q⟩
  · exact call_isX pins s σ H xs us Q I r h
  · obtain ⟨u1, u2, rfl, r1, r2⟩ := vals2 r
    cases (show u1 = Value.ref a from r1)
    cases (show u2 = Value.ref tp from r2)
    obtain ⟨_, its, rv, o, h1, h2, n, h3⟩ := (show ObjOk X.prog X.w H s.heap tp (.tup cs) from I.hok tp _ hT)
    have e3 := ClsV.all k rv
    subst e3
    obtain ⟨oc, od', dt, sl⟩ := o
    simp only at h2 h3
    subst h2 h3
    obtain ⟨ox, od, J⟩ := ha.inst I
    have hcl : (clsIn X.K D).isSome = true := by
      obtain ⟨cd, hc, _⟩ := any_some C.hd
      rw [hc] <;> rfl
    exact kia_tup (kitx_exc (od := od) hcl C.hg C.hk C.hs C.ha C.hn C.ht C.hm) I.kIn J h1 e (fun z => nomatch z) fun tk => ⟨.bl b, H, I.kept (t' := tk) fun _ _ z => z, rfl, q⟩
end Wnd

/-! the total, or the word for the error (k43) -/
namespace Wnd
open PySem PySem.Spec PyProof.Rows L2
abbrev s_law_outcome : Stmt := top 61
theorem sc_law_outcome : FnScope ["_law_task_here", "_law_thing", "_law_caught", "_law_found", "e"] ["_law_task_here", "_law_thing"] (defScope s_law_outcome) := ⟨rfl, rfl, rfl, by decide +kernel, rfl, by decide +kernel, by decide +kernel⟩
theorem pe_cls {X : Cx} {x : Str} {C : Addr} {pos : Pos} (hm : X.mg x = some (.ref C)) (hg : Gl X x := by rfl) (hd : (x == ("__debug__" : Str)) = false := by decide) : PE X (.Name x pos) (tC (.ref C)) := pe_glob hg hm rfl hd
section
variable {P : Program} {w : World} {K : PySem.W.Frag} {mg : Str → Option Value} {base : Heap}
theorem excAt_same {H H' : Hp} {a D : Addr} (h : ExcAt H a D) (s : Same H H') : ExcAt H' a D := by
  rcases h with h | h | ⟨d, fs, h1, h2⟩
  · exact .inl (s _ _ h)
  · exact .inr (.inl (s _ _ h))
  · exact .inr (.inr ⟨d, fs, s _ _ h1, s _ _ h2⟩)
/-- one class of errors, caught and known again -/
structure Kinds1 (K : PySem.W.Frag) (mg : Str → Option Value) (W D1 : Addr) (x1 : Str) : Prop where
  w : mg "WindowError" = some (.ref W)
  c1 : mg x1 = some (.ref D1)
  e1 : ExcC K D1
  w1 : PySem.W.exmOne K (.ref D1) (.ref W) = some true
  k11 : PySem.W.kitOne K (.ref D1) (.ref D1) = some true
def outV (b : Bool) (n : Int) : V := if b = true then .int n else .str "amounts"
def spOut43 (C CP CT : Addr) : Sp := fun vs H Q _ => ∃ (x a : Addr) (as : List Int) (ns : List Str) (L : List (Rule × Addr)) (g : List (Str × Int)) (r l : Int) (G : Own), vs = [.ref x, .ref a] ∧ TaskAt C CP CT H x ns L g r l G ∧ H a = some (.lst (as.map V.int)) ∧ as.length ≤ 1000 ∧ L.length ≤ 1000 ∧ ns.length ≤ 1000 ∧
  ∀ H', Same H H' → Q (outV (amtB ns L r l G as) (totN (ordG ns g) (L.map (·.1)) as)) H'
theorem ok_out43 {C CP CT W D1 : Addr} {f : Addr} {fd : FuncData} (D : DefAt K mg "_law_outcome" s_law_outcome ["_law_task_here", "_law_thing"] f fd) (B : Blt3 mg) (Z : Kinds1 K mg W D1 "InvalidAmounts") (O_total : OkR P w K mg base 5 "total" ["task", "amounts"] (spTotalR C CP CT D1)) :
    Ok P w K mg base 6 "_law_outcome" ["_law_task_here", "_law_thing"] (spOut43 C CP CT) := by
  refine D.ok (D.fn.ok sc_law_outcome (fun vs H Q E h => ?_) (fun cdv A outer s H vs Q E hr h => ?_))
  · obtain ⟨x, a, as, ns, L, g, r, l, G, rfl, _⟩ := h
    rfl
  · obtain ⟨x, a, as, ns, L, g, r, l, G, rfl, hx, ha, la, ll, ln, q⟩ := h
    have nd := sc_law_outcome.nd
    have C_InvalidAmounts := Z.c1
    refine ⟨_, (pss_cons (ps_set (i := 2) nd rfl (Or.inl rfl) pe_non)
      (pss_cons (ps_set (i := 3) nd rfl (Or.inl rfl) pe_non)
      (C8.pss_cut (ps_try_keep (i := 4) (c := .ref W) rfl rfl rfl nd rfl rfl ⟨rfl, by decide, .inl Z.w⟩ L2.takes0 (fun W' pn xe tk hp => (pss_one (ps_set (i := 3) nd rfl (Or.inl rfl) (pe_ownR O_total (hr.mono (by decide)) tk (pa_cons (pv 0) (pa_cons (pv 1) pa_nil)))))) (fun a oe cls d pn hz hf => (pss_one (ps_set (i := 2) nd rfl (Or.inl rfl) (pv 4)))))
      (pss_cons (ps_if (pt_cmpR op_isN (pv 2) pe_non (nomark _)) (pss_one (ps_ret (pv 3))) pss_nil)
      (pss_one (ps_ret (pe_ifExp (pt_val (pe_callB call_isXT (by rfl) B.isinstance (by decide +kernel) (pa_cons (pv 2) (pa_cons (pe_cls C_InvalidAmounts) pa_nil)))) pe_str pe_str))))))), ?_⟩
    refine ⟨fun σ X => ∃ (o4 : Option V), Same H X ∧ ((amtB ns L r l G as = true ∧ σ = [some (.ref x), some (.ref a), some .non, some (.int (totN (ordG ns g) (L.map (·.1)) as)), o4]) ∨
      (amtB ns L r l G as = false ∧ ∃ e : Addr, σ = [some (.ref x), some (.ref a), some (.ref e), some .non, o4] ∧ ExcAt X e D1)), ?_, ?_⟩
    · refine ⟨_, rfl, _, rfl, x, a, as, ns, L, g, r, l, G, rfl, hx, ha, la, ll, ln, fun e H1 s1 => ⟨_, s1, .inl ⟨e, rfl⟩⟩, fun e H1 s1 => ?_⟩
      exact ⟨true, Z.w1, fun _ a na => ⟨_, rfl, fun na2 => ⟨_, s1.trans (same_new na), .inr ⟨e, a, rfl, .inr (.inl upd_same)⟩⟩⟩, fun z => by cases z⟩
    · rintro σ X ⟨o4, sX, ⟨e, rfl⟩ | ⟨e, ex, rfl, xa⟩⟩
      · refine ⟨_, rfl, rfl, _, rfl, iteTe (decide_eq_true rfl) ?_⟩
        have := q _ sX
        rw [e] at this
        exact ⟨_, rfl, this⟩
      · refine ⟨_, rfl, rfl, _, rfl, iteFe (decide_eq_false fun z => nomatch z) ?_⟩
        refine ⟨_, rfl, .inl ⟨ex, D1, .ref D1, .ref D1, true, rfl, xa, Z.e1, (fun _ r => r), Z.k11, ?_⟩⟩
        have := q _ sX
        rw [e] at this
        exact ⟨_, rfl, iteT this⟩
end
end Wnd

/-! jobs: a model of the law, the task that is made of it, the pair of both -/
namespace Wnd
open PySem PySem.Spec PyProof.Rows L2
section
variable {P : Program} {w : World} {K : PySem.W.Frag} {mg : Str → Option Value} {base : Heap}
structure Job where
  x : Addr
  pr : Addr
  M : Addr
  d0 : Addr
  T : Addr
  d : Addr
  g : List (Str × Int)
  r : Int
  l : Int
  G : Own
structure JobAt (C CP CT : Addr) (H : Hp) (an gp : Addr) (ts : List Str) (rs L : List (Rule × Addr)) (ps : Addr → Addr → List V) (j : Job) : Prop where
  md : ModelAt H j.M an gp j.d0 j.T j.d ts rs j.g j.r j.l j.G
  tk : TaskAt C CP CT H j.x (sortN ts) L j.g j.r j.l (sortO j.G)
  pr : H j.pr = some (.tup (ps j.x j.M))
theorem JobAt.same {C CP CT : Addr} {H H' : Hp} {an gp : Addr} {ts : List Str} {rs L : List (Rule × Addr)} {ps : Addr → Addr → List V} {j : Job} (h : JobAt C CP CT H an gp ts rs L ps j) (s : Same H H') : JobAt C CP CT H' an gp ts rs L ps j := ⟨h.md.same s, h.tk.same s, s _ _ h.pr⟩
theorem JobAt.but {C CP CT p c : Addr} {n : Nat} {H H' : Hp} {an gp : Addr} {ts : List Str} {rs L : List (Rule × Addr)} {ps : Addr → Addr → List V} {j : Job} (h : JobAt C CP CT H an gp ts rs L ps j) (P : PenAt H p c n) (b : But p H H') : JobAt C CP CT H' an gp ts rs L ps j :=
  ⟨h.md.but P b, h.tk.butP P b, b _ _ h.pr (P.ne_of h.pr fun _ z => nomatch z)⟩
/-- a task whose system is known by its place -/
def TaskOn (CP CT : Addr) (H : Hp) (y x : Addr) (ns : List Str) (g : List (Str × Int)) (r l : Int) (G : Own) : Prop := ∃ dx ld px, H x = some (.ins CT dx (taF y ld px)) ∧ H ld = some (.dK (goalKV (ordG ns g))) ∧ PrcAt CP H px r l G
theorem TaskOn.same {CP CT : Addr} {H H' : Hp} {y x : Addr} {ns : List Str} {g : List (Str × Int)} {r l : Int} {G : Own} (h : TaskOn CP CT H y x ns g r l G) (s : Same H H') : TaskOn CP CT H' y x ns g r l G := by
  obtain ⟨dx, ld, px, h1, h2, h3⟩ := h
  exact ⟨dx, ld, px, s _ _ h1, s _ _ h2, h3.same s⟩
theorem TaskOn.wr {CP CT : Addr} {H : Hp} {y x D : Addr} {xs : List V} {o : HO} {ns : List Str} {g : List (Str × Int)} {r l : Int} {G : Own} (h : TaskOn CP CT H y x ns g r l G) (hD : H D = some (.lst xs)) : TaskOn CP CT (L2.upd H D o) y x ns g r l G := by
  obtain ⟨dx, ld, px, h1, h2, dp, lp, h3, h4, h5⟩ := h
  refine ⟨dx, ld, px, ?_, ?_, dp, lp, ?_, ?_, h5⟩
  · rw [upd_ne (ne_of h1 hD fun z => nomatch z)]; exact h1
  · rw [upd_ne (ne_of h2 hD fun z => nomatch z)]; exact h2
  · rw [upd_ne (ne_of h3 hD fun z => nomatch z)]; exact h3
  · rw [upd_ne (ne_of h4 hD fun z => nomatch z)]; exact h4
theorem TaskOn.at_ {C CP CT : Addr} {H : Hp} {y x : Addr} {ns : List Str} {L : List (Rule × Addr)} {g : List (Str × Int)} {r l : Int} {G : Own} (h : TaskOn CP CT H y x ns g r l G) (hs : SysAt C H y ns L) (hn : NumsOk ns g) : TaskAt C CP CT H x ns L g r l G := by
  obtain ⟨dx, ld, px, h1, h2, h3⟩ := h
  exact ⟨dx, y, ld, px, h1, ⟨hs, h2, hn, h3⟩⟩
/-- Task(system, numbers, prices) from what stands -/
theorem task_on {C CP CT x dx sx d px : Addr} {H : Hp} {ns : List Str} {L : List (Rule × Addr)} {g : List (Str × Int)} {r l : Int} {G : Own} {Qn : VK} {E : XK} (nx : H x = none) (ndx : H dx = none) (hs : SysAt C H sx ns L) (hd : H d = some (.dK (goalKV g))) (hn : NumsOk ns g) (hp : PrcAt CP H px r l G)
    (h : ∀ H', Same H H' → TaskOn CP CT H' sx x ns g r l G → Qn .non H') : spTaInit C CT [.ref x, .ref sx, .ref d, .ref px] (upd (upd H dx (.own x)) x (.ins CT dx [])) Qn E := by
  have s0 : Same H (upd (upd H dx (.own x)) x (.ins CT dx [])) := fun b o hb => by
    rw [upd_ne (ne_of_none hb nx), upd_ne (ne_of_none hb ndx)]
    exact hb
  refine ⟨x, dx, sx, d, px, ns, L, g, rfl, upd_same, hs.same s0, s0 _ _ hd, hn, fun ld H' b nld h1 h2 => ?_⟩
  have s1 : Same H H' := fun b' o hb => b _ _ (s0 _ _ hb) (ne_of_none hb nx)
  exact h H' s1 ⟨dx, ld, px, h1, h2, hp.same s1⟩
/-- a job under way: its model at H0, its task at H -/
structure JobPre (CP CT : Addr) (H0 H : Hp) (y an gp : Addr) (ts : List Str) (rs : List (Rule × Addr)) (ps : Addr → Addr → List V) (j : Job) : Prop where
  md : ModelAt H0 j.M an gp j.d0 j.T j.d ts rs j.g j.r j.l j.G
  tk : TaskOn CP CT H y j.x (sortN ts) j.g j.r j.l (sortO j.G)
  pr : H j.pr = some (.tup (ps j.x j.M))
theorem JobPre.same {CP CT : Addr} {H0 H H' : Hp} {y an gp : Addr} {ts : List Str} {rs : List (Rule × Addr)} {ps : Addr → Addr → List V} {j : Job} (h : JobPre CP CT H0 H y an gp ts rs ps j) (s : Same H H') : JobPre CP CT H0 H' y an gp ts rs ps j := ⟨h.md, h.tk.same s, s _ _ h.pr⟩
theorem JobPre.wr {CP CT : Addr} {H0 H : Hp} {y an gp D : Addr} {xs : List V} {o : HO} {ts : List Str} {rs : List (Rule × Addr)} {ps : Addr → Addr → List V} {j : Job} (h : JobPre CP CT H0 H y an gp ts rs ps j) (hD : H D = some (.lst xs)) : JobPre CP CT H0 (L2.upd H D o) y an gp ts rs ps j :=
  ⟨h.md, h.tk.wr hD, by rw [upd_ne (ne_of h.pr hD fun z => nomatch z)]; exact h.pr⟩
theorem JobPre.at_ {C CP CT : Addr} {H0 H : Hp} {y an gp : Addr} {ts : List Str} {rs L : List (Rule × Addr)} {ps : Addr → Addr → List V} {j : Job} (h : JobPre CP CT H0 H y an gp ts rs ps j) (s : Same H0 H) (hs : SysAt C H y (sortN ts) L) : JobAt C CP CT H an gp ts rs L ps j :=
  ⟨h.md.same s, h.tk.at_ hs (nums_sort h.md.nums), h.pr⟩
/-- a list of jobs of one system at y -/
structure TeamAt (C CP CT : Addr) (H : Hp) (y D an gp : Addr) (ts : List Str) (rs L : List (Rule × Addr)) (ps : Addr → Addr → List V) (js : List Job) : Prop where
  held : H D = some (.lst (js.map fun j => V.ref j.pr))
  sys : SysAt C H y (sortN ts) L
  jobs : ∀ j ∈ js, JobAt C CP CT H an gp ts rs L ps j
theorem TeamAt.same {C CP CT : Addr} {H H' : Hp} {y D an gp : Addr} {ts : List Str} {rs L : List (Rule × Addr)} {ps : Addr → Addr → List V} {js : List Job} (h : TeamAt C CP CT H y D an gp ts rs L ps js) (s : Same H H') : TeamAt C CP CT H' y D an gp ts rs L ps js :=
  ⟨s _ _ h.held, h.sys.same s, fun j hj => (h.jobs j hj).same s⟩
theorem TeamAt.but {C CP CT p c : Addr} {n : Nat} {H H' : Hp} {y D an gp : Addr} {ts : List Str} {rs L : List (Rule × Addr)} {ps : Addr → Addr → List V} {js : List Job} (h : TeamAt C CP CT H y D an gp ts rs L ps js) (P : PenAt H p c n) (b : But p H H') : TeamAt C CP CT H' y D an gp ts rs L ps js :=
  ⟨b _ _ h.held (P.ne_refs (L := js.map (·.pr)) (by rw [List.map_map]; exact h.held)), h.sys.butP P b, fun j hj => (h.jobs j hj).but P b⟩
end
end Wnd

namespace Wnd
open PySem PySem.Spec PyProof.Rows L2
abbrev s_law : Stmt := top 62
theorem sc_law : FnScope ["_law_script", "_law_pen_here", "_law_turn", "_law_first", "_law_second", "_law_there_here", "_law_held", "_law_again", "_law_some_here", "_law_seen", "_law_task_here", "_law_model_here", "_law_due", "_law_one"] ["_law_script"] (defScope s_law) := ⟨rfl, rfl, rfl, by decide +kernel, rfl, by decide +kernel, by decide +kernel⟩
section
variable {P : Program} {w : World} {K : PySem.W.Frag} {mg : Str → Option Value} {base : Heap}
def spLaw (K : PySem.W.Frag) : Sp := fun vs H Q _ => ∃ (a : Addr) (ns : List Int), vs = [.ref a] ∧ SqL K H a (ns.map V.int) ∧ ns.length ≤ 63 ∧ ∀ H', Q (.bl true) H'
def intsD (as : List Int) : PyData := .list (as.map PyData.int)
theorem ints_fits {as : List Int} (h : ∀ z ∈ as, 0 ≤ z ∧ z ≤ 1000) (l : as.length ≤ 1000) : (intsD as).canLay0 = (match intsD as with | .dict _ => (intsD as).canLay0 | _ => true) ∧ (intsD as).showable = true ∧ (intsD as).shown.length ≤ sizeLine ∧ (intsD as).depth ≤ 60 := by
  have n := nice_list (m := 0) (w := 64) (ds := as.map PyData.int) fun d hd => by
    obtain ⟨z, hz, rfl⟩ := List.mem_map.mp hd
    have := h z hz
    exact nice_int (by omega)
  obtain ⟨f1, f2, f3⟩ := n.fits (by decide) (by rw [List.length_map]; omega)
  exact ⟨by simp [intsD, PyData.canLay0, (lay_ints as).1], f1, f2, f3⟩
def outD (b : Bool) (n : Int) : PyData := if b = true then .int n else .str "amounts"
theorem out_fits {b : Bool} {n : Int} (h : n.natAbs < 10 ^ 12) : (outD b n).canLay0 = (match outD b n with | .dict _ => (outD b n).canLay0 | _ => true) ∧ (outD b n).showable = true ∧ (outD b n).shown.length ≤ sizeLine ∧ (outD b n).depth ≤ 60 := by
  cases b with
  | true =>
    obtain ⟨f1, f2, f3⟩ := (nice_int h).fits (by decide) (by decide)
    exact ⟨by simp [outD, PyData.canLay0], f1, f2, f3⟩
  | false => exact (⟨by decide +kernel, by decide +kernel, by decide +kernel, by decide +kernel⟩ : (PyData.str "amounts").canLay0 = (match PyData.str "amounts" with | .dict _ => (PyData.str "amounts").canLay0 | _ => true) ∧ (PyData.str "amounts").showable = true ∧ (PyData.str "amounts").shown.length ≤ sizeLine ∧ (PyData.str "amounts").depth ≤ 60)
theorem out_dp {K : PySem.W.Frag} {H : Hp} {b : Bool} {n : Int} : Dp K H (outV b n) (outD b n) := by
  cases b with
  | true => exact .int n
  | false => exact .str _
theorem short_bound {ts : List Str} {g : List (Str × Int)} {r : Rule} (h : NumsOk ts g) (ge : -999 ≤ r.gap) (le : r.gap ≤ 999) : -200997 ≤ shortB g r ∧ shortB g r ≤ 200997 := by
  unfold shortB
  have b : ∀ o : Option Str, -99999 ≤ valG g o ∧ valG g o ≤ 99999 := fun o => by
    cases o with
    | none =>
      show -99999 ≤ (0 : Int) ∧ (0 : Int) ≤ 99999
      exact ⟨by decide, by decide⟩
    | some t => exact nums_bound h t
  have b1 := b r.low
  have b2 := b r.high
  omega
theorem tot_bound {ts : List Str} {g : List (Str × Int)} {cs : List Rule} (h : NumsOk ts g) (hc : ∀ r ∈ cs, -999 ≤ r.gap ∧ r.gap ≤ 999) : ∀ (as : List Int), (∀ z ∈ as, 0 ≤ z ∧ z ≤ 1000) → -(201000000 * (cs.length : Int)) ≤ totN g cs as ∧ totN g cs as ≤ 201000000 * (cs.length : Int) := by
  induction cs with
  | nil => intro as _; unfold totN; simp
  | cons r cs ih =>
    intro as ha
    cases as with
    | nil => unfold totN; simp; omega
    | cons z as =>
      have i1 := ih (fun r hr => hc r (.tail _ hr)) as fun z hz => ha z (.tail _ hz)
      have e : totN g (r :: cs) (z :: as) = z * shortB g r + totN g cs as := rfl
      have hz := ha z List.mem_cons_self
      have hr := hc r List.mem_cons_self
      have sb := short_bound h hr.1 hr.2
      have m1 : z * shortB g r ≤ 1000 * 200997 := by
        have := Int.mul_le_mul_of_nonneg_left sb.2 hz.1
        have := Int.mul_le_mul_of_nonneg_right hz.2 (show (0 : Int) ≤ 200997 by decide)
        omega
      have m2 : -(1000 * 200997) ≤ z * shortB g r := by
        have := Int.mul_le_mul_of_nonneg_left sb.1 hz.1
        have := Int.mul_le_mul_of_nonneg_right hz.2 (show (0 : Int) ≤ 200997 by decide)
        omega
      rw [e, List.length_cons]
      omega
theorem short_ord {ts : List Str} {g : List (Str × Int)} {r : Rule} (h : RuleOk ts r) : shortB (ordG (sortN ts) g) r = shortB g r := by
  have b : ∀ o : Option Str, endIn ts o = true → valG (ordG (sortN ts) g) o = valG g o := fun o ho => by
    cases o with
    | none => rfl
    | some t =>
      obtain ⟨x, hx, e⟩ := List.any_eq_true.mp ho
      have : t ∈ sortN ts := (sortN_perm ts).mem_iff.mpr (eq_of_beq e ▸ hx)
      exact valG_map (F := fun t => valG g (some t)) this
  unfold shortB
  rw [b _ h.low, b _ h.high]
theorem tot_ord {ts : List Str} {g : List (Str × Int)} {cs : List Rule} (h : ∀ r ∈ cs, RuleOk ts r) (as : List Int) : totN (ordG (sortN ts) g) cs as = totN g cs as := by
  unfold totN
  congr 1
  refine List.map_congr_left fun p hp => ?_
  rw [short_ord (h _ (List.of_mem_zip hp).1)]
set_option maxHeartbeats 4000000 in
theorem run_law {C CP CT : Addr} {f : Addr} {fd : FuncData} (F : Fun K "law" "law" s_law f fd) (bd : Binds K fd ["_law_script"] []) (room : Room 10 callerA) (TS_ : SysF K mg C) (B : Blt3 mg) (C_Task : mg "Task" = some (.ref CT)) (O_law_pen : Ok P w K mg base 1 "_law_pen" ["_law_script"] (spPen K))
    (O_law_goal : Ok P w K mg base 3 "_law_goal" ["_law_pen_here", "_law_nyms_here"] (spGoal K)) (O_law_model : Ok P w K mg base 6 "_law_model" ["_law_pen_here", "_law_most", "_law_many"] spModelD) (O_law_deal : Ok P w K mg base 3 "_law_deal" ["_law_pen_here", "_law_nyms_here"] spDeal) (O_law_there : Ok P w K mg base 7 "_law_there" ["_law_model_here"] (spThereL C)) (O_law_prices : Ok P w K mg base 7 "_law_prices" ["_law_deal_here"] (spPricesL CP))
    (O_law_sorted : Ok P w K mg base 2 "_law_sorted" ["_law_gaps_here"] spSorted) (O_law_amounts : Ok P w K mg base 3 "_law_amounts" ["_law_pen_here", "_law_model_here"] spAmounts) (O_law_are_amounts : Ok P w K mg base 3 "_law_are_amounts" ["_law_model_here", "_law_thing"] spLAmt) (O_law_total : Ok P w K mg base 3 "_law_total" ["_law_model_here", "_law_thing"] spLTotal)
    (O_law_outcome : Ok P w K mg base 6 "_law_outcome" ["_law_task_here", "_law_thing"] (spOut43 C CP CT)) (OT : OkMk P w K mg base CT 6 ["self", "system", "numbers", "prices"] (spTaInit C CT)) (TN : OkP P w K mg base CT 1 "numbers" (spTaNum C CP CT)) (OE : OkEq P w K mg base C 1 (spEq K C))
    {s : Shared} {H : Hp} {us : List Value} {vs : List V} {Q : VK} {E : XK} (env : Env0 P w K mg base callerA [] s H) (len : vs.length = 1) (rel : Vals vs us) (h : spLaw K vs H Q E) : codeAny (model P w) callerA (.call (.ref f) ⟨us, []⟩) (CR CX0 [] P w H s Q E) s := by
  refine top_run (k := 9) F sc_law bd room (fun cdv s H vs Q E hr h => ?_) env len rel h
  obtain ⟨a, ns, rfl, hS, hlen, q⟩ := h
  have nd := sc_law.nd
  have hu := hu_of hr
  have big : sizeLine > 1000000 := by decide
  refine ⟨_, (pss_cons (ps_set (i := 1) nd rfl (Or.inl rfl) (pe_own O_law_pen (hr.mono (by decide)) (pa_cons (pv 0) pa_nil)))
      (pss_cons (ps_for PassesOwn.never rfl (pi_range1 (by rfl) B.range (pa_cons pe_int pa_nil)) (pg_name (i := 2) nd rfl (Or.inl rfl)) (pss_cons (ps_set (i := 3) nd rfl (Or.inl rfl) (pe_own O_law_model (hr.mono (by decide)) (pa_cons (pv 1) (pa_cons pe_int (pa_cons pe_int pa_nil)))))
      (pss_cons (ps_set (i := 4) nd rfl (Or.inl rfl) (pe_tup (pa_cons (pe_ix ix_tup (pv 3) pe_int (fun _ _ => rfl)) (pa_cons (pe_ix ix_tup (pv 3) pe_int (fun _ _ => rfl)) (pa_cons (pe_own O_law_goal (hr.mono (by decide)) (pa_cons (pv 1) (pa_cons (pe_ix ix_tup (pv 3) pe_int (fun _ _ => rfl)) pa_nil))) (pa_cons (pe_own O_law_deal (hr.mono (by decide)) (pa_cons (pv 1) (pa_cons (pe_ix ix_tup (pv 3) pe_int (fun _ _ => rfl)) pa_nil))) pa_nil))))))
      (pss_cons (ps_set (i := 5) nd rfl (Or.inr rfl) (pe_own O_law_there (hr.mono (by decide)) (pa_cons (pv 3) pa_nil)))
      (pss_cons (ps_setLc (i := 6) (own := [("_law_one", 13)]) (g := gName 13) (tt := tYes) (by rfl) nd rfl rfl (sw_true rfl rfl rfl (by decide +kernel)) (pi_tup (pe_tup (pa_cons (pv 3) (pa_cons (pv 4) pa_nil)))) (blkOk_by (own := [("_law_one", 13)]) (N := ["_law_script", "_law_pen_here", "_law_turn", "_law_first", "_law_second", "_law_there_here", "_law_held", "_law_again", "_law_some_here", "_law_seen", "_law_task_here", "_law_model_here", "_law_due", "_law_one"]) (sc := defScope s_law) (by decide +kernel)) (fun _ _ _ _ _ => (pg_name (i := 13) nd rfl (Or.inl rfl))) (fun _ _ _ _ _ => pts_nil) (fun _ _ _ _ _ => (pe_tup (pa_cons (pe_mk OT (hr.mono (by decide)) C_Task (pa_cons (pv 5) (pa_cons (pe_ix (ix_tupK K) (pv 13) pe_int (fun _ _ => rfl)) (pa_cons (pe_own O_law_prices (hr.mono (by decide)) (pa_cons (pe_ix (ix_tupK K) (pv 13) pe_int (fun _ _ => rfl)) pa_nil)) pa_nil)))) (pa_cons (pv 13) pa_nil)))))
      (pss_cons (ps_for PassesOwn.never rfl (pi_range1 (by rfl) B.range (pa_cons pe_int pa_nil)) (pg_name (i := 7) nd rfl (Or.inl rfl)) (C8.pss_cut (ps_set (i := 8) nd rfl (Or.inl rfl) (pe_ifExp (pt_cmpR op_gt (pv 7) pe_int (nomark _)) (pe_own O_law_amounts (hr.mono (by decide)) (pa_cons (pv 1) (pa_cons (pv 3) pa_nil))) (pe_op op_rep (pe_lst (pa_cons pe_int pa_nil)) (pe_callB call_len_seq (by rfl) B.len PySem.boot_len (pa_cons (pe_own O_law_sorted (hr.mono (by decide)) (pa_cons (pe_ix ix_tup (pv 3) pe_int (fun _ _ => rfl)) pa_nil)) pa_nil)))))
      (pss_cons (ps_set (i := 9) nd rfl (Or.inl rfl) (pe_callB (call_reprD rfl (hu65 hr)) (by rfl) B.repr (by decide +kernel) (pa_cons (pv 8) pa_nil)))
      (pss_one (ps_for PassesOwn.never rfl (pi_list (pe_op op_cat (pv 6) (pe_slice sl_list (pv 6) po_none (po_some pe_int)))) (pg_tup rfl (pgs_cons (pg_name (i := 10) nd rfl (Or.inl rfl)) (pgs_cons (pg_name (i := 11) nd rfl (Or.inl rfl)) pgs_nil))) (C8.pss_cut (ps_set (i := 12) nd rfl (Or.inl rfl) (pe_ifExp (pt_val (pe_own O_law_are_amounts (hr.mono (by decide)) (pa_cons (pv 11) (pa_cons (pv 8) pa_nil)))) (pe_own O_law_total (hr.mono (by decide)) (pa_cons (pv 11) (pa_cons (pv 8) pa_nil))) pe_str))
      (pss_one (ps_if (PW.pt (pw_or (pt_cmpR op_ne (pe_callB (call_reprD rfl (hu65 hr)) (by rfl) B.repr (by decide +kernel) (pa_cons (pe_own O_law_outcome (hr.mono (by decide)) (pa_cons (pv 10) (pa_cons (pv 8) pa_nil))) pa_nil)) (pe_callB (call_reprD rfl (hu65 hr)) (by rfl) B.repr (by decide +kernel) (pa_cons (pv 12) pa_nil)) (nomark _)) (pw_or1 (pt_cmpR op_ne (pe_callB (call_reprD rfl (hu65 hr)) (by rfl) B.repr (by decide +kernel) (pa_cons (pv 8) pa_nil)) (pv 9) (nomark _))))) (pss_one (ps_ret pe_bl)) pss_nil))))))))
      (pss_one (ps_if (PW.pt (pw_or (pt_cmpR (op_ne_dictA (Nat.lt_of_succ_lt hu)) (pe_propO TN (hr.mono (by decide)) (pe_ix ix_tup (pe_ix ix_list (pv 6) pe_int (fun _ _ => rfl)) pe_int (fun _ _ => rfl))) (pe_ix ix_tup (pv 3) pe_int (fun _ _ => rfl)) (nomark _)) (pw_or1 (pt_cmpR (op_neO OE (hr.mono (by decide))) (pv 5) (pe_own O_law_there (hr.mono (by decide)) (pa_cons (pv 3) pa_nil)) (nomark _))))) (pss_one (ps_ret pe_bl)) pss_nil))))))))
      (pss_one (ps_ret pe_bl)))), ?_⟩
  refine ⟨_, rfl, a, ns, rfl, hS, hlen, fun p c H0 s0 np nc hP0 => ?_⟩
  refine ⟨8, rfl, by decide, by decide, ?_⟩
  refine for_it walk_range (fun i σ Hc => ∃ (o2 o3 o4 o5 o6 o7 o8 o9 o10 o11 o12 : Option V), σ = [some (.ref a), some (.ref p), o2, o3, o4, o5, o6, o7, o8, o9, o10, o11, o12, none] ∧ PenAt Hc p c (700 * i))
    ⟨_, _, _, _, _, _, _, _, _, _, _, rfl, hP0⟩ (fun _ _ _ _ _ => True.intro) ?_ ?_
  · clear hP0 s0 np nc H0
    rintro i x0 σ Hz Hc hi ⟨o2, o3, o4, o5, o6, o7, o8, o9, o10, o11, o12, rfl, Pc⟩ ⟨rfl, rfl⟩
    have hi : i < 8 := hi
    refine ⟨_, rfl, p, c, 700 * i, 6, 7, rfl, Pc, by omega, by decide, by decide, fun M1 an gp d1 T1 e1 ts rs g1 r1 l1 G1 H1 n1 b1 md1 nM1 nan nd1 nT1 ne1 mem lts lrs kep kg1 vg1 lG1 P1 hn1 => ?_⟩
    have N := md1.ok
    have lN := N.2.2
    clear nM1 nan nd1 nT1 ne1 b1 Pc
    -- the second model
    refine ⟨_, rfl, M1, _, 0, .ref an, rfl, rfl, SqT.of md1.m, atI_nat (j := 0) rfl, _, rfl, M1, _, 1, .ref gp, rfl, rfl, SqT.of md1.m, atI_nat (j := 1) rfl, ?_⟩
    refine ⟨_, rfl, _, rfl, M1, _, 0, .ref an, rfl, rfl, SqT.of md1.m, atI_nat (j := 0) rfl, p, c, an, n1, ts, rfl, P1, by omega, md1.an, N.1, by omega, fun d2 H2 n2 g2 b2 nd2 hd2 kg2 vg2 P2 hn2 => ?_⟩
    have md2 := md1.but P1 b2
    have DD2 : DictAt H2 ts d2 g2 := ⟨hd2, by rw [kg2], fun x hx => by have := vg2 x hx; omega⟩
    refine ⟨_, rfl, _, rfl, M1, _, 0, .ref an, rfl, rfl, SqT.of md2.m, atI_nat (j := 0) rfl, p, c, an, n2, ts, rfl, P2, by omega, md2.an, N.2.1, by omega, fun T2 e2 r2 l2 G2 H3 n3 b3 nT2 ne2 hT2 lG2 P3 hn3 => ?_⟩
    have md3 := md2.but P2 b3
    have DD3 := DD2.but b3 (penL P2)
    refine ⟨by show 4 ≤ sizeLine; decide, fun M2 nM2 => ?_⟩
    have u4 := same_new (o := .tup [.ref an, .ref gp, .ref d2, .ref T2]) nM2
    have md4 := md3.same u4
    have DD4 := DD3.same u4
    have P4 := P3.same u4
    have me4 : ModelAt (upd H3 M2 (.tup [.ref an, .ref gp, .ref d2, .ref T2])) M2 an gp d2 T2 e2 ts rs g2 r2 l2 G2 := ⟨upd_same, md4.an, N, md4.gp, md4.kt, md4.ro, md4.lr, DD4.at_, ⟨DD4.keys, DD4.bnd⟩, hT2.same u4⟩
    generalize upd H3 M2 (.tup [.ref an, .ref gp, .ref d2, .ref T2]) = H4 at u4 md4 DD4 P4 me4 ⊢
    clear md1 md2 md3 DD2 DD3 DD4 P1 P2 P3 b2 b3 nd2 nT2 ne2 nM2 u4 hT2 hd2 H1 H2 H3
    -- the system
    refine ⟨_, rfl, M1, an, gp, d1, T1, e1, ts, rs, g1, r1, l1, G1, rfl, md4, fun y L H5 s5 nS eL lL => ?_⟩
    have md5 := md4.same s5
    have me5 := me4.same s5
    have P5 := P4.same s5
    have S5 := nS.at_
    clear md4 me4 P4 nS s5 H4
    -- the two tasks
    refine ⟨_, rfl, _, rfl, by show 2 ≤ sizeLine; decide, fun tt ntt => ⟨tt, rfl, ⟨_, SqT.of upd_same⟩, fun D hD => ?_⟩⟩
    have u6 := same_new (o := .tup [V.ref M1, .ref M2]) ntt
    have htt : (upd H5 tt (.tup [V.ref M1, .ref M2])) tt = some (.tup [V.ref M1, .ref M2]) := upd_same
    have md6 := md5.same u6
    have me6 := me5.same u6
    have P6 := P5.same u6
    have S6 := S5.same u6
    generalize upd H5 tt (.tup [V.ref M1, .ref M2]) = H6 at u6 htt md6 me6 P6 S6 hD ⊢
    clear md5 me5 P5 S5 u6 ntt H5
    refine lc_it (walk_tup (xs := [V.ref M1, .ref M2])) (fun k Hc => Same H6 Hc ∧ ∃ js : List Job, js.length = k ∧ Hc D = some (.lst (js.map fun j => V.ref j.pr)) ∧ (∀ j ∈ js, JobPre CP CT H6 Hc y an gp ts rs (fun x M => [.ref x, .ref M]) j) ∧ ∀ j, js[0]? = some j → j.g = g1 ∧ j.d0 = d1)
      ⟨same_new hD, [], rfl, upd_same, (fun _ h => nomatch h), fun _ h => nomatch h⟩ (fun k Hc _ h => SqT.of (h.1 _ _ htt)) ?_ ?_
    · rintro k v X X' hk ⟨sX, js, ljs, hDX, jsX, js0⟩ ⟨rfl, hv⟩
      obtain ⟨Mi, d0, T, e, g, r, l, G, rfl, md, m0⟩ : ∃ Mi d0 T e g r l G, v = .ref Mi ∧ ModelAt H6 Mi an gp d0 T e ts rs g r l G ∧ (k = 0 → g = g1 ∧ d0 = d1) := by
        match k, hk with
        | 0, _ => cases hv; exact ⟨M1, d1, T1, e1, g1, r1, l1, G1, rfl, md6, fun _ => ⟨rfl, rfl⟩⟩
        | 1, _ => cases hv; exact ⟨M2, d2, T2, e2, g2, r2, l2, G2, rfl, me6, fun z => by cases z⟩
      refine ⟨rfl, ?_⟩
      unfold tYes
      dsimp only
      rw [if_pos rfl]
      have md0 := md
      replace md := md.same sX
      refine ⟨_, rfl, _, rfl, Mi, _, 2, .ref d0, rfl, rfl, SqT.of md.m, atI_nat (j := 2) rfl, ?_⟩
      refine ⟨_, rfl, Mi, _, 3, .ref T, rfl, rfl, SqT.of md.m, atI_nat (j := 3) rfl, T, e, r, l, G, rfl, md.deal, fun px X2 s2 hP => ?_⟩
      refine fun x dx nx ndx _ => task_on nx ndx ((S6.same sX).same s2) (s2 _ _ md.d0) (nums_sort md.nums) hP.at_ fun X3 s3 ta => ⟨rfl, ?_⟩
      refine ⟨_, rfl, by show 2 ≤ sizeLine; decide, fun Tp nTp => ?_⟩
      have s4 := same_new (o := .tup [V.ref x, .ref Mi]) nTp
      have s24 := (s2.trans s3).trans s4
      have hD4 := s24 _ _ hDX
      refine ⟨_, hD4, by rw [List.length_map, ljs]; have : k < 2 := hk; omega, ?_⟩
      have hTp : (upd X3 Tp (.tup [V.ref x, .ref Mi])) Tp = some (.tup [V.ref x, .ref Mi]) := upd_same
      have md4 := md.same s24
      have ta4 := ta.same s4
      have js4 : ∀ j ∈ js, JobPre CP CT H6 (upd X3 Tp (.tup [V.ref x, .ref Mi])) y an gp ts rs (fun x M => [.ref x, .ref M]) j := fun j hj => (jsX j hj).same s24
      have sX4 := sX.trans s24
      generalize upd X3 Tp (.tup [V.ref x, .ref Mi]) = X4 at hD4 hTp md4 ta4 js4 sX4 ⊢
      have sF : Same H6 (upd X4 D (.lst ((js.map fun j => V.ref j.pr) ++ [.ref Tp]))) := fun b o hb => by
        rw [upd_ne (ne_of_none hb hD)]
        exact sX4 _ _ hb
      refine ⟨sF, js ++ [⟨x, Tp, Mi, d0, T, e, g, r, l, G⟩], by rw [List.length_append, ljs]; rfl, by rw [upd_same, List.map_append]; rfl, fun j hj => ?_, fun j hj => ?_⟩
      · rcases List.mem_append.mp hj with hj | hj
        · exact (js4 j hj).wr hD4
        · rw [List.mem_singleton.mp hj]
          exact JobPre.wr ⟨md0, ta4, hTp⟩ hD4
      · cases js with
        | nil =>
          cases hj
          exact m0 ljs.symm
        | cons j0 js' =>
          exact js0 j hj
    · rintro X ⟨sX, js, ljs, hDX, jsX, js0⟩
      have S7 := S6.same sX
      have P7 := P6.same sX
      have md7 := md6.same sX
      have js7 : ∀ j ∈ js, JobAt C CP CT X an gp ts rs L (fun x M => [.ref x, .ref M]) j := fun j hj => (jsX j hj).at_ sX S7
      have T7 : TeamAt C CP CT X y D an gp ts rs L (fun x M => [.ref x, .ref M]) js := ⟨hDX, S7, js7⟩
      clear jsX S6 P6 me6 md6 htt hD sX hDX S7 js7
      refine ⟨6, rfl, by decide, by decide, ?_⟩
      refine for_it (walk_range (lo := 0)) (fun k σ Z => ∃ (o7 o8 o9 o10 o11 o12 : Option V), σ = [some (.ref a), some (.ref p), some (.int (0 + (i : Int))), some (.ref M1), some (.ref M2), some (.ref y), some (.ref D), o7, o8, o9, o10, o11, o12, none] ∧ TeamAt C CP CT Z y D an gp ts rs L (fun x M => [.ref x, .ref M]) js ∧ ModelAt Z M1 an gp d1 T1 e1 ts rs g1 r1 l1 G1 ∧ PenAt Z p c (n3 + 60 * k))
        ⟨_, _, _, _, _, _, rfl, T7, md7, P7⟩ (fun _ _ _ _ _ => True.intro) ?_ ?_
      · clear T7 md7 P7 X
        rintro k v σ Hz X hk ⟨o7, o8, o9, o10, o11, o12, rfl, TX, mX, PX⟩ ⟨rfl, rfl⟩
        have hk : k < 6 := hk
        refine ⟨fun σ Z => ∃ (b : Addr) (as : List Int), σ = [some (.ref a), some (.ref p), some (.int (0 + (i : Int))), some (.ref M1), some (.ref M2), some (.ref y), some (.ref D), some (.int (0 + (k : Int))), some (.ref b), o9, o10, o11, o12, none] ∧ TeamAt C CP CT Z y D an gp ts rs L (fun x M => [.ref x, .ref M]) js ∧ ModelAt Z M1 an gp d1 T1 e1 ts rs g1 r1 l1 G1 ∧ PenAt Z p c (n3 + 60 * (k + 1)) ∧ Z b = some (.lst (as.map V.int)) ∧ as.length = (canon (rs.map (·.1))).length ∧ ∀ z ∈ as, 0 ≤ z ∧ z ≤ 1000, ?_, ?_⟩
        · refine ⟨_, rfl, _, _, rfl, rfl, _, rfl, ?_⟩
          by_cases k0 : (0 + (k : Int)) > 0
          · refine iteTe (decide_eq_true k0) ?_
            refine ⟨_, rfl, _, rfl, p, c, _, M1, an, gp, d1, T1, e1, ts, rs, g1, r1, l1, G1, rfl, PX, by omega, mX, fun b Z n' as bZ nb hb lb bb PZ hn' => ?_⟩
            exact ⟨b, as, rfl, TX.but PX bZ, mX.but PX bZ, PZ.le (by omega), hb, lb, bb⟩
          · refine iteFe (decide_eq_false k0) ?_
            refine ⟨by show 1 ≤ sizeLine; decide, fun l0 nl0 => ?_⟩
            have u1 := same_new (o := .lst [V.int 0]) nl0
            have h1 : (upd X l0 (.lst [V.int 0])) l0 = some (.lst [V.int 0]) := upd_same
            have TX1 := TX.same u1
            have mX1 := mX.same u1
            have PX1 := PX.same u1
            generalize upd X l0 (.lst [V.int 0]) = X1 at u1 h1 TX1 mX1 PX1 ⊢
            refine ⟨_, rfl, M1, _, 1, .ref gp, rfl, rfl, SqT.of mX1.m, atI_nat (j := 1) rfl, ?_⟩
            refine ⟨gp, rs, rfl, mX1.gp, mX1.kt, mX1.nsh, mX1.lz, fun sr X2 L' s2 nsr hsr eL' mL' => ?_⟩
            have lL' := canon_le eL'
            refine ⟨sr, _, rfl, .inl (SqL.of hsr), l0, _, _, rfl, rfl, s2 _ _ h1, ?_, ?_, ?_, fun b nb => ?_⟩
            · rw [List.length_map]; omega
            · rw [List.length_map]; omega
            · rw [List.length_map]
              show 1 * (L'.length : Int).toNat ≤ sizeLine
              omega
            have u3 := s2.trans (same_new (o := .lst (List.replicate ((L'.map fun x => V.ref x.2).length : Int).toNat [V.int 0]).flatten) nb)
            refine ⟨b, List.replicate L'.length 0, rfl, TX1.same u3, mX1.same u3, (PX1.same u3).le (by omega), ?_, ?_, fun z hz => by have := List.eq_of_mem_replicate hz; omega⟩
            · rw [upd_same, rep_zero, List.length_map, Int.toNat_natCast]
            · rw [List.length_replicate, ← eL', List.length_map]
        · rintro σ Z ⟨b, as, rfl, TZ, mZ, PZ, hb, lb, bb⟩
          have lC := canon_len (rs.map (·.1))
          rw [List.length_map] at lC
          have lrs := mZ.lr
          obtain ⟨f0, f1, f2, f3⟩ := ints_fits bb (by omega)
          have shA : ∀ X, Same Z X → Sh K X (.ref b) (intsD as) := fun X s => .dp (.lst (SqL.of (s _ _ hb)) (dp_ints as))
          refine ⟨_, rfl, _, intsD as, rfl, shA _ (Same.refl _), f0, f1, f2, f3, ?_⟩
          refine ⟨_, rfl, _, rfl, 1, rfl, D, _, rfl, SqL.of TZ.held, fun sl nsl => ?_⟩
          have u1 := same_new (o := .lst (cutV (js.map fun j => V.ref j.pr) none (some 1))) nsl
          have hsl : (upd Z sl (.lst (cutV (js.map fun j => V.ref j.pr) none (some 1)))) sl = some (.lst (cutV (js.map fun j => V.ref j.pr) none (some 1))) := upd_same
          have hD1 := u1 _ _ TZ.held
          obtain ⟨qs, eqs, mqs, lqs⟩ : ∃ qs : List Job, cutV (js.map fun j => V.ref j.pr) none (some 1) = qs.map (fun j => V.ref j.pr) ∧ (∀ j ∈ qs, j ∈ js) ∧ qs.length ≤ 1 := by
            refine ⟨js.take 1, ?_, fun j hj => List.mem_of_mem_take hj, by rw [List.length_take]; omega⟩
            unfold cutV
            rw [HT.sIx_none, show HT.sIx (js.map fun j => V.ref j.pr).length (js.map fun j => V.ref j.pr).length (some 1) = min 1 (js.map fun j => V.ref j.pr).length from HT.sIx_nat _ _ 1, List.drop_zero, Nat.sub_zero, List.map_take, List.length_map, ljs]
            rfl
          rw [eqs] at u1 hsl hD1 ⊢
          generalize upd Z sl (.lst (qs.map fun j => V.ref j.pr)) = Z1 at u1 hsl hD1 ⊢
          refine ⟨D, sl, _, _, rfl, rfl, hD1, hsl, ?_, fun hl nhl => ?_⟩
          · rw [List.length_map, List.length_map, ljs]
            show 2 + qs.length ≤ sizeLine
            omega
          have u2 := u1.trans (same_new (o := .lst ((js.map fun j => V.ref j.pr) ++ qs.map fun j => V.ref j.pr)) nhl)
          have hhl : (upd Z1 hl (.lst ((js.map fun j => V.ref j.pr) ++ qs.map fun j => V.ref j.pr))) hl = some (.lst ((js ++ qs).map fun j => V.ref j.pr)) := by rw [upd_same, List.map_append]
          generalize upd Z1 hl (.lst ((js.map fun j => V.ref j.pr) ++ qs.map fun j => V.ref j.pr)) = Z2 at u2 hhl ⊢
          have mw : ∀ j ∈ js ++ qs, j ∈ js := fun j hj => (List.mem_append.mp hj).elim id (mqs j)
          generalize js ++ qs = ws at hhl mw
          clear hsl hD1 nsl eqs mqs u1 nhl
          refine ⟨hl, rfl, ⟨_, SqL.of hhl⟩, ?_⟩
          refine for_it (walk_list (xs := ws.map fun j => V.ref j.pr)) (fun m σ X => ∃ (o10 o11 o12 : Option V), σ = [some (.ref a), some (.ref p), some (.int (0 + (i : Int))), some (.ref M1), some (.ref M2), some (.ref y), some (.ref D), some (.int (0 + (k : Int))), some (.ref b), some (.str (intsD as).shown), o10, o11, o12, none] ∧ Same Z2 X)
            ⟨_, _, _, rfl, Same.refl _⟩ (fun m σ X _ h => by
              obtain ⟨_, _, _, _, s⟩ := h
              exact SqL.of (s _ _ hhl)) ?_ ?_
          · rintro m v σ Hz X hm ⟨o10, o11, o12, rfl, sX⟩ ⟨rfl, hv⟩
            obtain ⟨j, hj, rfl⟩ := get_map hv
            have jm := mw j (List.mem_of_getElem? hj)
            have sZ := u2.trans sX
            have jX := (TZ.jobs j jm).same sZ
            have hbX := sZ _ _ hb
            have N1 := jX.md.ok.2.2
            refine ⟨j.pr, _, rfl, SqT.of jX.pr, rfl, _, _, rfl, _, _, rfl, rfl, ?_⟩
            obtain ⟨cs, ecs⟩ : ∃ cs, canon (rs.map (·.1)) = cs := ⟨_, rfl⟩
            have aE := amt_law (ts := ts) (r := j.r) (l := j.l) (G := j.G) (as := as) (eL.trans ecs)
            have rokc : ∀ q ∈ cs, RuleOk ts q := fun q hq => by
              rw [← ecs, canon_mem] at hq
              obtain ⟨z, hz, rfl⟩ := List.mem_map.mp hq
              exact mZ.ro z hz
            have tE : totN (ordG (sortN ts) j.g) (L.map (·.1)) as = totN j.g cs as := by rw [eL, ecs, tot_ord rokc]
            have tB := tot_bound jX.md.nums (fun q hq => ⟨(rokc q hq).ge, (rokc q hq).le⟩) as bb
            rw [ecs] at lC lb
            have tS : (totN j.g cs as).natAbs < 10 ^ 12 := by omega
            obtain ⟨g0, g1', g2', g3'⟩ := out_fits (b := lamtB ts cs j.r j.l j.G as) tS
            refine ⟨fun σ Y => σ = [some (.ref a), some (.ref p), some (.int (0 + (i : Int))), some (.ref M1), some (.ref M2), some (.ref y), some (.ref D), some (.int (0 + (k : Int))), some (.ref b), some (.str (intsD as).shown), some (.ref j.x), some (.ref j.M), some (outV (lamtB ts cs j.r j.l j.G as) (totN j.g cs as)), none] ∧ Same X Y, ?_, ?_⟩
            · refine ⟨_, rfl, _, rfl, j.M, b, an, gp, j.d0, j.T, j.d, ts, rs, j.g, j.r, j.l, j.G, as, rfl, jX.md, hbX, by omega, fun Y sY => ?_⟩
              rw [ecs]
              refine ⟨_, rfl, ?_⟩
              cases e : lamtB ts cs j.r j.l j.G as with
              | true =>
                refine iteT ?_
                refine ⟨_, rfl, _, rfl, j.M, b, an, gp, j.d0, j.T, j.d, ts, rs, j.g, j.r, j.l, j.G, as, rfl, jX.md.same sY, sY _ _ hbX, by rw [ecs]; exact lb, fun z hz => by have := bb z hz; omega, fun Y2 sY2 => ?_⟩
                rw [ecs]
                exact ⟨rfl, sY.trans sY2⟩
              | false => exact iteF ⟨rfl, sY⟩
            · rintro σ Y ⟨rfl, sY⟩
              refine ⟨_, rfl, _, rfl, j.x, b, as, sortN ts, L, j.g, j.r, j.l, sortO j.G, rfl, jX.tk.same sY, sY _ _ hbX, by omega, by omega, by rw [(sortN_perm ts).length_eq]; omega, fun Y2 sY2 => ?_⟩
              rw [aE, tE]
              refine ⟨_, outD (lamtB ts cs j.r j.l j.G as) (totN j.g cs as), rfl, .dp out_dp, g0, g1', g2', g3', ?_⟩
              refine ⟨_, rfl, _, outD (lamtB ts cs j.r j.l j.G as) (totN j.g cs as), rfl, .dp out_dp, g0, g1', g2', g3', ?_⟩
              refine ⟨rfl, _, rfl, iteFe (by rw [decide_eq_true rfl]; rfl) ?_⟩
              have sZ2 := (sZ.trans sY).trans sY2
              refine ⟨_, rfl, _, intsD as, rfl, shA _ sZ2, f0, f1, f2, f3, _, rfl, rfl, _, rfl, iteFe (by rw [decide_eq_true rfl]; rfl) ?_⟩
              exact ⟨_, _, _, rfl, (sX.trans sY).trans sY2⟩
          · rintro σ X ⟨o10, o11, o12, rfl, sX⟩
            have sZ := u2.trans sX
            exact ⟨_, _, _, _, _, _, rfl, TZ.same sZ, mZ.same sZ, PZ.same sZ⟩
      · rintro σ Z ⟨o7, o8, o9, o10, o11, o12, rfl, TZ, mZ, PZ⟩
        obtain ⟨j0, hj0⟩ : ∃ j0, js[0]? = some j0 := ⟨_, List.getElem?_eq_getElem (by rw [ljs]; exact Nat.zero_lt_two)⟩
        obtain ⟨eg, ed⟩ := js0 j0 hj0
        have jX := TZ.jobs j0 (List.mem_of_getElem? hj0)
        obtain ⟨dx, sx, ld, px, h1, tv⟩ := jX.tk
        refine ⟨_, rfl, D, _, 0, .ref j0.pr, rfl, rfl, SqL.of TZ.held, atI_nat (j := 0) (by rw [List.getElem?_map, hj0]; rfl), j0.pr, _, 0, .ref j0.x, rfl, rfl, SqT.of jX.pr, atI_nat (j := 0) rfl, ?_⟩
        refine ⟨j0.x, dx, _, rfl, h1, j0.x, dx, sx, ld, px, ordG (sortN ts) j0.g, rfl, h1, tv.num, fun nd1 nnd1 => ?_⟩
        have u1 := same_new (o := .dK (goalKV (ordG (sortN ts) j0.g))) nnd1
        have hn1 : (upd Z nd1 (.dK (goalKV (ordG (sortN ts) j0.g)))) nd1 = some (.dK (goalKV (ordG (sortN ts) j0.g))) := upd_same
        have m1 := mZ.same u1
        have S1 := TZ.sys.same u1
        have P1 := PZ.same u1
        generalize upd Z nd1 (.dK (goalKV (ordG (sortN ts) j0.g))) = Z1 at u1 hn1 m1 S1 P1 ⊢
        refine ⟨_, rfl, M1, _, 2, .ref d1, rfl, rfl, SqT.of m1.m, atI_nat (j := 2) rfl, ?_⟩
        obtain ⟨v1, v2⟩ := vals_same (F := fun t => valG j0.g (some t)) (nums_sort m1.nums).1 (fun t _ => by rw [eg])
        refine ⟨nd1, d1, _, _, rfl, rfl, hn1, m1.d0, v1, v2, _, rfl, iteF ?_⟩
        refine ⟨_, rfl, _, rfl, M1, an, gp, d1, T1, e1, ts, rs, g1, r1, l1, G1, rfl, m1, fun y2 L2 Z2 s2 nS2 eL2 lL2 => ?_⟩
        refine ne_sys TS_ (S1.same s2) nS2.at_ ⟨_, rfl, iteFe (by rw [eL, eL2, decide_eq_true rfl, decide_eq_true rfl]; rfl) ?_⟩
        exact ⟨_, _, _, _, _, _, _, _, _, _, _, rfl, (P1.same s2).le (by show n3 + 60 * 6 ≤ _; omega)⟩
  · rintro σ Hc _
    exact q _
end
end Wnd

/-! what is computed of the classes of errors: one that is raised and caught -/
namespace Wnd
open PySem PySem.Spec PyProof.Rows L2
section
variable {K : PySem.W.Frag} {mg : Str → Option Value}
def raiB (K : PySem.W.Frag) (C : Addr) : Bool := PySem.W.excIn K C [.type "ValueError", .type "Exception", .type "BaseException", .type "object"] "ValueError.__new__" && (PySem.W.keepIn K (.ref C) && (decide (PySem.W.subIn K (.ref C) (.type "BaseException") = some true) && decide (PySem.W.typeIn K (.ref C) = some (.type "type"))))
theorem raiB_ok {x : Str} {C : Addr} (g : mg x = some (.ref C)) (h : raiB K C = true) : RaiC K mg x C := by
  unfold raiB at h
  simp only [Bool.and_eq_true, decide_eq_true_eq] at h
  obtain ⟨h1, h2, h3, h4⟩ := h
  exact ⟨g, h1, h2, h3, h4⟩
def excCB (K : PySem.W.Frag) (D : Addr) : Bool := decide (PySem.W.findIn K (.ref D) "__getattribute__" = some (some (.builtin "BaseException.__getattribute__"))) && (decide (PySem.W.findIn K (.ref D) "__getattr__" = some none) && (decide (PySem.W.subIn K (.ref D) (.type "BaseException") = some true) && (PySem.W.hasDictIn K D &&
  (decide (PySem.W.findIn K (.ref D) "__class__" = some (some (.builtin "object.__class__"))) && (decide (PySem.W.specialIn K (.builtin "object.__class__") "__get__" = some (some (.builtin "getset_descriptor.__get__"))) && (decide (PySem.W.takesIn K (.builtin "object.__class__") = some true) && decide (PySem.W.mroIn K D (.type "object") = some true)))))))
theorem excCB_ok {D : Addr} (h : excCB K D = true) : ExcC K D := by
  unfold excCB at h
  simp only [Bool.and_eq_true, decide_eq_true_eq] at h
  obtain ⟨h1, h2, h3, h4, h5, h6, h7, h8⟩ := h
  exact ⟨h1, h2, h3, h4, h5, h6, h7, h8⟩
def kind1B (K : PySem.W.Frag) (W D1 : Addr) : Bool := excCB K D1 && (decide (PySem.W.exmOne K (.ref D1) (.ref W) = some true) && decide (PySem.W.kitOne K (.ref D1) (.ref D1) = some true))
theorem kind1B_ok {W D1 : Addr} {x1 : Str} (w : mg "WindowError" = some (.ref W)) (c1 : mg x1 = some (.ref D1)) (h : kind1B K W D1 = true) : Kinds1 K mg W D1 x1 := by
  unfold kind1B at h
  simp only [Bool.and_eq_true, decide_eq_true_eq] at h
  obtain ⟨h1, h2, h3⟩ := h
  exact ⟨w, c1, excCB_ok h1, h2, h3⟩
end
end Wnd

/-! what the head finds of the class Task -/
namespace Wnd
open PySem PySem.Spec PyProof.Rows L2
structure TaRaw (K : PySem.W.Frag) (C : Addr) : Prop where
  at_ : PySem.W.nsIn K mainGlobals "Task" = some (some (.ref C))
  pg : PySem.W.plainGet K C Str.empty = true
  hd : PySem.W.hasDictIn K C = true
  po : PySem.W.plainOver K C = true
  sa : PySem.W.findIn K (.ref C) "__setattr__" = some (some (.builtin "object.__setattr__"))
  nS : PySem.W.findIn K (.ref C) "_system" = some none
  nN : PySem.W.findIn K (.ref C) "_numbers" = some none
  nP : PySem.W.findIn K (.ref C) "_prices" = some none
  mks : PySem.W.makesIn K C = true
  kc : PySem.W.keepIn K (.ref C) = true
theorem TaRaw.f {K : PySem.W.Frag} {C : Addr} {mg : Str → Option Value} {h : Heap} (R : TaRaw K C) (X : K.In h) (G : h.Ns mainGlobals mg) : TaC K mg C := ⟨⟨R.pg, R.hd, R.po, R.sa⟩, R.nS, R.nN, R.nP, PySem.W.mg_of X G R.at_⟩
end Wnd

namespace Wnd
open PySem PySem.Spec PyProof.Rows L2
set_option maxHeartbeats 4000000 in
theorem all_mk {l : PySem.W.OpenLaw} {w : World} {K : PySem.W.Frag} {h : Heap} {mg : Str → Option Value} {fa : Addr} (X : K.In h) (G : h.Ns mainGlobals mg) (hfa : mg "law" = some (.ref fa)) {C : Addr} {t1 t2 t3 t4 t5 : Tok}
    (rS : SysRaw K C) (c1 : PySem.W.nsIn K mainGlobals "LONGEST_NAME" = some (some (.int 8 t1))) (c2 : PySem.W.nsIn K mainGlobals "GREATEST_GAP" = some (some (.int 999 t2)))
    (c3 : PySem.W.nsIn K mainGlobals "GREATEST_NUMBER" = some (some (.int 99999 t3)))
    (c4 : PySem.W.nsIn K mainGlobals "GREATEST_PRICE" = some (some (.int 999 t4)))
    (c5 : PySem.W.nsIn K mainGlobals "GREATEST_AMOUNT" = some (some (.int 999999999999 t5)))
    (mI : MetRaw K C "__init__" "System.__init__" s_System___init)
    (mE : MetRaw K C "__eq__" "System.__eq__" s_System___eq)
    (mN : PropRaw K C "names" "System.names" s_System_names)
    (mU : PropRaw K C "rules" "System.rules" s_System_rules)
    (mR : StatRaw K C "is_rule" "System.is_rule" s_System_is_rule)
    {x_WindowError : Addr} {x_InvalidAmounts : Addr} (nx_WindowError : PySem.W.nsIn K mainGlobals "WindowError" = some (some (.ref x_WindowError))) (nx_InvalidAmounts : PySem.W.nsIn K mainGlobals "InvalidAmounts" = some (some (.ref x_InvalidAmounts))) (rx_InvalidAmounts : raiB K x_InvalidAmounts = true) (kx : kind1B K x_WindowError x_InvalidAmounts = true)
    {CP : Addr} (rP : PrRaw K CP)
    {CT : Addr} (rT : TaRaw K CT)
    (mPI : InitRaw K CP)
    (mPF : MetRaw K CP "is_fixed" "Prices.is_fixed" s_Prices_is_fixed)
    (mPP : MetRaw K CP "pair_of" "Prices.pair_of" s_Prices_pair_of)
    (mPV : MetRaw K CP "with_price" "Prices.with_price" s_Prices_with_price)
    (mTI : MetRaw K CT "__init__" "Task.__init__" s_Task___init)
    (mTS : PropRaw K CT "system" "Task.system" s_Task_system)
    (mTN : PropRaw K CT "numbers" "Task.numbers" s_Task_numbers)
    (mTP : PropRaw K CT "prices" "Task.prices" s_Task_prices)
    (r_is_integer : DefRaw K "is_integer" s_is_integer) (r_is_integer_within : DefRaw K "is_integer_within" s_is_integer_within) (r_is_name : DefRaw K "is_name" s_is_name) (r_is_end : DefRaw K "_is_end" s_is_end) (r_are_different_names : DefRaw K "_are_different_names" s_are_different_names) (r_are_rules_between : DefRaw K "_are_rules_between" s_are_rules_between) (r_ascending : DefRaw K "_ascending" s_ascending) (r_rank : DefRaw K "rank" s_rank) (r_is_number : DefRaw K "is_number" s_is_number) (r_are_numbers : DefRaw K "are_numbers" s_are_numbers) (r_check_numbers : DefRaw K "check_numbers" s_check_numbers) (r_number_of : DefRaw K "number_of" s_number_of) (r_shortfall_of : DefRaw K "shortfall_of" s_shortfall_of) (r_is_price : DefRaw K "_is_price" s_is_price) (r_total : DefRaw K "total" s_total) (r_are_amounts : DefRaw K "_are_amounts" s_are_amounts) (r_surplus : DefRaw K "_surplus" s_surplus) (r_is_within_prices : DefRaw K "_is_within_prices" s_is_within_prices) (r_total_of_amounts : DefRaw K "total_of_amounts" s_total_of_amounts) (r_law_pen : DefRaw K "_law_pen" s_law_pen) (r_law_next : DefRaw K "_law_next" s_law_next) (r_law_draw : DefRaw K "_law_draw" s_law_draw) (r_law_some : DefRaw K "_law_some" s_law_some) (r_law_nyms : DefRaw K "_law_nyms" s_law_nyms) (r_law_goal : DefRaw K "_law_goal" s_law_goal) (r_law_at : DefRaw K "_law_at" s_law_at) (r_law_gaps : DefRaw K "_law_gaps" s_law_gaps) (r_law_key : DefRaw K "_law_key" s_law_key) (r_law_sorted : DefRaw K "_law_sorted" s_law_sorted) (r_law_short : DefRaw K "_law_short" s_law_short) (r_law_drawn : DefRaw K "_law_drawn" s_law_drawn) (r_law_deal : DefRaw K "_law_deal" s_law_deal) (r_law_prices : DefRaw K "_law_prices" s_law_prices) (r_law_model : DefRaw K "_law_model" s_law_model) (r_law_there : DefRaw K "_law_there" s_law_there) (r_law_are_amounts : DefRaw K "_law_are_amounts" s_law_are_amounts) (r_law_total : DefRaw K "_law_total" s_law_total) (r_law_amounts : DefRaw K "_law_amounts" s_law_amounts) (r_law_outcome : DefRaw K "_law_outcome" s_law_outcome) (r_law : DefRaw K "law" s_law)
    (z_len : PySem.W.nsIn K mainGlobals "len" = some none) (z_list : PySem.W.nsIn K mainGlobals "list" = some none) (z_range : PySem.W.nsIn K mainGlobals "range" = some none) (z_min : PySem.W.nsIn K mainGlobals "min" = some none) (z_max : PySem.W.nsIn K mainGlobals "max" = some none) (z_dict : PySem.W.nsIn K mainGlobals "dict" = some none) (z_sorted : PySem.W.nsIn K mainGlobals "sorted" = some none) (z_isinstance : PySem.W.nsIn K mainGlobals "isinstance" = some none) (z_int : PySem.W.nsIn K mainGlobals "int" = some none) (z_bool : PySem.W.nsIn K mainGlobals "bool" = some none) (z_str : PySem.W.nsIn K mainGlobals "str" = some none) (z_tuple : PySem.W.nsIn K mainGlobals "tuple" = some none) (z_all : PySem.W.nsIn K mainGlobals "all" = some none) (z_set : PySem.W.nsIn K mainGlobals "set" = some none) (z_sum : PySem.W.nsIn K mainGlobals "sum" = some none) (z_repr : PySem.W.nsIn K mainGlobals "repr" = some none) (z_zip : PySem.W.nsIn K mainGlobals "zip" = some none) :
    ∀ (base : Heap) (H : Hp) (s : Shared) (a : Addr) (ns : List Int), ns.length ≤ 63 → K.In base → base.Ns mainGlobals mg → Env0 l.prog w K mg base callerA [] s H → SqL K H a (ns.map V.int) →
        codeAny (model l.prog w) callerA (.call (.ref fa) ⟨[.ref a], []⟩) (CR CX0 [] l.prog w H s (fun v _ => v = .bl true) fun _ _ _ => False) s := by
  have T := rS.f X G
  have B : Blt2 mg := ⟨⟨PySem.W.mg_none_of X G z_len, PySem.W.mg_none_of X G z_list, PySem.W.mg_none_of X G z_range, PySem.W.mg_none_of X G z_min, PySem.W.mg_none_of X G z_max, PySem.W.mg_none_of X G z_dict, PySem.W.mg_none_of X G z_sorted⟩, PySem.W.mg_none_of X G z_isinstance, PySem.W.mg_none_of X G z_int, PySem.W.mg_none_of X G z_bool, PySem.W.mg_none_of X G z_str, PySem.W.mg_none_of X G z_tuple, PySem.W.mg_none_of X G z_all, PySem.W.mg_none_of X G z_set⟩
  have B3 : Blt3 mg := ⟨B, PySem.W.mg_none_of X G z_sum, PySem.W.mg_none_of X G z_repr⟩
  have B_zip : mg "zip" = none := PySem.W.mg_none_of X G z_zip
  have k1 : ∃ t, mg "LONGEST_NAME" = some (.int 8 t) := ⟨t1, PySem.W.mg_of X G c1⟩
  have k2 : ∃ t, mg "GREATEST_GAP" = some (.int 999 t) := ⟨t2, PySem.W.mg_of X G c2⟩
  have k3 : ∃ t, mg "GREATEST_NUMBER" = some (.int 99999 t) := ⟨t3, PySem.W.mg_of X G c3⟩
  have k4 : ∃ t, mg "GREATEST_PRICE" = some (.int 999 t) := ⟨t4, PySem.W.mg_of X G c4⟩
  have k5 : ∃ t, mg "GREATEST_AMOUNT" = some (.int 999999999999 t) := ⟨t5, PySem.W.mg_of X G c5⟩
  have R_InvalidAmounts : RaiC K mg "InvalidAmounts" x_InvalidAmounts := raiB_ok (PySem.W.mg_of X G nx_InvalidAmounts) rx_InvalidAmounts
  have KX1 : Kinds1 K mg x_WindowError x_InvalidAmounts "InvalidAmounts" := kind1B_ok (PySem.W.mg_of X G nx_WindowError) (PySem.W.mg_of X G nx_InvalidAmounts) kx
  obtain ⟨_, _, D_is_integer⟩ := r_is_integer.at (ps := ["thing"]) X G fun _ _ _ _ _ _ us hl => match us, hl with | [_], _ => rfl
  obtain ⟨_, _, D_is_integer_within⟩ := r_is_integer_within.at (ps := ["thing", "least", "greatest"]) X G fun _ _ _ _ _ _ us hl => match us, hl with | [_, _, _], _ => rfl
  obtain ⟨_, _, D_is_name⟩ := r_is_name.at (ps := ["thing"]) X G fun _ _ _ _ _ _ us hl => match us, hl with | [_], _ => rfl
  obtain ⟨_, _, D_is_end⟩ := r_is_end.at (ps := ["thing"]) X G fun _ _ _ _ _ _ us hl => match us, hl with | [_], _ => rfl
  obtain ⟨_, _, D_are_different_names⟩ := r_are_different_names.at (ps := ["things"]) X G fun _ _ _ _ _ _ us hl => match us, hl with | [_], _ => rfl
  obtain ⟨_, _, D_are_rules_between⟩ := r_are_rules_between.at (ps := ["things", "names"]) X G fun _ _ _ _ _ _ us hl => match us, hl with | [_, _], _ => rfl
  obtain ⟨_, _, D_ascending⟩ := r_ascending.at (ps := ["rules"]) X G fun _ _ _ _ _ _ us hl => match us, hl with | [_], _ => rfl
  obtain ⟨_, _, D_rank⟩ := r_rank.at (ps := ["rule"]) X G fun _ _ _ _ _ _ us hl => match us, hl with | [_], _ => rfl
  obtain ⟨_, _, D_is_number⟩ := r_is_number.at (ps := ["thing"]) X G fun _ _ _ _ _ _ us hl => match us, hl with | [_], _ => rfl
  obtain ⟨_, _, D_are_numbers⟩ := r_are_numbers.at (ps := ["system", "thing"]) X G fun _ _ _ _ _ _ us hl => match us, hl with | [_, _], _ => rfl
  obtain ⟨_, _, D_check_numbers⟩ := r_check_numbers.at (ps := ["system", "thing"]) X G fun _ _ _ _ _ _ us hl => match us, hl with | [_, _], _ => rfl
  obtain ⟨_, _, D_number_of⟩ := r_number_of.at (ps := ["thing", "numbers"]) X G fun _ _ _ _ _ _ us hl => match us, hl with | [_, _], _ => rfl
  obtain ⟨_, _, D_shortfall_of⟩ := r_shortfall_of.at (ps := ["rule", "numbers"]) X G fun _ _ _ _ _ _ us hl => match us, hl with | [_, _], _ => rfl
  obtain ⟨_, _, D_is_price⟩ := r_is_price.at (ps := ["thing"]) X G fun _ _ _ _ _ _ us hl => match us, hl with | [_], _ => rfl
  obtain ⟨_, _, D_total⟩ := r_total.at (ps := ["task", "amounts"]) X G fun _ _ _ _ _ _ us hl => match us, hl with | [_, _], _ => rfl
  obtain ⟨_, _, D_are_amounts⟩ := r_are_amounts.at (ps := ["task", "thing"]) X G fun _ _ _ _ _ _ us hl => match us, hl with | [_, _], _ => rfl
  obtain ⟨_, _, D_surplus⟩ := r_surplus.at (ps := ["rules", "amounts", "name"]) X G fun _ _ _ _ _ _ us hl => match us, hl with | [_, _, _], _ => rfl
  obtain ⟨_, _, D_is_within_prices⟩ := r_is_within_prices.at (ps := ["task", "name", "surplus"]) X G fun _ _ _ _ _ _ us hl => match us, hl with | [_, _, _], _ => rfl
  obtain ⟨_, _, D_total_of_amounts⟩ := r_total_of_amounts.at (ps := ["task", "amounts"]) X G fun _ _ _ _ _ _ us hl => match us, hl with | [_, _], _ => rfl
  obtain ⟨_, _, D_law_pen⟩ := r_law_pen.at (ps := ["_law_script"]) X G fun _ _ _ _ _ _ us hl => match us, hl with | [_], _ => rfl
  obtain ⟨_, _, D_law_next⟩ := r_law_next.at (ps := ["_law_pen_here"]) X G fun _ _ _ _ _ _ us hl => match us, hl with | [_], _ => rfl
  obtain ⟨_, _, D_law_draw⟩ := r_law_draw.at (ps := ["_law_pen_here", "_law_under"]) X G fun _ _ _ _ _ _ us hl => match us, hl with | [_, _], _ => rfl
  obtain ⟨_, _, D_law_some⟩ := r_law_some.at (ps := ["_law_pen_here", "_law_pool", "_law_most"]) X G fun _ _ _ _ _ _ us hl => match us, hl with | [_, _, _], _ => rfl
  obtain ⟨_, _, D_law_nyms⟩ := r_law_nyms.at (ps := ["_law_pen_here", "_law_most"]) X G fun _ _ _ _ _ _ us hl => match us, hl with | [_, _], _ => rfl
  obtain ⟨_, _, D_law_goal⟩ := r_law_goal.at (ps := ["_law_pen_here", "_law_nyms_here"]) X G fun _ _ _ _ _ _ us hl => match us, hl with | [_, _], _ => rfl
  obtain ⟨_, _, D_law_at⟩ := r_law_at.at (ps := ["_law_held", "_law_thing"]) X G fun _ _ _ _ _ _ us hl => match us, hl with | [_, _], _ => rfl
  obtain ⟨_, _, D_law_gaps⟩ := r_law_gaps.at (ps := ["_law_pen_here", "_law_nyms_here", "_law_goals", "_law_most"]) X G fun _ _ _ _ _ _ us hl => match us, hl with | [_, _, _, _], _ => rfl
  obtain ⟨_, _, D_law_key⟩ := r_law_key.at (ps := ["_law_ask"]) X G fun _ _ _ _ _ _ us hl => match us, hl with | [_], _ => rfl
  obtain ⟨_, _, D_law_sorted⟩ := r_law_sorted.at (ps := ["_law_gaps_here"]) X G fun _ _ _ _ _ _ us hl => match us, hl with | [_], _ => rfl
  obtain ⟨_, _, D_law_short⟩ := r_law_short.at (ps := ["_law_held", "_law_ask"]) X G fun _ _ _ _ _ _ us hl => match us, hl with | [_, _], _ => rfl
  obtain ⟨_, _, D_law_drawn⟩ := r_law_drawn.at (ps := ["_law_pen_here", "_law_most", "_law_many"]) X G fun _ _ _ _ _ _ us hl => match us, hl with | [_, _, _], _ => rfl
  obtain ⟨_, _, D_law_deal⟩ := r_law_deal.at (ps := ["_law_pen_here", "_law_nyms_here"]) X G fun _ _ _ _ _ _ us hl => match us, hl with | [_, _], _ => rfl
  obtain ⟨_, _, D_law_prices⟩ := r_law_prices.at (ps := ["_law_deal_here"]) X G fun _ _ _ _ _ _ us hl => match us, hl with | [_], _ => rfl
  obtain ⟨_, _, D_law_model⟩ := r_law_model.at (ps := ["_law_pen_here", "_law_most", "_law_many"]) X G fun _ _ _ _ _ _ us hl => match us, hl with | [_, _, _], _ => rfl
  obtain ⟨_, _, D_law_there⟩ := r_law_there.at (ps := ["_law_model_here"]) X G fun _ _ _ _ _ _ us hl => match us, hl with | [_], _ => rfl
  obtain ⟨_, _, D_law_are_amounts⟩ := r_law_are_amounts.at (ps := ["_law_model_here", "_law_thing"]) X G fun _ _ _ _ _ _ us hl => match us, hl with | [_, _], _ => rfl
  obtain ⟨_, _, D_law_total⟩ := r_law_total.at (ps := ["_law_model_here", "_law_thing"]) X G fun _ _ _ _ _ _ us hl => match us, hl with | [_, _], _ => rfl
  obtain ⟨_, _, D_law_amounts⟩ := r_law_amounts.at (ps := ["_law_pen_here", "_law_model_here"]) X G fun _ _ _ _ _ _ us hl => match us, hl with | [_, _], _ => rfl
  obtain ⟨_, _, D_law_outcome⟩ := r_law_outcome.at (ps := ["_law_task_here", "_law_thing"]) X G fun _ _ _ _ _ _ us hl => match us, hl with | [_, _], _ => rfl
  obtain ⟨_, _, D_law⟩ := r_law.at (ps := ["_law_script"]) X G fun _ _ _ _ _ _ us hl => match us, hl with | [_], _ => rfl
  obtain ⟨fI, fdI, FI, bI, iI, isI⟩ := mI.at (ps := ["self", "names", "rules"]) fun _ _ _ _ _ _ us hl => match us, hl with | [_, _, _], _ => rfl
  obtain ⟨fE, fdE, FE, bE, iE, isE⟩ := mE.at (ps := ["self", "other"]) fun _ _ _ _ _ _ us hl => match us, hl with | [_, _], _ => rfl
  obtain ⟨pN, gN, fdN, FN, bN, iN⟩ := mN.at (ps := ["self"]) fun _ _ _ _ _ _ us hl => match us, hl with | [_], _ => rfl
  obtain ⟨pU, gU, fdU, FU, bU, iU⟩ := mU.at (ps := ["self"]) fun _ _ _ _ _ _ us hl => match us, hl with | [_], _ => rfl
  obtain ⟨mc, pR, fR, fdR, FR, bR, rdR, smR⟩ := mR.at (ps := ["thing"]) fun _ _ _ _ _ _ us hl => match us, hl with | [_], _ => rfl
  have TPr := rP.f X G
  have TTa := rT.f X G
  obtain ⟨fPI, fdPI, FPI, iPI, isPI⟩ := mPI.at
  obtain ⟨fPF, fdPF, FPF, bPF, iPF, isPF⟩ := mPF.at (ps := ["self", "name"]) fun _ _ _ _ _ _ us hl => match us, hl with | [_, _], _ => rfl
  obtain ⟨fPP, fdPP, FPP, bPP, iPP, isPP⟩ := mPP.at (ps := ["self", "name"]) fun _ _ _ _ _ _ us hl => match us, hl with | [_, _], _ => rfl
  obtain ⟨fPV, fdPV, FPV, bPV, iPV, isPV⟩ := mPV.at (ps := ["self", "name", "price"]) fun _ _ _ _ _ _ us hl => match us, hl with | [_, _, _], _ => rfl
  obtain ⟨fTI, fdTI, FTI, bTI, iTI, isTI⟩ := mTI.at (ps := ["self", "system", "numbers", "prices"]) fun _ _ _ _ _ _ us hl => match us, hl with | [_, _, _, _], _ => rfl
  obtain ⟨pTS, gTS, fdTS, FTS, bTS, iTS⟩ := mTS.at (ps := ["self"]) fun _ _ _ _ _ _ us hl => match us, hl with | [_], _ => rfl
  obtain ⟨pTN, gTN, fdTN, FTN, bTN, iTN⟩ := mTN.at (ps := ["self"]) fun _ _ _ _ _ _ us hl => match us, hl with | [_], _ => rfl
  obtain ⟨pTP, gTP, fdTP, FTP, bTP, iTP⟩ := mTP.at (ps := ["self"]) fun _ _ _ _ _ _ us hl => match us, hl with | [_], _ => rfl
  have e := hfa.symm.trans D_law.at_
  cases e
  intro base H s a ns hl kb nb env seq
  have o1 := ok_is_integer (P := l.prog) (w := w) (base := base) D_is_integer B
  have o2 := ok_is_integer_within D_is_integer_within B o1
  have o3 := ok_is_name (P := l.prog) (w := w) (base := base) D_is_name B k1
  have o4 := ok_is_end D_is_end o3
  have o5 : OkS l.prog w K mg base C 3 "is_rule" ["thing"] (spIsRule K) := ⟨mc, pR, fR, fdR, rdR, smR, bR, ok_is_rule FR B k2 o4 o2⟩
  have o6 := ok_diff D_are_different_names B o3
  have o7 := ok_rules D_are_rules_between B T.mgC o5
  have o8 : Ok l.prog w K mg base 1 "rank" ["rule"] spRank := D_rank.ok (ok_rank D_rank)
  have o9 := ok_ascending D_ascending B o8
  have o10 : OkMk l.prog w K mg base C 5 ["self", "names", "rules"] (spInit C) := ⟨fI, fdI, ⟨rS.mks, iI, isI, rS.kc⟩, bI, ok_init FI T.toSysC B o6 o7 o9⟩
  have o11 : OkEq l.prog w K mg base C 1 (spEq K C) := ⟨fE, fdE, _, ⟨iE, isE, rS.ne, rS.ob⟩, bE, ok_eq FE T.toSysC T.isC B⟩
  have oN : OkP l.prog w K mg base C 1 "names" (spNames C) := ⟨pN, gN, fdN, _, T.cl, iN, bN, ok_names FN T.toSysC B.toBlt⟩
  have oU : OkP l.prog w K mg base C 1 "rules" (spRulesP C) := ⟨pU, gU, fdU, _, T.cl, iU, bU, ok_rulesP FU T.toSysC B.toBlt⟩
  have p_pen := ok_pen (P := l.prog) (w := w) (base := base) D_law_pen B.toBlt
  have p_next := ok_next (P := l.prog) (w := w) (base := base) D_law_next B.toBlt
  have p_draw := ok_draw D_law_draw p_next
  have p_some := ok_some D_law_some B.toBlt p_draw
  have p_nyms := ok_nyms D_law_nyms B.toBlt p_some
  have p_goal := ok_goal D_law_goal B.toBlt p_draw
  have p_at := ok_at (P := l.prog) (w := w) (base := base) D_law_at
  have p_gaps := ok_gaps D_law_gaps B.toBlt p_draw p_at
  have p_drawn := ok_drawn D_law_drawn p_draw p_nyms p_goal p_gaps
  have n1 := ok_is_number D_is_number k3 o2
  have n2 := ok_areNums D_are_numbers B oN n1
  have n3 := ok_check D_check_numbers n2
  have n4 := ok_numOf (P := l.prog) (w := w) (base := base) D_number_of
  have n5 := ok_shortOf D_shortfall_of n4
  have m1 := ok_is_price D_is_price k4 o2
  have oP : OkPr l.prog w K mg base CP 4 := ⟨⟨fPI, fdPI, ⟨rP.mks, iPI, isPI, rP.kc⟩, FPI, ok_prInit FPI TPr m1⟩, TPr.mgC⟩
  have oF : OkM l.prog w K mg base CP 1 "is_fixed" (spFixed CP) := ⟨fPF, fdPF, _, TPr.cl, ⟨iPF, isPF, FPF.kp⟩, bPF, ok_isFixed FPF TPr⟩
  have oPa : OkM l.prog w K mg base CP 1 "pair_of" (spPair CP) := ⟨fPP, fdPP, _, TPr.cl, ⟨iPP, isPP, FPP.kp⟩, bPP, ok_pairOf FPP TPr⟩
  have oW : OkM l.prog w K mg base CP 6 "with_price" (spWithPr CP) := ⟨fPV, fdPV, _, TPr.cl, ⟨iPV, isPV, FPV.kp⟩, bPV, ok_withPr FPV TPr B.toBlt m1 o3 oP⟩
  have oT : OkMk l.prog w K mg base CT 6 ["self", "system", "numbers", "prices"] (spTaInit C CT) := ⟨fTI, fdTI, ⟨rT.mks, iTI, isTI, rT.kc⟩, bTI, ok_taInit FTI TTa oN n3⟩
  have oTS : OkP l.prog w K mg base CT 1 "system" (spTaSys C CP CT) := ⟨pTS, gTS, fdTS, _, TTa.cl, iTS, bTS, ok_taSys FTS TTa⟩
  have oTN : OkP l.prog w K mg base CT 1 "numbers" (spTaNum C CP CT) := ⟨pTN, gTN, fdTN, _, TTa.cl, iTN, bTN, ok_taNum FTN TTa B.dict⟩
  have oTP : OkP l.prog w K mg base CT 1 "prices" (spTaPr C CP CT) := ⟨pTP, gTP, fdTP, _, TTa.cl, iTP, bTP, ok_taPr FTP TTa⟩
  have m2 := ok_surplus (P := l.prog) (w := w) (base := base) D_surplus B3 B_zip
  have m3 := ok_within D_is_within_prices oTP oPa
  have m4 := ok_amounts D_are_amounts B3 k5 o2 oTS oTP oN oU oF m3 m2
  have m5 := ok_totOf D_total_of_amounts B3 B_zip oTS oTN oU n5
  have m6 := ok_total D_total m4 m5 R_InvalidAmounts
  have p_key := ok_key (P := l.prog) (w := w) (base := base) D_law_key
  have p_sorted := ok_sorted D_law_sorted B.toBlt p_key
  have q1 := ok_deal D_law_deal B.toBlt p_draw
  have q2 := ok_pricesL D_law_prices B.toBlt oP oW
  have q3 := ok_thereL D_law_there B.toBlt T.mgC o10
  have q4 := ok_modelD D_law_model p_draw p_goal p_drawn q1
  have q6 := ok_lshort D_law_short p_at
  have q7 := ok_lAmt D_law_are_amounts B3 p_sorted
  have q8 := ok_lTotal D_law_total B3 p_sorted q6
  have q9 := ok_lAmounts D_law_amounts B3 p_sorted p_draw
  have q10 := ok_out43 D_law_outcome B3 KX1 m6
  exact run_law D_law.fn D_law.bi ⟨rfl, by decide, by decide⟩ T B3 TTa.mgC p_pen p_goal q4 q1 q3 q2 p_sorted q9 q7 q8 q10 oT oTN o11 (vs := [V.ref a]) (us := [Value.ref a]) env rfl (.cons rfl .nil) ⟨a, ns, rfl, seq, hl, fun _ => rfl⟩
end Wnd
open PySem PySem.W PyProof.Rows in
set_option maxRecDepth 100000 in
set_option maxHeartbeats 0 in
theorem PySem.Challenge.cw_windowsteps_k43_totals_holds : PySem.Challenge.rw_windowsteps_k43_totals.Holds := by
  w_on; o_law; k_head; (case hw => w_witness2)
  k_fill
  refine Wnd.top_walk (l := PySem.Challenge.rw_windowsteps_k43_totals) (n := 63) rfl (by decide) rfl (fun w h Y => PySem.W.kIn_of Y) ?F
  case F =>
    intro w mg fa h KX G hmg
    refine' Wnd.all_mk KX G hmg ?rS ?c1 ?c2 ?c3 ?c4 ?c5 ?mI ?mE ?mN ?mU ?mR ?nx_WindowError ?nx_InvalidAmounts ?rx_InvalidAmounts ?kx ?rP ?rT ?mPI ?mPF ?mPP ?mPV ?mTI ?mTS ?mTN ?mTP ?r_is_integer ?r_is_integer_within ?r_is_name ?r_is_end ?r_are_different_names ?r_are_rules_between ?r_ascending ?r_rank ?r_is_number ?r_are_numbers ?r_check_numbers ?r_number_of ?r_shortfall_of ?r_is_price ?r_total ?r_are_amounts ?r_surplus ?r_is_within_prices ?r_total_of_amounts ?r_law_pen ?r_law_next ?r_law_draw ?r_law_some ?r_law_nyms ?r_law_goal ?r_law_at ?r_law_gaps ?r_law_key ?r_law_sorted ?r_law_short ?r_law_drawn ?r_law_deal ?r_law_prices ?r_law_model ?r_law_there ?r_law_are_amounts ?r_law_total ?r_law_amounts ?r_law_outcome ?r_law ?z_len ?z_list ?z_range ?z_min ?z_max ?z_dict ?z_sorted ?z_isinstance ?z_int ?z_bool ?z_str ?z_tuple ?z_all ?z_set ?z_sum ?z_repr ?z_zip
    (case rS => refine' ⟨?at_, ?pg, ?hd, ?po, ?sa, ?nN, ?nR, ?ha, ?hn, ?htk, ?hm, ?ic, ?tc, ?nf, ?kList, ?kTuple, ?kNone, ?kStr, ?kInt, ?fList, ?fTuple, ?fNone, ?fStr, ?fInt, ?ne, ?ob, ?mks, ?kc⟩; (case at_ => k_is); all_goals k_is)
    (case c1 => k_is)
    (case c2 => k_is)
    (case c3 => k_is)
    (case c4 => k_is)
    (case c5 => k_is)
    (case mI => refine' Wnd.metRaw_mk ?a ?b ?c ?d ?e; (case a => k_is); (case b => k_is); (case c => k_is); (case d => k_is); (case e => k_is))
    (case mE => refine' Wnd.metRaw_mk ?a ?b ?c ?d ?e; (case a => k_is); (case b => k_is); (case c => k_is); (case d => k_is); (case e => k_is))
    (case mN => refine' Wnd.propRaw_mk ?a ?b ?c ?d ?e ?f ?g; (case a => k_is); (case b => k_is); (case c => k_is); (case d => k_is); (case e => k_is); (case f => k_is); (case g => k_is))
    (case mU => refine' Wnd.propRaw_mk ?a ?b ?c ?d ?e ?f ?g; (case a => k_is); (case b => k_is); (case c => k_is); (case d => k_is); (case e => k_is); (case f => k_is); (case g => k_is))
    (case mR => refine' Wnd.statRaw_mk ?a ?b ?c ?d ?e ?f ?g; (case a => k_is); (case b => k_is); (case c => k_is); (case d => k_is); (case e => k_is); (case f => k_is); (case g => k_is))
    (case nx_WindowError => k_is)
    (case nx_InvalidAmounts => k_is)
    (case rx_InvalidAmounts => kernel_rfl)
    (case kx => kernel_rfl)
    (case rP => refine' ⟨?CPat_, ?CPpg, ?CPhd, ?CPpo, ?CPsa, ?CPnR, ?CPnL, ?CPnS, ?CPmks, ?CPkc⟩; (case CPat_ => k_is); all_goals k_is)
    (case rT => refine' ⟨?CTat_, ?CTpg, ?CThd, ?CTpo, ?CTsa, ?CTnS, ?CTnN, ?CTnP, ?CTmks, ?CTkc⟩; (case CTat_ => k_is); all_goals k_is)
    (case mPI => refine' Wnd.initRaw_mk ?a ?b ?c ?d ?e ?f ?g; (case a => k_is); (case b => k_is); (case c => k_is); (case d => k_is); (case e => k_is); (case f => k_is); (case g => k_is))
    (case mPF => refine' Wnd.metRaw_mk ?a ?b ?c ?d ?e; (case a => k_is); (case b => k_is); (case c => k_is); (case d => k_is); (case e => k_is))
    (case mPP => refine' Wnd.metRaw_mk ?a ?b ?c ?d ?e; (case a => k_is); (case b => k_is); (case c => k_is); (case d => k_is); (case e => k_is))
    (case mPV => refine' Wnd.metRaw_mk ?a ?b ?c ?d ?e; (case a => k_is); (case b => k_is); (case c => k_is); (case d => k_is); (case e => k_is))
    (case mTI => refine' Wnd.metRaw_mk ?a ?b ?c ?d ?e; (case a => k_is); (case b => k_is); (case c => k_is); (case d => k_is); (case e => k_is))
    (case mTS => refine' Wnd.propRaw_mk ?a ?b ?c ?d ?e ?f ?g; (case a => k_is); (case b => k_is); (case c => k_is); (case d => k_is); (case e => k_is); (case f => k_is); (case g => k_is))
    (case mTN => refine' Wnd.propRaw_mk ?a ?b ?c ?d ?e ?f ?g; (case a => k_is); (case b => k_is); (case c => k_is); (case d => k_is); (case e => k_is); (case f => k_is); (case g => k_is))
    (case mTP => refine' Wnd.propRaw_mk ?a ?b ?c ?d ?e ?f ?g; (case a => k_is); (case b => k_is); (case c => k_is); (case d => k_is); (case e => k_is); (case f => k_is); (case g => k_is))
    (case r_is_integer => refine' Wnd.defRaw_mk ?a ?b ?c ?d; (case a => k_is); (case b => k_is); (case c => k_is); (case d => k_is))
    (case r_is_integer_within => refine' Wnd.defRaw_mk ?a ?b ?c ?d; (case a => k_is); (case b => k_is); (case c => k_is); (case d => k_is))
    (case r_is_name => refine' Wnd.defRaw_mk ?a ?b ?c ?d; (case a => k_is); (case b => k_is); (case c => k_is); (case d => k_is))
    (case r_is_end => refine' Wnd.defRaw_mk ?a ?b ?c ?d; (case a => k_is); (case b => k_is); (case c => k_is); (case d => k_is))
    (case r_are_different_names => refine' Wnd.defRaw_mk ?a ?b ?c ?d; (case a => k_is); (case b => k_is); (case c => k_is); (case d => k_is))
    (case r_are_rules_between => refine' Wnd.defRaw_mk ?a ?b ?c ?d; (case a => k_is); (case b => k_is); (case c => k_is); (case d => k_is))
    (case r_ascending => refine' Wnd.defRaw_mk ?a ?b ?c ?d; (case a => k_is); (case b => k_is); (case c => k_is); (case d => k_is))
    (case r_rank => refine' Wnd.defRaw_mk ?a ?b ?c ?d; (case a => k_is); (case b => k_is); (case c => k_is); (case d => k_is))
    (case r_is_number => refine' Wnd.defRaw_mk ?a ?b ?c ?d; (case a => k_is); (case b => k_is); (case c => k_is); (case d => k_is))
    (case r_are_numbers => refine' Wnd.defRaw_mk ?a ?b ?c ?d; (case a => k_is); (case b => k_is); (case c => k_is); (case d => k_is))
    (case r_check_numbers => refine' Wnd.defRaw_mk ?a ?b ?c ?d; (case a => k_is); (case b => k_is); (case c => k_is); (case d => k_is))
    (case r_number_of => refine' Wnd.defRaw_mk ?a ?b ?c ?d; (case a => k_is); (case b => k_is); (case c => k_is); (case d => k_is))
    (case r_shortfall_of => refine' Wnd.defRaw_mk ?a ?b ?c ?d; (case a => k_is); (case b => k_is); (case c => k_is); (case d => k_is))
    (case r_is_price => refine' Wnd.defRaw_mk ?a ?b ?c ?d; (case a => k_is); (case b => k_is); (case c => k_is); (case d => k_is))
    (case r_total => refine' Wnd.defRaw_mk ?a ?b ?c ?d; (case a => k_is); (case b => k_is); (case c => k_is); (case d => k_is))
    (case r_are_amounts => refine' Wnd.defRaw_mk ?a ?b ?c ?d; (case a => k_is); (case b => k_is); (case c => k_is); (case d => k_is))
    (case r_surplus => refine' Wnd.defRaw_mk ?a ?b ?c ?d; (case a => k_is); (case b => k_is); (case c => k_is); (case d => k_is))
    (case r_is_within_prices => refine' Wnd.defRaw_mk ?a ?b ?c ?d; (case a => k_is); (case b => k_is); (case c => k_is); (case d => k_is))
    (case r_total_of_amounts => refine' Wnd.defRaw_mk ?a ?b ?c ?d; (case a => k_is); (case b => k_is); (case c => k_is); (case d => k_is))
    (case r_law_pen => refine' Wnd.defRaw_mk ?a ?b ?c ?d; (case a => k_is); (case b => k_is); (case c => k_is); (case d => k_is))
    (case r_law_next => refine' Wnd.defRaw_mk ?a ?b ?c ?d; (case a => k_is); (case b => k_is); (case c => k_is); (case d => k_is))
    (case r_law_draw => refine' Wnd.defRaw_mk ?a ?b ?c ?d; (case a => k_is); (case b => k_is); (case c => k_is); (case d => k_is))
    (case r_law_some => refine' Wnd.defRaw_mk ?a ?b ?c ?d; (case a => k_is); (case b => k_is); (case c => k_is); (case d => k_is))
    (case r_law_nyms => refine' Wnd.defRaw_mk ?a ?b ?c ?d; (case a => k_is); (case b => k_is); (case c => k_is); (case d => k_is))
    (case r_law_goal => refine' Wnd.defRaw_mk ?a ?b ?c ?d; (case a => k_is); (case b => k_is); (case c => k_is); (case d => k_is))
    (case r_law_at => refine' Wnd.defRaw_mk ?a ?b ?c ?d; (case a => k_is); (case b => k_is); (case c => k_is); (case d => k_is))
    (case r_law_gaps => refine' Wnd.defRaw_mk ?a ?b ?c ?d; (case a => k_is); (case b => k_is); (case c => k_is); (case d => k_is))
    (case r_law_key => refine' Wnd.defRaw_mk ?a ?b ?c ?d; (case a => k_is); (case b => k_is); (case c => k_is); (case d => k_is))
    (case r_law_sorted => refine' Wnd.defRaw_mk ?a ?b ?c ?d; (case a => k_is); (case b => k_is); (case c => k_is); (case d => k_is))
    (case r_law_short => refine' Wnd.defRaw_mk ?a ?b ?c ?d; (case a => k_is); (case b => k_is); (case c => k_is); (case d => k_is))
    (case r_law_drawn => refine' Wnd.defRaw_mk ?a ?b ?c ?d; (case a => k_is); (case b => k_is); (case c => k_is); (case d => k_is))
    (case r_law_deal => refine' Wnd.defRaw_mk ?a ?b ?c ?d; (case a => k_is); (case b => k_is); (case c => k_is); (case d => k_is))
    (case r_law_prices => refine' Wnd.defRaw_mk ?a ?b ?c ?d; (case a => k_is); (case b => k_is); (case c => k_is); (case d => k_is))
    (case r_law_model => refine' Wnd.defRaw_mk ?a ?b ?c ?d; (case a => k_is); (case b => k_is); (case c => k_is); (case d => k_is))
    (case r_law_there => refine' Wnd.defRaw_mk ?a ?b ?c ?d; (case a => k_is); (case b => k_is); (case c => k_is); (case d => k_is))
    (case r_law_are_amounts => refine' Wnd.defRaw_mk ?a ?b ?c ?d; (case a => k_is); (case b => k_is); (case c => k_is); (case d => k_is))
    (case r_law_total => refine' Wnd.defRaw_mk ?a ?b ?c ?d; (case a => k_is); (case b => k_is); (case c => k_is); (case d => k_is))
    (case r_law_amounts => refine' Wnd.defRaw_mk ?a ?b ?c ?d; (case a => k_is); (case b => k_is); (case c => k_is); (case d => k_is))
    (case r_law_outcome => refine' Wnd.defRaw_mk ?a ?b ?c ?d; (case a => k_is); (case b => k_is); (case c => k_is); (case d => k_is))
    (case r_law => refine' Wnd.defRaw_mk ?a ?b ?c ?d; (case a => k_is); (case b => k_is); (case c => k_is); (case d => k_is))
    (case z_len => k_is)
    (case z_list => k_is)
    (case z_range => k_is)
    (case z_min => k_is)
    (case z_max => k_is)
    (case z_dict => k_is)
    (case z_sorted => k_is)
    (case z_isinstance => k_is)
    (case z_int => k_is)
    (case z_bool => k_is)
    (case z_str => k_is)
    (case z_tuple => k_is)
    (case z_all => k_is)
    (case z_set => k_is)
    (case z_sum => k_is)
    (case z_repr => k_is)
    (case z_zip => k_is)
#print axioms PySem.Challenge.cw_windowsteps_k43_totals_holds

