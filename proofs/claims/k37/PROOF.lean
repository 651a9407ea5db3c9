import PyProof.Rows.All
import Wide.All
import OpenK.AllK
import Wide.FinOn
import HandS.ForMost
import HandS.Codes
import HandS.Style
import HandS.Property
import HandS.IsInst
import HandS.DictComp
import HandS.Conv
import KE.KDictKeyed
import KE.SortKeyHeap
import HandS.SortKw
import HandS.ExcValue
import HandS.OwnEq
import HandS.ClsMeth
import HandS.Strs
import HandS.TupSets
import HandS.Walk
import HandS.Flow
import HandS.Star
import KE.OsSortAny
import HandS.Deep
import HandS.SetFor
import HandS.NoneIn
import HandS.Ends
import PyProof.ReprRoads
import PyProof.CallFns
import PyProof.DictUpdate
import PyProof.DictDisplay
import HandS.Finally
import HandS.Dict
import HandS.Defaults
import HandS.MakeKwOnly
import HandS.ListItems
import HandS.DeepEq
import PyProof.NeKinds
import HandS.More
import PySem.Challenge.RW_windowsteps_k37_binds
set_option Elab.async false
set_option linter.all false
set_option maxRecDepth 100000
/-! Windowsteps: what every law's proof begins with. Defs as bundles, heaps that change at one place, the pen that draws. -/
namespace Wnd
open PySem PySem.Spec PyProof.Rows L2

/-! ### a def of the text, bundled with its promise -/
structure DefAt (K : PySem.W.Frag) (mg : Str → Option Value) (x : Str) (st : Stmt) (ps : List Str) (f : Addr) (fd : FuncData) : Prop where
  fn : Fun K x x st f fd
  bi : Binds K fd ps []
  at_ : mg x = some (.ref f)
structure Ok (P : Program) (w : World) (K : PySem.W.Frag) (mg : Str → Option Value) (base : Heap) (k : Nat) (x : Str) (ps : List Str) (sp : Sp) : Prop where
  ex : ∃ (f : Addr) (fd : FuncData), mg x = some (.ref f) ∧ PySem.W.keepIn K (.ref f) = true ∧ Binds K fd ps [] ∧ FnOk P w K mg base CX0 k f fd ps sp
section
variable {P : Program} {w : World} {K : PySem.W.Frag} {mg : Str → Option Value} {base : Heap}
theorem DefAt.ok {x : Str} {st : Stmt} {ps : List Str} {f : Addr} {fd : FuncData} {k : Nat} {sp : Sp} (D : DefAt K mg x st ps f fd) (h : FnOk P w K mg base CX0 k f fd ps sp) : Ok P w K mg base k x ps sp :=
  ⟨⟨f, fd, D.at_, D.fn.kp, D.bi, h⟩⟩
theorem Ok.mono {x : Str} {ps : List Str} {j k : Nat} {sp : Sp} (O : Ok P w K mg base j x ps sp) (h : j ≤ k) : Ok P w K mg base k x ps sp := by
  obtain ⟨f, fd, a, b, c, d⟩ := O.ex
  exact ⟨⟨f, fd, a, b, c, d.mono h⟩⟩
end
section
variable {X : Cx} {k : Nat} {x : Str} {ps : List Str} {sp : Sp} {p pos : Pos} {e : Expr} {es : List Expr} {t : TA}
/-- a call of an own def -/
theorem pe_own (O : Ok X.prog X.w X.K X.mg X.base k x ps sp) (hr : Room k X.A) (ha : PA X (e :: es) t) (hg : Gl X x := by rfl) (hdb : (x == ("__debug__" : Str)) = false := by decide)
    (he : starEach (e :: es) X.env = (false, eval e X.env) :: starEach es X.env := by rfl) (hpl : (backTo pos (starEach es X.env)).any (·.1) = false := by rfl) :
    PE X (.Call (.Name x p) (e :: es) [] pos) (tCall sp [] E0 t) := by
  obtain ⟨f, fd, h1, h2, h3, h4⟩ := O.ex
  exact pe_call h4 hr hg h1 h2 h3 .nil pass0 ha hdb he hpl
end

/-! ### heaps that change at one place -/
def But (p : Addr) (H H' : Hp) : Prop := ∀ b o, H b = some o → b ≠ p → H' b = some o
theorem But.refl (p : Addr) (H : Hp) : But p H H := fun _ _ h _ => h
theorem But.trans {p : Addr} {H H1 H2 : Hp} (a : But p H H1) (b : But p H1 H2) : But p H H2 := fun c o h n => b c o (a c o h n) n
theorem But.of {p : Addr} {H H' : Hp} (h : Same H H') : But p H H' := fun b o e _ => h b o e
theorem But.upd {p : Addr} {H : Hp} {o : HO} : But p H (upd H p o) := fun b u e n => by
  rw [upd_ne n]
  exact e
theorem same_new {H : Hp} {p : Addr} {o : HO} (h : H p = none) : Same H (upd H p o) := fun b u e => by
  rw [upd_ne (ne_of_none e h)]
  exact e
theorem But.new {p q : Addr} {H : Hp} {o : HO} (h : H q = none) : But p H (L2.upd H q o) := But.of (same_new h)
/-- what is gone neither before nor behind -/
theorem But.free {p q : Addr} {H H' : Hp} (e : But p H H') (hp : q ≠ p) (h : H' q = none) : H q = none := by
  cases z : H q with
  | none => rfl
  | some o =>
    rw [e q o z hp] at h
    cases h
theorem But.seq {K : PySem.W.Frag} {p a : Addr} {H H' : Hp} {xs : List V} (e : But p H H') (n : ∀ o, H p = some o → a ≠ p) (hp : ∃ o, H p = some o) (h : SqL K H a xs) : SqL K H' a xs := by
  obtain ⟨o, hp⟩ := hp
  have n' := n o hp
  rcases h with (h | ⟨o, h⟩) | h
  · exact .inl (.inl (e _ _ h n'))
  · exact .inl (.inr ⟨o, e _ _ h n'⟩)
  · exact .inr h

theorem hu_of64 {A : Around} {k : Nat} (hr : Room k A) : A.units + 64 < cLine := hr.units
/-! ### the pen: a list of the script's cells, how many numbers were asked for, what is left of the last one -/
def PenAt (H : Hp) (p c : Addr) (n : Nat) : Prop := ∃ (cs : List Int) (i : Nat) (h : Int), cs.length ≤ 63 ∧ i ≤ n ∧ H c = some (.lst (cs.map V.int)) ∧ H p = some (.lst [.ref c, .int i, .int h])
theorem PenAt.ne {H : Hp} {p c : Addr} {n : Nat} (h : PenAt H p c n) : c ≠ p := by
  obtain ⟨cs, i, z, _, _, hc, hp⟩ := h
  refine ne_of hc hp fun e => ?_
  cases cs with
  | nil => cases e
  | cons x r => cases e
theorem PenAt.le {H : Hp} {p c : Addr} {m n : Nat} (h : PenAt H p c m) (l : m ≤ n) : PenAt H p c n := by
  obtain ⟨cs, i, z, a, b, hc, hp⟩ := h
  exact ⟨cs, i, z, a, Nat.le_trans b l, hc, hp⟩
theorem PenAt.same {H H' : Hp} {p c : Addr} {n : Nat} (h : PenAt H p c n) (s : Same H H') : PenAt H' p c n := by
  obtain ⟨cs, i, z, a, b, hc, hp⟩ := h
  exact ⟨cs, i, z, a, b, s _ _ hc, s _ _ hp⟩
theorem PenAt.some {H : Hp} {p c : Addr} {n : Nat} (h : PenAt H p c n) : ∃ o, H p = some o := by
  obtain ⟨cs, i, z, a, b, hc, hp⟩ := h
  exact ⟨_, hp⟩

def spPen (K : PySem.W.Frag) : Sp := fun vs H Q _ => ∃ (a : Addr) (ns : List Int), vs = [.ref a] ∧ SqL K H a (ns.map V.int) ∧ ns.length ≤ 63 ∧ ∀ p c H', Same H H' → H p = none → H c = none → PenAt H' p c 0 → Q (.ref p) H'
def spNext : Sp := fun vs H Q _ => ∃ (p c : Addr) (n : Nat), vs = [.ref p] ∧ PenAt H p c n ∧ n ≤ 1000000 ∧ ∀ (r : Int) H', But p H H' → PenAt H' p c (n + 1) → Q (.int r) H'
def spDraw : Sp := fun vs H Q _ => ∃ (p c : Addr) (n : Nat) (u : Int), vs = [.ref p, .int u] ∧ PenAt H p c n ∧ n ≤ 1000000 ∧ 0 < u ∧ u < 1000000000 ∧ ∀ (d : Int) H', 0 ≤ d → d < u → But p H H' → PenAt H' p c (n + 1) → Q (.int d) H'
end Wnd

/-! Windowsteps: rules (low, high, gap) as Python has them: tuples with None in them; dicts with such keys. -/
namespace Wnd
open PySem PySem.Spec PyProof.Rows L2

structure Rule where
  low : Option Str
  high : Option Str
  gap : Int
  deriving DecidableEq
def endV : Option Str → V
  | none => .non
  | some x => .str x
def ruleV (r : Rule) : List V := [endV r.low, endV r.high, .int r.gap]
def endK : Option Str → NestedKey
  | none => .none
  | some x => .text x
def ruleK (r : Rule) : NestedKey := .tup [endK r.low, endK r.high, .num r.gap]
theorem endK_inj : ∀ {a b : Option Str}, endK a = endK b → a = b
  | none, none, _ => rfl
  | none, some _, h => NestedKey.noConfusion h
  | some _, none, h => NestedKey.noConfusion h
  | some x, some y, h => by
    injection h with h
    rw [h]
theorem ruleK_inj {a b : Rule} (h : ruleK a = ruleK b) : a = b := by
  cases a with | mk l1 h1 g1 =>
  cases b with | mk l2 h2 g2 =>
  unfold ruleK at h
  injection h with h
  injection h with e1 h
  injection h with e2 h
  injection h with e3 h
  injection e3 with e3
  have f1 : l1 = l2 := endK_inj e1
  have f2 : h1 = h2 := endK_inj e2
  have f3 : g1 = g2 := e3
  rw [f1, f2, f3]
theorem endV_inj : ∀ {a b : Option Str}, endV a = endV b → a = b
  | none, none, _ => rfl
  | none, some _, h => V.noConfusion h
  | some _, none, h => V.noConfusion h
  | some x, some y, h => by
    injection h with h
    rw [h]
theorem endK_depth (a : Option Str) : (endK a).depth = 0 := by
  cases a <;> simp [endK, NestedKey.depth]
theorem ruleK_depth (r : Rule) : (ruleK r).depth = 1 := by
  simp [ruleK, NestedKey.depth, NestedKey.depthAll, endK_depth]
theorem endK_is {h : Heap} {a : Option Str} {u : Value} (r : RelV (endV a) u) : NestedIs h (endK a) u := by
  cases a with
  | none =>
    cases r
    exact .none
  | some x =>
    obtain ⟨t, rfl⟩ := r
    exact .text x t

section
variable {P : Program} {w : World} {H : Hp} {h : Heap}
theorem rule_is {q : Addr} {r : Rule} (ok : HOk P w H h) (e : H q = some (.tup (ruleV r))) : (nestedKind P w).is h (ruleK r) q := by
  obtain ⟨_, its, rel, o, h1, h2, n, h3⟩ := (show ObjOk P w H h q (.tup (ruleV r)) from ok q _ e)
  refine ⟨?_, by rw [ruleK_depth]; decide⟩
  refine NestedIs.tup h1 h2 h3 ?_
  rw [List.toList_toArray]
  cases rel with
  | cons r1 t1 =>
    cases t1 with
    | cons r2 t2 =>
      cases t2 with
      | cons r3 t3 =>
        cases t3
        obtain ⟨t, rfl⟩ := r3
        exact .cons (endK_is r1) (.cons (endK_is r2) (.cons (.int _ t) .nil))
end

/-! ### a dict of rules, each with True -/
def rdX (L : List (Rule × Addr)) : List (NestedKey × Addr × Value) := L.map fun p => (ruleK p.1, p.2, Value.bool true)
structure RdAt (P : Program) (w : World) (h : Heap) (d : Addr) (L : List (Rule × Addr)) : Prop where
  lo : (d == sysModules) = false
  sz : L.length ≤ sizeLine
  raw : ∃ o es ep, h.get? d = some o ∧ o.ExactDict ∧ o.data = .dict es ep ∧ es.toList = (rdX L).map (entryOfKey (nestedKind P w))
  nd : (L.map (·.1)).Nodup
def rdO (P : Program) (w : World) (d : Addr) (L : List (Rule × Addr)) : HO := .ext fun h => RdAt P w h d L
/-- the keys' own tuples -/
def KeyTups (H : Hp) (L : List (Rule × Addr)) : Prop := ∀ p, p ∈ L → H p.2 = some (.tup (ruleV p.1))
theorem KeyTups.same {H H' : Hp} {L : List (Rule × Addr)} (k : KeyTups H L) (s : ∀ b xs, H b = some (.tup xs) → H' b = some (.tup xs)) : KeyTups H' L := fun p hp => s _ _ (k p hp)
def putR (L : List (Rule × Addr)) (r : Rule) (q : Addr) : List (Rule × Addr) := if r ∈ L.map (·.1) then L else L ++ [(r, q)]
section
variable {P : Program} {w : World} {H : Hp} {h : Heap} {d : Addr} {L : List (Rule × Addr)}
theorem rdO_ok (R : RdAt P w h d L) : ObjOk P w H h d (rdO P w d L) := by
  refine ⟨R, ?_, fun h1 h2 R1 k => ?_⟩
  · obtain ⟨o, _, _, e, _⟩ := R.raw
    exact ⟨o, e⟩
  · obtain ⟨o, es, ep, e, c⟩ := R1.raw
    exact ⟨R1.lo, R1.sz, ⟨o, es, ep, k o e, c⟩, R1.nd⟩
theorem rd_at (ok : HOk P w H h) (e : H d = some (rdO P w d L)) : RdAt P w h d L := (ok d _ e).1
theorem rd_rd (ok : HOk P w H h) (e : Rd H d (rdO P w d L)) : RdAt P w h d L := (e.ok ok).1
theorem rdX_nodup (hn : (L.map (·.1)).Nodup) : ((rdX L).map (·.1)).Nodup := by
  unfold rdX
  rw [List.map_map]
  rw [show ((fun x : NestedKey × Addr × Value => x.1) ∘ fun p : Rule × Addr => (ruleK p.1, p.2, Value.bool true)) = ruleK ∘ (fun p : Rule × Addr => p.1) from rfl, ← List.map_map]
  exact List.Pairwise.map ruleK (fun a b hab e => hab (ruleK_inj e)) hn
theorem RdAt.full (ok : HOk P w H h) (R : RdAt P w h d L) (k : KeyTups H L) : h.DictOfH (nestedKind P w) d (rdX L) := by
  obtain ⟨o, es, ep, e, x, dd, en⟩ := R.raw
  refine ⟨o, es, ep, e, x, dd, en, fun y hy => ?_, rdX_nodup R.nd⟩
  obtain ⟨p, hp, rfl⟩ := List.mem_map.mp hy
  exact rule_is ok (k p hp)
theorem RdAt.of (D : h.DictOfH (nestedKind P w) d (rdX L)) (lo : (d == sysModules) = false) (sz : L.length ≤ sizeLine) (nd : (L.map (·.1)).Nodup) : RdAt P w h d L := by
  obtain ⟨o, es, ep, e, x, dd, en, _⟩ := D
  exact ⟨lo, sz, ⟨o, es, ep, e, x, dd, en⟩, nd⟩
theorem atKey_rdX (r : Rule) : ∀ L : List (Rule × Addr), (atKey (rdX L) (ruleK r)).isSome = decide (r ∈ L.map (·.1))
  | [] => by simp [rdX, atKey]
  | p :: L => by
    have ih := atKey_rdX r L
    by_cases e : p.1 = r
    · subst e
      simp [rdX, atKey]
    · have e' : ¬ ruleK p.1 = ruleK r := fun z => e (ruleK_inj z)
      have e2 : ¬ r = p.1 := fun z => e z.symm
      have h1 : atKey (rdX (p :: L)) (ruleK r) = atKey (rdX L) (ruleK r) := by
        unfold rdX atKey
        rw [List.map_cons, List.find?_cons]
        simp [e']
      rw [h1, ih]
      simp [e2]
theorem putAt_true (r : Rule) : ∀ L : List (Rule × Addr), (rdX L).map (putAt (ruleK r) (Value.bool true)) = rdX L
  | [] => rfl
  | p :: L => by
    have ih := putAt_true r L
    unfold rdX at ih ⊢
    rw [List.map_cons, List.map_cons, ih]
    unfold putAt
    split <;> rfl
theorem storedH_rdX (L : List (Rule × Addr)) (r : Rule) (q : Addr) : storedH (rdX L) (ruleK r) q (Value.bool true) = rdX (putR L r q) := by
  unfold storedH putR
  rw [atKey_rdX]
  by_cases e : r ∈ L.map (·.1)
  · rw [decide_eq_true e, if_pos rfl, if_pos e, putAt_true]
  · rw [decide_eq_false e, if_neg Bool.false_ne_true, if_neg e]
    unfold rdX
    rw [List.map_append]
    rfl
theorem putR_nodup {r : Rule} {q : Addr} (nd : (L.map (·.1)).Nodup) : ((putR L r q).map (·.1)).Nodup := by
  unfold putR
  by_cases e : r ∈ L.map (·.1)
  · rw [if_pos e]
    exact nd
  · rw [if_neg e, List.map_append]
    refine List.nodup_append.mpr ⟨nd, by simp, fun a ha b hb => ?_⟩
    have hb' : b = r := by simpa using hb
    subst hb'
    intro z
    subst z
    exact e ha
theorem putR_len {r : Rule} {q : Addr} : (putR L r q).length ≤ L.length + 1 := by
  unfold putR
  split
  · omega
  · rw [List.length_append, List.length_singleton]
    omega
theorem KeyTups.put {r : Rule} {q : Addr} (k : KeyTups H L) (hq : H q = some (.tup (ruleV r))) : KeyTups H (putR L r q) := by
  unfold putR
  split
  · exact k
  · intro p hp
    rcases List.mem_append.mp hp with hp | hp
    · exact k p hp
    · have e : p = (r, q) := by simpa using hp
      subst e
      exact hq
end
section
variable {X : Cx} {pins : List (Addr × Obj)} {σ : L2.St} {H : Hp} {s : Shared} {E : Value → Shared → Prop}
theorem rdO_ne_tup {P : Program} {w : World} {d : Addr} {L : List (Rule × Addr)} {xs : List V} : rdO P w d L ≠ .tup xs := fun z => nomatch z
theorem rd_dictSet {A : Around} {d q : Addr} {L : List (Rule × Addr)} {r : Rule} {Q : Unit → Shared → Prop} (hu : A.units + 8 < cLine) (I : Inv X pins σ H s) (hd : H d = some (rdO X.prog X.w d L)) (k : KeyTups H L) (hq : H q = some (.tup (ruleV r)))
    (hz : L.length < sizeLine) (hQ : ∀ s', Inv X pins σ (upd H d (rdO X.prog X.w d (putR L r q))) s' → Q () s') :
    wpAny (model X.prog X.w) A (dictSet d (.ref q) (.bool true)) Q E s := by
  have R := rd_at I.hok hd
  have hl : (rdX L).length = L.length := by unfold rdX; rw [List.length_map]
  refine wpAny_dictSet_heap (hsz := by rw [hl]; exact R.sz) (knd := nestedKind X.prog X.w) hu (rule_is I.hok hq) (R.full I.hok k) fun h' D' sb => hQ _ ?_
  rw [storedH_rdX] at D'
  have he : ∃ z, h'.get? d = some z := let ⟨z, _, _, e, _⟩ := D'; ⟨z, e⟩
  exact d_write I (by rw [hd]; exact True.intro) sb he (rdO_ok (RdAt.of D' R.lo (Nat.le_trans putR_len hz) (putR_nodup R.nd)))
end
end Wnd

/-! Windowsteps: {rule: True for rule in rules}. -/
namespace Wnd
open PySem PySem.Spec PyProof.Rows L2
section
variable {X : Cx}
/-- what the comprehension asks: D is the new dict of rules -/
def tDcR (P : Program) (w : World) (wi : TI) (g : TG) (tk : TE) (vs : List Nat) : TE := fun σ H Q => wi σ H fun J H1 =>
  ∀ D, H1 D = none → ∃ W : Nat → Nat → Hp → Prop, (∃ m, W 0 m (upd H1 D (rdO P w D []))) ∧ ∀ i m Hi, W i m Hi →
    (J.stop i Hi ∧ Q (.ref D) Hi) ∨ (J.go i Hi ∧ ∃ Nx : Hp → Prop, (∀ Hn, Nx Hn → ∃ m', m' < m ∧ W (i + 1) m' Hn) ∧
      ∀ x Hx, J.yld i Hi x Hx → g x (wipe σ vs) Hx fun σ2 H2 => wipe σ2 vs = wipe σ vs ∧
        tk σ2 H2 fun y H3 => ∃ (q : Addr) (r : Rule) (L : List (Rule × Addr)), y = .ref q ∧ H3 D = some (rdO P w D L) ∧ KeyTups H3 L ∧ H3 q = some (.tup (ruleV r)) ∧ L.length < sizeLine ∧ Nx (upd H3 D (rdO P w D (putR L r q))))
theorem rd_empty {P : Program} {w : World} {H : Hp} (h : Heap) (big : sysModules < h.objs.size) :
    ObjOk P w H (h.push { cls := .type "dict", data := .dict #[] }) h.objs.size (rdO P w h.objs.size []) :=
  rdO_ok (RdAt.of (Heap.DictOfH.new (knd := nestedKind P w) h) (beq_eq_false_iff_ne.mpr (Nat.ne_of_gt big)) (Nat.zero_le _) List.nodup_nil)
/-- the block's keys may be laid down while D stands -/
theorem dcR_core {pins : List (Addr × Obj)} {s : Shared} {σ : L2.St} {H : Hp} {Q : VK} {kx tg iter : Expr} {c : Nat} {cp : Pos} {scope : Scope} {own : List (Str × Nat)} {pos pos' : Pos} {wi : TI} {g : TG} {tk : TE}
    {use : Option (Value → Sem Unit)} {Qf : Value → Shared → Prop} (room : X.A.units + 8 < cLine) (calm : X.calm = true) (nd : X.N.Nodup) (I : Inv X pins σ H s) (hi : PI X tg iter wi) (ok : BlkOk X.N X.env.scope scope own)
    (hg : ∀ (s : Shared) (H : Hp) (C : Addr) (cl : List (Str × Addr)) (fp : List Addr), PG (X.blk s H scope (compEnvC scope cl C X.env) fp) tg g)
    (hk : ∀ (s : Shared) (H : Hp) (C : Addr) (cl : List (Str × Addr)) (fp : List Addr), PE (X.blk s H scope (compEnvC scope cl C X.env) fp) kx tk)
    (plain : ∀ x, foldedSetIterable iter X.env x = pure x) (ask : tDcR X.prog X.w wi g tk (own.map (·.2)) σ H Q)
    (last : ∀ D C s' m H', Inv X pins σ H' s' → Q (.ref D) H' → s'.heap.Ns C m → FpOk X pins H' C → compPost (model X.prog X.w) X.A X.xe use Qf (.ref D) C (.ok .next) s') :
    wpAny (model X.prog X.w) X.A (comprehension (.DictComp kx (.Constant (.bool true) c cp) [⟨tg, iter, [], 0⟩] scope pos) scope X.env pos' newDict false (eval iter X.env) use) Qf X.xe s := by
  have cells : ∀ y ∈ scope.names, y.2 = .free → ∃ c, X.env.cells.lookup y.1 = some c := by
    intro y hy e
    rcases ok.free y hy e with k | k
    · exact I.ok.has _ (.inl k)
    · exact I.ok.has _ (.inr k)
  refine wpAny_comprehension_free (use := use) rfl plain (closure_ok cells) ok.kind (fun y hy e => by rw [ok.uniq y hy, e]) (thn (hi.run pins s σ H _ I ask) ?_)
  intro xv s1 hx
  refine thn hx ?_
  rintro itv s2 ⟨it, fp, tn, J, Ha, rfl, I2, T, t0, fz, asks⟩
  refine wpAny_newObj_type (newEnv_comp ?_)
  generalize eD : s2.heap.objs.size = D
  have dNew : Ha D = none := I2.hok.fresh (Nat.le_of_eq eD)
  obtain ⟨W, ⟨m0, w0⟩, turn⟩ := asks D dNew
  -- the new dict is laid down
  generalize e3 : ({ s2 with heap := s2.heap.push { cls := .type "dict", data := .dict #[] } } : Shared) = s3
  have I3 : Inv X pins σ (upd Ha D (rdO X.prog X.w D [])) s3 := by
    rw [← e3]
    refine I2.laid (t' := s2.toks) (fun b o e => Heap.get?_push_of_some _ e) (Nat.le_of_eq eD) ?_
    rw [← eD]
    exact rd_empty s2.heap I2.big
  have h3 : s3.heap = s2.heap.push { cls := .type "dict", data := .dict #[] } := by rw [← e3]
  have below : ∀ b ∈ fp, b < s2.heap.objs.size := by
    intro b hb
    obtain ⟨o, e, _⟩ := T.obj _ _ t0 b hb
    exact Heap.lt_size e
  have away : ∀ b ∈ fp, FpOk X pins (upd Ha D (rdO X.prog X.w D [])) b ∧ b < s3.heap.objs.size := by
    intro b hb
    have lt := below b hb
    refine ⟨⟨?_, (fz b hb).2⟩, ?_⟩
    · rw [upd_ne (by rw [← eD]; exact Nat.ne_of_lt lt)]
      exact (fz b hb).1
    · rw [h3, Heap.size_push]
      exact Nat.lt_succ_of_lt lt
  have t3 : tn 0 s3.heap := T.keep _ _ _ t0 fun b _ o e => by
    rw [h3]
    exact Heap.get?_push_of_some _ e
  have I4 := block_start I3 ok nd away
  generalize eH : upd Ha D (rdO X.prog X.w D []) = Hb at I3 I4 w0 away
  have pg := hg s3 Hb s3.heap.objs.size (cellsFrom (s3.heap.objs.size + 1) scope.names (cloFrom X.env.cells scope.names [])) fp
  have pk := hk s3 Hb s3.heap.objs.size (cellsFrom (s3.heap.objs.size + 1) scope.names (cloFrom X.env.cells scope.names [])) fp
  generalize eE : compEnvC scope (cellsFrom (s3.heap.objs.size + 1) scope.names (cloFrom X.env.cells scope.names [])) s3.heap.objs.size X.env = be at I4 pg pk
  show codeAny _ _ (.compStart (.DictComp kx (.Constant (.bool true) c cp) [⟨tg, iter, [], 0⟩] scope pos) 0 (.ref it) (.ref D)
    (compEnvC scope (cellsFrom (s3.heap.objs.size + 1) scope.names (cloFrom X.env.cells scope.names [])) s3.heap.objs.size X.env))
    (compPost (model X.prog X.w) X.A X.xe use Qf (.ref D) s3.heap.objs.size) { s3 with heap := pushCells (s3.heap.push { cls := .type "dict", data := .dict #[] }) scope.names }
  rw [eE]
  have locs : be.locals = s3.heap.objs.size := by
    subst eE
    rfl
  have none0 : ∀ b ∈ fp, Hb b = none := fun b hb => (away b hb).1.1
  generalize e4 : ({ s3 with heap := pushCells (s3.heap.push { cls := .type "dict", data := .dict #[] }) scope.names } : Shared) = s4 at I4 ⊢
  have t4 : tn 0 s4.heap := T.keep _ _ _ t3 fun b _ o e => by
    rw [← e4]
    exact pushCells_keeps _ _ _ _ (Heap.get?_push_of_some _ e)
  have stat : ∀ {σ' : L2.St} {Hc : Hp} {s' : Shared}, Inv (X.blk s3 Hb scope be fp) [] σ' Hc s' → (∀ b ∈ fp, Hc b = none) → ∀ b ∈ fp, FpOk (X.blk s3 Hb scope be fp) [] Hc b := by
    intro σ' Hc s' J' hn b hb
    exact ⟨hn b hb, (J'.ok.exf b hb).1, J'.ok.exfs b hb, .inl hb, fun x c e => (J'.ok.exf b hb).2 x c e, fun p hp => absurd (show p ∈ ([] : List (Addr × Obj)) ++ [] from hp) (by simp)⟩
  have loop : codeAny (model X.prog X.w) X.A (.compLoop (.DictComp kx (.Constant (.bool true) c cp) [⟨tg, iter, [], 0⟩] scope pos) 0 (.ref it) (.ref D) be) (compPost (model X.prog X.w) X.A X.xe use Qf (.ref D) s3.heap.objs.size) s4 := by
    refine compLoop_anyD (fun n s' => ∃ i Hc, Inv (X.blk s3 Hb scope be fp) [] (wipe σ (own.map (·.2))) Hc s' ∧ tn i s'.heap ∧ (∀ b ∈ fp, Hc b = none) ∧ W i n Hc) ?_ m0 ⟨0, Hb, I4, t4, none0, w0⟩
    rintro n s5 ⟨i, Hc, I5, t5, n5, w5⟩
    rcases turn i n Hc w5 with ⟨stop, fin⟩ | ⟨go, Nx, less, step⟩
    · refine thnF (T.done (X.blk s3 Hb scope be fp) rfl rfl rfl calm i [] s5 _ Hc (fun _ _ => False) I5 (stat I5 n5) t5 stop) ?_
      rintro r s6 ⟨rfl, I6⟩
      have I7 : Inv X pins σ Hc s6 := I3.call' (ch := fp) I6.os I6.base I6.hok I6.bare fun b hb => ⟨(away b hb).1.2.2.2.1, (away b hb).1.2.1, (away b hb).1.2.2.2.2.1, (away b hb).1.2.2.2.2.2⟩
      have nC : Hc s3.heap.objs.size = none := by
        have z : Hc be.locals = none := I6.free
        rw [locs] at z
        exact z
      obtain ⟨m, hn, _⟩ := I6.loc
      have hn : s6.heap.Ns be.locals m := hn
      rw [locs] at hn
      exact last D s3.heap.objs.size s6 m Hc I7 fin hn (I3.fpOk (Nat.le_refl _) nC)
    · refine thnF (T.item (X.blk s3 Hb scope be fp) rfl rfl rfl calm i [] s5 _ Hc (fun _ _ => False) I5 (stat I5 n5) t5 go) ?_
      rintro r s6 ⟨u, rfl, h6⟩
      refine thnF h6 ?_
      rintro _ s7 ⟨x, Hx, I7, r7, y7, t7, n7⟩
      have I7' := I7.pinned (stat I7 n7) (T.obj _ _ t7)
      refine thnF (pg.run _ s7 _ Hx x u _ I7' r7 (step x Hx y7)) ?_
      rintro _ s8 ⟨σ8, H8, I8, hw8, q8⟩
      refine thnF (wpAny_tests_nil (Q := fun b s9 => b = true ∧ s9 = s8) ⟨rfl, rfl⟩) ?_
      rintro b s9 ⟨rfl, rfl⟩
      rw [if_pos rfl]
      refine thnF (pk.run _ s9 σ8 H8 _ I8 q8) ?_
      rintro z s10 ⟨y, H9, I9, ry, q, rr, L, rfl, hD9, kt, hq, hz, nx⟩
      cases ry
      have pb : PE (X.blk s3 Hb scope be fp) (.Constant (.bool true) c cp) (tC (.bl true)) := pe_bl
      refine thnF (pb.run _ s10 σ8 H9 (fun v H' => v = .bl true ∧ H' = H9) I9 ⟨rfl, rfl⟩) ?_
      rintro z2 s11 ⟨yv, H11, I11, rv, rfl, rfl⟩
      cases rv
      refine rd_dictSet (X := X.blk s3 Hb scope be fp) room I11 hD9 kt hq hz fun s12 I12 => ?_
      obtain ⟨m', hm, w'⟩ := less _ nx
      have pinned : ∀ b ∈ fp, ∀ o, s7.heap.get? b = some o → s12.heap.get? b = some o ∧ (upd H11 D (rdO X.prog X.w D (putR L rr q))) b = none := by
        intro b hb o e
        have z := I12.pin (b, o) (List.mem_append_right _ (List.mem_append_right _ (mem_pinsAt hb e)))
        exact ⟨z.1, z.2.1⟩
      have len : (wipe σ (own.map (·.2))).length = σ8.length := by rw [← hw8, wipe_length]
      refine ⟨m', hm, i + 1, _, (I12.unpinned (pins := [])).weak len (fun j v e => ?_), T.keep _ _ _ t7 fun b hb o e => (pinned b hb o e).1, fun b hb => ?_, w'⟩
      · rw [← hw8] at e
        exact (wipe_some e).1
      · obtain ⟨o, e, _⟩ := T.obj _ _ t7 b hb
        exact (pinned b hb o e).2
  exact codeAny_compStart_dict loop (T.self X.A 0 _ _ _ t4 loop)
/-- d = {rule: True for rule in rules} on one line, d a local -/
theorem ps_setDcR {i : Nat} {y : Str} {py : Pos} {kx tg iter : Expr} {c : Nat} {cp : Pos} {scope : Scope} {own : List (Str × Nat)} {pos spos : Pos} {wi : TI} {g : TG} {tk : TE} (room : X.A.units + 8 < cLine) (calm : X.calm = true) (nd : X.N.Nodup)
    (hy : X.N[i]? = some y) (hyl : X.env.scope.names.lookup y = some .local) (sw : swapsWith (.DictComp kx (.Constant (.bool true) c cp) [⟨tg, iter, [], 0⟩] scope pos) (some (.Name y py)) spos.line X.env = pure true)
    (hi : PI X tg iter wi) (ok : BlkOk X.N X.env.scope scope own)
    (hg : ∀ (s : Shared) (H : Hp) (C : Addr) (cl : List (Str × Addr)) (fp : List Addr), PG (X.blk s H scope (compEnvC scope cl C X.env) fp) tg g)
    (hk : ∀ (s : Shared) (H : Hp) (C : Addr) (cl : List (Str × Addr)) (fp : List Addr), PE (X.blk s H scope (compEnvC scope cl C X.env) fp) kx tk)
    (plain : ∀ x, foldedSetIterable iter X.env x = pure x := by intro _; rfl) :
    PS X (.Assign [.Name y py] (.DictComp kx (.Constant (.bool true) c cp) [⟨tg, iter, [], 0⟩] scope pos) spos) (tAsg (tDcR X.prog X.w wi g tk (own.map (·.2))) (gName i)) := by
  refine ⟨fun pins s σ H D I h => ?_⟩
  rw [exec_Assign_Name_used _ _ _ _ sw]
  refine wpAny_bind (wpAny_standAt (wpAny_bind ?_))
  show wpAny _ X.A (do
    let _ ← comprehension (.DictComp kx (.Constant (.bool true) c cp) [⟨tg, iter, [], 0⟩] scope pos) scope X.env (firstIterPos [⟨tg, iter, [], 0⟩] pos) newDict false (eval iter X.env) (some (assign (.Name y py) X.env))) _ _ s
  have h' : tDcR X.prog X.w wi g tk (own.map (·.2)) σ H (fun x H1 => gName i x σ H1 D.nx) := h
  refine wpAny_bind (thn (dcR_core (Qf := fun _ s' => SP X pins D .next s') room calm nd I hi ok hg hk plain h' ?_) fun _ s' hq => wpAny_pure (wpAny_pure hq))
  intro L C s' m H' I' q hn fo
  show wpAny _ _ (assign (.Name y py) X.env (.ref L)) _ _ _
  obtain ⟨f0, f1, f2, f3, f4, f5⟩ := fo
  refine wpAny_assign_Name (store_ok2 (v := V.ref L) I' nd hy (.inl hyl) rfl (fun s2 I2 => ?_) (.inr hyl))
  rintro ⟨a, sb, ha⟩
  have apart : C ≠ a := by
    rcases ha with z | z
    · rw [z]
      exact f1
    · exact fun e => f4 y a z e.symm
  refine ⟨m, hn.sameBut sb apart, fun h3 sb3 => ⟨_, H', ?_, q⟩⟩
  exact I2.turned (t' := s2.toks) (fun b o hb e => (sb3.2 b hb).trans e) f0 f1 f3 f4 f5
theorem sw_dict {kx vx : Expr} {gs : List Comprehension} {scope : Scope} {pos py : Pos} {y : Str} {l : Nat} {env : Env} (hk : env.scope.kind = .function) (hy : env.scope.names.lookup y = some .local) (hl : (py.line == pos.line) = true)
    (ha : (scope.names.any fun (n, k) => n == y && (k == .local || k == .cell)) = false) : swapsWith (.DictComp kx vx gs scope pos) (some (.Name y py)) l env = pure true := by
  have ky : env.kindOf y = some .local := hy
  have kb : env.blockKind = .function := by
    unfold Env.blockKind
    rw [hk]
    rfl
  unfold swapsWith
  simp only [kb, ky, ha, Expr.pos, hl]
  rfl
/-- over a list of rules that stays: in the end D holds each of them once, in the order of their first coming -/
def putAll (rs : List (Rule × Addr)) (L : List (Rule × Addr)) : List (Rule × Addr) := rs.foldl (fun L p => putR L p.1 p.2) L
theorem dcR_list {P : Program} {w : World} {K : PySem.W.Frag} {a : Addr} {rs : List (Rule × Addr)} {i : Nat} {σ : L2.St} {vs : List Nat} {H1 : Hp} {D : Addr} {Qd : Hp → Prop} (hD : H1 D = none) (hl : SqL K H1 a (rs.map fun p => V.ref p.2)) (hk : KeyTups H1 rs) (hz : rs.length < sizeLine)
    (hi : i < (wipe σ vs).length) (hv : ∀ v, wipe ((wipe σ vs).set i (some v)) vs = wipe σ vs) (hd : Qd (upd H1 D (rdO P w D (putAll rs [])))) :
    ∃ W : Nat → Nat → Hp → Prop, (∃ m, W 0 m (upd H1 D (rdO P w D []))) ∧ ∀ j m Hj, W j m Hj →
      ((Itl K a).stop j Hj ∧ Qd Hj) ∨ ((Itl K a).go j Hj ∧ ∃ Nx : Hp → Prop, (∀ Hn, Nx Hn → ∃ m', m' < m ∧ W (j + 1) m' Hn) ∧
        ∀ x Hx, (Itl K a).yld j Hj x Hx → gName i x (wipe σ vs) Hx fun σ2 H2 => wipe σ2 vs = wipe σ vs ∧
          tVar i σ2 H2 fun y H3 => ∃ (q : Addr) (r : Rule) (L : List (Rule × Addr)), y = .ref q ∧ H3 D = some (rdO P w D L) ∧ KeyTups H3 L ∧ H3 q = some (.tup (ruleV r)) ∧ L.length < sizeLine ∧ Nx (upd H3 D (rdO P w D (putR L r q)))) := by
  have keepT : ∀ L : List (Rule × Addr), ∀ b xs, H1 b = some (.tup xs) → upd H1 D (rdO P w D L) b = some (.tup xs) := fun L b xs e => by
    rw [upd_ne (ne_of_none e hD)]
    exact e
  have keepL : ∀ L : List (Rule × Addr), SqL K (upd H1 D (rdO P w D L)) a (rs.map fun p => V.ref p.2) := fun L => by
    have sm : Same H1 (upd H1 D (rdO P w D L)) := same_new hD
    exact sm.seq hl
  have memP : ∀ (rs' L : List (Rule × Addr)), (∀ p ∈ rs', H1 p.2 = some (.tup (ruleV p.1))) → KeyTups H1 L → KeyTups H1 (putAll rs' L) := by
    intro rs'
    induction rs' with
    | nil => exact fun L _ k => k
    | cons p r ih => exact fun L h k => ih _ (fun z hz => h z (List.mem_cons_of_mem _ hz)) (k.put (h p (List.mem_cons_self ..)))
  have lenP : ∀ (rs' L : List (Rule × Addr)), (putAll rs' L).length ≤ L.length + rs'.length := by
    intro rs'
    induction rs' with
    | nil => exact fun L => Nat.le_refl _
    | cons p r ih =>
      intro L
      have h1 := ih (putR L p.1 p.2)
      have h2 := @putR_len L p.1 p.2
      show (putAll r (putR L p.1 p.2)).length ≤ L.length + (r.length + 1)
      omega
  refine ⟨fun j m Hj => m = rs.length - j ∧ j ≤ rs.length ∧ Hj = upd H1 D (rdO P w D (putAll (rs.take j) [])), ⟨rs.length, by simp, Nat.zero_le _, rfl⟩, ?_⟩
  rintro j m Hj ⟨rfl, hj, rfl⟩
  by_cases lt : j < rs.length
  · refine .inr ⟨⟨_, .ref rs[j].2, keepL _, by rw [List.getElem?_map, List.getElem?_eq_getElem lt]; rfl⟩, fun Hn => Hn = upd H1 D (rdO P w D (putAll (rs.take (j + 1)) [])), fun Hn e => ⟨rs.length - (j + 1), by omega, rfl, lt, e⟩, ?_⟩
    rintro x Hx ⟨rfl, y⟩
    have ex := y _ (keepL _)
    rw [List.getElem?_map, List.getElem?_eq_getElem lt] at ex
    have ex' : V.ref rs[j].2 = x := Option.some.inj ex
    subst ex'
    refine ⟨hv _, .ref rs[j].2, ?_, rs[j].2, rs[j].1, putAll (rs.take j) [], rfl, upd_same, ?_, ?_, ?_, ?_⟩
    · rw [List.getElem?_set_self hi]
    · exact (memP _ _ (fun p hp => hk p (List.mem_of_mem_take hp)) (fun p hp => absurd hp (List.not_mem_nil))).same (keepT _)
    · exact keepT _ _ _ (hk _ (List.getElem_mem lt))
    · have h1 := lenP (rs.take j) []
      have h2 : (rs.take j).length ≤ rs.length := by
        rw [List.length_take]
        omega
      simp only [List.length_nil] at h1
      omega
    · have e1 : rs.take (j + 1) = rs.take j ++ [rs[j]] := by
        rw [List.take_add_one, List.getElem?_eq_getElem lt]
        rfl
      rw [upd_upd, e1]
      unfold putAll
      rw [List.foldl_append]
      rfl
  · have e : j = rs.length := by omega
    subst e
    refine .inl ⟨⟨_, keepL _, by rw [List.length_map]; exact Nat.le_refl _⟩, ?_⟩
    rw [List.take_length]
    exact hd
end
end Wnd

/-! Windowsteps: sorted(rules, key=f), f a def of the text; sorted of pairs of a key and a rule. -/
namespace Wnd
open PySem PySem.Spec PyProof.Rows L2

def endS (e : Option Str) : Str := e.getD ⟨#[]⟩
/-- the key that orders rules: None ahead of all names -/
def rankV (r : Rule) : List V := [.str (endS r.low), .str (endS r.high), .int r.gap]
def rankD (r : Rule) : PyData := .tuple [.str (endS r.low), .str (endS r.high), .int r.gap]
/-- its texts are no longer than a line of the store -/
def Short (r : Rule) : Prop := (∀ t : Str, r.low = some t → t.length ≤ sizeLine) ∧ ∀ t : Str, r.high = some t → t.length ≤ sizeLine
def spRank : Sp := fun vs H Q _ => ∃ (q : Addr) (r : Rule), vs = [.ref q] ∧ H q = some (.tup (ruleV r)) ∧ Short r ∧ ∀ t, H t = none → Q (.ref t) (upd H t (.tup (rankV r)))
/-- the rules in ascending order (each with its address) -/
def inOrder (L : List (Rule × Addr)) : List (Rule × Addr) := L.mergeSort (W.dataLe false fun p => rankD p.1)

section
variable {P : Program} {w : World} {H : Hp} {h : Heap}
theorem rank_reads {t : Addr} {r : Rule} (ok : HOk P w H h) (e : H t = some (.tup (rankV r))) : Reads h (.ref t) (rankD r) [] := by
  obtain ⟨_, its, rel, o, h1, h2, n, h3⟩ := (show ObjOk P w H h t (.tup (rankV r)) from ok t _ e)
  cases rel with
  | cons r1 t1 =>
    cases t1 with
    | cons r2 t2 =>
      cases t2 with
      | cons r3 t3 =>
        cases t3
        obtain ⟨a, rfl⟩ := r1
        obtain ⟨b, rfl⟩ := r2
        obtain ⟨c, rfl⟩ := r3
        refine Reads.tuple (as := []) h1 h2 h3 ?_
        rw [List.toList_toArray]
        exact ReadsAll.cons (.str _ _) (ReadsAll.cons (.str _ _) (ReadsAll.cons (.int _ _) .nil))
end
theorem rank_alike (L : List (Rule × Addr)) : W.AllAlike (L.map fun p => rankD p.1) := W.AllAlike.of fun _ _ => by simp [W.alike, W.alikeAll, rankD]
theorem rank_sortable (L : List (Rule × Addr)) : W.Sortable (L.map fun p => rankD p.1) := W.Sortable.tuples fun _ => ⟨_, _, rfl⟩
theorem rank_depth (r : Rule) : (rankD r).depth = 1 := by simp [rankD, PyData.depth, PyData.depthAll]

section
variable {X : Cx}
/-- sorted(d, key=f): d a dict of rules -/
def rSortRank (P : Program) (w : World) (f : Addr) : List V → List V → Hp → VK → Prop := fun vs zs H Q => ∃ (d : Addr) (L : List (Rule × Addr)), vs = [.ref d] ∧ zs = [.ref f] ∧ H d = some (rdO P w d L) ∧ KeyTups H L ∧ (∀ p ∈ L, Short p.1) ∧ L.length < 1000000 ∧
  ∀ p H', Same H H' → H p = none → H' p = some (.lst ((inOrder L).map fun x => V.ref x.2)) → Q (.ref p) H'
/-- what stands while the keys are asked for -/
structure Asked (X : Cx) (pins : List (Addr × Obj)) (σ : L2.St) (H : Hp) (L : List (Rule × Addr)) (a kS : Addr) (e1 j : Nat) (s : Shared) : Prop where
  ex : ∃ (Hc : Hp) (kA : Array Value) (e : Nat), Inv X pins σ Hc s ∧ Same H Hc ∧ FpOk X pins Hc a ∧ FpOk X pins Hc kS ∧ s.heap.get? a = some (seqObj "list" #[] e1) ∧ s.heap.get? kS = some (seqObj "list" kA e) ∧
    W.EachIs (fun v (x : Rule × Addr) => ∃ t, v = Value.ref t ∧ Hc t = some (.tup (rankV x.1))) kA.toList (L.take j)

theorem ask_key {pins : List (Addr × Obj)} {σ : L2.St} {H : Hp} {s : Shared} {A : Around} {f a kS : Addr} {fd : FuncData} {k e1 j : Nat} {L : List (Rule × Addr)} {E : Value → Shared → Prop} (F : FnOk X.prog X.w X.K X.mg X.base CX0 k f fd ["rule"] spRank) (hb : Binds X.K fd ["rule"] []) (hr : Room k A) (fr : A.frames = X.A.frames)
    (kt : KeyTups H L) (sh : ∀ p ∈ L, Short p.1) (ne : kS ≠ a) (lt : j < L.length) (st : Asked X pins σ H L a kS e1 j s) :
    wpAny (model X.prog X.w) A (call (.ref f) [.ref L[j].2]) (fun u s' => ∃ (Hc : Hp) (kA : Array Value) (e : Nat) (t : Addr), u = .ref t ∧ Inv X pins σ Hc s' ∧ Same H Hc ∧ FpOk X pins Hc a ∧ FpOk X pins Hc kS ∧ s'.heap.get? a = some (seqObj "list" #[] e1) ∧
      s'.heap.get? kS = some (seqObj "list" kA e) ∧ Hc t = some (.tup (rankV L[j].1)) ∧ W.EachIs (fun v (x : Rule × Addr) => ∃ t, v = Value.ref t ∧ Hc t = some (.tup (rankV x.1))) kA.toList (L.take j)) E s := by
  obtain ⟨Hc, kA, e, I, sm, fa, fk, ha, hk, ks⟩ := st.ex
  have hq : Hc L[j].2 = some (.tup (ruleV L[j].1)) := sm _ _ (kt _ (List.getElem_mem lt))
  have both : ∀ b ∈ [a, kS], FpOk X pins Hc b := by
    intro b hb
    rcases List.mem_cons.mp hb with z | hb
    · rw [z]
      exact fa
    · rw [List.mem_singleton.mp hb]
      exact fk
  have stand : ∀ b ∈ [a, kS], ∃ o, s.heap.get? b = some o ∧ ∀ v, o.data ≠ .cell v := by
    intro b hb
    rcases List.mem_cons.mp hb with z | hb
    · rw [z]
      exact ⟨_, ha, fun v z => nomatch z⟩
    · rw [List.mem_singleton.mp hb]
      exact ⟨_, hk, fun v z => nomatch z⟩
  have Ip := I.pinned both stand
  have env : Env0 X.prog X.w X.K X.mg X.base A X.stack s Hc := by
    have z := I.env0
    exact ⟨fr.trans z.frames, z.mod, z.bs, z.bsz, z.funs, z.frf, z.hok, z.bare⟩
  refine wpAny_call (codeAny_mono (F.run A X.stack s Hc ⟨[.ref L[j].2], []⟩ [.ref L[j].2] [.ref L[j].2] (fun v H' => ∃ t, v = .ref t ∧ Hc t = none ∧ H' = upd Hc t (.tup (rankV L[j].1))) (fun _ _ _ => False) hr env
    (by have z := hb s [.ref L[j].2] I.kIn rfl; rwa [List.append_nil] at z) (.cons rfl .nil) ⟨_, _, rfl, hq, sh _ (List.getElem_mem lt), fun t ht => ⟨t, rfl, ht, rfl⟩⟩) fun r s' hr' => ?_)
  cases r with
  | error e => exact hr'.elim
  | ok fl =>
    cases fl with
    | next => exact False.elim hr'
    | brk => exact False.elim hr'
    | cont => exact False.elim hr'
    | ret u =>
      obtain ⟨v, H', I', rv, t, rfl, ht, rfl⟩ := Ip.after hr'
      cases rv
      have pa := I'.pin (a, seqObj "list" #[] e1) (List.mem_append_right _ (List.mem_append_right _ (mem_pinsAt (by simp) ha)))
      have pk := I'.pin (kS, seqObj "list" kA e) (List.mem_append_right _ (List.mem_append_right _ (mem_pinsAt (by simp) hk)))
      have s2 : Same Hc (upd Hc t (.tup (rankV L[j].1))) := same_new ht
      refine ⟨_, kA, e, t, rfl, I'.unpinned, sm.trans s2, ⟨pa.2.1, fa.2⟩, ⟨pk.2.1, fk.2⟩, pa.1, pk.1, upd_same, ks.mono fun v x => ?_⟩
      rintro ⟨t', rfl, ht'⟩
      exact ⟨t', rfl, s2 _ _ ht'⟩
theorem each_refs : ∀ L : List (Rule × Addr), W.EachIs (fun v (x : Rule × Addr) => v = Value.ref x.2) (L.map fun x => Value.ref x.2) L
  | [] => .nil
  | _ :: r => .cons rfl (each_refs r)
theorem each_refs_eq : ∀ {vs : List Value} {L : List (Rule × Addr)}, W.EachIs (fun v (x : Rule × Addr) => v = Value.ref x.2) vs L → vs = L.map fun x => Value.ref x.2
  | _, _, .nil => rfl
  | _, _, .cons h t => by
    rw [List.map_cons, h, each_refs_eq t]
theorem vals_addrs : ∀ L : List (Rule × Addr), Vals (L.map fun x => V.ref x.2) (L.map fun x => Value.ref x.2)
  | [] => .nil
  | _ :: r => .cons rfl (vals_addrs r)
theorem ask_keys {pins : List (Addr × Obj)} {σ : L2.St} {H : Hp} {s : Shared} {A : Around} {f a kS : Addr} {fd : FuncData} {k e1 : Nat} {L : List (Rule × Addr)} {E : Value → Shared → Prop} {R : PySem.Fin → Shared → Prop}
    (F : FnOk X.prog X.w X.K X.mg X.base CX0 k f fd ["rule"] spRank) (hb : Binds X.K fd ["rule"] []) (hr : Room k A) (fr : A.frames = X.A.frames)
    (kt : KeyTups H L) (sh : ∀ p ∈ L, Short p.1) (ne : kS ≠ a) (sz : L.length < 1000000) (st : Asked X pins σ H L a kS e1 0 s) (hu : A.units + 8 < cLine)
    (h : ∀ s' Hc (vs : List Value), Inv X pins σ Hc s' → Same H Hc → Hc a = none → vs.length = L.length → W.EachIs (fun v (x : Rule × Addr) => v = Value.ref x.2) vs (inOrder L) → (∃ c, s'.heap.get? a = some (seqObj "list" vs.toArray c)) → FpOk X pins Hc a → R (.done (.ret .none)) s') :
    wpAny (model X.prog X.w) A (ksk_rest a (.ref f) false (L.map fun x => Value.ref x.2).toArray e1 (.ref kS)) R E s := by
  unfold ksk_rest
  refine wpAny_bind (wpAny_rule ?_)
  rw [List.forIn_toArray]
  refine wpAny_bind (ksk_fold (fun j s' => Asked X pins σ H L a kS e1 j s') (L.map fun x => Value.ref x.2) 0 s st ?turn ?last)
  case turn =>
    intro j x s' hx st'
    rw [Nat.zero_add] at st' ⊢
    have lt : j < L.length := by
      have q := (List.getElem?_eq_some_iff.mp hx).1
      rwa [List.length_map] at q
    have ex : x = Value.ref L[j].2 := by
      rw [List.getElem?_map, List.getElem?_eq_getElem lt] at hx
      exact (Option.some.inj hx).symm
    subst ex
    refine wpAny_bind (wpAny_attempt (wpAny_mono (ask_key F hb hr fr kt sh ne lt st') ?_ fun _ _ z => z))
    rintro u s2 ⟨Hc, kA, e, t, rfl, I, sm, fa, fk, ha, hk, ht, ks⟩
    have len : kA.size ≤ 1000000 := by
      have q := ks.length
      rw [Array.length_toList, List.length_take] at q
      omega
    have sb := Heap.SameBut.update s2.heap kS (Obj.mapSeq (·.push (Value.ref t)))
    obtain ⟨c2, hc2⟩ : ∃ c2, (s2.heap.update kS (Obj.mapSeq (·.push (Value.ref t)))).get? kS = some (seqObj "list" (kA.push (Value.ref t)) c2) := ⟨_, get?_update_seq hk (·.push (Value.ref t))⟩
    refine wpAny_bind (listUpdate_at hk rfl ?_ (by rw [sizeLine_eq]; omega) (by rw [Array.size_push, sizeLine_eq]; omega))
    refine wpAny_pure ⟨rfl, ⟨Hc, kA.push (Value.ref t), c2, ?_, sm, fa, fk, (sb.2 a ne.symm).trans ha, hc2, ?_⟩⟩
    · obtain ⟨f0, f1, f2, f3, f4, f5⟩ := fk
      exact I.turned (t' := s2.toks) (fun b o hb e => (sb.2 b hb).trans e) f0 f1 f3 f4 f5
    · have e1 : L.take (j + 1) = L.take j ++ [L[j]] := by
        rw [List.take_add_one, List.getElem?_eq_getElem lt]
        rfl
      have e2 : (kA.push (Value.ref t)).toList = kA.toList ++ [Value.ref t] := by simp
      rw [e1, e2]
      exact W.each_snoc ⟨t, rfl, ht⟩ ks
  case last =>
    intro s' st'
    rw [Nat.zero_add, List.length_map] at st'
    obtain ⟨Hc, kA, e, I, sm, fa, fk, ha, hk, ks⟩ := st'.ex
    rw [List.take_length] at ks
    have sz1 : kA.size = L.length := by
      have q := ks.length
      rwa [Array.length_toList] at q
    refine wpAny_bind (listItems_at hk rfl ?_)
    obtain ⟨G, g1, g2⟩ := restrict s'.heap fun b => decide (b ≠ kS)
    have gk : G.get? kS = none := g2 kS (decide_eq_false fun z => z rfl)
    have kp : W.KeepsBut a G s'.heap := fun b o _ e => by
      by_cases hb : b = kS
      · rw [hb, gk] at e
        cases e
      · rw [← g1 b (decide_eq_true hb)]
        exact e
    have rd : W.EachIs (fun v (x : Rule × Addr) => ∃ as, Reads s'.heap v (rankD x.1) as) kA.toList L := ks.mono fun v x => by
      rintro ⟨t, rfl, ht⟩
      exact ⟨[], rank_reads I.hok ht⟩
    have rd' : W.EachIs (fun v d => ∃ as, Reads s'.heap v d as) kA.toList (L.map fun p => rankD p.1) := W.each_map (R := fun v d => ∃ as, Reads s'.heap v d as) (fun p : Rule × Addr => rankD p.1) rd
    have so : W.SortsAt X.prog X.w A s' (W.dataKind s'.heap (L.map fun p => rankD p.1)) kA.toList := W.SortsAt.data rd' (rank_alike L) (rank_sortable L) (by
      intro d hd
      obtain ⟨p, _, rfl⟩ := List.mem_map.mp hd
      rw [rank_depth]
      omega)
    have vl : (L.map fun x => Value.ref x.2).length = L.length := List.length_map ..
    refine W.keyH_end (vs := L.map fun x => Value.ref x.2) kp gk hk ha ne so (by rw [sz1, vl]) (by rw [vl, sizeLine_eq]; omega) fun h' tk c kh hn => ?_
    have ko : W.KeyedOut false (L.map fun p => rankD p.1) (L.map fun x => Value.ref x.2) (W.sortVals (W.dataKind s'.heap (L.map fun p => rankD p.1)) false kA.toList (L.map fun x => Value.ref x.2)) := ⟨_, _, rank_alike L, rfl, rd'⟩
    have e0 : W.EachIs (fun v (x : Rule × Addr) => v = Value.ref x.2) (L.map fun x => Value.ref x.2) L := each_refs L
    have I2 : Inv X pins σ Hc { s' with heap := h', toks := tk } := by
      refine I.turnedL (ch := [a, kS]) (fun b o hb e => ?_) (fun b hb => ?_)
      · have n1 : b ≠ a := fun z => hb (by rw [z]; simp)
        have n2 : b ≠ kS := fun z => hb (by rw [z]; simp)
        exact kh b o n1 ((g1 b (decide_eq_true n2)).trans e)
      · rcases List.mem_cons.mp hb with z | hb
        · rw [z]
          exact fa
        · rw [List.mem_singleton.mp hb]
          exact fk
    exact h _ Hc _ I2 sm fa.1 (by rw [ko.length (by rw [List.length_map, vl]), vl]) (W.keyedOut_each (fun p : Rule × Addr => rankD p.1) ko e0) ⟨c, hn⟩ fa
theorem inOrder_len (L : List (Rule × Addr)) : (inOrder L).length = L.length := List.length_mergeSort _
/-- sorted(d, key=f), d a dict of rules, f a def of the text that gives the ranks -/
theorem cr_sortedRank {f : Addr} {fd : FuncData} {k : Nat} (F : FnOk X.prog X.w X.K X.mg X.base CX0 k f fd ["rule"] spRank) (hb : Binds X.K fd ["rule"] []) (hr : Room (k + 2) X.A) (calm : X.calm = true) :
    CallRK X (.builtin "sorted") [Str.ofString "key"] (rSortRank X.prog X.w f) := by
  intro pins s σ H xs zs us ws Q I rx rz h
  obtain ⟨d, L, rfl, rfl, hd, kt, sh, sz, q⟩ := h
  obtain ⟨u, rfl, ru⟩ := rx.one
  cases ru
  obtain ⟨z, rfl, rw'⟩ := rz.one
  cases rw'
  have R := rd_at I.hok hd
  obtain ⟨o, es, ep, ho, hx, hdt, hes⟩ := R.raw
  have len : es.size = L.length := by
    rw [size_of_entries hes]
    unfold rdX
    rw [List.length_map]
  have r1 : Room (k + 1) X.A.in1 := hr.in1
  have r2 : Room k X.A.in1.in1 := r1.in1
  show wpAny _ _ (call (.builtin "sorted") [.ref d] [(Str.ofString "key", .ref f)]) _ _ s
  refine PyProof.Rows.call_function_entry_kw PyProof.Rows.kind_sorted PyProof.Rows.plain_sorted PyProof.Rows.entry_sorted (PyProof.Rows.ksk_s1 _ _) ?_
  unfold Builtin.«sorted»
  refine wpAny_bind (m := checkCount "sorted" 1 1 _) (wpAny_pure ?_)
  refine wpAny_bind (W.kdu_collect (A := X.A.in1) (KdlSrc.rawDict (es := es) (ep := ep) R.lo) (I.ok.hd calm) ⟨o, ho, hx, hdt⟩ (by rw [len, sizeLine_eq]; omega) ?_)
  intro h1 tk1 acc kp1 it
  have eacc : acc.toList = L.map fun x => Value.ref x.2 := by
    apply List.ext_getElem?
    intro j
    have l1 : acc.toList.length = L.length := by rw [Array.length_toList, it.1, len]
    by_cases hj : j < L.length
    · have hv : acc.toList[j]? = some acc.toList[j] := List.getElem?_eq_getElem (by omega)
      obtain ⟨hi, e⟩ := it.2 j acc.toList[j] (by rw [← Array.getElem?_toList]; exact hv)
      have q1 := entry_at hes j
      rw [Array.getElem?_eq_getElem hi] at q1
      unfold rdX at q1
      rw [List.getElem?_map, List.getElem?_eq_getElem hj] at q1
      have q2 : es[j] = entryOfKey (nestedKind X.prog X.w) (ruleK L[j].1, L[j].2, Value.bool true) := Option.some.inj q1
      rw [hv, e, q2, List.getElem?_map, List.getElem?_eq_getElem hj]
      rfl
    · rw [List.getElem?_eq_none (by omega), List.getElem?_eq_none (by rw [List.length_map]; omega)]
  rw [eacc]
  have vl : (L.map fun x => Value.ref x.2).length = L.length := List.length_map ..
  refine wpAny_bind (wpAny_newList ?_ (by rw [vl, sizeLine_eq]; omega))
  generalize ea : h1.objs.size = a
  have I1 : Inv X pins σ H { s with heap := h1, toks := tk1 } := I.kept kp1
  have ha0 : (h1.push (seqObj "list" (L.map fun x => Value.ref x.2).toArray 0)).get? a = some (seqObj "list" (L.map fun x => Value.ref x.2).toArray 0) := by
    rw [← ea]
    exact Heap.get?_push_size _ rfl
  refine wpAny_bind (wpAny_holding (PyProof.Rows.wpAny_call_entry_kw PyProof.Rows.slot_list_sort ⟨_, ha0, rfl⟩ PyProof.Rows.entry_list_sort ?_ (PyProof.Rows.ksk_l1 _ _)))
  rw [ksk_t1]
  unfold ksk_tree
  obtain ⟨e1, ha1⟩ : ∃ e1, ((h1.push (seqObj "list" (L.map fun x => Value.ref x.2).toArray 0)).update a (Obj.mapSeq fun _ => (#[] : Array Value))).get? a = some (seqObj "list" #[] e1) := ⟨_, get?_update_seq ha0 fun _ => #[]⟩
  have sb := Heap.SameBut.update (h1.push (seqObj "list" (L.map fun x => Value.ref x.2).toArray 0)) a (Obj.mapSeq fun _ => (#[] : Array Value))
  generalize eh2 : ((h1.push (seqObj "list" (L.map fun x => Value.ref x.2).toArray 0)).update a (Obj.mapSeq fun _ => (#[] : Array Value))) = h2 at ha1 sb
  have kp2 : ∀ b u, s.heap.get? b = some u → h2.get? b = some u := by
    intro b u e
    have lt := Heap.lt_size (kp1 b u e)
    exact (sb.2 b (Nat.ne_of_lt (by rw [← ea]; exact lt))).trans (Heap.get?_push_of_some _ (kp1 b u e))
  refine wpAny_bind (listItems_at ha0 rfl ?_)
  refine wpAny_bind (listUpdate_at ha0 rfl ?_ (by rw [List.size_toArray, vl, sizeLine_eq]; omega) (Nat.zero_le _))
  simp only [eh2]
  refine wpAny_bind (seqEpoch_at ha1 rfl ?_)
  refine wpAny_bind (wpAny_newTuple ?_ (by show (L.map fun x => Value.ref x.2).length ≤ _; rw [vl, sizeLine_eq]; omega))
  refine wpAny_bind (wpAny_newList ?_ (Nat.zero_le _))
  refine wpAny_holding ?_
  have kp4 : ∀ b u, s.heap.get? b = some u → ((h2.push (seqObj "tuple" (L.map fun x => Value.ref x.2).toArray 0)).push (seqObj "list" #[] 0)).get? b = some u := fun b u e =>
    Heap.get?_push_of_some _ (Heap.get?_push_of_some _ (kp2 b u e))
  have I4 : Inv X pins σ H { s with heap := (h2.push (seqObj "tuple" (L.map fun x => Value.ref x.2).toArray 0)).push (seqObj "list" #[] 0), toks := tk1 } := I.kept kp4
  have lt2 : a < h2.objs.size := Heap.lt_size ha1
  have s2 : (h2.push (seqObj "tuple" (L.map fun x => Value.ref x.2).toArray 0)).objs.size = h2.objs.size + 1 := size_push' ..
  have nH : H a = none := I1.hok.fresh (Nat.le_of_eq ea)
  have fa : FpOk X pins H a := I1.fpOk (Nat.le_of_eq ea) nH
  have I3 : Inv X pins σ H { s with heap := h2.push (seqObj "tuple" (L.map fun x => Value.ref x.2).toArray 0), toks := tk1 } := I.kept fun b u e => Heap.get?_push_of_some _ (kp2 b u e)
  have fk : FpOk X pins H (h2.push (seqObj "tuple" (L.map fun x => Value.ref x.2).toArray 0)).objs.size := I3.fpOk (Nat.le_refl _) (I3.hok.fresh (Nat.le_refl _))
  refine ask_keys (H := H) (L := L) (k := k) (σ := σ) (pins := pins) F hb r2 rfl kt sh (Nat.ne_of_gt (by rw [s2]; exact Nat.lt_succ_of_lt lt2)) sz ⟨⟨H, #[], 0, I4, Same.refl H, fa, fk, Heap.get?_push_of_some _ (Heap.get?_push_of_some _ ha1), Heap.get?_push_size _ rfl, .nil⟩⟩ (by have := r2.units; omega) ?_
  intro s' Hc vs Ic sm na vlen ev ⟨c, hac⟩ fac
  refine ⟨.none, rfl, wpAny_pure ⟨_, rfl, ?_⟩⟩
  have evs : vs = (inOrder L).map fun x => Value.ref x.2 := each_refs_eq ev
  subst evs
  -- the list is tracked from here on
  obtain ⟨G, g1, g2⟩ := restrict s'.heap fun b => decide (b ≠ a)
  have ga : G.get? a = none := g2 a (decide_eq_false fun z => z rfl)
  have gk : ∀ b u, G.get? b = some u → s'.heap.get? b = some u := by
    intro b u e
    by_cases hb : b = a
    · rw [hb, ga] at e
      cases e
    · rw [← g1 b (decide_eq_true hb)]
      exact e
  have Ig : Inv X pins σ Hc { s' with heap := G } := by
    obtain ⟨f0, f1, f2, f3, f4, f5⟩ := fac
    exact Ic.turned (t' := s'.toks) (fun b o hb e => (g1 b (decide_eq_true hb)).trans e) f0 f1 f3 f4 f5
  have Il : Inv X pins σ (upd Hc a (.lst ((inOrder L).map fun x => V.ref x.2))) s' := by
    refine Ig.laidN (h' := s'.heap) (t' := s'.toks) gk ga na ⟨?_, _, c, vals_addrs _, hac⟩
    rw [List.length_map, inOrder_len, sizeLine_eq]
    omega
  exact ⟨.ref a, _, Il, rfl, q a _ (fun b u e => by rw [upd_ne (fun z => by rw [z, nH] at e; cases e)]; exact sm b u e) nH upd_same⟩
end
end Wnd

/-! Windowsteps: sorted of pairs (rank, rule). -/
namespace Wnd
open PySem PySem.Spec PyProof.Rows L2

/-- a pair (rank, rule): its address, the rule, the rule's own address -/
abbrev Pr := Addr × Rule × Addr
def PairAt' (H : Hp) (x : Pr) : Prop := ∃ k, H x.1 = some (.tup [.ref k, .ref x.2.2]) ∧ H k = some (.tup (rankV x.2.1)) ∧ H x.2.2 = some (.tup (ruleV x.2.1))
theorem PairAt'.same {H H' : Hp} {x : Pr} (p : PairAt' H x) (s : ∀ b xs, H b = some (.tup xs) → H' b = some (.tup xs)) : PairAt' H' x := by
  obtain ⟨k, a, b, c⟩ := p
  exact ⟨k, s _ _ a, s _ _ b, s _ _ c⟩
/-- no name is the empty text -/
def Named (r : Rule) : Prop := r.low ≠ some ⟨#[]⟩ ∧ r.high ≠ some ⟨#[]⟩
theorem endS_inj : ∀ {a b : Option Str}, a ≠ some ⟨#[]⟩ → b ≠ some ⟨#[]⟩ → endS a = endS b → a = b
  | none, none, _, _, _ => rfl
  | none, some y, _, h, e => absurd (congrArg some (show y = ⟨#[]⟩ from e.symm)) h
  | some x, none, h, _, e => absurd (congrArg some (show x = ⟨#[]⟩ from e)) h
  | some x, some y, _, _, e => congrArg some e
theorem eqv_rank (a b : Rule) : PyData.eqv (rankD a) (rankD b) = (endS a.low == endS b.low && (endS a.high == endS b.high && (a.gap == b.gap && true))) := by
  simp [rankD, PyData.eqv, PyData.eqvAll]
theorem rank_inj {a b : Rule} (ha : Named a) (hb : Named b) (e : PyData.eqv (rankD a) (rankD b) = true) : a = b := by
  rw [eqv_rank] at e
  simp only [Bool.and_eq_true, beq_iff_eq] at e
  obtain ⟨e1, e2, e3, _⟩ := e
  cases a with | mk l1 h1 g1 =>
  cases b with | mk l2 h2 g2 =>
  have f1 : l1 = l2 := endS_inj ha.1 hb.1 e1
  have f2 : h1 = h2 := endS_inj ha.2 hb.2 e2
  have f3 : g1 = g2 := e3
  rw [f1, f2, f3]
theorem eqv_rank_self (a : Rule) : PyData.eqv (rankD a) (rankD a) = true := by
  rw [eqv_rank]
  simp
theorem alike_rank (a b : Rule) : W.alike (rankD a) (rankD b) = true := by simp [W.alike, W.alikeAll, rankD]

noncomputable def pairKind (L : List Pr) : PyProof.Rows.KeyKind where
  toKeyOrd := listOrd itemOrd
  keyOf v := open Classical in if q : ∃ x, x ∈ L ∧ v = Value.ref x.1 then some (W.keyToks (rankD q.choose.2.1)) else none
  dflt := ([] : List (Int ⊕ List Nat))
section
variable {P : Program} {w : World} {H : Hp} {h : Heap} {L : List Pr}
theorem pair_same {x y : Pr} (hx : PairAt' H x) (hy : PairAt' H y) (nx : Named x.2.1) (ny : Named y.2.1) (e : x.1 = y.1) : x.2.1 = y.2.1 := by
  obtain ⟨k, a, b, c⟩ := hx
  obtain ⟨k', a', b', c'⟩ := hy
  rw [e, a'] at a
  injection a with a
  injection a with a
  injection a with a1 a2
  injection a2 with a2 a3
  injection a2 with a2
  rw [← a2, c'] at c
  injection c with c
  injection c with c
  unfold ruleV at c
  injection c with c1 c
  injection c with c2 c
  injection c with c3 _
  injection c3 with c3
  cases hx : x.2.1 with | mk l1 h1 g1 =>
  cases hy : y.2.1 with | mk l2 h2 g2 =>
  rw [hx, hy] at c1 c2 c3
  have f1 : l2 = l1 := endV_inj c1
  have f2 : h2 = h1 := endV_inj c2
  have f3 : g2 = g1 := c3
  rw [f1, f2, f3]
theorem pairKind_some (hp : ∀ x ∈ L, PairAt' H x) (hn : ∀ x ∈ L, Named x.2.1) {x : Pr} (hx : x ∈ L) : (pairKind L).keyOf (Value.ref x.1) = some (W.keyToks (rankD x.2.1)) := by
  have q : ∃ y, y ∈ L ∧ Value.ref x.1 = Value.ref y.1 := ⟨x, hx, rfl⟩
  have e : (pairKind L).keyOf (Value.ref x.1) = some (W.keyToks (rankD q.choose.2.1)) := by
    show (open Classical in if q : ∃ y, y ∈ L ∧ Value.ref x.1 = Value.ref y.1 then some (W.keyToks (rankD q.choose.2.1)) else none) = _
    rw [dif_pos q]
  obtain ⟨h1, h2⟩ := q.choose_spec
  injection h2 with h2
  rw [e, pair_same (hp _ h1) (hp _ hx) (hn _ h1) (hn _ hx) h2.symm]
theorem pairKind_inv {v : Value} {k : List (Int ⊕ List Nat)} (e : (pairKind L).keyOf v = some k) : ∃ x, x ∈ L ∧ v = Value.ref x.1 ∧ k = W.keyToks (rankD x.2.1) := by
  by_cases q : ∃ y, y ∈ L ∧ v = Value.ref y.1
  · have e' : (pairKind L).keyOf v = some (W.keyToks (rankD q.choose.2.1)) := by
      show (open Classical in if q : ∃ y, y ∈ L ∧ v = Value.ref y.1 then some (W.keyToks (rankD q.choose.2.1)) else none) = _
      rw [dif_pos q]
    obtain ⟨h1, h2⟩ := q.choose_spec
    rw [e'] at e
    exact ⟨_, h1, h2, (Option.some.inj e).symm⟩
  · have e' : (pairKind L).keyOf v = none := by
      show (open Classical in if q : ∃ y, y ∈ L ∧ v = Value.ref y.1 then some (W.keyToks (rankD q.choose.2.1)) else none) = _
      rw [dif_neg q]
      rfl
    rw [e'] at e
    cases e
end
section
variable {X : Cx} {pins : List (Addr × Obj)} {σ : L2.St} {H : Hp} {s : Shared} {L : List Pr} {A : Around}
theorem tup_at {P : Program} {w : World} {h : Heap} {a : Addr} {xs : List V} (ok : HOk P w H h) (e : H a = some (.tup xs)) : ∃ o its n, h.get? a = some o ∧ o.cls = .type "tuple" ∧ o.data = .seq its n ∧ Vals xs its.toList := by
  obtain ⟨_, its, rel, o, h1, h2, n, h3⟩ := (show ObjOk P w H h a (.tup xs) from ok a _ e)
  exact ⟨o, its.toArray, n, h1, h2, h3, by rw [List.toList_toArray]; exact rel⟩
theorem pair_tups {P : Program} {w : World} {h : Heap} (ok : HOk P w H h) : ∀ {L : List Pr}, (∀ x ∈ L, PairAt' H x) → ∃ fs, W.KatTups h (L.map fun x => Value.ref x.1) fs ∧ fs.length = L.length ∧ ∀ f ∈ fs, ∃ k xs, f = Value.ref k ∧ H k = some (.tup xs)
  | [], _ => ⟨[], .nil, rfl, fun f hf => nomatch hf⟩
  | x :: r, hp => by
    obtain ⟨fs, h1, h2, h3⟩ := pair_tups ok (L := r) fun y hy => hp y (List.mem_cons_of_mem _ hy)
    obtain ⟨k, a, b, c⟩ := hp x (List.mem_cons_self ..)
    obtain ⟨o, its, n, q1, q2, q3, rel⟩ := tup_at ok a
    cases hl : its.toList with
    | nil =>
      rw [hl] at rel
      cases rel
    | cons u t =>
      rw [hl] at rel
      cases rel with
      | cons r1 t1 =>
        cases r1
        refine ⟨_ :: fs, .cons q1 q2 q3 (by rw [← Array.getElem?_toList, hl]; rfl) h1, by rw [List.length_cons, List.length_cons, h2], fun f hf => ?_⟩
        rcases List.mem_cons.mp hf with rfl | hf
        · exact ⟨k, _, rfl, b⟩
        · exact h3 f hf
theorem pair_lt (ok : HOk X.prog X.w H s.heap) (hu : A.units + 8 < cLine) {x y : Pr} (hx : PairAt' H x) (hy : PairAt' H y) (nx : Named x.2.1) (ny : Named y.2.1) {E : Value → Shared → Prop} {Q : Bool → Shared → Prop} {b : Bool} (hb : b = false)
    (q : Q (PyProof.Rows.lexLt itemOrd (W.keyToks (rankD x.2.1)) (W.keyToks (rankD y.2.1))) s) : wpAny (model X.prog X.w) A (keyLt' (tuples' b) (.ref x.1) (.ref y.1)) Q E s := by
  subst hb
  obtain ⟨k, a, c, d⟩ := hx
  obtain ⟨k', a', c', d'⟩ := hy
  obtain ⟨o, its, n, q1, q2, q3, rel⟩ := tup_at ok a
  obtain ⟨o', its', n', q1', q2', q3', rel'⟩ := tup_at ok a'
  have sz : its.size = 2 := by rw [← Array.length_toList, ← rel.length]; rfl
  have sz' : its'.size = 2 := by rw [← Array.length_toList, ← rel'.length]; rfl
  refine W.kat_lt q1 q3 q1' q3' ?_
  rw [sz, sz']
  have dx := rank_depth x.2.1
  have rk := rank_reads ok c
  have rk' := rank_reads ok c'
  cases hl : its.toList with
  | nil => rw [hl] at rel; cases rel
  | cons u t =>
    rw [hl] at rel
    cases rel with
    | cons r1 t1 =>
      cases r1
      cases t1 with
      | cons r2 t2 =>
        cases r2
        cases t2
        cases hl' : its'.toList with
        | nil => rw [hl'] at rel'; cases rel'
        | cons u' t' =>
          rw [hl'] at rel'
          cases rel' with
          | cons r1' t1' =>
            cases r1'
            cases t1' with
            | cons r2' t2' =>
              cases r2'
              cases t2'
              rw [List.zip_cons_cons]
              have room : A.units + min (rankD x.2.1).depth (rankD y.2.1).depth < cLine := by rw [rank_depth, rank_depth]; show A.units + 1 < _; omega
              refine W.kat_cons (W.eqAt_alike (rankD x.2.1) (rankD y.2.1) A s _ _ _ _ rk rk' (alike_rank _ _) room X.prog X.w _ _ ?_)
              cases he : PyData.eqv (rankD x.2.1) (rankD y.2.1) with
              | true =>
                have er := rank_inj nx ny he
                refine W.kat_yes ?_
                rw [List.zip_cons_cons]
                refine W.kat_cons ?_
                have k1 : NestedIs s.heap (ruleK x.2.1) (.ref x.2.2) := (rule_is ok d).1
                have k2 : NestedIs s.heap (ruleK y.2.1) (.ref y.2.2) := (rule_is ok d').1
                have ke := eqAt_key (ruleK x.2.1) (ruleK y.2.1) A s _ _ k1 k2 (by rw [ruleK_depth, ruleK_depth]; show A.units + 1 < _; omega) X.prog X.w
                  (fun _ _ => False) (W.KatGo X.prog X.w A false (decide (2 < 2)) Q (.ref x.2.2) (.ref y.2.2) ([].zip []) (0 + 1)) ?_
                · exact ke
                · rw [er, NestedKey.beq_self]
                  refine W.kat_yes ?_
                  refine W.kat_nil ?_
                  rw [er, PyProof.Rows.lex_irrefl] at q
                  exact q
              | false =>
                refine W.kat_no (W.oneLt_alike (fun hbi t => ?_) rk rk' (alike_rank _ _) (fun z => nomatch z) room q)
                rw [Bool.and_eq_true] at hbi
                exact absurd hbi.1 Bool.false_ne_true
/-- the pairs in ascending order -/
def pairsInOrder (L : List Pr) : List Pr := L.mergeSort (W.dataLe false fun x => rankD x.2.1)
theorem pairs_sort (ok : HOk X.prog X.w H s.heap) (hu : A.units + 8 < cLine) (hp : ∀ x ∈ L, PairAt' H x) (hn : ∀ x ∈ L, Named x.2.1) : W.SortsAt X.prog X.w A s (pairKind L) (L.map fun x => Value.ref x.1) := by
  refine ⟨fun v hv => ?_, tuples' (Value.type "tuple" != Value.type "tuple"), fun E x y a b Q ha hb q => ?_, fun h2 E Q q => ?_⟩
  · obtain ⟨x, hx, rfl⟩ := List.mem_map.mp hv
    exact ⟨_, pairKind_some hp hn hx⟩
  · obtain ⟨x', hx, rfl, rfl⟩ := pairKind_inv ha
    obtain ⟨y', hy, rfl, rfl⟩ := pairKind_inv hb
    exact pair_lt ok hu (hp _ hx) (hp _ hy) (hn _ hx) (hn _ hy) (by decide) q
  · obtain ⟨fs, t1, t2, t3⟩ := pair_tups ok hp
    rw [List.length_map] at h2
    refine W.kat_kind (T := .type "tuple") t1 (by omega) (fun f hf => ?_) (beq_self_eq_true _) q
    obtain ⟨k, xs, rfl, e⟩ := t3 f hf
    obtain ⟨o, its, n, q1, q2, _⟩ := tup_at ok e
    show W.Looks _ _ (typeOf (Value.ref k)) (Value.type "tuple")
    exact q2 ▸ (W.Looks.ld q1).andThen .now
def rSortPairs (K : PySem.W.Frag) : List V → Hp → VK → Prop := fun vs H Q => ∃ (a : Addr) (L : List Pr), vs = [.ref a] ∧ SqL K H a (L.map fun x => V.ref x.1) ∧ (∀ x ∈ L, PairAt' H x) ∧ (∀ x ∈ L, Named x.2.1) ∧ L.length < 1000000 ∧
  ∀ p, H p = none → Q (.ref p) (upd H p (.lst ((pairsInOrder L).map fun x => V.ref x.1)))
theorem pairs_refs : ∀ L : List Pr, Vals (L.map fun x => V.ref x.1) (L.map fun x => Value.ref x.1)
  | [] => .nil
  | _ :: r => .cons rfl (pairs_refs r)
theorem pairs_refs_eq : ∀ {L : List Pr} {us : List Value}, Vals (L.map fun x => V.ref x.1) us → us = L.map fun x => Value.ref x.1
  | [], _, .nil => rfl
  | x :: r, _, .cons h t => by
    cases h
    rw [List.map_cons, pairs_refs_eq t]
theorem each_prs : ∀ L : List Pr, W.EachIs (fun v (x : Pr) => v = Value.ref x.1) (L.map fun x => Value.ref x.1) L
  | [] => .nil
  | _ :: r => .cons rfl (each_prs r)
theorem each_prs_eq : ∀ {vs : List Value} {L : List Pr}, W.EachIs (fun v (x : Pr) => v = Value.ref x.1) vs L → vs = L.map fun x => Value.ref x.1
  | _, _, .nil => rfl
  | _, _, .cons h t => by
    rw [List.map_cons, h, each_prs_eq t]
theorem each_keys' {L0 : List Pr} (hp : ∀ x ∈ L0, PairAt' H x) (hn : ∀ x ∈ L0, Named x.2.1) : ∀ {L : List Pr}, (∀ x ∈ L, x ∈ L0) → W.EachIs (fun v (x : Pr) => (pairKind L0).keyOf v = some (W.keyToks (rankD x.2.1))) (L.map fun x => Value.ref x.1) L
  | [], _ => .nil
  | x :: r, h => .cons (pairKind_some hp hn (h x (List.mem_cons_self ..))) (each_keys' hp hn fun y hy => h y (List.mem_cons_of_mem _ hy))
/-- sorted(ps), ps pairs of a rank and a rule -/
theorem cr_sortedPairs {k : Nat} (hr : Room k X.A) : CallR X (.builtin "sorted") (rSortPairs X.K) := by
  intro pins s σ H xs us Q I rx h
  obtain ⟨a, L, rfl, hs, hp, hn, sz, q⟩ := h
  obtain ⟨u, rfl, ru⟩ := rx.one
  cases ru
  obtain ⟨its, rel, pl, hz⟩ := I.list hs
  have hl := pl.isList
  have ei := pairs_refs_eq rel
  subst ei
  have vl : (L.map fun x => Value.ref x.1).length = L.length := List.length_map ..
  have big : ∀ b u, s.heap.get? b = some u → (W.sortingHeap (W.copyHeap s.heap (L.map fun x => Value.ref x.1)) (s.heap.objs.size + 1) (L.map fun x => Value.ref x.1)).get? b = some u := fun b u e => W.sorting_copy_old e
  have ok2 : HOk X.prog X.w H (W.sortingHeap (W.copyHeap s.heap (L.map fun x => Value.ref x.1)) (s.heap.objs.size + 1) (L.map fun x => Value.ref x.1)) := I.hok.kept big
  refine W.sorted_vals hl (pairs_sort (s := { s with heap := _ }) ok2 (by have := hr.un; show X.A.units + 1 + 1 + 8 < _; omega) hp hn) (by rw [vl, sizeLine_eq]; omega) ?_
  have e2 : W.EachIs (fun v (x : Pr) => v = Value.ref x.1) (W.sortVals (pairKind L) false (L.map fun x => Value.ref x.1) (L.map fun x => Value.ref x.1)) (pairsInOrder L) :=
    W.sortVals_each (κ := pairKind L) (fun x : Pr => W.keyToks (rankD x.2.1)) (each_prs L) (each_keys' hp hn fun y hy => hy)
  have e3 := each_prs_eq e2
  rw [e3]
  obtain ⟨ep, he⟩ := PyProof.Rows.sortedAll_at s.heap (L.map fun x => Value.ref x.1) ((pairsInOrder L).map fun x => Value.ref x.1).toArray
  have nH : H (s.heap.objs.size + 1) = none := I.hok.fresh (Nat.le_succ _)
  refine ⟨.ref _, upd H (s.heap.objs.size + 1) (.lst ((pairsInOrder L).map fun x => V.ref x.1)), I.laid (t' := s.toks) (fun _ _ => PyProof.Rows.sortedAll_old) (Nat.le_succ _) ⟨?_, _, ep, pairs_refs _, he⟩, rfl, q _ nH⟩
  have l1 : (pairsInOrder L).length = L.length := List.length_mergeSort _
  rw [List.length_map, l1, sizeLine_eq]
  omega
end
end Wnd

/-! Windowsteps: dict([(rule, True) for ..]); walks over a dict of rules. -/
namespace Wnd
open PySem PySem.Spec PyProof.Rows L2
theorem putAll_nodup : ∀ (rs L : List (Rule × Addr)), (L.map (·.1)).Nodup → ((putAll rs L).map (·.1)).Nodup
  | [], _, h => h
  | _ :: r, _, h => putAll_nodup r _ (putR_nodup h)
theorem putAll_len : ∀ (rs L : List (Rule × Addr)), (putAll rs L).length ≤ L.length + rs.length
  | [], L => Nat.le_refl _
  | p :: r, L => by
    have h1 := putAll_len r (putR L p.1 p.2)
    have h2 := @putR_len L p.1 p.2
    show (putAll r (putR L p.1 p.2)).length ≤ L.length + (r.length + 1)
    omega
theorem putAll_tups {H : Hp} : ∀ (rs L : List (Rule × Addr)), KeyTups H rs → KeyTups H L → KeyTups H (putAll rs L)
  | [], _, _, h => h
  | p :: r, _, k, h => putAll_tups r _ (fun z hz => k z (List.mem_cons_of_mem _ hz)) (h.put (k p (List.mem_cons_self ..)))
theorem storedAll_rdX : ∀ (rs L : List (Rule × Addr)), storedAllH (rdX L) (rdX rs) = rdX (putAll rs L)
  | [], L => rfl
  | p :: r, L => by
    show storedAllH (storedH (rdX L) (ruleK p.1) p.2 (Value.bool true)) (rdX r) = rdX (putAll r (putR L p.1 p.2))
    rw [storedH_rdX, storedAll_rdX r]
/-- a pair (rule, True): its address, the rule, the rule's own address -/
def TrueAt (H : Hp) (x : Pr) : Prop := H x.1 = some (.tup [.ref x.2.2, .bl true]) ∧ H x.2.2 = some (.tup (ruleV x.2.1))
def rDictT (P : Program) (w : World) (K : PySem.W.Frag) : List V → Hp → VK → Prop := fun vs H Q => ∃ (a : Addr) (L : List Pr), vs = [.ref a] ∧ SqL K H a (L.map fun x => V.ref x.1) ∧ (∀ x ∈ L, TrueAt H x) ∧ L.length < 1000000 ∧
  ∀ p, H p = none → Q (.ref p) (upd H p (rdO P w p (putAll (L.map (·.2)) [])))
section
variable {X : Cx}
theorem cr_dictT {k : Nat} (hr : Room k X.A) (calm : X.calm = true) : CallR X (.type "dict") (rDictT X.prog X.w X.K) := by
  intro pins s σ H xs us Q I rx h
  obtain ⟨a, L, rfl, hs, hp, sz, q⟩ := h
  obtain ⟨u, rfl, ru⟩ := rx.one
  cases ru
  obtain ⟨its, rel, pl, hz⟩ := I.list hs
  have ei := pairs_refs_eq rel
  subst ei
  have kt : KeyTups H (L.map (·.2)) := by
    intro p hp'
    obtain ⟨x, hx, rfl⟩ := List.mem_map.mp hp'
    exact (hp x hx).2
  have ok : PlainSeq "list" s.heap a (L.map fun x => Value.ref x.1).toArray ∧ PairItems s.heap (L.map fun x => Value.ref x.1).toArray (fun j => (L.map (·.1)).getD j 0) (L.map fun x => (Value.ref x.2.2, Value.bool true)) := by
    refine ⟨?_, by simp, fun j k v hj => ?_⟩
    · exact pl
    · rw [List.getElem?_map] at hj
      cases hx : L[j]? with
      | none =>
        rw [hx] at hj
        cases hj
      | some x =>
        rw [hx] at hj
        have e := Option.some.inj hj
        have e1 : Value.ref x.2.2 = k := congrArg Prod.fst e
        have e2 : Value.bool true = v := congrArg Prod.snd e
        subst e1 e2
        have g : (L.map (·.1)).getD j 0 = x.1 := by
          rw [List.getD_eq_getElem?_getD, List.getElem?_map, hx]
          rfl
        refine ⟨?_, .inl ?_⟩
        · show (L.map fun x => Value.ref x.1).toArray[j]? = _
          rw [List.getElem?_toArray, List.getElem?_map, hx]
          exact congrArg (fun z => some (Value.ref z)) g.symm
        · show s.heap.IsTuple ((L.map (·.1)).getD j 0) _
          rw [g]
          obtain ⟨o, its, n, q1, q2, q3, rel'⟩ := tup_at I.hok (hp x (List.mem_of_getElem? hx)).1
          have ea : its = #[.ref x.2.2, .bool true] := by
            apply Array.toList_inj.mp
            cases hl : its.toList with
            | nil => rw [hl] at rel'; cases rel'
            | cons u t =>
              rw [hl] at rel'
              cases rel' with
              | cons r1 t1 =>
                cases r1
                cases t1 with
                | cons r2 t2 =>
                  cases r2
                  cases t2
                  rfl
          subst ea
          exact ⟨o, q1, q2, n, q3⟩
  have P := PairArg.list (prog := X.prog) (w := X.w) a (L.map fun x => Value.ref x.1).toArray (fun j => (L.map (·.1)).getD j 0) (L.map fun x => (Value.ref x.2.2, Value.bool true))
  refine call_dict_pairsH (knd := nestedKind X.prog X.w) (ps := rdX (L.map (·.2))) P (I.ok.hd calm) (by have := hr.un; show X.A.units + 1 + 1 + 8 < _; omega) ok ?_ ?_ ?_ ?_
  · refine ⟨by unfold rdX; rw [List.length_map, List.length_map, List.length_map], fun i key v hr' => ?_⟩
    have hr2 : (L.map fun x => (Value.ref x.2.2, Value.bool true))[i]? = some (key, v) := hr'
    rw [List.getElem?_map] at hr2
    cases hx : L[i]? with
    | none =>
      rw [hx] at hr2
      cases hr2
    | some x =>
      rw [hx] at hr2
      have e := Option.some.inj hr2
      have e1 : Value.ref x.2.2 = key := congrArg Prod.fst e
      have e2 : Value.bool true = v := congrArg Prod.snd e
      subst e1 e2
      refine ⟨ruleK x.2.1, x.2.2, ?_, rfl⟩
      unfold rdX
      rw [List.getElem?_map, List.getElem?_map, hx]
      rfl
  · intro h' hk x hx
    obtain ⟨p, hp', rfl⟩ := List.mem_map.mp hx
    have r0 := rule_is I.hok (kt p hp')
    refine (nestedKind_stays (prog := X.prog) (w := X.w)).stays (h := s.heap) (fun b o vs n e d => hk b o (Nat.ne_of_lt (Heap.lt_size e)) (List.not_mem_nil) e) r0
  · rw [List.length_map, sizeLine_eq]
    omega
  · intro h' tk D kp
    have D2 : h'.DictOfH (nestedKind X.prog X.w) s.heap.objs.size (rdX (putAll (L.map (·.2)) [])) := by
      have e := storedAll_rdX (L.map (·.2)) []
      rw [← e]
      exact D
    have big : (s.heap.objs.size == sysModules) = false := beq_eq_false_iff_ne.mpr (Nat.ne_of_gt I.big)
    have len := putAll_len (L.map (·.2)) []
    rw [List.length_map] at len
    have len' : (putAll (L.map (·.2)) []).length ≤ L.length := by
      simpa using len
    have R : RdAt X.prog X.w h' s.heap.objs.size (putAll (L.map (·.2)) []) := RdAt.of D2 big (by rw [sizeLine_eq]; omega) (putAll_nodup _ _ List.nodup_nil)
    refine ⟨.ref _, _, I.laid (t' := tk) (fun b u e => kp b u (List.not_mem_nil) e) (Nat.le_refl _) (rdO_ok R), rfl, q _ (I.hok.fresh (Nat.le_refl _))⟩
/-- the keys of a locked dict of rules -/
def Itr' (P : Program) (w : World) (d : Addr) (o : Obj) (L : List (Rule × Addr)) : It :=
  ⟨fun i H => H d = some (.frz o (rdO P w d L)) ∧ i < L.length, fun i H x H' => H' = H ∧ ∃ p, L[i]? = some p ∧ x = .ref p.2, fun i H => H d = some (.frz o (rdO P w d L)) ∧ L.length ≤ i⟩
theorem frz_rd {pins : List (Addr × Obj)} {σ : L2.St} {H : Hp} {s : Shared} {d : Addr} {o : Obj} {L : List (Rule × Addr)} (I : Inv X pins σ H s) (h : H d = some (.frz o (rdO X.prog X.w d L))) :
    (d == sysModules) = false ∧ s.heap.get? d = some o ∧ o.ExactDict ∧ ∃ (es : Array DictEntry) (ep : Nat), o.data = .dict es ep ∧ es.size = L.length ∧ ∀ (i : Nat) (p : Rule × Addr), L[i]? = some p → ∃ en : DictEntry, es[i]? = some en ∧ en.key = .ref p.2 := by
  obtain ⟨hd, R, _⟩ := I.hok d _ h
  obtain ⟨o', es, ep, ho, hx, hdt, he⟩ := R.raw
  rw [hd] at ho
  cases ho
  refine ⟨R.lo, hd, hx, es, ep, hdt, ?_, fun i p e => ?_⟩
  · rw [size_of_entries he]
    unfold rdX
    rw [List.length_map]
  · have q := entry_at he i
    unfold rdX at q
    rw [List.getElem?_map, e] at q
    exact ⟨_, q, rfl⟩
theorem turn_rd {P : Program} {w : World} {K : PySem.W.Frag} {tg : Expr} {d : Addr} {o : Obj} {es : Array DictEntry} {ep : Nat} {L : List (Rule × Addr)} (it : Addr) (hod : o.data = .dict es ep) :
    Turn P w K tg (Itr' P w d o L) [it] it (fun i h => h.IsKeyIter it d i L.length ep) where
  mem := List.mem_cons_self ..
  obj := fun i h st b hb => by
    rw [List.mem_singleton.mp hb]
    obtain ⟨oi, e, c, dd⟩ := st
    refine ⟨oi, e, fun v z => ?_⟩
    rw [dd] at z
    cases z
  keep := fun i h h' st k => by
    obtain ⟨oi, e, r⟩ := st
    exact ⟨oi, k it (List.mem_cons_self ..) oi e, r⟩
  item := by
    intro X' hP hw hK calm i pins s σ H E I hf st go
    subst hP hw hK
    obtain ⟨f0, f1, f2, f3, f4, f5⟩ := hf it (List.mem_cons_self ..)
    obtain ⟨lo, hg, hx, es', ep', hdt, sz, ent⟩ := frz_rd I go.1
    obtain ⟨rfl, rfl⟩ := dict_ep hod hdt
    have lt : i < L.length := go.2
    obtain ⟨en, hen, hkey⟩ := ent i L[i] (List.getElem?_eq_getElem lt)
    refine next_key_item st hg hdt sz hen fun h' st' sb => ?_
    have I1 : Inv X' pins σ H { s with heap := h' } := I.turned (t' := s.toks) (fun b ob nb e => (sb.2 b nb).trans e) f0 f1 f3 f4 f5
    obtain ⟨oi, e, c, dd⟩ := id st'
    refine ⟨en.key, rfl, go_of (s := { s with heap := h' }) e c dd (by decide) ⟨.ref L[i].2, H, I1, hkey, ⟨rfl, _, List.getElem?_eq_getElem lt, rfl⟩, st', fun b hb => (hf b hb).1⟩⟩
  done := by
    intro X' hP hw hK calm i pins s σ H E I hf st stop
    subst hP hw hK
    obtain ⟨f0, f1, f2, f3, f4, f5⟩ := hf it (List.mem_cons_self ..)
    obtain ⟨lo, hg, hx, es', ep', hdt, sz, ent⟩ := frz_rd I stop.1
    obtain ⟨rfl, rfl⟩ := dict_ep hod hdt
    exact next_key_end (I.ok.hd calm) st hg hdt sz stop.2 fun h' eb => ⟨rfl, I.turned (t' := s.toks) (fun b ob nb e => eb b ob nb e) f0 f1 f3 f4 f5⟩
  self := fun A i s Q E st h => by
    refine wpAny_pyIter_slot st.typeIs F.slot_dict_keyiterator_iter (wpAny_call_entry F.slot_dict_keyiterator_iter st.typeIs F.entry_dict_keyiterator_iter ?_ (F.args_dict_keyiterator_iter_1 _))
    exact wpAny_pure ⟨_, rfl, "dict_keyiterator", _, st.typeIs, F.slot_dict_keyiterator_next.lookup, h⟩
def iRd (P : Program) (w : World) (td : TE) : TI := fun σ H R => td σ H fun x H1 => ∃ (d : Addr) (o : Obj) (L : List (Rule × Addr)), x = .ref d ∧ H1 d = some (.frz o (rdO P w d L)) ∧ R (Itr' P w d o L) H1
theorem pi_rd {tg e : Expr} {td : TE} (he : PE X e td) : PI X tg e (iRd X.prog X.w td) := by
  refine ⟨fun pins s σ H R I h => thn (he.run pins s σ H _ I h) ?_⟩
  rintro u s1 ⟨x, H1, I1, rx, d, o, L, rfl, hd, q⟩
  cases rx
  obtain ⟨lo, hg, hx, es, ep, hdt, sz, ent⟩ := frz_rd I1 hd
  refine iter_keys lo hg hx hdt (pi_one (tk := s1.toks) I1 _ (turn_rd _ hdt) ⟨_, Heap.get?_push_size _ rfl, rfl, ?_⟩ q)
  rw [sz]
  rfl
/-- a list comprehension over a dict of rules that stays locked -/
theorem lc_rd {P : Program} {w : World} {d : Addr} {o : Obj} {L : List (Rule × Addr)} {g : TG} {tt : TT} {te : TE} {vs : List Nat} {σ : L2.St} {H1 : Hp} {D : Addr} {Qd : Hp → Prop} (Pv : Nat → Hp → Prop) (h0 : Pv 0 (upd H1 D (.lst [])))
    (hl : ∀ i H, i ≤ L.length → Pv i H → H d = some (.frz o (rdO P w d L)))
    (hs : ∀ i (hi : i < L.length) H, Pv i H → g (.ref L[i].2) (wipe σ vs) H fun σ2 H2 => wipe σ2 vs = wipe σ vs ∧ tt σ2 H2 fun b H3 =>
      if b = true then te σ2 H3 fun y H4 => ∃ acc, H4 D = some (.lst acc) ∧ acc.length < sizeLine ∧ Pv (i + 1) (upd H4 D (.lst (acc ++ [y]))) else Pv (i + 1) H3) (hd : ∀ H, Pv L.length H → Qd H) :
    ∃ W : Nat → Nat → Hp → Prop, (∃ m, W 0 m (upd H1 D (.lst []))) ∧ ∀ i m H, W i m H →
      ((Itr' P w d o L).stop i H ∧ Qd H) ∨ ((Itr' P w d o L).go i H ∧ ∃ Nx : Hp → Prop, (∀ H', Nx H' → ∃ m', m' < m ∧ W (i + 1) m' H') ∧ ∀ x H', (Itr' P w d o L).yld i H x H' → g x (wipe σ vs) H' fun σ2 H2 => wipe σ2 vs = wipe σ vs ∧ tt σ2 H2 fun b H3 =>
        if b = true then te σ2 H3 fun y H4 => ∃ acc, H4 D = some (.lst acc) ∧ acc.length < sizeLine ∧ Nx (upd H4 D (.lst (acc ++ [y]))) else Nx H3) := by
  refine ⟨fun i m H => m = L.length - i ∧ i ≤ L.length ∧ Pv i H, ⟨L.length, by simp, Nat.zero_le _, h0⟩, ?_⟩
  rintro i m H ⟨rfl, hi, p⟩
  have fz := hl i H hi p
  by_cases lt : i < L.length
  · refine .inr ⟨⟨fz, lt⟩, Pv (i + 1), fun H' p' => ⟨L.length - (i + 1), by omega, rfl, lt, p'⟩, ?_⟩
    rintro x H' ⟨rfl, z, hz, rfl⟩
    rw [List.getElem?_eq_getElem lt] at hz
    cases hz
    exact hs i lt _ p
  · have e : i = L.length := by omega
    subst e
    exact .inl ⟨⟨fz, Nat.le_refl _⟩, hd H p⟩
end
end Wnd

/-! Windowsteps: a == b and a != b, a an instance of an own class that says __eq__ and no __ne__. -/
namespace Wnd
open PySem PySem.Spec PyProof.Rows L2

section
variable {prog : Program} {w : World} {A : Around} {E : Value → Shared → Prop} {s : Shared} {K : W.Frag} {x C L f : Addr} {h₀ : Heap} {m : Str → Option Value} {ox : Obj} {od : Option Obj} {b tb : Value}
/-- the slot that object gives, called on an instance of an own class -/
theorem obj_ne {Q : Value → Shared → Prop} (hu : A.units + 1 < cLine) (X : K.In s.heap) (I : W.InstAt s.heap x ox C od) (ho : W.subIn K (.ref C) (.type "object") = some true)
    (hs : W.findIn K (.ref C) "__eq__" = some (some (.ref f))) (hf : W.isFn K (.ref f) = true)
    (h : wpAny (model prog w) A.in1 (call (.ref f) [.ref x, b]) (fun v s' => ∃ k, v = .bool k ∧ Q (.bool (!k)) s') E s) :
    wpAny (model prog w) A (call (.builtin "object.__ne__") [.ref x, b]) Q E s := by
  refine wpAny_call (codeAny_call_builtin F.cmp_object.ne.plain F.cmpEntry_ne ?_)
  have body : ∀ {R : Result → Shared → Prop}, (∀ v s', Q v s' → R (.ok (.ret v)) s') → (∀ e s', E e s' → R (.error e) s') → wpAny (model prog w) A.in1 (Builtin.«object.__ne__» ⟨[.ref x, b], []⟩)
      (fun fin s' => match fin with | .done f => R (.ok f) s' | .again c' => c'.quiet = true ∧ codeAny (model prog w) A c' R s') (fun e s' => R (.error e) s') s := by
    intro R hR hE
    unfold Builtin.«object.__ne__»
    have ask : wpAny (model prog w) A.in1 (callSpecialIfBound? (.ref x) (Str.ofString "__eq__") [b]) (fun r s' => ∃ k, r = some (.bool k) ∧ Q (.bool (!k)) s') (fun e s' => R (.error e) s') s :=
      W.ifBound_K X I hs hf (wpAny_mono h (fun v s' ⟨k, e, q⟩ => ⟨k, by rw [e], q⟩) hE)
    repeat (first
      | with_reducible refine wpAny_cRoomFor hu ?_
      | (refine wpAny_bind (m := callSpecialIfBound? (.ref x) (Str.ofString "__eq__") [b]) (wpAny_mono ask (fun r s' hr => by
          obtain ⟨k, rfl, q⟩ := hr
          refine wpAny_bind (m := truthy (.bool _)) (wpAny_truthy_bool ?_)
          first
            | exact wpAny_pure (hR _ _ q)
            | exact wpAny_pure (wpAny_pure (hR _ _ q))
            | exact wpAny_bind (wpAny_pure (wpAny_pure (hR _ _ q)))) fun _ _ e => e))
      | wp_step)
  have chk : ∀ {Q' : Unit → Shared → Prop} {E' : Value → Shared → Prop}, Q' () s → wpAny (model prog w) A.in1 (checkBuiltinCall "object.__ne__" ⟨[.ref x, b], []⟩) Q' E' s := by
    intro Q' E' q
    have ha := F.cmpArgs_ne (.ref x) b
    simp only [checkBuiltinCall, F.cmpKind_ne, F.cmpSplit_ne]
    refine wpAny_bind ?_
    unfold isInstance
    refine wpAny_bind (I.type.here ((W.looks_subIn X ho).here ?_))
    show wpAny _ _ (match Manifest.signature? "object.__ne__" with | some sig => Bind.checkArgs "object.__ne__" sig ⟨[.ref x, b], []⟩ | _ => pure ()) _ _ _
    cases hsig : Manifest.signature? "object.__ne__" with
    | none => exact wpAny_pure q
    | some sig =>
      simp only [argsOk, hsig] at ha
      have h2 : Bind.checkArgs "object.__ne__" sig ⟨[.ref x, b], []⟩ = pure () := ha
      show wpAny _ _ (Bind.checkArgs "object.__ne__" sig ⟨[.ref x, b], []⟩) _ _ _
      rw [h2]
      exact wpAny_pure q
  exact chk (body (R := fun r s' => match r with | .ok (.ret v) => Q v s' | .ok _ => False | .error e => E e s') (fun v s' q => q) fun e s' z => z)
theorem ne_own {Q : Value → Shared → Prop} (hu : A.units + 1 < cLine) (F₀ : Fr h₀ L s.heap m) (X₀ : K.In h₀) (I : W.InstAt s.heap x ox C od) (hb : W.Looks (model prog w) s.heap (typeOf b) tb) (hn : W.notFirst K C tb = true)
    (ho : W.subIn K (.ref C) (.type "object") = some true) (hne : W.findIn K (.ref C) "__ne__" = some (some (.builtin "object.__ne__")))
    (hs : W.findIn K (.ref C) "__eq__" = some (some (.ref f))) (hf : W.isFn K (.ref f) = true)
    (h : wpAny (model prog w) A.in1 (call (.ref f) [.ref x, b]) (fun v s' => ∃ k, v = .bool k ∧ Q (.bool (!k)) s') E s) : wpAny (model prog w) A (richCompare .NotEq (.ref x) b) Q E s := by
  have X := X₀.keeps F₀.keep
  have c := obj_ne (E := E) (Q := fun v s' => ∃ k, v = .bool k ∧ Q (.bool k) s') hu X I ho hs hf (wpAny_mono h (fun v s' ⟨k, e, q⟩ => ⟨k, e, !k, rfl, q⟩) fun _ _ z => z)
  have one : wpAny (model prog w) A (tryCompare (.ref x) (cmpInfo .NotEq).2.1 b) (fun r s' => ∃ v, r = some v ∧ Q v s') E s := by
    unfold tryCompare
    refine wpAny_bind ?_
    simp only [callSpecialIfBound?, bindSpecialIfBound?]
    refine wpAny_holding (wpAny_bind (wpAny_bind (wpAny_bind (I.type.here ((W.looks_findIn X hne).here ?_)))))
    simp only [F.cmp_object.ne.bind]
    refine wpAny_bind (wpAny_askSetting (wpAny_ite ?_))
    have fin : wpAny (model prog w) A (call (.builtin "object.__ne__") ([.ref x] ++ [b]) >>= fun v => pure (some v)) (fun a s' => wpAny (model prog w) A (match a with
        | some .notImplemented => pure none
        | none => pure none
        | some v => pure (some v)) (fun r s' => ∃ v, r = some v ∧ Q v s') E s') E s := by
      refine wpAny_bind (wpAny_mono c ?_ fun _ _ z => z)
      rintro v s' ⟨k, rfl, q⟩
      exact wpAny_pure (wpAny_pure ⟨_, rfl, q⟩)
    split
    · exact wpAny_bind (wpAny_pure (wpAny_pure fin))
    · exact wpAny_tryCatch (wpAny_bind (wpAny_pure (wpAny_pure fin)))
  unfold richCompare
  simp only [oneThing_ref]
  refine wpAny_holding (wpAny_bind (wpAny_cRoomFor (Nat.lt_of_succ_lt hu) ?_))
  refine wpAny_bind (I.type.here (wpAny_bind (hb.here ?_)))
  have rest : wpAny (model prog w) A (tryCompare (.ref x) (cmpInfo .NotEq).2.1 b) (fun r s' => ∃ v, r = some v ∧ Q v s') E s := one
  split
  · rename_i q
    have e : W.subIn K tb (.ref C) = some false := by
      rcases Bool.or_eq_true_iff.mp hn with e | e
      · rw [beq_iff_eq.mp e] at q
        simp at q
      · exact beq_iff_eq.mp e
    refine wpAny_bind ((W.looks_subIn X e).here ?_)
    simp only [Bool.false_eq_true, if_false]
    refine wpAny_bind (wpAny_mono rest ?_ fun _ _ z => z)
    rintro r s' ⟨v, rfl, hq⟩
    exact wpAny_pure hq
  · refine wpAny_bind (wpAny_pure ?_)
    simp only [Bool.false_eq_true, if_false]
    refine wpAny_bind (wpAny_mono rest ?_ fun _ _ z => z)
    rintro r s' ⟨v, rfl, hq⟩
    exact wpAny_pure hq
end
/-- what the text has of a class with its own == -/
structure EqC (K : PySem.W.Frag) (C f : Addr) : Prop where
  eq : W.findIn K (.ref C) "__eq__" = some (some (.ref f))
  fn : W.isFn K (.ref f) = true
  ne : W.findIn K (.ref C) "__ne__" = some (some (.builtin "object.__ne__"))
  ob : W.subIn K (.ref C) (.type "object") = some true
/-- a value whose type isn't a subtype of C's own below it -/
def Plain2 (K : PySem.W.Frag) (C : Addr) (H : Hp) (y : V) : Prop := ∃ t, TyX K H y t ∧ W.notFirst K C t = true
def rOwnEq (K : PySem.W.Frag) (C : Addr) (sp : Sp) : R2 := fun x y H Q => ∃ (a dx : Addr) (fs : List (Str × V)), x = .ref a ∧ H a = some (.ins C dx fs) ∧ Plain2 K C H y ∧ sp [.ref a, y] H (fun v H' => ∃ k, v = .bl k ∧ Q (.bl k) H') (fun _ _ _ => False)
def rOwnNe (K : PySem.W.Frag) (C : Addr) (sp : Sp) : R2 := fun x y H Q => ∃ (a dx : Addr) (fs : List (Str × V)), x = .ref a ∧ H a = some (.ins C dx fs) ∧ Plain2 K C H y ∧ sp [.ref a, y] H (fun v H' => ∃ k, v = .bl k ∧ Q (.bl (!k)) H') (fun _ _ _ => False)
section
variable {X : Cx} {C f : Addr} {fd : FuncData} {k : Nat} {ps : List Str} {sp : Sp}
theorem run_eq {A : Around} (F : FnOk X.prog X.w X.K X.mg X.base CX0 k f fd ps sp) (hb : Binds X.K fd ps []) (hr : Room k A) (fr : A.frames = X.A.frames) {pins : List (Addr × Obj)} {σ : L2.St} {H : Hp} {s : Shared} (I : Inv X pins σ H s)
    {vs : List V} {us : List Value} (r : Vals vs us) {Q : VK} {E : Value → Shared → Prop} (h : sp vs H Q (fun _ _ _ => False)) : wpAny (model X.prog X.w) A (call (.ref f) us) (EP X pins σ Q) E s := by
  have env : Env0 X.prog X.w X.K X.mg X.base A X.stack s H := by
    have z := I.env0
    exact ⟨fr.trans z.frames, z.mod, z.bs, z.bsz, z.funs, z.frf, z.hok, z.bare⟩
  have hl := F.len _ _ _ _ h
  refine wpAny_call (codeAny_mono (F.run A X.stack s H ⟨us, []⟩ us vs Q (fun _ _ _ => False) hr env (by
    have z := hb s us I.kIn (by rw [List.append_nil, ← r.length]; exact hl)
    rwa [List.append_nil] at z) r h) fun r s' hq => ?_)
  cases r with
  | error e => exact hq.elim
  | ok fl =>
    cases fl with
    | ret u => exact I.after hq
    | next => exact False.elim hq
    | brk => exact False.elim hq
    | cont => exact False.elim hq
theorem op_ownEq (F : FnOk X.prog X.w X.K X.mg X.base CX0 k f fd ps sp) (hb : Binds X.K fd ps []) (hr : Room k X.A) (T : EqC X.K C f) : OpR X (compareOp .Eq) (rOwnEq X.K C sp) := by
  intro pins s σ H x y v u Q I rx ry h
  obtain ⟨a, dx, fs, rfl, ha, ⟨t, ty, nf⟩, q⟩ := h
  cases rx
  obtain ⟨mA, J, _⟩ := ins_get I.hok ha
  obtain ⟨od, J, _⟩ := J.look
  obtain ⟨m, hF⟩ := I.fr
  obtain ⟨P, Z, p, _⟩ := kit_of I ry ty
  show wpAny _ _ (richCompare .Eq (.ref a) u) _ _ s
  refine PySem.W.cmp_K (op := .Eq) (tb := t) hr.units0 hF I.ok.mod.kin J (Z.ty _ _ I.kIn p) nf T.eq T.fn ?_
  refine wpAny_mono (run_eq F hb hr rfl I (show Vals [V.ref a, y] [Value.ref a, u] from .cons rfl (.cons ry .nil)) q) ?_ fun _ _ z => z
  rintro w s' ⟨z, H', I', rz, k, rfl, q'⟩
  cases rz
  exact ⟨.bl k, H', I', rfl, q'⟩
theorem op_ownNe (F : FnOk X.prog X.w X.K X.mg X.base CX0 k f fd ps sp) (hb : Binds X.K fd ps []) (hr : Room (k + 1) X.A) (T : EqC X.K C f) : OpR X (compareOp .NotEq) (rOwnNe X.K C sp) := by
  intro pins s σ H x y v u Q I rx ry h
  obtain ⟨a, dx, fs, rfl, ha, ⟨t, ty, nf⟩, q⟩ := h
  cases rx
  obtain ⟨mA, J, _⟩ := ins_get I.hok ha
  obtain ⟨od, J, _⟩ := J.look
  obtain ⟨m, hF⟩ := I.fr
  obtain ⟨P, Z, p, _⟩ := kit_of I ry ty
  show wpAny _ _ (richCompare .NotEq (.ref a) u) _ _ s
  refine ne_own (hu_of hr) hF I.ok.mod.kin J (Z.ty _ _ I.kIn p) nf T.ob T.ne T.eq T.fn ?_
  refine wpAny_mono (run_eq F hb hr.in1 rfl I (show Vals [V.ref a, y] [Value.ref a, u] from .cons rfl (.cons ry .nil)) q) ?_ fun _ _ z => z
  rintro w s' ⟨z, H', I', rz, k, rfl, q'⟩
  cases rz
  exact ⟨k, rfl, .bl (!k), H', I', rfl, q'⟩
end
end Wnd

/-! Windowsteps: C.m(..), m a static method. -/
namespace Wnd
open PySem PySem.Spec PyProof.Rows L2
/-- C.m is a static method: its record at p, its def at g -/
structure SMet (K : PySem.W.Frag) (C : Addr) (mc : Value) (m : Str) (p g : Addr) : Prop where
  at_ : W.findCls K (.ref C) mc m = some (.get (.builtin "staticmethod.__get__") (.ref p) .none (.ref C))
  rc : ∃ rest, W.recIn K p "staticmethod" = some (.ref g :: rest)
  kp : W.keepIn K (.ref g) = true
section
variable {X : Cx} {k : Nat} {C p g : Addr} {mc : Value} {sp : Sp} {fd : FuncData} {ps : List Str} {o e : Expr} {es : List Expr} {m : Str} {pos apos : Pos} {ta : TE} {t : TA} {pl : Sem Bool}
theorem getstat_ok {A : Around} {E : Value → Shared → Prop} {pins : List (Addr × Obj)} {σ : L2.St} {H : Hp} {s : Shared} {b : Bool} {Q : Value → Shared → Prop} (I : Inv X pins σ H s) (r : ClX.CRead X.K C mc) (c : SMet X.K C mc m p g)
    (h : ∀ s', Inv X pins σ H s' → Q (.ref g) s') : wpAny (model X.prog X.w) A (getAttr (.ref C) m b) Q E s := by
  obtain ⟨rest, hp⟩ := c.rc
  refine PySem.W.cls_bind I.kIn r.rd c.at_ ?_
  exact wpAny_call (PySem.W.sm_get (s := { s with toks := s.toks + 1 }) I.kIn hp (PySem.W.handed_on rfl (h _ (I.tok _))))
def tStat (C : Addr) (sp : Sp) (ta : TE) (t : TA) : TE := fun σ H Q => ta σ H fun x H1 => x = .ref C ∧ t σ H1 fun vs H2 => sp vs H2 Q E0
theorem pe_stat (he : PE X o ta) (r : ClX.CRead X.K C mc) (c : SMet X.K C mc m p g) (F : FnOk X.prog X.w X.K X.mg X.base CX0 k g fd ps sp) (hb : Binds X.K fd ps []) (hr : Room k X.A) (ha : PA X (e :: es) t)
    (hst : starEach (e :: es) X.env = (false, eval e X.env) :: starEach es X.env := by rfl) (hpl : (backTo pos (starEach es X.env)).any (·.1) = false := by rfl)
    (ht : eval (.Call (.Attribute o m apos) (e :: es) [] pos) X.env = (do
      let ov ← eval o X.env
      standAt apos.atName
      let (f, first) ← holding [ov] (getMethod ov m pl)
      callWith pos f first (backTo pos (starEach (e :: es) X.env)) (backToKw pos (keywordEach [] X.env))) := by rfl) :
    PE X (.Call (.Attribute o m apos) (e :: es) [] pos) (tStat C sp ta t) := by
  refine ⟨fun pins s σ H Q I h => ?_⟩
  refine PySem.W.methodCall_KW (pl := pl) (thn (he.run pins s σ H _ I h) ?_) ht
  rintro u s1 ⟨x, H1, I1, rx, rfl, q⟩
  cases rx
  refine PySem.W.method_cls I1.kIn r.ga (getstat_ok I1 r c fun s2 I2 => ?_)
  refine PySem.W.callWith_K (h₀ := X.base) (first := []) I2.ok.mod.kin c.kp (thn (ha.run pos _ s2 σ H1 _ I2 q) ?_) hst hpl
  rintro us s3 ⟨vs, H2, I3, rv, q2⟩
  refine ⟨I3.kIn, ?_⟩
  exact run_fn F hr hb .nil (pass0 (X := X)) I3 rv (by rw [List.append_nil]; exact q2)
end
end Wnd

/-! Windowsteps: len(set(names)), names all different. -/
namespace Wnd
open PySem PySem.Spec PyProof.Rows L2

/-- what set() has taken of different texts: they, and no more -/
def setOfTexts (xs : List Str) (i : Nat) : Str → Bool := fun y => (xs.take i).any (· == y)
theorem setOfTexts_more {xs : List Str} {i : Nat} (hi : i < xs.length) (y : Str) : (setOfTexts xs i y || decide (y = xs.getD i Str.empty)) = setOfTexts xs (i + 1) y := by
  unfold setOfTexts
  rw [List.take_add_one, List.any_append, List.getElem?_eq_getElem hi, List.getD_eq_getElem?_getD, List.getElem?_eq_getElem hi]
  show (_ || decide (y = xs[i])) = (_ || [xs[i]].any (· == y))
  congr 1
  simp only [List.any_cons, List.any_nil, Bool.or_false]
  by_cases e : y = xs[i]
  · subst e
    simp
  · rw [decide_eq_false e]
    exact (beq_eq_false_iff_ne.mpr fun z => e z.symm).symm
theorem setOfTexts_new {xs : List Str} (nd : xs.Nodup) {i : Nat} (hi : i < xs.length) : setOfTexts xs i (xs.getD i Str.empty) = false := by
  unfold setOfTexts
  rw [List.getD_eq_getElem?_getD, List.getElem?_eq_getElem hi]
  show (xs.take i).any (· == xs[i]) = false
  rw [List.any_eq_false]
  intro z hz e
  have ez : z = xs[i] := by simpa using e
  subst ez
  obtain ⟨j, hj, ej⟩ := List.getElem_of_mem hz
  rw [List.length_take] at hj
  rw [List.getElem_take] at ej
  have := (List.getElem_inj (h₀ := by omega) (h₁ := hi) nd).mp ej
  omega
section
variable {prog : Program} {w : World} {A : Around} {R : Result → Shared → Prop} {I : Addr} {fp wr : List Addr} {G : Array GenState → Array GenState → Prop} {n : Nat} {Pv : Nat → Value → Prop} {St' : Nat → Shared → Prop}
/-- the loop that fills the set: its turns by induction on how many are left -/
theorem fill_texts (W : WalksS prog w A.in1 I fp wr G n Pv St') (D : Addr) (out : D ∉ fp) (xs : List Str) (len : xs.length = n) (nd : xs.Nodup) (few : n < 1000) (val : ∀ i v, Pv i v → ∃ t, v = .str (xs.getD i Str.empty) t) :
    ∀ (left i : Nat) (s : Shared), n - i = left → i ≤ n → St' i s → s.heap.SetOf (PySem.strKind prog w) D (setOfTexts xs i) i →
      (∀ s', Moved (D :: wr) G s s' → s'.heap.SetOf (PySem.strKind prog w) D (setOfTexts xs n) n → R (.ok (.ret .none)) s') →
      codeAny (model prog w) A (.builtin "set.update.loop" ⟨[.ref D, .ref I], []⟩) R s := by
  have outw : D ∉ wr := fun h => out (W.sub _ h)
  have sub : ∀ b ∈ wr, b ∈ D :: wr := fun b hb => List.mem_cons_of_mem _ hb
  intro left
  induction left with
  | zero =>
    intro i s eq le st so done
    obtain rfl : i = n := by omega
    refine codeAny_builtin PyProof.Rows.F.entry_set_update_loop ?_
    rw [Around.under_plainId PyProof.Rows.F.plain_set_update_loop _]
    refine wpAny_bind (W.done s _ _ st fun s' mv => ?_)
    refine wpAny_pure (done s' (mv.mono sub) ?_)
    obtain ⟨o, es, ep, t, ho, more⟩ := so
    exact ⟨o, es, ep, t, mv.heap D _ outw ho, more⟩
  | succ left ih =>
    intro i s eq le st so done
    have lt : i < n := by omega
    refine codeAny_builtin PyProof.Rows.F.entry_set_update_loop ?_
    rw [Around.under_plainId PyProof.Rows.F.plain_set_update_loop _]
    refine wpAny_bind (W.item i s _ _ lt st fun v s' pv st' mv => ?_)
    obtain ⟨t, rfl⟩ := val i v pv
    have so' : s'.heap.SetOf (PySem.strKind prog w) D (setOfTexts xs i) i := by
      obtain ⟨o, es, ep, tb, ho, more⟩ := so
      exact ⟨o, es, ep, tb, mv.heap D _ outw ho, more⟩
    show wpAny _ A.in1 (holding [Value.str (xs.getD i Str.empty) t] (setAdd D (.str (xs.getD i Str.empty) t)) >>= _) _ _ s'
    refine wpAny_bind (wpAny_holding ?_)
    unfold setAdd
    refine wpAny_holding (wpAny_bind ((PySem.strKind prog w).pyHash (k := xs.getD i Str.empty) (strKind_is _ _ _ _) ?_))
    refine wpAny_setAddHashed_of (knd := PySem.strKind prog w) (s := { s' with toks := s'.toks + 1 }) (strKind_is _ _ _ _) rfl so' (by unfold scanBound; omega) fun h' sb s2 => ?_
    have s3 : h'.SetOf (PySem.strKind prog w) D (setOfTexts xs (i + 1)) (i + 1) := by
      refine PyProof.Rows.SetOf_congr s2 (fun y => setOfTexts_more (by omega) y) ?_
      rw [setOfTexts_new nd (by omega)]
      rfl
    refine wpAny_pure ⟨plainId_quiet PyProof.Rows.F.plain_set_update_loop _, ih (i + 1) _ (by omega) lt (W.frame _ s' _ _ st' (Nat.le_succ _) fun b hb o e => ?_) s3 fun s'' mv2 so2 => ?_⟩
    · rw [sb.2 b fun z => out (by rw [← z]; exact hb)]
      exact e
    · refine done s'' (Moved.trans W.gtrans ((mv.mono sub).then_heap (Nat.le_succ _) fun b o hb e => ?_) mv2) so2
      rw [sb.2 b fun z => hb (by rw [z]; exact List.mem_cons_self)]
      exact e
end
section
variable {prog : Program} {w : World} {A : Around} {E : Value → Shared → Prop} {s : Shared}
set_option maxHeartbeats 3200000 in
theorem set_of_texts {l : Addr} {items : Array Value} {xs : List Str} {Q : Value → Shared → Prop} (free : A.handled = none) (isl : s.heap.IsList l items) (are : PyProof.Rows.StrsAre items.toList xs) (nd : xs.Nodup) (few : xs.length < 1000)
    (hq : ∀ (h' : Heap) (tk : Nat), h'.SetOf (PySem.strKind prog w) s.heap.objs.size (setOfTexts xs xs.length) xs.length → (∀ b o, s.heap.get? b = some o → h'.get? b = some o) → Q (.ref s.heap.objs.size) { s with heap := h', toks := tk }) :
    wpAny (model prog w) A (call (.type "set") [.ref l]) Q E s := by
  have len : items.size = xs.length := by
    rw [← Array.length_toList]
    exact StrsAre.len_eq are
  obtain ⟨c, tl, mro⟩ := PySem.F.called_set.mro
  have k1 := PySem.F.called_set.made
  have k2 := PySem.F.called_set.sub
  have k3 := PySem.F.called_set.notType
  have k4 := PySem.F.called_set.canCreate
  have k5 := PySem.F.typeCall_set_1 (.ref l)
  refine wpAny_call (codeAny_of_tree (show wpAny _ _ (callAny (.type "set") _) _ _ _ from wpAny_pure ⟨Code.quiet_builtin _ (by decide +kernel), codeAny_builtin PySem.F.entry_type_call ?_⟩))
  rw [Around.under_plain (weight_type_call_type "set" [.ref l] []) rfl]
  repeat (any_goals (first | assumption | wp_step))
  refine codeAny_mono (code_set_new_1 (.ref l) (E := E)
    (Q₁ := fun obj s₁ => ∃ led : Bool, obj = .ref s.heap.objs.size ∧ s₁ = { s with heap := s.heap.push { cls := .type "set", dict := none, data := .set #[] 0 (.fresh 0 0 led) } })
    fun led => ⟨led, rfl, rfl⟩) ?_
  intro r s₁ hr
  cases r with
  | error e => exact hr
  | ok fl =>
    cases fl with
    | ret obj =>
      obtain ⟨led, rfl, rfl⟩ := hr
      have atS : (s.heap.push { cls := .type "set", dict := none, data := .set #[] 0 (.fresh 0 0 led) }).get? s.heap.objs.size = some { cls := .type "set", dict := none, data := .set #[] 0 (.fresh 0 0 led) } := Heap.get?_push_size _ rfl
      have tyS : Shared.TypeIs { s with heap := s.heap.push { cls := .type "set", dict := none, data := .set #[] 0 (.fresh 0 0 led) } } (.ref s.heap.objs.size) "set" := ⟨_, atS, rfl⟩
      have i1 := PySem.F.called_set.init.lookup
      have i2 := PySem.F.called_set.init.bind (.ref s.heap.objs.size)
      repeat (any_goals (first | assumption | wp_step))
      refine codeAny_mono (codeAny_call_builtin (R := wants (fun r s₂ => r = .none ∧ ∃ h' tk, s₂ = { s with heap := h', toks := tk } ∧
        h'.SetOf (PySem.strKind prog w) s.heap.objs.size (setOfTexts xs xs.length) xs.length ∧
        ∀ b o, s.heap.get? b = some o → h'.get? b = some o) E) PySem.F.called_set.init.plain PySem.F.entry_set_init (check_set_init_1 tyS ?_)) ?_
      · obtain ⟨ol, gl, cl, nl, dl⟩ := isl
        obtain ⟨ocls, odict, odata, oslots⟩ := ol
        simp only at cl dl
        subst cl
        subst dl
        have gl' : (s.heap.push { cls := .type "set", dict := none, data := .set #[] 0 (.fresh 0 0 led) }).get? l = some { cls := .type "list", dict := odict, data := .seq items nl, slots := oslots } := Heap.get?_push_of_some _ gl
        have n1 := PySem.F.sub_list_set
        have n2 := PySem.F.sub_list_frozenset
        have n3 : (Value.type "list" == Value.type "dict") = false := by decide
        have isl' : (s.heap.push { cls := .type "set", dict := none, data := .set #[] 0 (.fresh 0 0 led) }).IsList l items := ⟨_, gl', rfl, nl, rfl⟩
        unfold Builtin.«set.__init__» noKeywords Builtin.Frozenset.updateFrom
        generalize eIt : pyIter = It0
        wp_walk
        subst eIt
        refine wpAny_pyIter_list isl' (wpAny_bind (wpAny_runValue ?_))
        have ltl : l < s.heap.objs.size := Heap.lt_size gl
        have fr3 : A.in1.in1.in1.handled = none := by simp [free]
        have sz1 : (s.heap.push { cls := .type "set", dict := none, data := .set #[] 0 (.fresh 0 0 led) }).objs.size = s.heap.objs.size + 1 := Heap.size_push ..
        have nl1 : l ≠ (s.heap.push { cls := .type "set", dict := none, data := .set #[] 0 (.fresh 0 0 led) }).objs.size := by
          rw [sz1]
          exact Nat.ne_of_lt (Nat.lt_succ_of_lt ltl)
        have outS : s.heap.objs.size ∉ [(s.heap.push { cls := .type "set", dict := none, data := .set #[] 0 (.fresh 0 0 led) }).objs.size, l] := by
          rw [sz1]
          simp only [List.mem_cons, List.not_mem_nil, or_false, not_or]
          exact ⟨Nat.ne_of_lt (Nat.lt_succ_self _), Nat.ne_of_gt ltl⟩
        refine fill_texts ((Walks.list fr3 _ l nl1 items).toS) s.heap.objs.size outS xs len.symm nd (by omega) (fun i v hv => SS.strs_at are i v (by rw [Array.getElem?_toList]; exact hv)) (items.size - 0) 0 _ (by omega) (Nat.zero_le _)
          ⟨⟨_, Heap.get?_push_size _ rfl, rfl, rfl⟩, isl'.push _⟩ ?first ?after
        case first =>
          have g2 : ((s.heap.push { cls := .type "set", dict := none, data := .set #[] 0 (.fresh 0 0 led) }).push { cls := .type "list_iterator", data := .fields #[.ref l, .int 0 0] }).get? s.heap.objs.size
              = some { cls := .type "set", dict := none, data := .set #[] 0 (.fresh 0 0 led) } := Heap.get?_push_of_some _ atS
          exact PyProof.Rows.SetOf_congr ((PyProof.Rows.setObjOf_fresh (knd := PySem.strKind prog w) led).setOf g2 (by unfold scanBound; omega)) (fun _ => rfl) rfl
        case after =>
          intro s' mv so
          obtain ⟨h', g', d', tk', os'⟩ := s'
          obtain rfl : g' = s.gens := mv.gens
          obtain rfl : d' = s.drawn := mv.drawn
          obtain rfl : os' = s.os := mv.os
          refine wpAny_pure (wpAny_pure ⟨rfl, h', tk', rfl, by rw [← len]; exact so, fun b o e => ?_⟩)
          have lt := Heap.lt_size e
          refine mv.heap b o ?_ (Heap.get?_push_of_some _ (Heap.get?_push_of_some _ e))
          simp only [List.mem_cons, List.not_mem_nil, or_false, not_or]
          refine ⟨Nat.ne_of_lt lt, ?_⟩
          rw [sz1]
          exact Nat.ne_of_lt (Nat.lt_succ_of_lt lt)
      · intro r₂ s₂ hr₂
        cases r₂ with
        | error e => exact hr₂
        | ok fl₂ =>
          cases fl₂ with
          | ret r =>
            obtain ⟨rfl, h', tk, rfl, so, kp⟩ := hr₂
            repeat (any_goals (first | assumption | wp_step))
            exact hq _ _ so kp
          | _ => exact hr₂.elim
    | _ => exact hr.elim
end
section
variable {X : Cx}
/-- len(set(names)), different names -/
def tLenSetT (K : PySem.W.Frag) (ta : TE) : TE := fun σ H Q => ta σ H fun x H1 => ∃ (l : Addr) (xs : List Str), x = V.ref l ∧ SqL K H1 l (xs.map V.str) ∧ xs.length < 1000 ∧ xs.Nodup ∧ Q (.int xs.length) H1
theorem pe_lenSetT {a : Expr} {ta : TE} {p p2 q pos : Pos} (calm : X.calm = true) (hm : X.mg "len" = none) (hm2 : X.mg "set" = none) (ha : PE X a ta) (hg : Gl X "len" := by rfl) (hg2 : Gl X "set" := by rfl)
    (na : starEach [a] X.env = (false, eval a X.env) :: starEach [] X.env := by rfl) : PE X (.Call (.Name "len" p) [.Call (.Name "set" p2) [a] [] q] [] pos) (tLenSetT X.K ta) := by
  refine ⟨fun pins s σ H Q I h => Call_ (ld_blt I hg hm PySem.boot_len (PyProof.Rows.callWith_builtin1 (PyProof.Rows.args_cons (Call_ (ld_blt I hg2 hm2 PyProof.Rows.boot_set ?_)) rfl) rfl rfl))⟩
  refine PyProof.Rows.callWith_type1 (PyProof.Rows.args_cons (thn (ha.run pins s σ H _ I h) ?_) na) na rfl
  rintro v s1 ⟨x, H1, I1, r1, l, xs, rfl, hs, few, nd, q1⟩
  refine PyProof.Rows.args_nil ?_
  cases r1
  obtain ⟨its, r, pl, hz⟩ := I1.list hs
  refine set_of_texts (I1.ok.hd calm) pl.isList (xs := xs) (by simpa using r.strs) nd few fun h' tk so kp => ?_
  refine PyProof.Rows.args_nil ?_
  obtain ⟨o, es, ep, t, ho, hex, hd, _, _, _, hf, hn⟩ := so
  have I2 : Inv X pins σ H1 { s1 with heap := h', toks := tk } := I1.kept kp
  exact call_len_set ho hex hd hf (by rw [hn]; omega) ⟨.int xs.length, H1, I2.tok _, ⟨_, by rw [hn]⟩, q1⟩
end
end Wnd

/-! Windowsteps: comprehensions that change nothing that was there. -/
namespace Wnd
open PySem PySem.Spec PyProof.Rows L2
variable {J : It} {n : Nat} {G : Hp → Prop} {Y : Nat → Hp → V → Hp → Prop}
/-- what the list holds is said turn by turn by F; what was there stays -/
theorem lc_acc (w : Walk J n G Y) {g : TG} {tt : TT} {te : TE} {vs : List Nat} {σ : L2.St} {H1 : Hp} {D : Addr} {Qd : Hp → Prop} (hD : H1 D = none) (F : Nat → List V) (h0 : F 0 = []) (hz : n < sizeLine) (hl : ∀ i, (F i).length ≤ i)
    (hG : ∀ H, Same H1 H → G H)
    (hs : ∀ i x H H' (R : V → Hp → Prop) (L : Hp → Prop), i < n → Same H1 H → Y i H x H' → (∀ y H4, F (i + 1) = F i ++ [y] → Same H H4 → R y H4) → (∀ H4, F (i + 1) = F i → Same H H4 → L H4) →
      g x (wipe σ vs) H' fun σ2 H2 => wipe σ2 vs = wipe σ vs ∧ tt σ2 H2 fun b H3 => if b = true then te σ2 H3 R else L H3) (hd : ∀ H, Same H1 H → H D = some (.lst (F n)) → Qd H) :
    ∃ W : Nat → Nat → Hp → Prop, (∃ m, W 0 m (upd H1 D (.lst []))) ∧ ∀ i m H, W i m H →
      (J.stop i H ∧ Qd H) ∨ (J.go i H ∧ ∃ Nx : Hp → Prop, (∀ H', Nx H' → ∃ m', m' < m ∧ W (i + 1) m' H') ∧ ∀ x H', J.yld i H x H' → g x (wipe σ vs) H' fun σ2 H2 => wipe σ2 vs = wipe σ vs ∧ tt σ2 H2 fun b H3 =>
        if b = true then te σ2 H3 fun y H4 => ∃ acc, H4 D = some (.lst acc) ∧ acc.length < sizeLine ∧ Nx (upd H4 D (.lst (acc ++ [y]))) else Nx H3) := by
  refine lc_it w (fun i H => Same H1 H ∧ H D = some (.lst (F i))) ⟨same_new hD, by rw [h0]; exact upd_same⟩ (fun i H _ p => hG H p.1) ?_ (fun H p => hd H p.1 p.2)
  rintro i x H H' hi ⟨s, hd⟩ y
  refine hs i x H H' _ _ hi s y (fun v H4 e s4 => ⟨F i, s4 _ _ hd, by have := hl i; omega, ?_, ?_⟩) fun H4 e s4 => ⟨s.trans s4, by rw [e]; exact s4 _ _ hd⟩
  · intro b o hb
    rw [upd_ne (ne_of_none hb hD)]
    exact s4 _ _ (s _ _ hb)
  · rw [e]
    exact upd_same
/-- one item for each turn -/
theorem lc_map (w : Walk J n G Y) {g : TG} {tt : TT} {te : TE} {vs : List Nat} {σ : L2.St} {H1 : Hp} {D : Addr} {Qd : Hp → Prop} (hD : H1 D = none) (ys : List V) (hn : ys.length = n) (hz : n < sizeLine)
    (hG : ∀ H, Same H1 H → G H)
    (hs : ∀ i x H H' (hi : i < ys.length) (R : V → Hp → Prop) (L : Hp → Prop), Same H1 H → Y i H x H' → (∀ H4, Same H H4 → R ys[i] H4) →
      g x (wipe σ vs) H' fun σ2 H2 => wipe σ2 vs = wipe σ vs ∧ tt σ2 H2 fun b H3 => if b = true then te σ2 H3 R else L H3) (hd : ∀ H, Same H1 H → H D = some (.lst ys) → Qd H) :
    ∃ W : Nat → Nat → Hp → Prop, (∃ m, W 0 m (upd H1 D (.lst []))) ∧ ∀ i m H, W i m H →
      (J.stop i H ∧ Qd H) ∨ (J.go i H ∧ ∃ Nx : Hp → Prop, (∀ H', Nx H' → ∃ m', m' < m ∧ W (i + 1) m' H') ∧ ∀ x H', J.yld i H x H' → g x (wipe σ vs) H' fun σ2 H2 => wipe σ2 vs = wipe σ vs ∧ tt σ2 H2 fun b H3 =>
        if b = true then te σ2 H3 fun y H4 => ∃ acc, H4 D = some (.lst acc) ∧ acc.length < sizeLine ∧ Nx (upd H4 D (.lst (acc ++ [y]))) else Nx H3) := by
  refine lc_acc w hD (fun i => ys.take i) rfl hz (fun i => by rw [List.length_take]; omega) hG ?_ (fun H s h => hd H s (by rw [h, ← hn, List.take_length]))
  intro i x H H' R L hi s y hR hL
  have hi' : i < ys.length := by omega
  exact hs i x H H' hi' R L s y fun H4 s4 => hR _ H4 (by rw [List.take_add_one, List.getElem?_eq_getElem hi']; rfl) s4
/-- in a block: the class's frame said -/
theorem op_inK {X : Cx} (K : PySem.W.Frag) (h : X.K = K := by rfl) : OpR X (compareOp .In) (rIn K false) := by
  subst h
  exact op_in_seq
theorem pg_tupK {X : Cx} {pos : Pos} {es : List Expr} {k : Nat} {t : TGs} (K : PySem.W.Frag) (n : Nat) (hc : X.calm = true) (h : PGs X es t) (hK : X.K = K := by rfl)
    (hn : (assignEach es X.env).length = n := by rfl) (hst : (assignEach es X.env).findIdx? (·.1) = none := by rfl) : PG X (.Tuple es k pos) (gTup K n t) := by
  subst hK
  exact pg_tup hc h hn hst
def rLenSeq (K : PySem.W.Frag) : List V → Hp → VK → Prop := fun xs H Q => ∃ p ys, xs = [.ref p] ∧ (SqL K H p ys ∨ SqT K H p ys) ∧ Q (.int ys.length) H
theorem call_lenK {X : Cx} (K : PySem.W.Frag) (h : X.K = K := by rfl) : CallR X (.builtin "len") (rLenSeq K) := by
  subst h
  exact call_len_seq
theorem op_neDK {X : Cx} (K : PySem.W.Frag) (hu : X.A.units + 64 < cLine) (h : X.K = K := by rfl) : OpR X (compareOp .NotEq) (rNeD K) := by
  subst h
  exact op_neD hu
theorem op_eqDK {X : Cx} (K : PySem.W.Frag) (hu : X.A.units + 64 < cLine) (h : X.K = K := by rfl) : OpR X (compareOp .Eq) (rEqD K) := by
  subst h
  exact op_eqD hu
theorem ix_listK {X : Cx} (K : PySem.W.Frag) (h : X.K = K := by rfl) : IxR X (rIxL K) := by
  subst h
  exact ix_list
theorem ix_tupK {X : Cx} (K : PySem.W.Frag) (h : X.K = K := by rfl) : IxR X (rIxT K) := by
  subst h
  exact ix_tup
theorem cons_erase {α : Type} : ∀ (l : List α) (k : Nat) (h : k < l.length), (l[k] :: l.eraseIdx k).Perm l
  | x :: l, 0, _ => List.Perm.refl _
  | x :: l, k + 1, h => (List.Perm.swap ..).trans ((cons_erase l k (Nat.lt_of_succ_lt_succ h)).cons x)
theorem pe_bmB {X : Cx} {o e : Expr} {es : List Expr} {to : TE} {t : TA} {name : Str} {apos cpos : Pos} {T id : String} {r : V → List V → Hp → VK → Prop} (K : PySem.W.Frag) (pa : PlainAttrs T) (slot : Slot T name id) (hty : typeOf (.builtin id) = pure (.type "method_descriptor")) (hm : MtR X id r) (ho : PE X o to) (ha : PA X (e :: es) t) (hK : X.K = K := by rfl)
    (hbase : attributeBase o name X.env (eval o X.env) = eval o X.env := by rfl)
    (hfew : ((backTo cpos (starEach (e :: es) X.env)).all (fun x => !x.1) && (backToKw cpos (keywordEach [] X.env)).all (fun x => x.1.isSome)
      && decide ((e :: es).length + ([] : List Keyword).length + (if ([] : List Keyword).isEmpty then 0 else 1) < 30)) = true := by rfl)
    (hline : (apos.endLine == cpos.line) = true := by rfl) (hs : starEach (e :: es) X.env = (false, eval e X.env) :: starEach es X.env := by rfl) (hplain : (backTo cpos (starEach es X.env)).any (·.1) = false := by rfl) :
    PE X (.Call (.Attribute o name apos) (e :: es) [] cpos) (tBM K T r to t) := by
  subst hK
  exact pe_bm pa slot hty hm ho ha hbase hfew hline hs hplain
theorem same_back {H H' : Hp} {p : Addr} (s : Same H H') (h : H' p = none) : H p = none := s.free h
end Wnd

/-! Windowsteps: the order of the rules, one answer for each set of them. -/
namespace Wnd
open PySem PySem.Spec PyProof.Rows L2
/-- a comes no later than b -/
def leR (a b : Rule) : Bool := W.dataLe false rankD a b
theorem leR_not (a b : Rule) : leR a b = !W.dataLt (rankD b) (rankD a) := rfl
theorem leR_total (a b : Rule) : (leR a b || leR b a) = true := by
  rw [leR_not, leR_not]
  cases h1 : W.dataLt (rankD b) (rankD a) with
  | false => rfl
  | true =>
    cases h2 : W.dataLt (rankD a) (rankD b) with
    | false => rfl
    | true =>
      have h := PyProof.Rows.lex_trans _ _ _ h1 h2
      rw [PyProof.Rows.lex_irrefl] at h
      cases h
theorem leR_trans (a b c : Rule) (h1 : leR a b = true) (h2 : leR b c = true) : leR a c = true := by
  rw [leR_not, Bool.not_eq_true'] at h1 h2 ⊢
  cases h : W.dataLt (rankD c) (rankD a) with
  | false => rfl
  | true =>
    rcases PyProof.Rows.lex_negTrans _ (W.keyToks (rankD b)) _ h with h | h
    · rw [show W.dataLt (rankD c) (rankD b) = true from h] at h2
      cases h2
    · rw [show W.dataLt (rankD b) (rankD a) = true from h] at h1
      cases h1
theorem leR_anti {a b : Rule} (ha : Named a) (hb : Named b) (h1 : leR a b = true) (h2 : leR b a = true) : a = b := by
  rw [leR_not, Bool.not_eq_true'] at h1 h2
  have h := PyProof.Rows.lex_total _ _ h2 h1
  refine rank_inj ha hb ?_
  cases e : PyData.eqv (rankD a) (rankD b) with
  | true => rfl
  | false =>
    rw [eqv_rank] at e
    simp [W.keyToks, W.keyToksAll, rankD] at h
    obtain ⟨x1, x2, x3⟩ := h
    have sx : ∀ {a b : Str}, a.cps = b.cps → a = b := fun {a b} z => by
      cases a
      cases b
      exact congrArg Str.mk z
    rw [sx x1, sx x2, x3] at e
    simp at e
/-- the rules in ascending order -/
def sortR (rs : List Rule) : List Rule := rs.mergeSort leR
theorem sortR_perm (rs : List Rule) : (sortR rs).Perm rs := List.mergeSort_perm _ _
theorem sortR_pair (rs : List Rule) : (sortR rs).Pairwise fun a b => leR a b = true := List.pairwise_mergeSort leR_trans leR_total rs
theorem sortR_one {a b : List Rule} (ha : ∀ r ∈ a, Named r) (hp : a.Perm b) : sortR a = sortR b := by
  have q : (sortR a).Perm (sortR b) := (sortR_perm a).trans (hp.trans (sortR_perm b).symm)
  refine List.Perm.eq_of_pairwise (fun x y hx hy => leR_anti (ha x ((sortR_perm a).mem_iff.mp hx)) (ha y (hp.mem_iff.mpr ((sortR_perm b).mem_iff.mp hy)))) (sortR_pair a) (sortR_pair b) q
theorem sortR_of {a : List Rule} (h : a.Pairwise fun a b => leR a b = true) : sortR a = a := List.mergeSort_of_pairwise h
theorem inOrder_map (L : List (Rule × Addr)) : (inOrder L).map (·.1) = sortR (L.map (·.1)) := List.map_mergeSort fun _ _ _ _ => rfl
theorem pairs_map (L : List Pr) : (pairsInOrder L).map (·.2.1) = sortR (L.map (·.2.1)) := List.map_mergeSort fun _ _ _ _ => rfl
/-- each rule once -/
def nubR (rs : List Rule) : List Rule := (putAll (rs.map fun r => (r, 0)) []).map (·.1)
theorem putR_map {r : Rule} {q q' : Addr} {L L' : List (Rule × Addr)} (h : L.map (·.1) = L'.map (·.1)) : (putR L r q).map (·.1) = (putR L' r q').map (·.1) := by
  unfold putR
  rw [h]
  split
  · exact h
  · rw [List.map_append, List.map_append, h]
    rfl
theorem putAll_map : ∀ {rs rs' L L' : List (Rule × Addr)}, rs.map (·.1) = rs'.map (·.1) → L.map (·.1) = L'.map (·.1) → (putAll rs L).map (·.1) = (putAll rs' L').map (·.1)
  | [], [], _, _, _, h => h
  | [], _ :: _, _, _, h, _ => nomatch h
  | _ :: _, [], _, _, h, _ => nomatch h
  | r :: rs, r' :: rs', L, L', h, h2 => by
    injection h with h1 h3
    show (putAll rs (putR L r.1 r.2)).map (·.1) = (putAll rs' (putR L' r'.1 r'.2)).map (·.1)
    refine putAll_map h3 ?_
    rw [show r'.1 = r.1 from h1.symm]
    exact putR_map h2
theorem nub_put (rs : List (Rule × Addr)) : (putAll rs []).map (·.1) = nubR (rs.map (·.1)) := by
  refine putAll_map ?_ rfl
  rw [List.map_map, List.map_map]
  rfl
theorem nubR_nodup (rs : List Rule) : (nubR rs).Nodup := putAll_nodup _ _ List.nodup_nil
theorem putR_mem {L : List (Rule × Addr)} {r x : Rule} {q : Addr} : x ∈ (putR L r q).map (·.1) ↔ x ∈ L.map (·.1) ∨ x = r := by
  unfold putR
  split
  · rename_i h
    exact ⟨.inl, fun z => z.elim id fun e => e ▸ h⟩
  · rw [List.map_append, List.mem_append]
    simp
theorem putAll_mem1 : ∀ (rs L : List (Rule × Addr)) (x : Rule), x ∈ (putAll rs L).map (·.1) ↔ x ∈ L.map (·.1) ∨ x ∈ rs.map (·.1)
  | [], L, x => by simp [putAll]
  | r :: rs, L, x => by
    show x ∈ (putAll rs (putR L r.1 r.2)).map (·.1) ↔ _
    rw [putAll_mem1 rs, putR_mem, List.map_cons, List.mem_cons]
    constructor
    · rintro ((h | h) | h)
      · exact .inl h
      · exact .inr (.inl h)
      · exact .inr (.inr h)
    · rintro (h | h | h)
      · exact .inl (.inl h)
      · exact .inl (.inr h)
      · exact .inr h
theorem nubR_mem (rs : List Rule) (x : Rule) : x ∈ nubR rs ↔ x ∈ rs := by
  unfold nubR
  rw [putAll_mem1, List.map_map]
  simp
theorem nubR_of {rs : List Rule} (h : rs.Nodup) : (nubR rs).Perm rs := (List.perm_ext_iff_of_nodup (nubR_nodup rs) h).mpr fun x => nubR_mem rs x
/-- the different rules in ascending order -/
def canon (rs : List Rule) : List Rule := sortR (nubR rs)
theorem canon_mem (rs : List Rule) (x : Rule) : x ∈ canon rs ↔ x ∈ rs := (sortR_perm _).mem_iff.trans (nubR_mem rs x)
theorem canon_nodup (rs : List Rule) : (canon rs).Nodup := (sortR_perm _).nodup_iff.mpr (nubR_nodup rs)
theorem canon_len (rs : List Rule) : (canon rs).length ≤ rs.length := by
  unfold canon
  rw [(sortR_perm _).length_eq, nubR, List.length_map]
  have := putAll_len (rs.map fun r => (r, 0)) []
  rw [List.length_map, List.length_nil] at this
  omega
theorem canon_same {a b : List Rule} (ha : ∀ r ∈ a, Named r) (h : ∀ x, x ∈ a ↔ x ∈ b) : canon a = canon b := by
  refine sortR_one (fun r hr => ha r ((nubR_mem a r).mp hr)) ((List.perm_ext_iff_of_nodup (nubR_nodup a) (nubR_nodup b)).mpr fun x => ?_)
  rw [nubR_mem, nubR_mem, h]
theorem canon_of {a : List Rule} (ha : ∀ r ∈ a, Named r) (nd : a.Nodup) (h : a.Pairwise fun a b => leR a b = true) : canon a = a := by
  have : sortR (nubR a) = sortR a := sortR_one (fun r hr => ha r ((nubR_mem a r).mp hr)) (nubR_of nd)
  rw [canon, this, sortR_of h]
theorem canon_canon {a : List Rule} (ha : ∀ r ∈ a, Named r) : canon (canon a) = canon a := canon_same (fun r hr => ha r ((canon_mem a r).mp hr)) (canon_mem a)
theorem canon_pair (a : List Rule) : (canon a).Pairwise fun a b => leR a b = true := sortR_pair _
theorem inOrder_canon (rs : List (Rule × Addr)) : (inOrder (putAll rs [])).map (·.1) = canon (rs.map (·.1)) := by
  rw [inOrder_map, nub_put]
  rfl

/-! ### names in ascending order -/
def leS (a b : Str) : Bool := !decide (b.cps.toList < a.cps.toList)
theorem leS_iff (a b : Str) : leS a b = true ↔ a.cps.toList ≤ b.cps.toList := by
  unfold leS
  rw [Bool.not_eq_true', decide_eq_false_iff_not]
  exact List.not_lt
theorem leS_total (a b : Str) : (leS a b || leS b a) = true := by
  rw [Bool.or_eq_true, leS_iff, leS_iff]
  exact List.le_total _ _
theorem leS_trans (a b c : Str) (h1 : leS a b = true) (h2 : leS b c = true) : leS a c = true := by
  rw [leS_iff] at h1 h2 ⊢
  exact List.le_trans h1 h2
theorem leS_anti {a b : Str} (h1 : leS a b = true) (h2 : leS b a = true) : a = b := by
  rw [leS_iff] at h1 h2
  have := List.le_antisymm h1 h2
  obtain ⟨⟨x⟩⟩ := a
  obtain ⟨⟨y⟩⟩ := b
  exact congrArg (fun l => Str.mk (Array.mk l)) this
theorem rising_pair : ∀ (p : Str) (l : List Str), PyProof.Rows.risingS p l = true → (p :: l).Pairwise fun a b => leS a b = true
  | p, [], _ => List.pairwise_singleton _ _
  | p, x :: r, h => by
    unfold PyProof.Rows.risingS at h
    rw [Bool.and_eq_true] at h
    have ih := rising_pair x r h.2
    have px : leS p x = true := by
      have h1 := h.1
      rw [PyProof.Rows.ltCps_eq] at h1
      exact h1
    refine List.pairwise_cons.mpr ⟨fun y hy => ?_, ih⟩
    rcases List.mem_cons.mp hy with rfl | hy
    · exact px
    · exact leS_trans p x y px ((List.pairwise_cons.mp ih).1 y hy)
theorem sorted_pair {l : List Str} (h : PyProof.Rows.sortedS l = true) : l.Pairwise fun a b => leS a b = true := by
  cases l with
  | nil => exact List.Pairwise.nil
  | cons x r => exact rising_pair x r h
def sortN (ts : List Str) : List Str := ts.mergeSort leS
theorem sortN_perm (ts : List Str) : (sortN ts).Perm ts := List.mergeSort_perm _ _
theorem sortN_of {ys ts : List Str} (hp : ys.Perm ts) (h : PyProof.Rows.sortedS ys = true) : ys = sortN ts :=
  List.Perm.eq_of_pairwise (fun x y _ _ => leS_anti) (sorted_pair h) (List.pairwise_mergeSort leS_trans leS_total ts) (hp.trans (sortN_perm ts).symm)
theorem sortN_one {a b : List Str} (h : a.Perm b) : sortN a = sortN b :=
  List.Perm.eq_of_pairwise (fun x y _ _ => leS_anti) (List.pairwise_mergeSort leS_trans leS_total a) (List.pairwise_mergeSort leS_trans leS_total b) ((sortN_perm a).trans (h.trans (sortN_perm b).symm))
theorem sortN_sortN (a : List Str) : sortN (sortN a) = sortN a := sortN_one (sortN_perm a)
end Wnd

/-! Windowsteps: l.count(x), items and x data of any depth. -/
namespace Wnd
open PySem PySem.Spec PyProof.Rows L2
variable {X : Cx}
def rCountD (K : PySem.W.Frag) : V → List V → Hp → VK → Prop := fun x xs H Q => ∃ (a : Addr) (y : V) (d : PyData) (ds : List PyData), x = V.ref a ∧ xs = [y] ∧ Dp K H (V.ref a) (.list ds) ∧ Dp K H y d ∧
  SeqAt.shaped (.list ds) = true ∧ SeqAt.shaped d = true ∧ Q (.int (ds.countP fun z => PyData.eqv z d : Nat)) H
theorem mt_countD (hu : X.A.units + 65 < cLine) : MtR X "list.count" (rCountD X.K) := by
  intro pins s σ H x xs v us Q I rx rxs h
  obtain ⟨a, y, d, ds, rfl, rfl, hl, hy, sl, sd, q⟩ := h
  cases rx
  obtain ⟨uy, rfl, ry⟩ := rxs.one
  obtain ⟨bs, r1⟩ := Dp.reads I d y uy hy ry
  have hxs : PyData.canLayAll0 ds = true := SeqAt.canLay_of_shaped sl
  have hroom : X.A.units + 1 + min (PyData.depthAll ds) d.depth < cLine := room_in_shaped sd hu
  cases hl with
  | lst hs ha =>
    obtain ⟨its, rv, ⟨⟨cls, dd, data, sls⟩, n, ho, hc, hdn, hdt⟩, hlen⟩ := I.list hs
    simp only at hc hdt
    subst hc hdt
    obtain ⟨as, h4⟩ := Dp.readsAll I ds _ its ha rv
    have hmap : its.map (SeqAt.readOf s.heap) = ds := SeqAt.readsAll_map ds its as hxs h4
    refine call_meets PySem.F.slot_list_count ⟨_, ho, rfl⟩ PySem.F.entry_list_count (PySem.F.args_list_count_2 _ _)
      (SeqAt.list_countAt a its.toArray n dd sls uy (fun u => PyData.eqv (SeqAt.readOf s.heap u) d)) ⟨ho, SeqAt.items_eqAt (vs := its.toArray) (show ReadsAll s.heap its.toArray.toList ds as from h4) r1 hxs (SeqAt.canLay_of_shaped sd) hroom, ?_⟩
    have ec : its.toArray.toList.countP (fun u => PyData.eqv (SeqAt.readOf s.heap u) d) = ds.countP fun z => PyData.eqv z d := by
      rw [← hmap, List.countP_map]
      rfl
    refine ⟨.int (ds.countP fun z => PyData.eqv z d : Nat), H, I.tok _, ⟨s.toks, ?_⟩, q⟩
    show Value.int ((its.toArray.toList.countP (fun u => PyData.eqv (SeqAt.readOf s.heap u) d) : Nat) : Int) s.toks = Value.int ((ds.countP fun z => PyData.eqv z d : Nat) : Int) s.toks
    rw [ec]
end Wnd

/-! Windowsteps: what the head of a law's proof finds of defs, methods, constants. -/
namespace Wnd
open PySem PySem.Spec PyProof.Rows L2
section
variable {K : PySem.W.Frag} {mg : Str → Option Value} {h : Heap}
/-- a def of the text, where the top has put it -/
def DefRaw (K : PySem.W.Frag) (x : Str) (st : Stmt) : Prop := ∃ (f : Addr) (oc : Value) (od an : Option Addr) (kV dc pm cd ct : Value) (sl : Array (Option Value)), PySem.W.nsIn K mainGlobals x = some (some (.ref f)) ∧
  K.lookup f = some ⟨oc, od, .func (PySem.W.fnOf x x (defArgs st) (defBody st) (defScope st) .none kV dc pm an cd ct), sl⟩ ∧ PySem.W.codeIn K cd x = true ∧ PySem.W.keepIn K (.ref f) = true
theorem defRaw_mk {x : Str} {st : Stmt} {f : Addr} {oc : Value} {od an : Option Addr} {kV dc pm cd ct : Value} {sl : Array (Option Value)} (a : PySem.W.nsIn K mainGlobals x = some (some (.ref f)))
    (b : K.lookup f = some ⟨oc, od, .func (PySem.W.fnOf x x (defArgs st) (defBody st) (defScope st) .none kV dc pm an cd ct), sl⟩) (c : PySem.W.codeIn K cd x = true) (d : PySem.W.keepIn K (.ref f) = true) : DefRaw K x st := ⟨f, oc, od, an, kV, dc, pm, cd, ct, sl, a, b, c, d⟩
theorem DefRaw.at {x : Str} {st : Stmt} {ps : List Str} (R : DefRaw K x st) (X : K.In h) (G : h.Ns mainGlobals mg)
    (hb : ∀ (kV doc pm : Value) (an : Option Addr) (cdv ct : Value) (us : List Value), us.length = ps.length → bindArgs (PySem.W.fnOf x x (defArgs st) (defBody st) (defScope st) .none kV doc pm an cdv ct) ⟨us, []⟩ = pure (ps.zip us)) :
    ∃ (f : Addr) (fd : FuncData), DefAt K mg x st ps f fd := by
  obtain ⟨f, oc, od, an, kV, dc, pm, cd, ct, sl, h1, h2, h3, h4⟩ := R
  have F := fun_mk (st := st) h2 h3 h4
  exact ⟨f, _, F, F.binds hb, PySem.W.mg_of X G h1⟩
/-- a method of a class -/
def MetRaw (K : PySem.W.Frag) (C : Addr) (x q : Str) (st : Stmt) : Prop := ∃ (f : Addr) (oc : Value) (od an : Option Addr) (kV dc pm cd ct : Value) (sl : Array (Option Value)), PySem.W.findIn K (.ref C) x = some (some (.ref f)) ∧ PySem.W.isFn K (.ref f) = true ∧
  K.lookup f = some ⟨oc, od, .func (PySem.W.fnOf x q (defArgs st) (defBody st) (defScope st) .none kV dc pm an cd ct), sl⟩ ∧ PySem.W.codeIn K cd q = true ∧ PySem.W.keepIn K (.ref f) = true
theorem metRaw_mk {C : Addr} {x q : Str} {st : Stmt} {f : Addr} {oc : Value} {od an : Option Addr} {kV dc pm cd ct : Value} {sl : Array (Option Value)} (a : PySem.W.findIn K (.ref C) x = some (some (.ref f))) (b : PySem.W.isFn K (.ref f) = true)
    (c : K.lookup f = some ⟨oc, od, .func (PySem.W.fnOf x q (defArgs st) (defBody st) (defScope st) .none kV dc pm an cd ct), sl⟩) (d : PySem.W.codeIn K cd q = true) (e : PySem.W.keepIn K (.ref f) = true) : MetRaw K C x q st := ⟨f, oc, od, an, kV, dc, pm, cd, ct, sl, a, b, c, d, e⟩
theorem MetRaw.at {C : Addr} {x q : Str} {st : Stmt} {ps : List Str} (R : MetRaw K C x q st)
    (hb : ∀ (kV doc pm : Value) (an : Option Addr) (cdv ct : Value) (us : List Value), us.length = ps.length → bindArgs (PySem.W.fnOf x q (defArgs st) (defBody st) (defScope st) .none kV doc pm an cdv ct) ⟨us, []⟩ = pure (ps.zip us)) :
    ∃ (f : Addr) (fd : FuncData), Fun K x q st f fd ∧ Binds K fd ps [] ∧ PySem.W.findIn K (.ref C) x = some (some (.ref f)) ∧ PySem.W.isFn K (.ref f) = true := by
  obtain ⟨f, oc, od, an, kV, dc, pm, cd, ct, sl, h1, h2, h3, h4, h5⟩ := R
  have F := fun_mk (st := st) h3 h4 h5
  exact ⟨f, _, F, F.binds hb, h1, h2⟩
/-- a static method of a class, as it is read off the class -/
def StatRaw (K : PySem.W.Frag) (C : Addr) (x q : Str) (st : Stmt) : Prop := ∃ (mc : Value) (p f : Addr) (oc : Value) (od an : Option Addr) (kV dc pm cd ct : Value) (sl : Array (Option Value)), PySem.W.readsIn K C mc = true ∧
  PySem.W.specialIn K (.ref C) "__getattribute__" = some (some (.builtin "type.__getattribute__")) ∧ PySem.W.findCls K (.ref C) mc x = some (.get (.builtin "staticmethod.__get__") (.ref p) .none (.ref C)) ∧ (∃ rest, PySem.W.recIn K p "staticmethod" = some (.ref f :: rest)) ∧
  K.lookup f = some ⟨oc, od, .func (PySem.W.fnOf x q (defArgs st) (defBody st) (defScope st) .none kV dc pm an cd ct), sl⟩ ∧ PySem.W.codeIn K cd q = true ∧ PySem.W.keepIn K (.ref f) = true
theorem statRaw_mk {C p : Addr} {x q : Str} {st : Stmt} {f : Addr} {oc : Value} {od an : Option Addr} {kV dc pm cd ct : Value} {sl : Array (Option Value)} {rest : List Value} (a : PySem.W.readsIn K C (.type "type") = true)
    (b : PySem.W.specialIn K (.ref C) "__getattribute__" = some (some (.builtin "type.__getattribute__"))) (c : PySem.W.findCls K (.ref C) (.type "type") x = some (.get (.builtin "staticmethod.__get__") (.ref p) .none (.ref C))) (d : PySem.W.recIn K p "staticmethod" = some (.ref f :: rest))
    (e : K.lookup f = some ⟨oc, od, .func (PySem.W.fnOf x q (defArgs st) (defBody st) (defScope st) .none kV dc pm an cd ct), sl⟩) (g : PySem.W.codeIn K cd q = true) (i : PySem.W.keepIn K (.ref f) = true) : StatRaw K C x q st :=
  ⟨.type "type", p, f, oc, od, an, kV, dc, pm, cd, ct, sl, a, b, c, ⟨rest, d⟩, e, g, i⟩
theorem StatRaw.at {C : Addr} {x q : Str} {st : Stmt} {ps : List Str} (R : StatRaw K C x q st)
    (hb : ∀ (kV doc pm : Value) (an : Option Addr) (cdv ct : Value) (us : List Value), us.length = ps.length → bindArgs (PySem.W.fnOf x q (defArgs st) (defBody st) (defScope st) .none kV doc pm an cdv ct) ⟨us, []⟩ = pure (ps.zip us)) :
    ∃ (mc : Value) (p g : Addr) (fd : FuncData), Fun K x q st g fd ∧ Binds K fd ps [] ∧ ClX.CRead K C mc ∧ SMet K C mc x p g := by
  obtain ⟨mc, p, f, oc, od, an, kV, dc, pm, cd, ct, sl, h1, h2, h3, h4, h5, h6, h7⟩ := R
  have F := fun_mk (st := st) h5 h6 h7
  exact ⟨mc, p, f, _, F, F.binds hb, ⟨h1, h2⟩, ⟨h3, h4, h7⟩⟩
/-- a property of a class: its getter's def -/
def PropRaw (K : PySem.W.Frag) (C : Addr) (x q : Str) (st : Stmt) : Prop := ∃ (p f : Addr) (oc : Value) (od an : Option Addr) (kV dc pm cd ct : Value) (sl : Array (Option Value)), PySem.W.findIn K (.ref C) x = some (some (.ref p)) ∧ PySem.W.specialIn K (.ref p) "__get__" = some (some (.builtin "property.__get__")) ∧
  PySem.W.takesIn K (.ref p) = some true ∧ (∃ rest, PySem.W.recIn K p "property" = some (.ref f :: rest)) ∧ K.lookup f = some ⟨oc, od, .func (PySem.W.fnOf x q (defArgs st) (defBody st) (defScope st) .none kV dc pm an cd ct), sl⟩ ∧ PySem.W.codeIn K cd q = true ∧ PySem.W.keepIn K (.ref f) = true
theorem propRaw_mk {C p : Addr} {x q : Str} {st : Stmt} {f : Addr} {oc : Value} {od an : Option Addr} {kV dc pm cd ct : Value} {sl : Array (Option Value)} {rest : List Value} (a : PySem.W.findIn K (.ref C) x = some (some (.ref p))) (b : PySem.W.specialIn K (.ref p) "__get__" = some (some (.builtin "property.__get__")))
    (c : PySem.W.takesIn K (.ref p) = some true) (d : PySem.W.recIn K p "property" = some (.ref f :: rest)) (e : K.lookup f = some ⟨oc, od, .func (PySem.W.fnOf x q (defArgs st) (defBody st) (defScope st) .none kV dc pm an cd ct), sl⟩) (g : PySem.W.codeIn K cd q = true) (i : PySem.W.keepIn K (.ref f) = true) : PropRaw K C x q st :=
  ⟨p, f, oc, od, an, kV, dc, pm, cd, ct, sl, a, b, c, ⟨rest, d⟩, e, g, i⟩
theorem PropRaw.at {C : Addr} {x q : Str} {st : Stmt} {ps : List Str} (R : PropRaw K C x q st)
    (hb : ∀ (kV doc pm : Value) (an : Option Addr) (cdv ct : Value) (us : List Value), us.length = ps.length → bindArgs (PySem.W.fnOf x q (defArgs st) (defBody st) (defScope st) .none kV doc pm an cdv ct) ⟨us, []⟩ = pure (ps.zip us)) :
    ∃ (p g : Addr) (fd : FuncData), Fun K x q st g fd ∧ Binds K fd ps [] ∧ PropOf K C x p g := by
  obtain ⟨p, f, oc, od, an, kV, dc, pm, cd, ct, sl, h1, h2, h3, h4, h5, h6, h7⟩ := R
  have F := fun_mk (st := st) h5 h6 h7
  exact ⟨p, f, _, F, F.binds hb, ⟨h1, h2, h3, h4⟩⟩
end
end Wnd

namespace Wnd
open PySem PySem.Spec PyProof.Rows L2
def top (i : Nat) : Stmt := PySem.Challenge.pw_windowsteps_k37_binds.main.body.getD i (.Pass ⟨0, 0, 0, 0⟩)
abbrev s_law_pen : Stmt := top 51
theorem sc_law_pen : FnScope ["_law_script"] ["_law_script"] (defScope s_law_pen) := ⟨rfl, rfl, rfl, by decide +kernel, rfl, by decide +kernel, by decide +kernel⟩
abbrev s_law_next : Stmt := top 52
theorem sc_law_next : FnScope ["_law_pen_here", "_law_index", "_law_cell", "_law_some_here", "_law_more", "_law_top"] ["_law_pen_here"] (defScope s_law_next) := ⟨rfl, rfl, rfl, by decide +kernel, rfl, by decide +kernel, by decide +kernel⟩
abbrev s_law_draw : Stmt := top 53
theorem sc_law_draw : FnScope ["_law_pen_here", "_law_under", "_law_digit"] ["_law_pen_here", "_law_under"] (defScope s_law_draw) := ⟨rfl, rfl, rfl, by decide +kernel, rfl, by decide +kernel, by decide +kernel⟩
structure Blt (mg : Str → Option Value) : Prop where
  len : mg "len" = none
  list : mg "list" = none
  range : mg "range" = none
  min : mg "min" = none
  max : mg "max" = none
  dict : mg "dict" = none
  sorted : mg "sorted" = none
section
variable {P : Program} {w : World} {K : PySem.W.Frag} {mg : Str → Option Value} {base : Heap}
theorem ok_pen {f : Addr} {fd : FuncData} (D : DefAt K mg "_law_pen" s_law_pen ["_law_script"] f fd) (B : Blt mg) : Ok P w K mg base 1 "_law_pen" ["_law_script"] (spPen K) := by
  refine D.ok (D.fn.ok sc_law_pen (fun vs H Q E h => ?_) (fun cdv A outer s H vs Q E hr h => ?_))
  · obtain ⟨a, ns, rfl, _⟩ := h
    rfl
  · obtain ⟨a, ns, rfl, hS, hlen, q⟩ := h
    refine ⟨_, (pss_one (ps_ret (pe_lst (pa_cons (pe_callTy call_list_of (by rfl) B.list (by decide +kernel) (pa_cons (pe_slice sl_list (pv 0) po_none (po_some pe_int)) pa_nil)) (pa_cons pe_int (pa_cons pe_int pa_nil)))))), ?_⟩
    refine ⟨_, rfl, 60, rfl, a, _, rfl, hS, fun c1 n1 => ?_⟩
    have s1 : Same H _ := same_new (o := .lst (cutV (ns.map V.int) none (some 60))) n1
    refine ⟨c1, _, rfl, .inl (SqL.of upd_same), fun c n2 => ?_⟩
    have s2 := s1.trans (same_new (o := .lst (cutV (ns.map V.int) none (some 60))) n2)
    refine ⟨by show 3 ≤ sizeLine; decide, fun p n3 => ?_⟩
    have s3 := s2.trans (same_new (o := .lst [.ref c, .int 0, .int 0]) n3)
    have ncp : c ≠ p := fun e => by
      rw [e, upd_same] at n3
      cases n3
    refine q p c _ s3 (s2.free n3) (s1.free n2) ⟨ns.take 60, 0, 0, ?_, Nat.le_refl _, ?_, upd_same⟩
    · rw [List.length_take]
      omega
    · rw [upd_ne ncp, upd_same]
      congr 2
      rw [List.map_take]
      unfold cutV
      rw [HT.sIx_none, show HT.sIx (ns.map V.int).length (ns.map V.int).length (some 60) = min 60 (ns.map V.int).length from HT.sIx_nat _ _ 60, List.drop_zero, Nat.sub_zero]
      by_cases hl : (ns.map V.int).length ≤ 60
      · rw [Nat.min_eq_right hl, List.take_length, List.take_of_length_le hl]
      · rw [Nat.min_eq_left (by omega)]
theorem dp_ints {H : Hp} : ∀ cs : List Int, DpAll K H (cs.map V.int) (cs.map PyData.int)
  | [] => .nil
  | c :: r => .cons (.int c) (dp_ints r)
theorem lay_ints : ∀ cs : List Int, PyData.canLayAll0 (cs.map PyData.int) = true ∧ PyData.depthAll (cs.map PyData.int) = 0
  | [] => ⟨by simp [PyData.canLayAll0], by simp [PyData.depthAll]⟩
  | c :: r => by
    obtain ⟨h1, h2⟩ := lay_ints r
    refine ⟨?_, ?_⟩
    · simp [PyData.canLayAll0, PyData.canLay0, h1]
    · simp [PyData.depthAll, PyData.depth, h2]
theorem shaped_ints (cs : List Int) : SeqAt.shaped (.list (cs.map PyData.int)) = true := by
  obtain ⟨h1, h2⟩ := lay_ints cs
  simp [SeqAt.shaped, PyData.canLay0, h1, PyData.depth, h2]
theorem mod_sm {a m : Int} (h0 : 0 < m) (h : m < 2 ^ 64) : -(2 ^ 64) < a % m ∧ a % m < 2 ^ 64 := by
  have h1 := Int.emod_nonneg a (show m ≠ 0 by omega)
  have h2 := Int.emod_lt_of_pos a h0
  omega
theorem ok_next {f : Addr} {fd : FuncData} (D : DefAt K mg "_law_next" s_law_next ["_law_pen_here"] f fd) (B : Blt mg) : Ok P w K mg base 1 "_law_next" ["_law_pen_here"] spNext := by
  refine D.ok (D.fn.ok sc_law_next (fun vs H Q E h => ?_) (fun cdv A outer s H vs Q E hr h => ?_))
  · obtain ⟨p, c, n, rfl, _⟩ := h
    rfl
  · obtain ⟨p, c, n, rfl, hP, hn, q⟩ := h
    have ncp := hP.ne
    obtain ⟨cs, i, z, hcs, hi, hc, hp⟩ := hP
    have nd := sc_law_next.nd
    refine ⟨_, (pss_cons (ps_set (i := 1) nd rfl (Or.inl rfl) (pe_ix ix_list (pv 0) pe_int (fun _ _ => rfl)))
      (pss_cons (ps_asg (pe_op op_add (pv 1) pe_int) (pg_sub (pv 0) pe_int set_list))
      (pss_cons (ps_set (i := 2) nd rfl (Or.inl rfl) (pe_op op_add (pe_op op_mul (pv 1) pe_int) pe_int))
      (C8.pss_cut (ps_if (pt_cmpR (op_neD (hu_of64 hr)) (pe_ix ix_list (pv 0) pe_int (fun _ _ => rfl)) (pe_lst pa_nil) (nomark _)) (pss_one (ps_set (i := 2) nd rfl (Or.inl rfl) (pe_ix ix_list (pe_ix ix_list (pv 0) pe_int (fun _ _ => rfl)) (pe_op op_mod (pv 1) (pe_callB call_len_seq (by rfl) B.len PySem.boot_len (pa_cons (pe_ix ix_list (pv 0) pe_int (fun _ _ => rfl)) pa_nil))) (fun _ _ => rfl)))) pss_nil)
      (C8.pss_cut (ps_if (PW.pt (pw_and (pt_cmpR op_lt (pv 1) (pe_callB call_len_seq (by rfl) B.len PySem.boot_len (pa_cons (pe_ix ix_list (pv 0) pe_int (fun _ _ => rfl)) pa_nil)) (nomark _)) (pw_and1 (pt_cmpR op_ge (pv 2) (pe_op op_pow pe_int pe_int) (nomark _))))) (pss_one (ps_ret (pv 2))) pss_nil)
      (pss_cons (ps_set (i := 3) nd rfl (Or.inl rfl) (pe_op op_mod (pe_op op_add (pe_op op_add (pe_op op_mod (pv 2) pe_int) (pe_op op_mul (pv 1) pe_int)) pe_int) pe_int))
      (pss_cons (ps_set (i := 4) nd rfl (Or.inl rfl) (pe_op op_mod (pe_op op_add (pe_op op_add (pe_op op_mul (pv 3) (pv 3)) (pe_op op_mul (pv 1) pe_int)) pe_int) pe_int))
      (pss_cons (ps_set (i := 5) nd rfl (Or.inl rfl) (pe_op op_mod (pe_op op_add (pe_op op_add (pe_op op_mul (pv 4) (pv 4)) (pv 3)) (pe_op op_mul (pe_op op_mul (pv 1) (pv 1)) pe_int)) pe_int))
      (pss_one (ps_ret (pe_op op_add (pe_op op_mul (pe_op op_add (pe_op op_mul (pv 5) pe_int) (pv 4)) pe_int) (pv 3)))))))))))), ?_⟩
    -- index
    refine ⟨_, rfl, p, _, 1, _, rfl, rfl, SqL.of hp, rfl, ?_⟩
    -- pen[1] = index + 1
    refine ⟨_, rfl, i, 1, rfl, rfl, _, rfl, p, _, 1, 1, rfl, rfl, hp, rfl, ?_⟩
    -- cell = index * 1061 + 37
    refine ⟨_, rfl, i, 1061, rfl, rfl, .inr ⟨by decide, by decide⟩, _, 37, rfl, rfl, ?_⟩
    have hp1 : (upd H p (.lst [.ref c, .int (i + 1), .int z])) p = some (.lst [.ref c, .int (i + 1), .int z]) := upd_same
    have hc1 : (upd H p (.lst [.ref c, .int (i + 1), .int z])) c = some (.lst (cs.map V.int)) := by
      rw [upd_ne ncp]
      exact hc
    have b1 : But p H (upd H p (.lst [.ref c, .int (i + 1), .int z])) := But.upd
    generalize hH1 : upd H p (.lst [.ref c, .int (i + 1), .int z]) = H1 at hp1 hc1 b1
    -- if pen[0] != []
    refine ⟨fun σ H2 => ∃ cell : Int, σ = [some (.ref p), some (.int i), some (.int cell), none, none, none] ∧ Same H1 H2, ?_, ?_⟩
    · rw [← hH1] at hp1 hc1 ⊢
      refine ⟨_, rfl, p, _, 0, _, rfl, rfl, SqL.of hp1, rfl, Nat.zero_le _, fun t nt => ?_⟩
      have s1 := same_new (o := .lst []) nt
      have hp2 := s1 _ _ hp1
      have hc2 := s1 _ _ hc1
      refine ⟨_, _, .lst (SqL.of hc2) (dp_ints cs), .lst (SqL.of upd_same) (dp_ints []), shaped_ints cs, shaped_ints [], _, rfl, ?_⟩
      cases cs with
      | nil =>
        refine iteF ?_
        exact ⟨_, rfl, s1⟩
      | cons x r =>
        refine iteT ?_
        refine ⟨_, rfl, p, _, 0, _, rfl, rfl, SqL.of hp2, rfl, _, rfl, _, rfl, p, _, 0, _, rfl, rfl, SqL.of hp2, rfl, c, _, rfl, .inl (SqL.of hc2), _, _, rfl, rfl, ?_, ?_⟩
        · show (0 : Int) < (((x :: r).map V.int).length : Nat)
          rw [List.length_map, List.length_cons]
          omega
        · have hm0 : 0 ≤ (i : Int) % (((x :: r).map V.int).length : Nat) := Int.emod_nonneg _ (by rw [List.length_map, List.length_cons]; omega)
          have hm1 : (i : Int) % (((x :: r).map V.int).length : Nat) < (((x :: r).map V.int).length : Nat) := Int.emod_lt_of_pos _ (by rw [List.length_map, List.length_cons]; omega)
          generalize hj : (i : Int) % (((x :: r).map V.int).length : Nat) = j at hm0 hm1
          obtain ⟨k, rfl⟩ := Int.eq_ofNat_of_zero_le hm0
          have hk : k < (x :: r).length := by
            rw [List.length_map] at hm1
            omega
          refine ⟨c, _, k, .int (x :: r)[k], rfl, congrArg V.int hj, SqL.of hc2, atI_nat (by rw [List.getElem?_map, List.getElem?_eq_getElem hk]; rfl), ?_⟩
          exact ⟨_, rfl, s1⟩
    · rintro σ H2 ⟨cell, rfl, s2⟩
      have hp2 := s2 _ _ hp1
      have hc2 := s2 _ _ hc1
      have b2 : But p H H2 := b1.trans (But.of s2)
      have fin : ∀ r : Int, Q (.int r) H2 := fun r => q r H2 b2 ⟨cs, i + 1, z, hcs, by omega, hc2, hp2⟩
      -- if index < len(pen[0]) and cell >= 10 ** 18: return cell
      refine ⟨fun σ H3 => σ = [some (.ref p), some (.int i), some (.int cell), none, none, none] ∧ H3 = H2, ?_, ?_⟩
      · refine ⟨_, rfl, _, rfl, p, _, 0, _, rfl, rfl, SqL.of hp2, rfl, c, _, rfl, .inl (SqL.of hc2), _, _, rfl, rfl, _, rfl, ?_⟩
        refine ite2 (fun _ => ?_) (fun _ => ?_)
        · refine ⟨_, rfl, 10, 18, rfl, rfl, ⟨by decide, by decide, by decide⟩, _, _, rfl, rfl, _, rfl, ?_⟩
          refine ite2 (fun _ => ?_) (fun _ => ⟨rfl, rfl⟩)
          exact ⟨_, rfl, fin _⟩
        · exact iteF ⟨rfl, rfl⟩
      · rintro σ H3 ⟨rfl, rfl⟩
        refine ⟨_, rfl, cell, 2147483587, rfl, rfl, (by show (0 : Int) < 2147483587; decide), _, rfl, i, 50069, rfl, rfl, .inr ⟨by decide, by decide⟩, _, _, rfl, rfl, _, 61, rfl, rfl, _, 2147483587, rfl, rfl, (by show (0 : Int) < 2147483587; decide), ?_⟩
        refine ⟨_, rfl, _, rfl, _, _, rfl, rfl, .inl (mod_sm (by decide) (by decide)), _, rfl, i, 40013, rfl, rfl, .inr ⟨by decide, by decide⟩, _, _, rfl, rfl, _, 43, rfl, rfl, _, 2147483563, rfl, rfl, (by show (0 : Int) < 2147483563; decide), ?_⟩
        refine ⟨_, rfl, _, rfl, _, _, rfl, rfl, .inl (mod_sm (by decide) (by decide)), _, rfl, _, _, rfl, rfl, _, rfl, _, rfl, i, i, rfl, rfl, .inl ⟨by omega, by omega⟩, _, 19, rfl, rfl, .inr ⟨by decide, by decide⟩, _, _, rfl, rfl, _, 2147483549, rfl, rfl, (by show (0 : Int) < 2147483549; decide), ?_⟩
        refine ⟨_, rfl, _, 2147483587, rfl, rfl, .inr ⟨by decide, by decide⟩, _, rfl, _, _, rfl, rfl, _, 2147483563, rfl, rfl, .inr ⟨by decide, by decide⟩, _, rfl, _, _, rfl, rfl, ?_⟩
        exact fin _
theorem ok_draw {f : Addr} {fd : FuncData} (D : DefAt K mg "_law_draw" s_law_draw ["_law_pen_here", "_law_under"] f fd) (O_law_next : Ok P w K mg base 1 "_law_next" ["_law_pen_here"] spNext) : Ok P w K mg base 2 "_law_draw" ["_law_pen_here", "_law_under"] spDraw := by
  refine D.ok (D.fn.ok sc_law_draw (fun vs H Q E h => ?_) (fun cdv A outer s H vs Q E hr h => ?_))
  · obtain ⟨p, c, n, u, rfl, _⟩ := h
    rfl
  · obtain ⟨p, c, n, u, rfl, hP, hn, hu0, hu1, q⟩ := h
    have ncp := hP.ne
    have nd := sc_law_draw.nd
    refine ⟨_, (C8.pss_cut (ps_if (pt_cmpR op_lt (pe_ix ix_list (pv 0) pe_int (fun _ _ => rfl)) (pv 1) (nomark _)) (pss_one (ps_asg (pe_own O_law_next (hr.mono (by decide)) (pa_cons (pv 0) pa_nil)) (pg_sub (pv 0) pe_int set_list))) pss_nil)
      (pss_cons (ps_set (i := 2) nd rfl (Or.inl rfl) (pe_op op_mod (pe_ix ix_list (pv 0) pe_int (fun _ _ => rfl)) (pv 1)))
      (pss_cons (ps_asg (pe_op op_fdiv (pe_ix ix_list (pv 0) pe_int (fun _ _ => rfl)) (pv 1)) (pg_sub (pv 0) pe_int set_list))
      (pss_one (ps_ret (pv 2)))))), ?_⟩
    refine ⟨fun σ H2 => σ = [some (.ref p), some (.int u), none] ∧ But p H H2 ∧ PenAt H2 p c (n + 1), ?_, ?_⟩
    · have hP' := hP
      obtain ⟨cs, i, z, hcs, hi, hc, hp⟩ := hP
      refine ⟨_, rfl, p, _, 2, _, rfl, rfl, SqL.of hp, rfl, _, rfl, _, _, rfl, rfl, _, rfl, ?_⟩
      refine ite2 (fun _ => ?_) (fun _ => ⟨rfl, But.refl _ _, hP'.le (Nat.le_succ _)⟩)
      refine ⟨_, rfl, p, c, n, rfl, hP', hn, fun r H2 b2 hP2 => ?_⟩
      obtain ⟨cs, i, z, hcs, hi, hc, hp⟩ := hP2
      refine ⟨_, rfl, p, _, 2, 2, rfl, rfl, hp, rfl, ?_⟩
      refine ⟨rfl, b2.trans But.upd, cs, i, r, hcs, hi, ?_, upd_same⟩
      rw [upd_ne ncp]
      exact hc
    · rintro σ H2 ⟨rfl, b2, cs, i, z, hcs, hi, hc, hp⟩
      refine ⟨_, rfl, p, _, 2, _, rfl, rfl, SqL.of hp, rfl, _, rfl, z, u, rfl, rfl, hu0, ?_⟩
      refine ⟨_, rfl, p, _, 2, _, rfl, rfl, SqL.of hp, rfl, _, rfl, z, u, rfl, rfl, ⟨hu0, by omega⟩, _, rfl, p, _, 2, 2, rfl, rfl, hp, rfl, ?_⟩
      refine ⟨_, rfl, q _ _ (Int.emod_nonneg _ (by omega)) (Int.emod_lt_of_pos _ hu0) (b2.trans But.upd) ⟨cs, i, z / u, hcs, hi, ?_, upd_same⟩⟩
      rw [upd_ne ncp]
      exact hc
end
end Wnd

namespace Wnd
open PySem PySem.Spec PyProof.Rows L2
abbrev s_is_integer : Stmt := top 19
theorem sc_is_integer : FnScope ["thing"] ["thing"] (defScope s_is_integer) := ⟨rfl, rfl, rfl, by decide +kernel, rfl, by decide +kernel, by decide +kernel⟩
abbrev s_is_integer_within : Stmt := top 20
theorem sc_is_integer_within : FnScope ["thing", "least", "greatest"] ["thing", "least", "greatest"] (defScope s_is_integer_within) := ⟨rfl, rfl, rfl, by decide +kernel, rfl, by decide +kernel, by decide +kernel⟩
abbrev s_is_name : Stmt := top 21
theorem sc_is_name : FnScope ["thing", "letter"] ["thing"] (defScope s_is_name) := ⟨rfl, rfl, rfl, by decide +kernel, rfl, by decide +kernel, by decide +kernel⟩
abbrev s_System___init : Stmt := inClass (top 39) 0
theorem sc_System___init : FnScope ["self", "names", "rules"] ["self", "names", "rules"] (defScope s_System___init) := ⟨rfl, rfl, rfl, by decide +kernel, rfl, by decide +kernel, by decide +kernel⟩
abbrev s_System_names : Stmt := inClass (top 39) 1
theorem sc_System_names : FnScope ["self"] ["self"] (defScope s_System_names) := ⟨rfl, rfl, rfl, by decide +kernel, rfl, by decide +kernel, by decide +kernel⟩
abbrev s_System_rules : Stmt := inClass (top 39) 2
theorem sc_System_rules : FnScope ["self"] ["self"] (defScope s_System_rules) := ⟨rfl, rfl, rfl, by decide +kernel, rfl, by decide +kernel, by decide +kernel⟩
abbrev s_System___eq : Stmt := inClass (top 39) 7
theorem sc_System___eq : FnScope ["self", "other"] ["self", "other"] (defScope s_System___eq) := ⟨rfl, rfl, rfl, by decide +kernel, rfl, by decide +kernel, by decide +kernel⟩
abbrev s_System_is_rule : Stmt := inClass (top 39) 8
theorem sc_System_is_rule : FnScope ["thing", "low", "high", "gap"] ["thing"] (defScope s_System_is_rule) := ⟨rfl, rfl, rfl, by decide +kernel, rfl, by decide +kernel, by decide +kernel⟩
abbrev s_is_end : Stmt := top 40
theorem sc_is_end : FnScope ["thing"] ["thing"] (defScope s_is_end) := ⟨rfl, rfl, rfl, by decide +kernel, rfl, by decide +kernel, by decide +kernel⟩
abbrev s_are_different_names : Stmt := top 41
theorem sc_are_different_names : FnScope ["things", "thing"] ["things"] (defScope s_are_different_names) := ⟨rfl, rfl, rfl, by decide +kernel, rfl, by decide +kernel, by decide +kernel⟩
abbrev s_are_rules_between : Stmt := top 42
theorem sc_are_rules_between : FnScope ["things", "names", "ends", "low", "high", "_", "thing"] ["things", "names"] (defScope s_are_rules_between) := ⟨rfl, rfl, rfl, by decide +kernel, rfl, by decide +kernel, by decide +kernel⟩
abbrev s_ascending : Stmt := top 43
theorem sc_ascending : FnScope ["rules", "different", "rule"] ["rules"] (defScope s_ascending) := ⟨rfl, rfl, rfl, by decide +kernel, rfl, by decide +kernel, by decide +kernel⟩
abbrev s_rank : Stmt := top 44
theorem sc_rank : FnScope ["rule", "low", "high", "gap"] ["rule"] (defScope s_rank) := ⟨rfl, rfl, rfl, by decide +kernel, rfl, by decide +kernel, by decide +kernel⟩
structure Blt2 (mg : Str → Option Value) : Prop extends Blt mg where
  isinstance : mg "isinstance" = none
  int : mg "int" = none
  bool : mg "bool" = none
  str : mg "str" = none
  tuple : mg "tuple" = none
  all : mg "all" = none
  set : mg "set" = none
section
variable {P : Program} {w : World} {K : PySem.W.Frag} {mg : Str → Option Value} {base : Heap}
/-! ### kinds -/
/-- is x an integer -/
def IntQ (K : PySem.W.Frag) (H : Hp) (x : V) (b : Bool) : Prop := (∃ i, x = .int i ∧ b = true) ∨ (∃ k, x = .bl k ∧ b = false) ∨ (∃ t, TyX K H x t ∧ PySem.W.kitOne K t (.type "int") = some false ∧ b = false)
def spIsInt (K : PySem.W.Frag) : Sp := fun vs H Q _ => ∃ x b, vs = [x] ∧ IntQ K H x b ∧ Q (.bl b) H
theorem ok_is_integer {f : Addr} {fd : FuncData} (D : DefAt K mg "is_integer" s_is_integer ["thing"] f fd) (B : Blt2 mg) : Ok P w K mg base 1 "is_integer" ["thing"] (spIsInt K) := by
  refine D.ok (D.fn.ok sc_is_integer (fun vs H Q E h => ?_) (fun cdv A outer s H vs Q E hr h => ?_))
  · obtain ⟨x, b, rfl, _⟩ := h
    rfl
  · obtain ⟨x, b, rfl, hx, q⟩ := h
    refine ⟨_, (pss_one (ps_ret (pe_and (pe_callB call_isi (by rfl) B.isinstance (by decide +kernel) (pa_cons (pv 0) (pa_cons (pe_bltn (v := .ty "int") (by rfl) B.int (by decide +kernel) rfl) pa_nil))) (pe_one (pe_not (pe_callB call_isi (by rfl) B.isinstance (by decide +kernel) (pa_cons (pv 0) (pa_cons (pe_bltn (v := .ty "bool") (by rfl) B.bool (by decide +kernel) rfl) pa_nil)))))))), ?_⟩
    rcases hx with ⟨i, rfl, rfl⟩ | ⟨k, rfl, rfl⟩ | ⟨t, ty, kt, rfl⟩
    · refine ⟨_, rfl, _, _, _, _, true, rfl, .ty _, .base (.int i), kit_ty (by decide +kernel), true, rfl, ?_⟩
      refine ⟨_, rfl, _, _, _, _, false, rfl, .ty _, .base (.int i), kit_ty (by decide +kernel), false, rfl, ?_⟩
      exact q
    · refine ⟨_, rfl, _, _, _, _, true, rfl, .ty _, .base (.bl k), kit_ty (by decide +kernel), true, rfl, ?_⟩
      refine ⟨_, rfl, _, _, _, _, true, rfl, .ty _, .base (.bl k), kit_ty (by decide +kernel), true, rfl, ?_⟩
      exact q
    · refine ⟨_, rfl, _, _, _, _, false, rfl, .ty _, ty, kt, false, rfl, ?_⟩
      exact q
/-- is x an integer from lo to hi -/
def InQ (K : PySem.W.Frag) (H : Hp) (x : V) (lo hi : Int) (b : Bool) : Prop := (∃ i, x = .int i ∧ b = (decide (lo ≤ i) && decide (i ≤ hi))) ∨ (IntQ K H x false ∧ b = false)
def spIsIn (K : PySem.W.Frag) : Sp := fun vs H Q _ => ∃ x lo hi b, vs = [x, .int lo, .int hi] ∧ InQ K H x lo hi b ∧ Q (.bl b) H
theorem ok_is_integer_within {f : Addr} {fd : FuncData} (D : DefAt K mg "is_integer_within" s_is_integer_within ["thing", "least", "greatest"] f fd) (B : Blt2 mg) (O_is_integer : Ok P w K mg base 1 "is_integer" ["thing"] (spIsInt K)) :
    Ok P w K mg base 2 "is_integer_within" ["thing", "least", "greatest"] (spIsIn K) := by
  refine D.ok (D.fn.ok sc_is_integer_within (fun vs H Q E h => ?_) (fun cdv A outer s H vs Q E hr h => ?_))
  · obtain ⟨x, lo, hi, b, rfl, _⟩ := h
    rfl
  · obtain ⟨x, lo, hi, b, rfl, hx, q⟩ := h
    refine ⟨_, (pss_one (ps_ret (pe_and (pe_own O_is_integer (hr.mono (by decide)) (pa_cons (pv 0) pa_nil)) (pe_one (pe_chain op_le op_le (pv 1) (pv 0) (pv 2)))))), ?_⟩
    rcases hx with ⟨i, rfl, rfl⟩ | ⟨hn, rfl⟩
    · refine ⟨_, rfl, _, true, rfl, .inl ⟨i, rfl, rfl⟩, true, rfl, ?_⟩
      refine ⟨_, rfl, _, rfl, lo, i, rfl, rfl, _, rfl, ?_⟩
      refine ite2 (fun e => ?_) (fun e => ?_)
      · refine ⟨_, rfl, i, hi, rfl, rfl, ?_⟩
        rw [e, Bool.true_and] at q
        exact q
      · rw [Bool.not_eq_true] at e
        rw [e, Bool.false_and] at q
        exact q
    · exact ⟨_, rfl, x, false, rfl, hn, false, rfl, q⟩

/-! ### names -/
def letterOk (c : Nat) : Bool := !decide ([c] < [97]) && !decide ([122] < [c])
def nameB (t : Str) : Bool := decide ((1 : Int) ≤ t.length) && decide ((t.length : Int) ≤ 8) && t.cps.toList.all letterOk
def NamQ (K : PySem.W.Frag) (H : Hp) (x : V) (b : Bool) : Prop := (∃ t : Str, x = .str t ∧ t.length ≤ sizeLine ∧ b = nameB t) ∨ (∃ t, TyX K H x t ∧ PySem.W.kitOne K t (.type "str") = some false ∧ b = false)
def spIsName (K : PySem.W.Frag) : Sp := fun vs H Q _ => ∃ x b, vs = [x] ∧ NamQ K H x b ∧ ∀ H', Same H H' → Q (.bl b) H'
theorem ok_is_name {f : Addr} {fd : FuncData} (D : DefAt K mg "is_name" s_is_name ["thing"] f fd) (B : Blt2 mg) (C_LONGEST_NAME : ∃ t, mg "LONGEST_NAME" = some (.int 8 t)) : Ok P w K mg base 1 "is_name" ["thing"] (spIsName K) := by
  obtain ⟨lt, C_LONGEST_NAME⟩ := C_LONGEST_NAME
  refine D.ok (D.fn.ok sc_is_name (fun vs H Q E h => ?_) (fun cdv A outer s H vs Q E hr h => ?_))
  · obtain ⟨x, b, rfl, _⟩ := h
    rfl
  · obtain ⟨x, b, rfl, hx, q⟩ := h
    have nd := sc_is_name.nd
    refine ⟨_, (pss_cons (ps_if (PW.pt (pw_or (pt_not (pt_val (pe_callB call_isi (by rfl) B.isinstance (by decide +kernel) (pa_cons (pv 0) (pa_cons (pe_bltn (v := .ty "str") (by rfl) B.str (by decide +kernel) rfl) pa_nil))))) (pw_or1 (pt_not (pt_chain op_le op_le pe_int (pe_callB call_len_str (by rfl) B.len PySem.boot_len (pa_cons (pv 0) pa_nil)) (pe_glob (v := .int 8) rfl C_LONGEST_NAME ⟨_, rfl⟩)))))) (pss_one (ps_ret pe_bl)) pss_nil)
      (pss_one (ps_ret (pe_callB (cr_all rfl) (by rfl) B.all (by decide +kernel) (pa_cons (pe_lc (own := [("letter", 1)]) (g := gName 1) (tt := tYes) (by rfl) nd (pi_str (pv 0)) (blkOk_by (own := [("letter", 1)]) (N := ["thing", "letter"]) (sc := defScope s_is_name) (by decide +kernel)) (fun _ _ _ _ _ => (pg_name (i := 1) nd rfl (Or.inl rfl))) (fun _ _ _ _ _ => pts_nil) (fun _ _ _ _ _ => (pe_chain op_le_str op_le_str pe_str (pv 1) pe_str))) pa_nil))))), ?_⟩
    rcases hx with ⟨t, rfl, hz, rfl⟩ | ⟨ty, hty, kt, rfl⟩
    · refine ⟨_, rfl, _, _, _, _, true, rfl, .ty _, .base (.str t), kit_ty (by decide +kernel), true, rfl, ?_⟩
      refine ⟨_, rfl, t, rfl, hz, 1, t.length, rfl, rfl, _, rfl, ?_⟩
      refine ite2 (fun e1 => ?_) (fun e1 => ?_)
      · refine ⟨t.length, 8, rfl, rfl, _, rfl, ?_⟩
        refine ite2 (fun e2 => ?_) (fun e2 => ?_)
        · rw [Bool.not_eq_true'] at e2
          have : nameB t = false := by unfold nameB; rw [e2]; simp
          rw [this] at q
          exact q _ (Same.refl _)
        · rw [Bool.not_eq_true, Bool.not_eq_false'] at e2
          refine ⟨_, rfl, t, rfl, fun D hD => ?_⟩
          refine lc_map walk_str hD (t.cps.toList.map fun c => V.bl (letterOk c)) (by rw [List.length_map, Array.length_toList]) (by
            have h8 := of_decide_eq_true e2
            have : t.length = t.cps.size := rfl
            have : sizeLine > 8 := by decide
            omega) (fun _ _ => True.intro) ?_ ?_
          · rintro i x H2 H' hi R L s1 ⟨rfl, c, hc, rfl⟩ hR
            have hR := hR _ (Same.refl _)
            have ec : (t.cps.toList.map fun c => V.bl (letterOk c))[i] = V.bl (letterOk c) := by
              rw [List.getElem_map]
              have h2 : t.cps.toList[i]? = some c := by rw [← hc]; simp
              obtain ⟨h3, h4⟩ := List.getElem?_eq_some_iff.mp h2
              rw [h4]
            rw [ec] at hR
            refine ⟨rfl, ?_⟩
            refine iteT (B := L H') ?_
            refine ⟨_, rfl, ?_⟩
            refine ⟨_, _, rfl, rfl, _, rfl, ?_⟩
            refine ite2 (fun e3 => ?_) (fun e3 => ?_)
            · refine ⟨_, _, rfl, rfl, ?_⟩
              unfold letterOk at hR
              rw [show (!decide ([c] < [97])) = true from e3, Bool.true_and] at hR
              exact hR
            · rw [Bool.not_eq_true] at e3
              unfold letterOk at hR
              rw [show (!decide ([c] < [97])) = false from e3, Bool.false_and] at hR
              exact hR
          · intro H2 s2 h2
            refine ⟨D, t.cps.toList.map letterOk, rfl, SqL.of (by rw [List.map_map]; exact h2), ?_⟩
            have e : nameB t = (t.cps.toList.map letterOk).all id := by
              unfold nameB
              rw [show decide ((1 : Int) ≤ t.length) = true from e1, show decide ((t.length : Int) ≤ 8) = true from e2, List.all_map]
              rfl
            rw [e] at q
            exact q _ s2
      · rw [Bool.not_eq_true] at e1
        have : nameB t = false := by unfold nameB; rw [e1]; simp
        rw [this] at q
        exact ⟨_, rfl, q _ (Same.refl _)⟩
    · refine ⟨_, rfl, _, _, _, _, false, rfl, .ty _, hty, kt, false, rfl, ?_⟩
      exact q _ (Same.refl _)

/-- is x an end of a rule -/
def EndQ (K : PySem.W.Frag) (H : Hp) (x : V) (b : Bool) : Prop := (x = .non ∧ b = true) ∨ (x ≠ .non ∧ NamQ K H x b)
def spIsEnd (K : PySem.W.Frag) : Sp := fun vs H Q _ => ∃ x b, vs = [x] ∧ EndQ K H x b ∧ ∀ H', Same H H' → Q (.bl b) H'
theorem ok_is_end {f : Addr} {fd : FuncData} (D : DefAt K mg "_is_end" s_is_end ["thing"] f fd) (O_is_name : Ok P w K mg base 1 "is_name" ["thing"] (spIsName K)) : Ok P w K mg base 2 "_is_end" ["thing"] (spIsEnd K) := by
  refine D.ok (D.fn.ok sc_is_end (fun vs H Q E h => ?_) (fun cdv A outer s H vs Q E hr h => ?_))
  · obtain ⟨x, b, rfl, _⟩ := h
    rfl
  · obtain ⟨x, b, rfl, hx, q⟩ := h
    refine ⟨_, (pss_one (ps_ret (pe_or (pe_cmpR op_isN (pv 0) pe_non (nomark _)) (pe_one (pe_own O_is_name (hr.mono (by decide)) (pa_cons (pv 0) pa_nil)))))), ?_⟩
    rcases hx with ⟨rfl, rfl⟩ | ⟨hn, hx⟩
    · exact ⟨_, rfl, rfl, _, rfl, q _ (Same.refl _)⟩
    · refine ⟨_, rfl, rfl, _, rfl, ?_⟩
      rw [if_neg (by rw [decide_eq_false hn]; exact Bool.false_ne_true)]
      exact ⟨_, rfl, x, b, rfl, hx, q⟩
/-- is x a rule between any names -/
def RulQ (K : PySem.W.Frag) (H : Hp) (x : V) (b : Bool) : Prop := (∃ t, TyX K H x t ∧ PySem.W.kitOne K t (.type "tuple") = some false ∧ b = false) ∨
  (∃ q xs, x = .ref q ∧ H q = some (.tup xs) ∧ xs.length ≠ 3 ∧ b = false) ∨
  (∃ q l h g bl bh bg, x = .ref q ∧ H q = some (.tup [l, h, g]) ∧ (∀ H', Same H H' → EndQ K H' l bl ∧ EndQ K H' h bh ∧ InQ K H' g (-999) 999 bg) ∧ b = (bl && bh && !decide (l = h) && bg))
def spIsRule (K : PySem.W.Frag) : Sp := fun vs H Q _ => ∃ x b, vs = [x] ∧ RulQ K H x b ∧ ∀ H', Same H H' → Q (.bl b) H'
theorem ends_scal {H : Hp} {l h : V} (a : EndQ K H l true) (b : EndQ K H h true) : scal l h = true := by
  rcases a with ⟨rfl, _⟩ | ⟨_, ⟨t, rfl, _⟩ | ⟨_, _, _, e⟩⟩
  · rcases b with ⟨rfl, _⟩ | ⟨_, ⟨t, rfl, _⟩ | ⟨_, _, _, e⟩⟩
    · rfl
    · rfl
    · cases e
  · rcases b with ⟨rfl, _⟩ | ⟨_, ⟨t, rfl, _⟩ | ⟨_, _, _, e⟩⟩
    · rfl
    · rfl
    · cases e
  · cases e
theorem ok_is_rule {qn : Str} {f : Addr} {fd : FuncData} (F : Fun K "is_rule" qn s_System_is_rule f fd) (B : Blt2 mg) (C_GREATEST_GAP : ∃ t, mg "GREATEST_GAP" = some (.int 999 t)) (O_is_end : Ok P w K mg base 2 "_is_end" ["thing"] (spIsEnd K))
    (O_is_integer_within : Ok P w K mg base 2 "is_integer_within" ["thing", "least", "greatest"] (spIsIn K)) : FnOk P w K mg base CX0 3 f fd ["thing"] (spIsRule K) := by
  obtain ⟨lt, C_GREATEST_GAP⟩ := C_GREATEST_GAP
  refine F.ok sc_System_is_rule (fun vs H Q E h => ?_) (fun cdv A outer s H vs Q E hr h => ?_)
  · obtain ⟨x, b, rfl, _⟩ := h
    rfl
  · obtain ⟨x, b, rfl, hx, q⟩ := h
    have nd := sc_System_is_rule.nd
    refine ⟨_, (pss_cons (ps_if (PW.pt (pw_or (pt_not (pt_val (pe_callB call_isi (by rfl) B.isinstance (by decide +kernel) (pa_cons (pv 0) (pa_cons (pe_bltn (v := .ty "tuple") (by rfl) B.tuple (by decide +kernel) rfl) pa_nil))))) (pw_or1 (pt_cmpR op_ne (pe_callB call_len_seq (by rfl) B.len PySem.boot_len (pa_cons (pv 0) pa_nil)) pe_int (nomark _))))) (pss_one (ps_ret pe_bl)) pss_nil)
      (pss_cons (ps_asg (pv 0) (pg_tup rfl (pgs_cons (pg_name (i := 1) nd rfl (Or.inl rfl)) (pgs_cons (pg_name (i := 2) nd rfl (Or.inl rfl)) (pgs_cons (pg_name (i := 3) nd rfl (Or.inl rfl)) pgs_nil)))))
      (pss_cons (ps_if (PW.pt (pw_or (pt_not (pt_val (pe_own O_is_end (hr.mono (by decide)) (pa_cons (pv 1) pa_nil)))) (pw_or (pt_not (pt_val (pe_own O_is_end (hr.mono (by decide)) (pa_cons (pv 2) pa_nil)))) (pw_or1 (pt_cmpR op_eq (pv 1) (pv 2) (nomark _)))))) (pss_one (ps_ret pe_bl)) pss_nil)
      (pss_one (ps_ret (pe_own O_is_integer_within (hr.mono (by decide)) (pa_cons (pv 3) (pa_cons (pe_un un_neg (pe_glob (v := .int 999) rfl C_GREATEST_GAP ⟨_, rfl⟩)) (pa_cons (pe_glob (v := .int 999) rfl C_GREATEST_GAP ⟨_, rfl⟩) pa_nil))))))))), ?_⟩
    rcases hx with ⟨ty, hty, kt, rfl⟩ | ⟨t, xs, rfl, ht, hl, rfl⟩ | ⟨t, l, h, g, bl, bh, bg, rfl, ht, hq, rfl⟩
    · refine ⟨_, rfl, _, _, _, _, false, rfl, .ty _, hty, kt, false, rfl, ?_⟩
      exact q _ (Same.refl _)
    · refine ⟨_, rfl, _, _, _, _, true, rfl, .ty _, .base (.tup ht), kit_ty (by decide +kernel), true, rfl, ?_⟩
      refine ⟨_, rfl, t, xs, rfl, .inr (SqT.of ht), rfl, _, rfl, ?_⟩
      have e : (!decide (V.int (xs.length : Nat) = V.int 3)) = true := by
        rw [Bool.not_eq_true', decide_eq_false_iff_not]
        intro z
        injection z with z
        omega
      refine ite2 (fun _ => q _ (Same.refl _)) (fun n => (n e).elim)
    · refine ⟨_, rfl, _, _, _, _, true, rfl, .ty _, .base (.tup ht), kit_ty (by decide +kernel), true, rfl, ?_⟩
      refine ⟨_, rfl, t, _, rfl, .inr (SqT.of ht), rfl, _, rfl, ?_⟩
      refine ite2 (fun z => by
        rw [Bool.not_eq_true', decide_eq_false_iff_not] at z
        exact (z rfl).elim) (fun _ => ?_)
      refine ⟨_, rfl, t, _, rfl, SqT.of ht, rfl, l, _, rfl, h, _, rfl, g, _, rfl, rfl, ?_⟩
      refine ⟨_, rfl, l, bl, rfl, (hq H (Same.refl _)).1, fun H1 s1 => ⟨_, rfl, ?_⟩⟩
      cases bl with
      | false => exact q _ s1
      | true =>
        refine ⟨_, rfl, h, bh, rfl, (hq H1 s1).2.1, fun H2 s2 => ⟨_, rfl, ?_⟩⟩
        have s12 := s1.trans s2
        cases bh with
        | false => exact q _ s12
        | true =>
          refine ⟨_, rfl, _, rfl, ends_scal (hq H2 s12).1 (hq H2 s12).2.1, _, rfl, ?_⟩
          cases e : decide (l = h) with
          | true =>
            rw [e] at q
            exact q _ s12
          | false =>
            rw [e] at q
            refine ⟨_, rfl, _, rfl, g, -999, 999, bg, rfl, (hq H2 s12).2.2, ?_⟩
            exact q _ s12

/-! ### lists of names -/
def DiffQ (K : PySem.W.Frag) (H : Hp) (x : V) (b : Bool) : Prop := (∃ t, TyX K H x t ∧ PySem.W.kitOne K t (.type "list") = some false ∧ b = false) ∨
  (∃ (a : Addr) (xs : List V) (bs : List Bool), x = .ref a ∧ TyX K H x (.type "list") ∧ SqL K H a xs ∧ xs.length < 1000 ∧ bs.length = xs.length ∧ (∀ (i : Nat) (y : V) (c : Bool), xs[i]? = some y → bs[i]? = some c → ∀ H', Same H H' → NamQ K H' y c) ∧
    ((bs.all id = false ∧ b = false) ∨ (∃ ts : List Str, xs = ts.map V.str ∧ bs.all id = true ∧ ts.Nodup ∧ b = true)))
def spDiff (K : PySem.W.Frag) : Sp := fun vs H Q _ => ∃ x b, vs = [x] ∧ DiffQ K H x b ∧ ∀ H', Same H H' → Q (.bl b) H'
theorem get_map {α β : Type} {f : α → β} {xs : List α} {i : Nat} {y : β} (h : (xs.map f)[i]? = some y) : ∃ x, xs[i]? = some x ∧ y = f x := by
  rw [List.getElem?_map] at h
  cases e : xs[i]? with
  | none => rw [e] at h; cases h
  | some x => rw [e] at h; cases h; exact ⟨x, rfl, rfl⟩
theorem get_bl {bs : List Bool} {i : Nat} (hi : i < (bs.map V.bl).length) : ∃ c, bs[i]? = some c ∧ (bs.map V.bl)[i] = V.bl c := by
  have h : i < bs.length := by rwa [List.length_map] at hi
  exact ⟨bs[i], List.getElem?_eq_getElem h, by rw [List.getElem_map]⟩
theorem ok_diff {f : Addr} {fd : FuncData} (D : DefAt K mg "_are_different_names" s_are_different_names ["things"] f fd) (B : Blt2 mg) (O_is_name : Ok P w K mg base 1 "is_name" ["thing"] (spIsName K)) :
    Ok P w K mg base 2 "_are_different_names" ["things"] (spDiff K) := by
  refine D.ok (D.fn.ok sc_are_different_names (fun vs H Q E h => ?_) (fun cdv A outer s H vs Q E hr h => ?_))
  · obtain ⟨x, b, rfl, _⟩ := h
    rfl
  · obtain ⟨x, b, rfl, hx, q⟩ := h
    have nd := sc_are_different_names.nd
    refine ⟨_, (pss_cons (ps_if (PW.pt (pw_or (pt_not (pt_val (pe_callB call_isi (by rfl) B.isinstance (by decide +kernel) (pa_cons (pv 0) (pa_cons (pe_bltn (v := .ty "list") (by rfl) B.list (by decide +kernel) rfl) pa_nil))))) (pw_or1 (pt_not (pt_val (pe_callB (cr_all rfl) (by rfl) B.all (by decide +kernel) (pa_cons (pe_lc (own := [("thing", 1)]) (g := gName 1) (tt := tYes) (by rfl) nd (pi_list (pv 0)) (blkOk_by (own := [("thing", 1)]) (N := ["things", "thing"]) (sc := defScope s_are_different_names) (by decide +kernel)) (fun _ _ _ _ _ => (pg_name (i := 1) nd rfl (Or.inl rfl))) (fun _ _ _ _ _ => pts_nil) (fun _ _ _ _ _ => (pe_own O_is_name (hr.mono (by decide)) (pa_cons (pv 1) pa_nil)))) pa_nil))))))) (pss_one (ps_ret pe_bl)) pss_nil)
      (pss_one (ps_ret (pe_cmpR op_eq (pe_lenSetT rfl B.len B.set (pv 0)) (pe_callB call_len_seq (by rfl) B.len PySem.boot_len (pa_cons (pv 0) pa_nil)) (nomark _))))), ?_⟩
    rcases hx with ⟨ty, hty, kt, rfl⟩ | ⟨a, xs, bs, rfl, hty, hS, hz, hb, hn, hcase⟩
    · refine ⟨_, rfl, _, _, _, _, false, rfl, .ty _, hty, kt, false, rfl, ?_⟩
      exact q _ (Same.refl _)
    · refine ⟨_, rfl, _, _, _, _, true, rfl, .ty _, hty, kit_ty (by decide +kernel), true, rfl, ?_⟩
      refine ⟨_, rfl, a, rfl, ⟨_, hS⟩, fun D hD => ?_⟩
      refine lc_map walk_list hD (bs.map V.bl) (by rw [List.length_map, hb]) (by have : sizeLine > 1000 := by decide
                                                                                 omega) (fun H2 s2 => s2.seq hS) ?_ ?_
      · rintro i x H2 H' hi R L s1 ⟨rfl, hx⟩ hR
        refine ⟨rfl, ?_⟩
        refine iteT (B := L H') ?_
        obtain ⟨c, hc, ec⟩ := get_bl hi
        rw [ec] at hR
        exact ⟨_, rfl, x, c, rfl, hn i x c hx hc _ s1, fun H4 s4 => hR H4 s4⟩
      · intro H2 s2 h2
        refine ⟨D, bs, rfl, SqL.of h2, bs.all id, rfl, ?_⟩
        rcases hcase with ⟨e, rfl⟩ | ⟨ts, rfl, e, nodup, rfl⟩
        · rw [e]
          exact q _ s2
        · rw [e]
          refine ⟨_, rfl, a, ts, rfl, s2.seq hS, by rwa [List.length_map] at hz, nodup, _, rfl, a, _, rfl, .inl (s2.seq hS), rfl, ?_⟩
          rw [List.length_map, decide_eq_true rfl]
          exact q _ s2

/-! ### the static method, asked off the class -/
structure OkS (P : Program) (w : World) (K : PySem.W.Frag) (mg : Str → Option Value) (base : Heap) (C : Addr) (k : Nat) (m : Str) (ps : List Str) (sp : Sp) : Prop where
  ex : ∃ (mc : Value) (p g : Addr) (fd : FuncData), ClX.CRead K C mc ∧ SMet K C mc m p g ∧ Binds K fd ps [] ∧ FnOk P w K mg base CX0 k g fd ps sp
theorem pe_statO {X : Cx} {C : Addr} {k : Nat} {m x : Str} {ps : List Str} {sp : Sp} {e : Expr} {es : List Expr} {pos apos p : Pos} {t : TA} {pl : Sem Bool} (O : OkS X.prog X.w X.K X.mg X.base C k m ps sp) (hm : X.mg x = some (.ref C)) (hr : Room k X.A) (ha : PA X (e :: es) t)
    (hg : Gl X x := by rfl) (hst : starEach (e :: es) X.env = (false, eval e X.env) :: starEach es X.env := by rfl) (hpl : (backTo pos (starEach es X.env)).any (·.1) = false := by rfl) (hd : (x == ("__debug__" : Str)) = false := by decide)
    (ht : eval (.Call (.Attribute (.Name x p) m apos) (e :: es) [] pos) X.env = (do
      let ov ← eval (.Name x p) X.env
      standAt apos.atName
      let (f, first) ← holding [ov] (getMethod ov m pl)
      callWith pos f first (backTo pos (starEach (e :: es) X.env)) (backToKw pos (keywordEach [] X.env))) := by rfl) :
    PE X (.Call (.Attribute (.Name x p) m apos) (e :: es) [] pos) (tStat C sp (tC (.ref C)) t) := by
  obtain ⟨mc, q, g, fd, h1, h2, h3, h4⟩ := O.ex
  exact pe_stat (pe_glob hg hm rfl hd) h1 h2 h4 h3 hr ha hst hpl ht
/-! ### rules between names -/
def endIn (ts : List Str) : Option Str → Bool
  | none => true
  | some t => ts.any (· == t)
def RulesQ (K : PySem.W.Frag) (H : Hp) (x y : V) (b : Bool) : Prop := (∃ t, TyX K H x t ∧ PySem.W.kitOne K t (.type "list") = some false ∧ b = false) ∨
  (∃ (a : Addr) (xs : List V) (bs : List Bool), x = .ref a ∧ TyX K H x (.type "list") ∧ SqL K H a xs ∧ xs.length < 100000 ∧ bs.length = xs.length ∧ (∀ (i : Nat) (y : V) (c : Bool), xs[i]? = some y → bs[i]? = some c → ∀ H', Same H H' → RulQ K H' y c) ∧
    ((bs.all id = false ∧ b = false) ∨ (∃ (rs : List (Rule × Addr)) (n : Addr) (ts : List Str), xs = rs.map (fun p => V.ref p.2) ∧ KeyTups H rs ∧ bs.all id = true ∧ y = .ref n ∧ SqL K H n (ts.map V.str) ∧ ts.length < 1000 ∧ b = rs.all fun p => endIn ts p.1.low && endIn ts p.1.high)))
def spRules (K : PySem.W.Frag) : Sp := fun vs H Q _ => ∃ x y b, vs = [x, y] ∧ RulesQ K H x y b ∧ ∀ H', Same H H' → Q (.bl b) H'
theorem end_in (ts : List Str) (e : Option Str) : inV (endV e) (V.non :: ts.map V.str) = endIn ts e := by
  cases e with
  | none => rfl
  | some t =>
    show (eqV V.non (V.str t) || (ts.map V.str).any fun y => eqV y (V.str t)) = ts.any (· == t)
    rw [List.any_map, show eqV V.non (V.str t) = false from rfl, Bool.false_or]
    rfl
theorem end_flat (e : Option Str) : flatV (endV e) = true := by cases e <;> rfl
theorem ends_flat (ts : List Str) : (V.non :: ts.map V.str).all flatV = true := by
  rw [List.all_cons, show flatV V.non = true from rfl, Bool.true_and, List.all_map]
  exact List.all_eq_true.mpr fun _ _ => rfl
theorem ok_rules {C : Addr} {f : Addr} {fd : FuncData} (D : DefAt K mg "_are_rules_between" s_are_rules_between ["things", "names"] f fd) (B : Blt2 mg) (C_System : mg "System" = some (.ref C)) (O_is_rule : OkS P w K mg base C 3 "is_rule" ["thing"] (spIsRule K)) :
    Ok P w K mg base 4 "_are_rules_between" ["things", "names"] (spRules K) := by
  refine D.ok (D.fn.ok sc_are_rules_between (fun vs H Q E h => ?_) (fun cdv A outer s H vs Q E hr h => ?_))
  · obtain ⟨x, y, b, rfl, _⟩ := h
    rfl
  · obtain ⟨x, y, b, rfl, hx, q⟩ := h
    have nd := sc_are_rules_between.nd
    refine ⟨_, (pss_cons (ps_if (PW.pt (pw_or (pt_not (pt_val (pe_callB call_isi (by rfl) B.isinstance (by decide +kernel) (pa_cons (pv 0) (pa_cons (pe_bltn (v := .ty "list") (by rfl) B.list (by decide +kernel) rfl) pa_nil))))) (pw_or1 (pt_not (pt_val (pe_callB (cr_all rfl) (by rfl) B.all (by decide +kernel) (pa_cons (pe_lc (own := [("thing", 6)]) (g := gName 6) (tt := tYes) (by rfl) nd (pi_list (pv 0)) (blkOk_by (own := [("thing", 6)]) (N := ["things", "names", "ends", "low", "high", "_", "thing"]) (sc := defScope s_are_rules_between) (by decide +kernel)) (fun _ _ _ _ _ => (pg_name (i := 6) nd rfl (Or.inl rfl))) (fun _ _ _ _ _ => pts_nil) (fun _ _ _ _ _ => (pe_statO O_is_rule C_System (hr.mono (by decide)) (pa_cons (pv 6) pa_nil)))) pa_nil))))))) (pss_one (ps_ret pe_bl)) pss_nil)
      (pss_cons (ps_set (i := 2) nd rfl (Or.inr rfl) (pe_lst (pa_cons pe_non (StX.pa_star (pv 1) pa_nil))))
      (pss_one (ps_ret (pe_callB (cr_all rfl) (by rfl) B.all (by decide +kernel) (pa_cons (pe_lc (own := [("low", 3), ("high", 4), ("_", 5)]) (g := gTup K 3 (gCons (gName 3) (gCons (gName 4) (gCons (gName 5) (gNil))))) (tt := tYes) (by rfl) nd (pi_list (pv 0)) (blkOk_by (own := [("low", 3), ("high", 4), ("_", 5)]) (N := ["things", "names", "ends", "low", "high", "_", "thing"]) (sc := defScope s_are_rules_between) (by decide +kernel)) (fun _ _ _ _ _ => (pg_tupK K 3 rfl (pgs_cons (pg_name (i := 3) nd rfl (Or.inl rfl)) (pgs_cons (pg_name (i := 4) nd rfl (Or.inl rfl)) (pgs_cons (pg_name (i := 5) nd rfl (Or.inl rfl)) pgs_nil))))) (fun _ _ _ _ _ => pts_nil) (fun _ _ _ _ _ => (pe_and (pe_cmpR (op_inK K) (pv 3) (pv 2) rfl) (pe_one (pe_cmpR (op_inK K) (pv 4) (pv 2) rfl))))) pa_nil)))))), ?_⟩
    rcases hx with ⟨ty, hty, kt, rfl⟩ | ⟨a, xs, bs, rfl, hty, hS, hz, hb, hn, hcase⟩
    · refine ⟨_, rfl, _, _, _, _, false, rfl, .ty _, hty, kt, false, rfl, ?_⟩
      exact q _ (Same.refl _)
    · refine ⟨_, rfl, _, _, _, _, true, rfl, .ty _, hty, kit_ty (by decide +kernel), true, rfl, ?_⟩
      refine ⟨_, rfl, a, rfl, ⟨_, hS⟩, fun D hD => ?_⟩
      refine lc_map walk_list hD (bs.map V.bl) (by rw [List.length_map, hb]) (by have : sizeLine > 100000 := by decide
                                                                                 omega) (fun H2 s2 => s2.seq hS) ?_ ?_
      · rintro i x H2 H' hi R L s1 ⟨rfl, hx⟩ hR
        refine ⟨rfl, ?_⟩
        refine iteT (B := L H') ?_
        obtain ⟨c, hc, ec⟩ := get_bl hi
        rw [ec] at hR
        exact ⟨rfl, _, rfl, x, c, rfl, hn i x c hx hc _ s1, fun H4 s4 => hR H4 s4⟩
      · intro H2 s2 h2
        refine ⟨D, bs, rfl, SqL.of h2, bs.all id, rfl, ?_⟩
        rcases hcase with ⟨e, rfl⟩ | ⟨rs, n, ts, rfl, hk, e, rfl, hN, hzt, rfl⟩
        · rw [e]
          exact q _ s2
        · rw [e]
          refine ⟨_, rfl, n, _, rfl, .inr (s2.seq hN), ?_⟩
          refine ⟨by
            have : sizeLine > 100000 := by decide
            simp only [List.append_nil, List.length_cons, List.length_map]
            omega, fun M hM => ?_⟩
          have s3 := s2.trans (same_new (o := .lst (V.non :: ((ts.map V.str) ++ []))) hM)
          refine ⟨_, rfl, a, rfl, ⟨_, s3.seq hS⟩, fun D2 hD2 => ?_⟩
          refine lc_map walk_list hD2 (rs.map fun p => V.bl (endIn ts p.1.low && endIn ts p.1.high)) (by rw [List.length_map, List.length_map]) (by
            have : sizeLine > 100000 := by decide
            omega) (fun H4 s4 => (s3.trans s4).seq hS) ?_ ?_
          · rintro i x H4 H' hi R L s4 ⟨rfl, hx⟩ hR
            have hi' : i < rs.length := by rwa [List.length_map] at hi
            rw [List.getElem?_map, List.getElem?_eq_getElem hi'] at hx
            cases hx
            rw [List.getElem_map] at hR
            have hR := hR _ (Same.refl _)
            have hM4 : H' M = some (.lst (V.non :: ts.map V.str)) := by
              have z : (upd H2 M (.lst (V.non :: ((ts.map V.str) ++ [])))) M = some (.lst (V.non :: ts.map V.str)) := by rw [upd_same, List.append_nil]
              exact s4 _ _ z
            refine ⟨_, _, rfl, SqT.of ((s3.trans s4) _ _ (hk _ (List.getElem_mem hi'))), rfl, _, _, rfl, _, _, rfl, _, _, rfl, rfl, rfl, ?_⟩
            refine ⟨_, rfl, _, rfl, M, _, rfl, .inl (SqL.of hM4), end_flat _, ends_flat _, _, rfl, ?_⟩
            rw [← end_in, ← end_in] at hR
            cases e1 : inV (endV rs[i].1.low) (V.non :: ts.map V.str) with
            | false =>
              rw [e1, Bool.false_and] at hR
              exact hR
            | true =>
              rw [e1, Bool.true_and] at hR
              exact ⟨_, rfl, _, rfl, M, _, rfl, .inl (SqL.of hM4), end_flat _, ends_flat _, hR⟩
          · intro H4 s4 h4
            refine ⟨D2, rs.map fun p => endIn ts p.1.low && endIn ts p.1.high, rfl, SqL.of (by rw [List.map_map]; exact h4), ?_⟩
            have e2 : (rs.map fun p => endIn ts p.1.low && endIn ts p.1.high).all id = rs.all fun p => endIn ts p.1.low && endIn ts p.1.high := by
              rw [List.all_map]
              rfl
            rw [e2]
            exact q _ (s3.trans s4)

/-! ### rules in ascending order -/
theorem ok_rank {f : Addr} {fd : FuncData} (D : DefAt K mg "rank" s_rank ["rule"] f fd) : FnOk P w K mg base CX0 1 f fd ["rule"] spRank := by
  refine D.fn.ok sc_rank (fun vs H Q E h => ?_) (fun cdv A outer s H vs Q E hr h => ?_)
  · obtain ⟨t, r, rfl, _⟩ := h
    rfl
  · obtain ⟨t, r, rfl, ht, ⟨sl, sh⟩, q⟩ := h
    have nd := sc_rank.nd
    refine ⟨_, (pss_cons (ps_asg (pv 0) (pg_tup rfl (pgs_cons (pg_name (i := 1) nd rfl (Or.inl rfl)) (pgs_cons (pg_name (i := 2) nd rfl (Or.inl rfl)) (pgs_cons (pg_name (i := 3) nd rfl (Or.inl rfl)) pgs_nil)))))
      (pss_one (ps_ret (pe_tup (pa_cons (pe_orT (pv 1) (pe_one pe_str)) (pa_cons (pe_orT (pv 2) (pe_one pe_str)) (pa_cons (pv 3) pa_nil))))))), ?_⟩
    refine ⟨_, rfl, t, _, rfl, SqT.of ht, rfl, _, _, rfl, _, _, rfl, _, _, rfl, rfl, ?_⟩
    obtain ⟨low, high, gap⟩ := r
    have one : ∀ (e : Option Str) (i : Nat) (σ : L2.St) (W : VK), σ[i]? = some (some (endV e)) → (∀ t, e = some t → t.length ≤ sizeLine) → W (.str (endS e)) H → tOrT K (tVar i) (tC (.str (Str.ofString ""))) σ H W := by
      intro e i σ W hi hs hW
      refine ⟨endV e, hi, ?_⟩
      cases e with
      | none => exact ⟨false, rfl, iteF hW⟩
      | some t =>
        cases z : ((t.length : Int) != 0) with
        | true => exact ⟨true, ⟨hs t rfl, z.symm⟩, iteT hW⟩
        | false =>
          refine ⟨false, ⟨hs t rfl, z.symm⟩, iteF ?_⟩
          have : t = Str.ofString "" := by
            rw [bne_eq_false_iff_eq] at z
            obtain ⟨c⟩ := t
            have : c.size = 0 := by
              have : ((c.size : Nat) : Int) = 0 := z
              omega
            rw [Array.eq_empty_of_size_eq_zero this]
            rfl
          rw [← this]
          exact hW
    refine one low 1 _ _ rfl sl ?_
    refine one high 2 _ _ rfl sh ?_
    refine ⟨_, rfl, by show 3 ≤ sizeLine; decide, fun p hp => q p hp⟩

def spAscending (K : PySem.W.Frag) : Sp := fun vs H Q _ => ∃ (a : Addr) (rs : List (Rule × Addr)), vs = [.ref a] ∧ SqL K H a (rs.map fun p => V.ref p.2) ∧ KeyTups H rs ∧ (∀ p ∈ rs, Short p.1) ∧ rs.length < 100000 ∧
  ∀ p H', Same H H' → H p = none → H' p = some (.lst ((inOrder (putAll rs [])).map fun x => V.ref x.2)) → Q (.ref p) H'
theorem putAll_mem : ∀ (rs L : List (Rule × Addr)) (x : Rule × Addr), x ∈ putAll rs L → x ∈ L ∨ x ∈ rs
  | [], _, _, h => .inl h
  | r :: rs, L, x, h => by
    rcases putAll_mem rs (putR L r.1 r.2) x h with h | h
    · unfold putR at h
      split at h
      · exact .inl h
      · rcases List.mem_append.mp h with h | h
        · exact .inl h
        · exact .inr (List.mem_cons.mpr (.inl (List.mem_singleton.mp h)))
    · exact .inr (List.mem_cons_of_mem _ h)
theorem ok_ascending {f : Addr} {fd : FuncData} (D : DefAt K mg "_ascending" s_ascending ["rules"] f fd) (B : Blt2 mg) (O_rank : Ok P w K mg base 1 "rank" ["rule"] spRank) : Ok P w K mg base 4 "_ascending" ["rules"] (spAscending K) := by
  obtain ⟨fr, fdr, h1, h2, h3, h4⟩ := O_rank.ex
  refine D.ok (D.fn.ok sc_ascending (fun vs H Q E h => ?_) (fun cdv A outer s H vs Q E hr h => ?_))
  · obtain ⟨a, rs, rfl, _⟩ := h
    rfl
  · obtain ⟨a, rs, rfl, hS, hk, sh, hz, q⟩ := h
    have nd := sc_ascending.nd
    have hu := hu_of hr
    refine ⟨_, (pss_cons (ps_setDcR (i := 1) (own := [("rule", 2)]) (g := gName 2) (tk := tVar 2) (Nat.lt_of_le_of_lt (Nat.add_le_add_left (by decide) _) (hu_of64 hr)) rfl nd rfl rfl (sw_dict rfl rfl rfl (by decide +kernel)) (pi_list (pv 0)) (blkOk_by (own := [("rule", 2)]) (N := ["rules", "different", "rule"]) (sc := defScope s_ascending) (by decide +kernel)) (fun _ _ _ _ _ => (pg_name (i := 2) nd rfl (Or.inl rfl))) (fun _ _ _ _ _ => (pv 2)))
      (pss_one (ps_ret (pe_callBK (cr_sortedRank h4 h3 (hr.mono (by decide)) rfl) rfl B.sorted (by decide +kernel) (pa_cons (pv 1) pa_nil) (pk_cons (pe_glob (v := .ref fr) rfl h1 rfl) pk_nil))))), ?_⟩
    refine ⟨_, rfl, a, rfl, ⟨_, hS⟩, fun D hD => ?_⟩
    refine dcR_list hD hS hk (by have : sizeLine > 100000 := by decide
                                 omega) (by show 2 < 3; decide) (fun v => rfl) ?_
    have s1 := same_new (o := rdO P w D (putAll rs [])) hD
    have mem : ∀ p ∈ putAll rs [], p ∈ rs := fun p hp => (putAll_mem rs [] p hp).elim (fun z => (List.not_mem_nil z).elim) id
    refine ⟨_, rfl, D, putAll rs [], rfl, rfl, upd_same, fun p hp => s1 _ _ (hk p (mem p hp)), fun p hp => sh p (mem p hp), ?_, fun p H' s2 n2 h2 => q p H' (s1.trans s2) (s1.free n2) h2⟩
    have := putAll_len rs []
    rw [List.length_nil] at this
    omega

/-! ### a system -/
theorem ps_never {X : Cx} {st : Stmt} : PS X st (fun _ _ _ => False) := ⟨fun _ _ _ _ _ _ h => h.elim⟩
def NamesOk (ts : List Str) : Prop := ts.Nodup ∧ (∀ t ∈ ts, nameB t = true) ∧ ts.length < 64
structure RuleOk (ts : List Str) (r : Rule) : Prop where
  low : endIn ts r.low = true
  high : endIn ts r.high = true
  ne : r.low ≠ r.high
  ge : -999 ≤ r.gap
  le : r.gap ≤ 999
theorem name_len {t : Str} (h : nameB t = true) : 1 ≤ t.length ∧ t.length ≤ 8 := by
  unfold nameB at h
  rw [Bool.and_eq_true, Bool.and_eq_true, decide_eq_true_iff, decide_eq_true_iff] at h
  omega
theorem name_line {t : Str} (h : nameB t = true) : t.length ≤ sizeLine := by
  have := (name_len h).2
  have : sizeLine > 8 := by decide
  omega
theorem end_name {ts : List Str} (N : NamesOk ts) {e : Option Str} (h : endIn ts e = true) : ∀ t, e = some t → nameB t = true := by
  rintro t rfl
  unfold endIn at h
  obtain ⟨x, hx, e⟩ := List.any_eq_true.mp h
  rw [← eq_of_beq e]
  exact N.2.1 x hx
theorem end_q {ts : List Str} (N : NamesOk ts) {H : Hp} {e : Option Str} (h : endIn ts e = true) : EndQ K H (endV e) true := by
  cases e with
  | none => exact .inl ⟨rfl, rfl⟩
  | some t =>
    have n := end_name N h t rfl
    exact .inr ⟨(fun z => nomatch z), .inl ⟨t, rfl, name_line n, n.symm⟩⟩
theorem RuleOk.short {ts : List Str} {r : Rule} (N : NamesOk ts) (h : RuleOk ts r) : Short r := ⟨fun t e => name_line (end_name N h.low t e), fun t e => name_line (end_name N h.high t e)⟩
theorem RuleOk.named {ts : List Str} {r : Rule} (N : NamesOk ts) (h : RuleOk ts r) : Named r := by
  refine ⟨fun e => ?_, fun e => ?_⟩
  · exact absurd (name_len (end_name N h.low _ e)).1 (by decide)
  · exact absurd (name_len (end_name N h.high _ e)).1 (by decide)
theorem RuleOk.rulQ {ts : List Str} {r : Rule} (N : NamesOk ts) (h : RuleOk ts r) {H : Hp} {q : Addr} (hq : H q = some (.tup (ruleV r))) : RulQ K H (.ref q) true := by
  refine .inr (.inr ⟨q, _, _, _, true, true, true, rfl, hq, fun H' s => ⟨end_q N h.low, end_q N h.high, .inl ⟨r.gap, rfl, ?_⟩⟩, ?_⟩)
  · rw [decide_eq_true h.ge, decide_eq_true h.le]
    rfl
  · rw [decide_eq_false fun e => h.ne (endV_inj e)]
    rfl
theorem diffQ {ts : List Str} (N : NamesOk ts) {H : Hp} {a : Addr} (ty : TyX K H (.ref a) (.type "list")) (hS : SqL K H a (ts.map V.str)) : DiffQ K H (.ref a) true := by
  refine .inr ⟨a, ts.map V.str, ts.map fun _ => true, rfl, ty, hS, ?_, ?_, ?_, .inr ⟨ts, rfl, ?_, N.1, rfl⟩⟩
  · rw [List.length_map]
    have := N.2.2
    omega
  · rw [List.length_map, List.length_map]
  · intro i y c hy hc H' _
    obtain ⟨t, ht, rfl⟩ := get_map hy
    obtain ⟨_, _, rfl⟩ := get_map hc
    have n := N.2.1 t (List.mem_of_getElem? ht)
    exact .inl ⟨t, rfl, name_line n, n.symm⟩
  · rw [List.all_map]
    exact List.all_eq_true.mpr fun _ _ => rfl
theorem rulesQ {ts : List Str} (N : NamesOk ts) {H : Hp} {a b : Addr} {rs : List (Rule × Addr)} (ty : TyX K H (.ref b) (.type "list")) (hS : SqL K H b (rs.map fun p => V.ref p.2)) (hk : KeyTups H rs) (hr : ∀ p ∈ rs, RuleOk ts p.1) (hz : rs.length < 100000)
    (hA : SqL K H a (ts.map V.str)) : RulesQ K H (.ref b) (.ref a) true := by
  refine .inr ⟨b, _, rs.map fun _ => true, rfl, ty, hS, ?_, ?_, ?_, .inr ⟨rs, a, ts, rfl, hk, ?_, rfl, hA, ?_, ?_⟩⟩
  · rwa [List.length_map]
  · rw [List.length_map, List.length_map]
  · intro i y c hy hc H' s
    obtain ⟨t, ht, rfl⟩ := get_map hy
    obtain ⟨_, _, rfl⟩ := get_map hc
    have m := List.mem_of_getElem? ht
    exact (hr t m).rulQ N (s _ _ (hk t m))
  · rw [List.all_map]
    exact List.all_eq_true.mpr fun _ _ => rfl
  · have := N.2.2
    omega
  · refine (List.all_eq_true.mpr fun p hp => ?_).symm
    rw [(hr p hp).low, (hr p hp).high]
    rfl
def sysF (ln lr : Addr) : List (Str × V) := putF "_rules" (.ref lr) (putF "_names" (.ref ln) [])
theorem sysF_names (ln lr : Addr) : (sysF ln lr).lookup ("_names" : Str) = some (.ref ln) := by
  unfold sysF
  rw [lookup_putF, if_neg (by decide +kernel), lookup_putF, if_pos rfl]
theorem sysF_rules (ln lr : Addr) : (sysF ln lr).lookup ("_rules" : Str) = some (.ref lr) := by
  unfold sysF
  rw [lookup_putF, if_pos rfl]
theorem sysF_no {ln lr : Addr} {m : Str} (h1 : ¬ m = "_names") (h2 : ¬ m = "_rules") : (sysF ln lr).lookup m = none := by
  unfold sysF
  rw [lookup_putF, if_neg h2, lookup_putF, if_neg h1]
  rfl
structure SysOk (ns : List Str) (L : List (Rule × Addr)) : Prop where
  names : NamesOk ns
  rules : ∀ p ∈ L, RuleOk ns p.1
  len : L.length < 100000
  ord : sortN ns = ns
  can : canon (L.map (·.1)) = L.map (·.1)
/-- a system with the names ns and the rules L stands at x -/
def SysAt (C : Addr) (H : Hp) (x : Addr) (ns : List Str) (L : List (Rule × Addr)) : Prop :=
  ∃ dx ln lr, H x = some (.ins C dx (sysF ln lr)) ∧ H ln = some (.lst (ns.map V.str)) ∧ H lr = some (.lst (L.map fun p => V.ref p.2)) ∧ KeyTups H L ∧ SysOk ns L
theorem SysAt.same {C x : Addr} {H H' : Hp} {ns : List Str} {L : List (Rule × Addr)} (h : SysAt C H x ns L) (s : Same H H') : SysAt C H' x ns L := by
  obtain ⟨dx, ln, lr, h1, h2, h3, h4, h5⟩ := h
  exact ⟨dx, ln, lr, s _ _ h1, s _ _ h2, s _ _ h3, fun p hp => s _ _ (h4 p hp), h5⟩
theorem NamesOk.perm {a b : List Str} (h : NamesOk a) (p : a.Perm b) : NamesOk b :=
  ⟨p.nodup_iff.mp h.1, fun t ht => h.2.1 t (p.mem_iff.mpr ht), by rw [← p.length_eq]; exact h.2.2⟩
theorem endIn_perm {a b : List Str} (p : ∀ t, t ∈ a → t ∈ b) {e : Option Str} (h : endIn a e = true) : endIn b e = true := by
  cases e with
  | none => rfl
  | some t =>
    unfold endIn at h ⊢
    obtain ⟨x, hx, e⟩ := List.any_eq_true.mp h
    exact List.any_eq_true.mpr ⟨x, p x hx, e⟩
theorem RuleOk.perm {a b : List Str} {r : Rule} (h : RuleOk a r) (p : ∀ t, t ∈ a → t ∈ b) : RuleOk b r := ⟨endIn_perm p h.low, endIn_perm p h.high, h.ne, h.ge, h.le⟩
/-- .. and it and its lists were laid after H -/
def SysNew (C : Addr) (H H' : Hp) (x : Addr) (ns : List Str) (L : List (Rule × Addr)) : Prop :=
  ∃ dx ln lr, H' x = some (.ins C dx (sysF ln lr)) ∧ H' ln = some (.lst (ns.map V.str)) ∧ H' lr = some (.lst (L.map fun p => V.ref p.2)) ∧ KeyTups H' L ∧ SysOk ns L ∧ H ln = none ∧ H lr = none
theorem SysNew.at_ {C x : Addr} {H H' : Hp} {ns : List Str} {L : List (Rule × Addr)} (h : SysNew C H H' x ns L) : SysAt C H' x ns L := by
  obtain ⟨dx, ln, lr, h1, h2, h3, h4, h5, _⟩ := h
  exact ⟨dx, ln, lr, h1, h2, h3, h4, h5⟩
theorem SysNew.from_ {C x : Addr} {H H0 H' : Hp} {ns : List Str} {L : List (Rule × Addr)} (h : SysNew C H H' x ns L) (s : Same H0 H) : SysNew C H0 H' x ns L := by
  obtain ⟨dx, ln, lr, h1, h2, h3, h4, h5, h6, h7⟩ := h
  exact ⟨dx, ln, lr, h1, h2, h3, h4, h5, s.free h6, s.free h7⟩
/-- .. and it, its lists and its rules are elsewhere than F -/
def SysOff (F : Addr → Prop) (C : Addr) (H : Hp) (x : Addr) (ns : List Str) (L : List (Rule × Addr)) : Prop :=
  ∃ dx ln lr, H x = some (.ins C dx (sysF ln lr)) ∧ H ln = some (.lst (ns.map V.str)) ∧ H lr = some (.lst (L.map fun p => V.ref p.2)) ∧ KeyTups H L ∧ SysOk ns L ∧ ¬ F x ∧ ¬ F ln ∧ ¬ F lr ∧ ∀ p ∈ L, ¬ F p.2
theorem SysOff.at_ {F : Addr → Prop} {C x : Addr} {H : Hp} {ns : List Str} {L : List (Rule × Addr)} (h : SysOff F C H x ns L) : SysAt C H x ns L := by
  obtain ⟨dx, ln, lr, h1, h2, h3, h4, h5, _⟩ := h
  exact ⟨dx, ln, lr, h1, h2, h3, h4, h5⟩
/-- nothing outside F has changed -/
def Out (F : Addr → Prop) (H H' : Hp) : Prop := ∀ b o, H b = some o → ¬ F b → H' b = some o
theorem Out.of {F : Addr → Prop} {H H' : Hp} (s : Same H H') : Out F H H' := fun b o h _ => s b o h
theorem Out.trans {F : Addr → Prop} {H H1 H2 : Hp} (a : Out F H H1) (b : Out F H1 H2) : Out F H H2 := fun c o h n => b c o (a c o h n) n
theorem Out.upd {F : Addr → Prop} {H : Hp} {a : Addr} {o : HO} (h : F a) : Out F H (L2.upd H a o) := fun b u e n => by
  rw [upd_ne (show b ≠ a from fun z => n (by rw [z]; exact h))]
  exact e
theorem Out.but {F : Addr → Prop} {H H' : Hp} {p : Addr} (b : But p H H') (hp : F p) : Out F H H' := fun c o h n => b c o h fun z => n (by rw [z]; exact hp)
theorem SysOff.out {F : Addr → Prop} {C x : Addr} {H H' : Hp} {ns : List Str} {L : List (Rule × Addr)} (h : SysOff F C H x ns L) (s : Out F H H') : SysOff F C H' x ns L := by
  obtain ⟨dx, ln, lr, h1, h2, h3, h4, h5, n1, n2, n3, n4⟩ := h
  exact ⟨dx, ln, lr, s _ _ h1 n1, s _ _ h2 n2, s _ _ h3 n3, fun p hp => s _ _ (h4 p hp) (n4 p hp), h5, n1, n2, n3, n4⟩
/-- F holds lists that stood before it was made -/
theorem SysNew.off {F : Addr → Prop} {C x : Addr} {H H' : Hp} {ns : List Str} {L : List (Rule × Addr)} (h : SysNew C H H' x ns L) (s : Same H H') (hF : ∀ a, F a → ∃ xs, H a = some (.lst xs)) : SysOff F C H' x ns L := by
  obtain ⟨dx, ln, lr, h1, h2, h3, h4, h5, n2, n3⟩ := h
  refine ⟨dx, ln, lr, h1, h2, h3, h4, h5, fun z => ?_, fun z => ?_, fun z => ?_, fun p hp z => ?_⟩
  · obtain ⟨xs, e⟩ := hF _ z
    rw [s _ _ e] at h1
    cases h1
  · obtain ⟨xs, e⟩ := hF _ z
    rw [n2] at e
    cases e
  · obtain ⟨xs, e⟩ := hF _ z
    rw [n3] at e
    cases e
  · obtain ⟨xs, e⟩ := hF _ z
    have := h4 p hp
    rw [s _ _ e] at this
    cases this
structure SysC (K : PySem.W.Frag) (mg : Str → Option Value) (C : Addr) : Prop where
  cl : Cls K C
  nN : NoAttr K C "_names"
  nR : NoAttr K C "_rules"
  mgC : mg "System" = some (.ref C)
def spInit (C : Addr) : Sp := fun vs H Q _ => ∃ (x a b dx : Addr) (ts : List Str) (rs : List (Rule × Addr)), vs = [.ref x, .ref a, .ref b] ∧ H x = some (.ins C dx []) ∧ H a = some (.lst (ts.map V.str)) ∧ NamesOk ts ∧
  H b = some (.lst (rs.map fun p => V.ref p.2)) ∧ KeyTups H rs ∧ (∀ p ∈ rs, RuleOk ts p.1) ∧ rs.length < 100000 ∧ ∀ H', But x H H' → SysNew C H H' x (sortN ts) (inOrder (putAll rs [])) → Q .non H'
theorem ok_init {C : Addr} {qn : Str} {f : Addr} {fd : FuncData} (F : Fun K "__init__" qn s_System___init f fd) (T : SysC K mg C) (B : Blt2 mg) (O_are_different_names : Ok P w K mg base 2 "_are_different_names" ["things"] (spDiff K))
    (O_are_rules_between : Ok P w K mg base 4 "_are_rules_between" ["things", "names"] (spRules K)) (O_ascending : Ok P w K mg base 4 "_ascending" ["rules"] (spAscending K)) : FnOk P w K mg base CX0 5 f fd ["self", "names", "rules"] (spInit C) := by
  refine F.ok sc_System___init (fun vs H Q E h => ?_) (fun cdv A outer s H vs Q E hr h => ?_)
  · obtain ⟨x, a, b, dx, ts, rs, rfl, _⟩ := h
    rfl
  · obtain ⟨x, a, b, dx, ts, rs, rfl, hx, hA, N, hB, hk, hro, hz, q⟩ := h
    have nd := sc_System___init.nd
    refine ⟨_, (pss_cons (ps_if (pt_not (pt_val (pe_own O_are_different_names (hr.mono (by decide)) (pa_cons (pv 1) pa_nil)))) (pss_one ps_never) pss_nil)
      (pss_cons (ps_if (pt_not (pt_val (pe_own O_are_rules_between (hr.mono (by decide)) (pa_cons (pv 2) (pa_cons (pv 1) pa_nil))))) (pss_one ps_never) pss_nil)
      (pss_cons (ps_fld (pv 0) (pe_callB cr_sortedS (by rfl) B.sorted (by decide +kernel) (pa_cons (pv 1) pa_nil)) rfl)
      (pss_one (ps_fld (pv 0) (pe_own O_ascending (hr.mono (by decide)) (pa_cons (pv 2) pa_nil)) rfl))))), ?_⟩
    refine ⟨_, rfl, _, true, rfl, diffQ N (.base (.lst hA)) (SqL.of hA), fun H1 s1 => ⟨_, rfl, ?_⟩⟩
    refine ⟨_, rfl, _, rfl, _, _, true, rfl, rulesQ N (.base (.lst (s1 _ _ hB))) (SqL.of (s1 _ _ hB)) (fun p hp => s1 _ _ (hk p hp)) hro hz (SqL.of (s1 _ _ hA)), fun H2 s2 => ⟨_, rfl, ?_⟩⟩
    have s12 := s1.trans s2
    refine ⟨_, rfl, a, ts, rfl, SqL.of (s12 _ _ hA), N.2.2, fun ys ln hp hy nln => ?_⟩
    rw [sortN_of hp hy] at *
    have s3 := s12.trans (same_new (o := .lst ((sortN ts).map V.str)) nln)
    have hx3 := s3 _ _ hx
    have nlx : x ≠ ln := ne_of_none (s12 _ _ hx) nln
    refine ⟨_, rfl, x, C, dx, [], rfl, hx3, T.cl, T.nN, by show 0 < 1000; decide, ?_⟩
    have b4 : But x H (upd (upd H2 ln (.lst ((sortN ts).map V.str))) x (.ins C dx (putF (Str.ofString "_names") (.ref ln) []))) := (But.of s3).trans But.upd
    have hx4 : (upd (upd H2 ln (.lst ((sortN ts).map V.str))) x (.ins C dx (putF (Str.ofString "_names") (.ref ln) []))) x = some (.ins C dx (putF (Str.ofString "_names") (.ref ln) [])) := upd_same
    have hl4 : (upd (upd H2 ln (.lst ((sortN ts).map V.str))) x (.ins C dx (putF (Str.ofString "_names") (.ref ln) []))) ln = some (.lst ((sortN ts).map V.str)) := by
      rw [upd_ne nlx.symm, upd_same]
    generalize upd (upd H2 ln (.lst ((sortN ts).map V.str))) x (.ins C dx (putF (Str.ofString "_names") (.ref ln) [])) = H4 at b4 hx4 hl4 ⊢
    have hB4 := b4 _ _ hB (ne_of hB hx (fun z => nomatch z))
    have hk4 : KeyTups H4 rs := fun p hp => b4 _ _ (hk p hp) (ne_of (hk p hp) hx (fun z => nomatch z))
    refine ⟨_, rfl, b, rs, rfl, SqL.of hB4, hk4, fun p hp => (hro p hp).short N, hz, fun lr H5 s5 nlr hlr => ?_⟩
    refine ⟨_, rfl, x, C, dx, _, rfl, s5 _ _ hx4, T.cl, T.nR, by show 1 < 1000; decide, ?_⟩
    have nrx : lr ≠ x := (ne_of_none hx4 nlr).symm
    have mem : ∀ p ∈ inOrder (putAll rs []), p ∈ rs := fun p hp => (putAll_mem rs [] p ((List.mergeSort_perm _ _).mem_iff.mp hp)).elim (fun z => (List.not_mem_nil z).elim) id
    refine q _ ((b4.trans (But.of s5)).trans But.upd) ⟨dx, ln, lr, upd_same, ?_, ?_, fun p hp => ?_, ⟨N.perm (sortN_perm ts).symm, fun p hp => (hro p (mem p hp)).perm fun t ht => (sortN_perm ts).mem_iff.mpr ht, ?_, sortN_sortN ts, ?_⟩, s12.free nln, b4.free nrx nlr⟩
    rotate_left 3
    · rw [inOrder_len]
      have := putAll_len rs []
      rw [List.length_nil] at this
      omega
    · rw [inOrder_canon]
      exact canon_canon fun r hr => by
        obtain ⟨p, hp, e⟩ := List.mem_map.mp hr
        exact e ▸ (hro p hp).named N
    · rw [upd_ne nlx.symm]
      exact s5 _ _ hl4
    · rw [upd_ne nrx]
      exact hlr
    · have h5 := s5 _ _ (hk4 p (mem p hp))
      rw [upd_ne (ne_of h5 (s5 _ _ hx4) (fun z => nomatch z))]
      exact h5

/-! ### == -/
def endD : Option Str → PyData
  | none => .none
  | some t => .str t
def ruleD (r : Rule) : PyData := .tuple [endD r.low, endD r.high, .int r.gap]
theorem dp_end {H : Hp} : ∀ e : Option Str, Dp K H (endV e) (endD e)
  | none => .non
  | some t => .str t
theorem dp_rules {H : Hp} : ∀ {L : List (Rule × Addr)}, KeyTups H L → DpAll K H (L.map fun p => V.ref p.2) (L.map fun p => ruleD p.1)
  | [], _ => .nil
  | p :: r, h => .cons (.tup (SqT.of (h p (List.mem_cons_self ..))) (.cons (dp_end _) (.cons (dp_end _) (.cons (.int _) .nil)))) (dp_rules fun q hq => h q (List.mem_cons_of_mem _ hq))
theorem dp_strs {H : Hp} : ∀ ts : List Str, DpAll K H (ts.map V.str) (ts.map PyData.str)
  | [] => .nil
  | t :: r => .cons (.str t) (dp_strs r)
theorem name_strOk {t : Str} (h : nameB t = true) : PyData.strOk t = true := by
  unfold nameB at h
  rw [Bool.and_eq_true, List.all_eq_true] at h
  unfold PyData.strOk
  rw [← Array.all_toList, List.all_eq_true]
  intro c hc
  have := h.2 c hc
  unfold letterOk at this
  rw [Bool.and_eq_true, Bool.not_eq_true', Bool.not_eq_true', decide_eq_false_iff_not, decide_eq_false_iff_not] at this
  rw [decide_eq_true_iff]
  have h2 : ¬ (122 < c) := fun z => this.2 (List.Lex.rel z)
  omega
theorem lay_strs : ∀ ts : List Str, (∀ t ∈ ts, PyData.strOk t = true) → PyData.canLayAll0 (ts.map PyData.str) = true ∧ PyData.depthAll (ts.map PyData.str) = 0
  | [], _ => ⟨by simp [PyData.canLayAll0], by simp [PyData.depthAll]⟩
  | c :: r, h => by
    obtain ⟨h1, h2⟩ := lay_strs r fun t ht => h t (List.mem_cons_of_mem _ ht)
    have h3 := h c (List.mem_cons_self ..)
    refine ⟨?_, ?_⟩
    · simp [PyData.canLayAll0, PyData.canLay0, h1, h3]
    · simp [PyData.depthAll, PyData.depth, h2]
theorem shaped_strs (ts : List Str) (h : ∀ t ∈ ts, PyData.strOk t = true) : SeqAt.shaped (.list (ts.map PyData.str)) = true := by
  obtain ⟨h1, h2⟩ := lay_strs ts h
  simp [SeqAt.shaped, PyData.canLay0, h1, PyData.depth, h2]
/-- its texts can be laid -/
def ROk (r : Rule) : Prop := (∀ t, r.low = some t → PyData.strOk t = true) ∧ ∀ t, r.high = some t → PyData.strOk t = true
theorem RuleOk.rok {ts : List Str} {r : Rule} (N : NamesOk ts) (h : RuleOk ts r) : ROk r := ⟨fun t e => name_strOk (end_name N h.low t e), fun t e => name_strOk (end_name N h.high t e)⟩
theorem lay_rule (r : Rule) (h : ROk r) : PyData.canLay0 (ruleD r) = true ∧ (ruleD r).depth = 1 := by
  obtain ⟨l, g, n⟩ := r
  obtain ⟨h1, h2⟩ := h
  have hl : PyData.canLay0 (endD l) = true ∧ (endD l).depth = 0 := by
    cases l with
    | none => exact ⟨by simp [endD, PyData.canLay0], by simp [endD, PyData.depth]⟩
    | some t => exact ⟨by simp [endD, PyData.canLay0, h1 t rfl], by simp [endD, PyData.depth]⟩
  have hg : PyData.canLay0 (endD g) = true ∧ (endD g).depth = 0 := by
    cases g with
    | none => exact ⟨by simp [endD, PyData.canLay0], by simp [endD, PyData.depth]⟩
    | some t => exact ⟨by simp [endD, PyData.canLay0, h2 t rfl], by simp [endD, PyData.depth]⟩
  refine ⟨?_, ?_⟩
  · simp [ruleD, PyData.canLay0, PyData.canLayAll0, hl.1, hg.1]
  · simp [ruleD, PyData.depth, PyData.depthAll, hl.2, hg.2]
theorem lay_rules : ∀ L : List (Rule × Addr), (∀ p ∈ L, ROk p.1) → PyData.canLayAll0 (L.map fun p => ruleD p.1) = true ∧ PyData.depthAll (L.map fun p => ruleD p.1) ≤ 1
  | [], _ => ⟨by simp [PyData.canLayAll0], by simp [PyData.depthAll]⟩
  | c :: r, h => by
    obtain ⟨h1, h2⟩ := lay_rules r fun t ht => h t (List.mem_cons_of_mem _ ht)
    obtain ⟨h3, h4⟩ := lay_rule c.1 (h c (List.mem_cons_self ..))
    refine ⟨?_, ?_⟩
    · simp [PyData.canLayAll0, h1, h3]
    · simp only [List.map_cons, PyData.depthAll, h4]
      omega
theorem shaped_rules (L : List (Rule × Addr)) (h : ∀ p ∈ L, ROk p.1) : SeqAt.shaped (.list (L.map fun p => ruleD p.1)) = true := by
  obtain ⟨h1, h2⟩ := lay_rules L h
  simp [SeqAt.shaped, PyData.canLay0, h1, PyData.depth]
  omega
theorem eqv_strs : ∀ a b : List Str, PyData.eqvAll (a.map PyData.str) (b.map PyData.str) = decide (a = b)
  | [], [] => by simp [PyData.eqvAll]
  | [], _ :: _ => by simp [PyData.eqvAll]
  | _ :: _, [] => by simp [PyData.eqvAll]
  | x :: a, y :: b => by
    rw [List.map_cons, List.map_cons, PyData.eqvAll, eqv_strs a b]
    rw [Bool.eq_iff_iff]
    simp [PyData.eqv]
theorem eqv_end (a b : Option Str) : PyData.eqv (endD a) (endD b) = decide (a = b) := by
  rw [Bool.eq_iff_iff]
  cases a <;> cases b <;> simp [endD, PyData.eqv]
theorem eqv_rule (a b : Rule) : PyData.eqv (ruleD a) (ruleD b) = decide (a = b) := by
  unfold ruleD
  rw [PyData.eqv, PyData.eqvAll, PyData.eqvAll, PyData.eqvAll, PyData.eqvAll, eqv_end, eqv_end]
  rw [Bool.eq_iff_iff]
  obtain ⟨a1, a2, a3⟩ := a
  obtain ⟨b1, b2, b3⟩ := b
  simp [PyData.eqv]
theorem eqv_rules : ∀ a b : List (Rule × Addr), PyData.eqvAll (a.map fun p => ruleD p.1) (b.map fun p => ruleD p.1) = decide (a.map (·.1) = b.map (·.1))
  | [], [] => by simp [PyData.eqvAll]
  | [], _ :: _ => by simp [PyData.eqvAll]
  | _ :: _, [] => by simp [PyData.eqvAll]
  | x :: a, y :: b => by
    rw [List.map_cons, List.map_cons, PyData.eqvAll, eqv_rules a b, eqv_rule]
    rw [Bool.eq_iff_iff]
    simp

/-- the answer of == to a system with the names ns and the rules L -/
def EqAns (K : PySem.W.Frag) (C : Addr) (H : Hp) (ns : List Str) (L : List (Rule × Addr)) (y : V) (b : Bool) : Prop :=
  (∃ (z : Addr) (ns' : List Str) (L' : List (Rule × Addr)), y = .ref z ∧ SysAt C H z ns' L' ∧ b = (decide (ns = ns') && decide (L.map (·.1) = L'.map (·.1)))) ∨ (∃ t, TyX K H y t ∧ PySem.W.kitOne K t (.ref C) = some false ∧ b = false)
def spEq (K : PySem.W.Frag) (C : Addr) : Sp := fun vs H Q _ => ∃ (x : Addr) (y : V) (ns : List Str) (L : List (Rule × Addr)) (b : Bool), vs = [.ref x, y] ∧ SysAt C H x ns L ∧ EqAns K C H ns L y b ∧ Q (.bl b) H
theorem ok_eq {C : Addr} {qn : Str} {f : Addr} {fd : FuncData} (F : Fun K "__eq__" qn s_System___eq f fd) (T : SysC K mg C) (I : C8.InsC K C) (B : Blt2 mg) : FnOk P w K mg base CX0 1 f fd ["self", "other"] (spEq K C) := by
  have C_System := T.mgC
  refine F.ok sc_System___eq (fun vs H Q E h => ?_) (fun cdv A outer s H vs Q E hr h => ?_)
  · obtain ⟨x, y, ns, L, b, rfl, _⟩ := h
    rfl
  · obtain ⟨x, y, ns, L, b, rfl, hx, hy, q⟩ := h
    refine ⟨_, (pss_one (ps_ret (pe_and (pe_callB call_isi (by rfl) B.isinstance (by decide +kernel) (pa_cons (pv 1) (pa_cons (pe_glob (v := .ref C) rfl C_System rfl) pa_nil))) (pe_and (pe_cmpR (op_eqD (hu_of64 hr)) (pe_fld (pv 0) rfl) (pe_fld (pv 1) rfl) (nomark _)) (pe_one (pe_cmpR (op_eqD (hu_of64 hr)) (pe_fld (pv 0) rfl) (pe_fld (pv 1) rfl) (nomark _))))))), ?_⟩
    rcases hy with ⟨z, ns', L', rfl, hz, rfl⟩ | ⟨t, ty, kt, rfl⟩
    · obtain ⟨dx, ln, lr, h1, h2, h3, h4, h5⟩ := hx
      obtain ⟨dx', ln', lr', g1, g2, g3, g4, g5⟩ := hz
      refine ⟨_, rfl, _, _, _, _, true, rfl, .own C, .base (.ins g1 I.cl I.ha I.hn I.htk I.hm), I.me, true, rfl, ?_⟩
      refine ⟨_, rfl, x, C, dx, _, _, rfl, h1, T.cl, T.nN, sysF_names _ _, _, rfl, z, C, dx', _, _, rfl, g1, T.cl, T.nN, sysF_names _ _, ?_⟩
      refine ⟨_, _, .lst (SqL.of h2) (dp_strs ns), .lst (SqL.of g2) (dp_strs ns'), shaped_strs ns (fun t ht => name_strOk (h5.names.2.1 t ht)), shaped_strs ns' (fun t ht => name_strOk (g5.names.2.1 t ht)), _, rfl, ?_⟩
      rw [PyData.eqv, eqv_strs]
      cases e : decide (ns = ns') with
      | false =>
        rw [e, Bool.false_and] at q
        exact q
      | true =>
        rw [e, Bool.true_and] at q
        refine ⟨_, rfl, x, C, dx, _, _, rfl, h1, T.cl, T.nR, sysF_rules _ _, _, rfl, z, C, dx', _, _, rfl, g1, T.cl, T.nR, sysF_rules _ _, ?_⟩
        refine ⟨_, _, .lst (SqL.of h3) (dp_rules h4), .lst (SqL.of g3) (dp_rules g4), shaped_rules L (fun t ht => (h5.rules t ht).rok h5.names), shaped_rules L' (fun t ht => (g5.rules t ht).rok g5.names), ?_⟩
        rw [PyData.eqv, eqv_rules]
        exact q
    · refine ⟨_, rfl, _, _, _, _, false, rfl, .own C, ty, kt, false, rfl, ?_⟩
      exact q
end
end Wnd

namespace Wnd
open PySem PySem.Spec PyProof.Rows L2
abbrev s_law_some : Stmt := top 54
theorem sc_law_some : FnScope ["_law_pen_here", "_law_pool", "_law_most", "_law_left", "_law_turn"] ["_law_pen_here", "_law_pool", "_law_most"] (defScope s_law_some) := ⟨rfl, rfl, rfl, by decide +kernel, rfl, by decide +kernel, by decide +kernel⟩
abbrev s_law_nyms : Stmt := top 55
theorem sc_law_nyms : FnScope ["_law_pen_here", "_law_most"] ["_law_pen_here", "_law_most"] (defScope s_law_nyms) := ⟨rfl, rfl, rfl, by decide +kernel, rfl, by decide +kernel, by decide +kernel⟩
abbrev s_law_goal : Stmt := top 56
theorem sc_law_goal : FnScope ["_law_pen_here", "_law_nyms_here", "_law_wide", "_law_nym"] ["_law_pen_here", "_law_nyms_here"] (defScope s_law_goal) := ⟨rfl, rfl, rfl, by decide +kernel, rfl, by decide +kernel, by decide +kernel⟩
abbrev s_law_at : Stmt := top 57
theorem sc_law_at : FnScope ["_law_held", "_law_thing"] ["_law_held", "_law_thing"] (defScope s_law_at) := ⟨rfl, rfl, rfl, by decide +kernel, rfl, by decide +kernel, by decide +kernel⟩
abbrev s_law_gaps : Stmt := top 58
theorem sc_law_gaps : FnScope ["_law_pen_here", "_law_nyms_here", "_law_goals", "_law_most", "_law_found", "_law_things", "_law_turn", "_law_left", "_law_first", "_law_second", "_law_spans", "_law_gap", "_law_goal_here"] ["_law_pen_here", "_law_nyms_here", "_law_goals", "_law_most"] (defScope s_law_gaps) := ⟨rfl, rfl, rfl, by decide +kernel, rfl, by decide +kernel, by decide +kernel⟩
section
variable {P : Program} {w : World} {K : PySem.W.Frag} {mg : Str → Option Value} {base : Heap}
/-- the pool at a keeps as it is -/
def spSome (K : PySem.W.Frag) : Sp := fun vs H Q _ => ∃ (p c a : Addr) (n m : Nat) (xs : List V), vs = [.ref p, .ref a, .int m] ∧ PenAt H p c n ∧ n ≤ 900000 ∧ SqL K H a xs ∧ xs.length < 1000 ∧ m ≤ 1000 ∧
  ∀ r H' n' (ys rest : List V), But p H H' → H r = none → H' r = some (.lst ys) → (ys ++ rest).Perm xs → ys.length ≤ m → PenAt H' p c n' → n' ≤ n + m + 1 → Q (.ref r) H'
theorem perm_pop {ys rest xs : List V} {k : Nat} (hk : k < rest.length) (h : (ys ++ rest).Perm xs) : ((ys ++ [rest[k]]) ++ rest.eraseIdx k).Perm xs := by
  refine List.Perm.trans ?_ h
  rw [List.append_assoc]
  refine List.Perm.append_left ys ?_
  rw [List.singleton_append]
  exact cons_erase rest k hk
theorem PenAt.upd {H : Hp} {p c a : Addr} {n : Nat} {o : HO} (h : PenAt H p c n) (hp : a ≠ p) (hc : a ≠ c) : PenAt (L2.upd H a o) p c n := by
  obtain ⟨cs, i, z, g1, g2, g3, g4⟩ := h
  exact ⟨cs, i, z, g1, g2, by rw [upd_ne hc.symm]; exact g3, by rw [upd_ne hp.symm]; exact g4⟩
theorem PenAt.cells {H : Hp} {p c : Addr} {n : Nat} (h : PenAt H p c n) : ∃ o, H c = Option.some o := by
  obtain ⟨cs, i, z, g1, g2, g3, g4⟩ := h
  exact ⟨_, g3⟩
theorem PenAt.out {H : Hp} {p c a : Addr} {n : Nat} (h : PenAt H p c n) (ha : H a = none) : a ≠ p ∧ a ≠ c := by
  obtain ⟨o, ho⟩ := h.some
  obtain ⟨o', ho'⟩ := h.cells
  exact ⟨(ne_of_none ho ha).symm, (ne_of_none ho' ha).symm⟩
theorem PenAt.ne_strs {H : Hp} {p c a : Addr} {n : Nat} {ts : List Str} (h : PenAt H p c n) (ha : H a = Option.some (.lst (ts.map V.str))) : a ≠ p := by
  obtain ⟨cs, i, z, g1, g2, g3, g4⟩ := h
  refine L2.ne_of ha g4 fun e => ?_
  cases ts with
  | nil => cases e
  | cons x r => cases e
theorem PenAt.ne_refs {H : Hp} {p c a : Addr} {n : Nat} {L : List Addr} (h : PenAt H p c n) (ha : H a = Option.some (.lst (L.map V.ref))) : a ≠ p := by
  obtain ⟨cs, i, z, g1, g2, g3, g4⟩ := h
  refine L2.ne_of ha g4 fun e => ?_
  cases L with
  | nil => cases e
  | cons x r =>
    cases r with
    | nil => cases e
    | cons y r => cases e
theorem PenAt.ne_of {H : Hp} {p c a : Addr} {n : Nat} {o : HO} (h : PenAt H p c n) (ha : H a = Option.some o) (no : ∀ xs, o ≠ .lst xs) : a ≠ p := by
  obtain ⟨cs, i, z, g1, g2, g3, g4⟩ := h
  exact L2.ne_of ha g4 fun e => no _ e
theorem seqIx_nat {k n : Nat} (h : k < n) : seqIndex? (k : Int) n = some k := by
  unfold seqIndex?
  have h0 : ¬ ((k : Int) < 0) := by omega
  simp [h0, h]
theorem ok_some {f : Addr} {fd : FuncData} (D : DefAt K mg "_law_some" s_law_some ["_law_pen_here", "_law_pool", "_law_most"] f fd) (B : Blt mg) (O_law_draw : Ok P w K mg base 2 "_law_draw" ["_law_pen_here", "_law_under"] spDraw) : Ok P w K mg base 3 "_law_some" ["_law_pen_here", "_law_pool", "_law_most"] (spSome K) := by
  refine D.ok (D.fn.ok sc_law_some (fun vs H Q E h => ?_) (fun cdv A outer s H vs Q E hr h => ?_))
  · obtain ⟨p, c, a, n, m, xs, rfl, _⟩ := h
    rfl
  · obtain ⟨p, c, a, n, m, xs, rfl, hP, hn, hS, hz, hm, q⟩ := h
    have nd := sc_law_some.nd
    refine ⟨_, (pss_cons (ps_set (i := 3) nd rfl (Or.inr rfl) (pe_callTy call_list_of (by rfl) B.list (by decide +kernel) (pa_cons (pv 1) pa_nil)))
      (pss_one (ps_ret (pe_lc (own := [("_law_turn", 4)]) (g := gName 4) (tt := tYes) (by rfl) nd (pi_range1 (by rfl) B.range (pa_cons (pe_own O_law_draw (hr.mono (by decide)) (pa_cons (pv 0) (pa_cons (pe_op op_add (pe_callB (call_min2 rfl) (by rfl) B.min (by decide +kernel) (pa_cons (pv 2) (pa_cons (pe_callB call_len_seq (by rfl) B.len PySem.boot_len (pa_cons (pv 3) pa_nil)) pa_nil))) pe_int) pa_nil))) pa_nil)) (blkOk_by (own := [("_law_turn", 4)]) (N := ["_law_pen_here", "_law_pool", "_law_most", "_law_left", "_law_turn"]) (sc := defScope s_law_some) (by decide +kernel)) (fun _ _ _ _ _ => (pg_name (i := 4) nd rfl (Or.inl rfl))) (fun _ _ _ _ _ => pts_nil) (fun _ _ _ _ _ => (pe_bmB K PySem.F.plainAttrs_list PySem.F.slot_list_pop PySem.F.type_list_pop mt_popAt (pv 3) (pa_cons (pe_own O_law_draw (hr.mono (by decide)) (pa_cons (pv 0) (pa_cons (pe_callB (call_lenK K) (by rfl) B.len PySem.boot_len (pa_cons (pv 3) pa_nil)) pa_nil))) pa_nil))))))), ?_⟩
    refine ⟨_, rfl, a, xs, rfl, .inl hS, fun l hl => ?_⟩
    have s1 : Same H (upd H l (.lst xs)) := same_new hl
    have hP1 := hP.same s1
    have hL1 : (upd H l (.lst xs)) l = some (.lst xs) := upd_same
    obtain ⟨npl, ncl⟩ := hP.out hl
    generalize upd H l (.lst xs) = H1 at s1 hP1 hL1 ⊢
    refine ⟨_, rfl, _, rfl, _, rfl, l, xs, rfl, .inl (SqL.of hL1), m, xs.length, rfl, _, _, rfl, rfl, ?_⟩
    obtain ⟨u, hu⟩ : ∃ u : Int, (if (xs.length : Int) < (m : Int) then (xs.length : Int) else (m : Int)) = u := ⟨_, rfl⟩
    have hu0 : 0 ≤ u ∧ u ≤ m ∧ u ≤ xs.length := by
      rw [← hu]
      split <;> omega
    rw [hu]
    refine ⟨p, c, n, u + 1, rfl, hP1, by omega, by omega, by omega, fun d H2 hd0 hd1 b2 hP2 => ?_⟩
    refine ⟨d, rfl, by omega, by omega, fun D hD => ?_⟩
    obtain ⟨nDp, nDc⟩ := hP2.out hD
    have hD1 : H1 D = none := b2.free nDp hD
    have nlD : l ≠ D := ne_of_none hL1 hD1
    have hD0 : H D = none := s1.free hD1
    have hL2 : H2 l = some (.lst xs) := b2 _ _ hL1 npl
    have b02 : But p H H2 := (But.of s1).trans b2
    refine lc_it walk_range (fun i Hc => ∃ ys rest, ys.length = i ∧ (ys ++ rest).Perm xs ∧ Hc l = some (.lst rest) ∧ Hc D = some (.lst ys) ∧ But p H Hc ∧ PenAt Hc p c (n + 1 + i)) ⟨[], xs, rfl, List.Perm.refl _, by rw [upd_ne nlD, hL2], upd_same, b02.trans (But.new hD), hP2.same (same_new hD)⟩ (fun _ _ _ _ => True.intro) ?_ ?_
    · rintro i x Hc H' hi ⟨ys, rest, rfl, hp, h1, h2, b, hPc⟩ ⟨rfl, rfl⟩
      have hlen : ys.length + rest.length = xs.length := by
        have := hp.length_eq
        rwa [List.length_append] at this
      refine ⟨rfl, ?_⟩
      refine ⟨_, rfl, .inl ⟨rfl, _, SqL.of h1⟩, ?_⟩
      refine ⟨_, rfl, _, rfl, l, rest, rfl, .inl (SqL.of h1), ?_⟩
      refine ⟨p, c, _, rest.length, rfl, hPc, by omega, by omega, by omega, fun e H3 he0 he1 b3 hP3 => ?_⟩
      obtain ⟨k, rfl⟩ := Int.eq_ofNat_of_zero_le he0
      have hk : k < rest.length := by omega
      have h1' := b3 _ _ h1 npl
      have h2' := b3 _ _ h2 nDp
      refine ⟨l, rest, k, k, rest[k], rfl, rfl, h1', by omega, by omega, ?_, List.getElem?_eq_getElem hk, ?_⟩
      · exact seqIx_nat hk
      · refine ⟨ys, by rw [upd_ne nlD.symm]; exact h2', by have : sizeLine > 1000 := by decide
                                                           omega, ?_⟩
        refine ⟨ys ++ [rest[k]], rest.eraseIdx k, by rw [List.length_append]; rfl, perm_pop hk hp, ?_, upd_same, ?_, ?_⟩
        · rw [upd_ne nlD, upd_same]
        · intro z o hz nz
          rw [upd_ne (ne_of_none hz hD0), upd_ne (ne_of_none hz hl)]
          exact b3 _ _ (b _ _ hz nz) nz
        · have := (hP3.upd (o := .lst (rest.eraseIdx k)) npl ncl).upd (o := .lst (ys ++ [rest[k]])) nDp nDc
          exact this.le (by omega)
    · rintro Hc ⟨ys, rest, hy, hp, h1, h2, b, hPc⟩
      exact q D Hc _ ys rest b hD0 h2 hp (by omega) hPc (by omega)

def nymPool : List Str := ["a", "ab", "b", "c", "none", "x", "abcdefgh", "settings", "zz"]
theorem pool_nodup : nymPool.Nodup := by decide +kernel
theorem pool_names : ∀ t ∈ nymPool, nameB t = true := by decide +kernel
def spNyms : Sp := fun vs H Q _ => ∃ (p c : Addr) (n m : Nat), vs = [.ref p, .int m] ∧ PenAt H p c n ∧ n ≤ 900000 ∧ m ≤ 1000 ∧
  ∀ r H' n' (ts : List Str), But p H H' → H r = none → H' r = some (.lst (ts.map V.str)) → ts.Nodup → (∀ t ∈ ts, t ∈ nymPool) → ts.length ≤ m → PenAt H' p c n' → n' ≤ n + m + 1 → Q (.ref r) H'
theorem map_of_perm {ys rest : List V} {ts : List Str} (h : (ys ++ rest).Perm (ts.map V.str)) (nd : ts.Nodup) : ∃ us : List Str, ys = us.map V.str ∧ us.Nodup ∧ ∀ t ∈ us, t ∈ ts := by
  have all : ∀ y ∈ ys, ∃ t ∈ ts, V.str t = y := fun y hy => List.mem_map.mp (h.mem_iff.mp (List.mem_append_left _ hy))
  have ndm : (ys ++ rest).Nodup := h.nodup_iff.mpr (by
    refine List.Pairwise.map V.str (fun a b ne e => ne (by injection e)) nd)
  have ndy := (List.nodup_append.mp ndm).1
  clear h ndm
  induction ys with
  | nil => exact ⟨[], rfl, List.nodup_nil, fun _ h => nomatch h⟩
  | cons y r ih =>
    obtain ⟨us, rfl, h1, h2⟩ := ih (fun y hy => all y (List.mem_cons_of_mem _ hy)) (List.nodup_cons.mp ndy).2
    obtain ⟨t, ht, rfl⟩ := all y (List.mem_cons_self ..)
    refine ⟨t :: us, rfl, List.nodup_cons.mpr ⟨fun m => (List.nodup_cons.mp ndy).1 (List.mem_map.mpr ⟨t, m, rfl⟩), h1⟩, fun x hx => ?_⟩
    rcases List.mem_cons.mp hx with rfl | hx
    · exact ht
    · exact h2 x hx
theorem ok_nyms {f : Addr} {fd : FuncData} (D : DefAt K mg "_law_nyms" s_law_nyms ["_law_pen_here", "_law_most"] f fd) (B : Blt mg) (O_law_some : Ok P w K mg base 3 "_law_some" ["_law_pen_here", "_law_pool", "_law_most"] (spSome K)) : Ok P w K mg base 4 "_law_nyms" ["_law_pen_here", "_law_most"] spNyms := by
  refine D.ok (D.fn.ok sc_law_nyms (fun vs H Q E h => ?_) (fun cdv A outer s H vs Q E hr h => ?_))
  · obtain ⟨p, c, n, m, rfl, _⟩ := h
    rfl
  · obtain ⟨p, c, n, m, rfl, hP, hn, hm, q⟩ := h
    refine ⟨_, (pss_one (ps_ret (pe_own O_law_some (hr.mono (by decide)) (pa_cons (pv 0) (pa_cons (pe_lst (pa_cons pe_str (pa_cons pe_str (pa_cons pe_str (pa_cons pe_str (pa_cons pe_str (pa_cons pe_str (pa_cons pe_str (pa_cons pe_str (pa_cons pe_str pa_nil)))))))))) (pa_cons (pv 1) pa_nil)))))), ?_⟩
    refine ⟨_, rfl, by show 9 ≤ sizeLine; decide, fun l hl => ?_⟩
    have s1 : Same H (upd H l (.lst (nymPool.map V.str))) := same_new hl
    refine ⟨_, rfl, p, c, l, n, m, nymPool.map V.str, rfl, hP.same s1, hn, SqL.of upd_same, by decide, hm, fun r H' n' ys rest b nr hr hp hy hP' hn' => ?_⟩
    obtain ⟨us, rfl, h1, h2⟩ := map_of_perm hp pool_nodup
    exact q r H' n' us ((But.of s1).trans b) (s1.free nr) hr h1 h2 (by rwa [List.length_map] at hy) hP' hn'

/-! ### numbers of the settings -/
def goalKV (g : List (Str × Int)) : List (Key × V) := g.map fun x => (Sum.inr x.1, V.int x.2)
theorem mergeK_app : ∀ (more acc : List (Key × V)), ((acc ++ more).map (·.1)).Nodup → mergeK acc more = acc ++ more
  | [], acc, _ => (List.append_nil acc).symm
  | x :: r, acc, h => by
    have h2 : acc ++ x :: r = (acc ++ [x]) ++ r := by rw [List.append_assoc]; rfl
    rw [h2] at h ⊢
    have e : putK acc x.1 x.2 = acc ++ [x] := by
      unfold putK
      rw [if_neg]
      intro z
      obtain ⟨y, hy, e⟩ := List.any_eq_true.mp z
      have e := of_decide_eq_true e
      rw [List.map_append, List.map_append] at h
      have h3 := (List.nodup_append.mp (List.nodup_append.mp h).1).2.2
      exact h3 y.1 (List.mem_map.mpr ⟨y, hy, rfl⟩) x.1 (List.mem_singleton.mpr rfl) e
    show mergeK (putK acc x.1 x.2) r = _
    rw [e]
    exact mergeK_app r (acc ++ [x]) h
theorem goal_keys (g : List (Str × Int)) : (goalKV g).map (·.1) = (g.map (·.1)).map Sum.inr := by
  unfold goalKV
  rw [List.map_map, List.map_map]
  rfl
theorem goal_merge {g : List (Str × Int)} (h : (g.map (·.1)).Nodup) : mergeK [] (goalKV g) = goalKV g := by
  refine (mergeK_app (goalKV g) [] ?_).trans (List.nil_append _)
  rw [List.nil_append, goal_keys]
  exact List.Pairwise.map Sum.inr (fun a b ne e => ne (by injection e)) h
def spGoal (K : PySem.W.Frag) : Sp := fun vs H Q _ => ∃ (p c a : Addr) (n : Nat) (ts : List Str), vs = [.ref p, .ref a] ∧ PenAt H p c n ∧ n ≤ 900000 ∧ H a = some (.lst (ts.map V.str)) ∧ ts.Nodup ∧ ts.length < 1000 ∧
  ∀ r H' n' (g : List (Str × Int)), But p H H' → H r = none → H' r = some (.dK (goalKV g)) → g.map (·.1) = ts → (∀ x ∈ g, -900 ≤ x.2 ∧ x.2 ≤ 900) → PenAt H' p c n' → n' ≤ n + ts.length + 1 → Q (.ref r) H'
theorem pick {xs : List Int} {d : Int} (h0 : 0 ≤ d) (h1 : d < xs.length) : ∃ w, w ∈ xs ∧ atI (xs.map V.int) d = some (.int w) := by
  obtain ⟨k, rfl⟩ := Int.eq_ofNat_of_zero_le h0
  have hk : k < xs.length := by omega
  exact ⟨xs[k], List.getElem_mem hk, atI_nat (by rw [List.getElem?_map, List.getElem?_eq_getElem hk]; rfl)⟩
theorem ok_goal {f : Addr} {fd : FuncData} (D : DefAt K mg "_law_goal" s_law_goal ["_law_pen_here", "_law_nyms_here"] f fd) (B : Blt mg) (O_law_draw : Ok P w K mg base 2 "_law_draw" ["_law_pen_here", "_law_under"] spDraw) : Ok P w K mg base 3 "_law_goal" ["_law_pen_here", "_law_nyms_here"] (spGoal K) := by
  refine D.ok (D.fn.ok sc_law_goal (fun vs H Q E h => ?_) (fun cdv A outer s H vs Q E hr h => ?_))
  · obtain ⟨p, c, a, n, ts, rfl, _⟩ := h
    rfl
  · obtain ⟨p, c, a, n, ts, rfl, hP, hn, hS, nodup, hz, q⟩ := h
    have nd := sc_law_goal.nd
    refine ⟨_, (pss_cons (ps_set (i := 2) nd rfl (Or.inr rfl) (pe_ix ix_list (pe_lst (pa_cons pe_int (pa_cons pe_int (pa_cons pe_int (pa_cons pe_int pa_nil))))) (pe_own O_law_draw (hr.mono (by decide)) (pa_cons (pv 0) (pa_cons pe_int pa_nil))) (fun _ _ => rfl)))
      (pss_one (ps_ret (pe_callTy (call_dictP rfl) (by rfl) B.dict (by decide +kernel) (pa_cons (pe_lc (own := [("_law_nym", 3)]) (g := gName 3) (tt := tYes) (by rfl) nd (pi_list (pv 1)) (blkOk_by (own := [("_law_nym", 3)]) (N := ["_law_pen_here", "_law_nyms_here", "_law_wide", "_law_nym"]) (sc := defScope s_law_goal) (by decide +kernel)) (fun _ _ _ _ _ => (pg_name (i := 3) nd rfl (Or.inl rfl))) (fun _ _ _ _ _ => pts_nil) (fun _ _ _ _ _ => (pe_tup (pa_cons (pv 3) (pa_cons (pe_op op_sub (pe_own O_law_draw (hr.mono (by decide)) (pa_cons (pv 0) (pa_cons (pv 2) pa_nil))) (pe_op op_fdiv (pv 2) pe_int)) pa_nil))))) pa_nil))))), ?_⟩
    refine ⟨by show 4 ≤ sizeLine; decide, fun l hl => ?_⟩
    obtain ⟨npl, ncl⟩ := hP.out hl
    have s1 : Same H (upd H l (.lst ([3, 5, 11, 1801].map V.int))) := same_new hl
    refine ⟨_, rfl, p, c, n, 4, rfl, hP.same s1, by omega, by omega, by omega, fun d H2 hd0 hd1 b2 hP2 => ?_⟩
    obtain ⟨wd, hw, he⟩ := pick (xs := [3, 5, 11, 1801]) hd0 hd1
    have hw0 : 3 ≤ wd ∧ wd ≤ 1801 := by
      simp only [List.mem_cons, List.not_mem_nil, or_false] at hw
      omega
    refine ⟨l, _, d, _, rfl, rfl, SqL.of (b2 _ _ upd_same npl), he, ?_⟩
    have b02 := (But.of s1).trans b2
    have nap := hP.ne_strs hS
    have hS2 := b02 _ _ hS nap
    refine ⟨_, rfl, a, rfl, ⟨_, SqL.of hS2⟩, fun D hD => ?_⟩
    obtain ⟨nDp, nDc⟩ := hP2.out hD
    have hD0 : H D = none := b02.free nDp hD
    refine lc_it walk_list (fun i Hc => ∃ (ps : List Addr) (g : List (Str × Int)), g.map (·.1) = ts.take i ∧ (∀ x ∈ g, -900 ≤ x.2 ∧ x.2 ≤ 900) ∧ Paired (fun u x => Hc u = some (.tup [.str x.1, .int x.2])) ps g ∧ Hc D = some (.lst (ps.map V.ref)) ∧ But p H Hc ∧ PenAt Hc p c (n + 1 + i))
      ⟨[], [], rfl, (fun _ h => nomatch h), .nil, upd_same, b02.trans (But.new hD), hP2.same (same_new hD)⟩ (fun i Hc _ ⟨_, _, _, _, _, _, b, _⟩ => SqL.of (b _ _ hS nap)) ?_ ?_
    · rintro i x Hc H' hi ⟨ps, g, hg, hb, hp, h2, b, hPc⟩ ⟨rfl, hx⟩
      obtain ⟨t, ht, rfl⟩ := get_map hx
      have hpl : ps.length = i := by
        have h1 := hp.length
        have h2 : (g.map (·.1)).length = (ts.take i).length := by rw [hg]
        rw [List.length_map, List.length_take] at h2
        rw [List.length_map] at hi
        omega
      refine ⟨rfl, ?_⟩
      refine ⟨_, rfl, ?_⟩
      have hi' : i < ts.length := by rwa [List.length_map] at hi
      refine ⟨_, rfl, _, rfl, p, c, _, wd, rfl, hPc, by omega, by omega, by omega, fun e H3 he0 he1 b3 hP3 => ?_⟩
      refine ⟨_, rfl, wd, 2, rfl, rfl, ⟨by decide, by decide⟩, _, _, rfl, rfl, by show 2 ≤ sizeLine; decide, fun T hT => ?_⟩
      have h2' := b3 _ _ h2 nDp
      have nDT : D ≠ T := ne_of_none h2' hT
      obtain ⟨nTp, nTc⟩ := hP3.out hT
      refine ⟨ps.map V.ref, by rw [upd_ne nDT]; exact h2', by rw [List.length_map]; have : sizeLine > 1000 := by decide
                                                              omega, ps ++ [T], g ++ [(t, e - wd / 2)], ?_, ?_, ?_, ?_, ?_, ?_⟩
      · rw [List.map_append, hg, List.take_add_one, ht]
        rfl
      · intro x hx
        rcases List.mem_append.mp hx with hx | hx
        · exact hb x hx
        · rw [List.mem_singleton.mp hx]
          show -900 ≤ e - wd / 2 ∧ e - wd / 2 ≤ 900
          omega
      · refine Paired.snoc (Paired.mono (fun u x hu => ?_) hp) ?_
        · have hu3 := b3 _ _ hu (hPc.ne_of hu fun xs z => nomatch z)
          rw [upd_ne (ne_of hu3 h2' fun z => nomatch z), upd_ne (ne_of_none hu3 hT)]
          exact hu3
        · rw [upd_ne nDT.symm]
          exact upd_same
      · rw [upd_same, List.map_append]
        rfl
      · intro z o hz nz
        rw [upd_ne (ne_of_none hz hD0), upd_ne (ne_of_none (b3 _ _ (b _ _ hz nz) nz) hT)]
        exact b3 _ _ (b _ _ hz nz) nz
      · exact ((hP3.same (same_new hT)).upd nDp nDc).le (by omega)
    · rintro Hc ⟨ps, g, hg, hb, hp, h2, b, hPc⟩
      rw [List.length_map, List.take_length] at hg
      have nodg : (g.map (·.1)).Nodup := by rw [hg]; exact nodup
      have hp2 : ∀ {ps : List Addr} {g : List (Str × Int)}, Paired (fun u x => Hc u = some (.tup [.str x.1, .int x.2])) ps g → Paired (fun u (kv : Key × V) => SqT K Hc u [kV kv.1, kv.2]) ps (goalKV g) := by
        intro ps g h
        induction h with
        | nil => exact .nil
        | cons h1 h2 ih => exact .cons (SqT.of h1) ih
      refine ⟨D, ps, goalKV g, rfl, SqL.of h2, hp2 hp, fun r hr' => ?_⟩
      rw [goal_merge nodg]
      exact q r _ _ g (b.trans (But.new hr')) ((b.trans (But.refl _ _)).free (hPc.out hr').1 hr') upd_same hg hb (hPc.same (same_new hr')) (by rw [List.length_map]; omega)

/-- the number of an end -/
def valG (g : List (Str × Int)) : Option Str → Int
  | none => 0
  | some t => (g.lookup t).getD 0
def spAt : Sp := fun vs H Q _ => ∃ (d : Addr) (g : List (Str × Int)) (e : Option Str), vs = [.ref d, endV e] ∧ H d = some (.dK (goalKV g)) ∧ (∀ t, e = some t → t ∈ g.map (·.1)) ∧ Q (.int (valG g e)) H
theorem goal_val {t : Str} : ∀ {g : List (Str × Int)}, t ∈ g.map (·.1) → valV (goalKV g) (Sum.inr t) = some (.int (valG g (some t)))
  | [], h => nomatch h
  | (a, b) :: r, h => by
    by_cases e : a = t
    · have h1 : valV (goalKV ((a, b) :: r)) (Sum.inr t) = some (.int b) := valV_pos (κ := Key) (p := (Sum.inr a, V.int b)) (r := goalKV r) (congrArg Sum.inr e)
      rw [h1]
      show some (V.int b) = some (V.int ((List.lookup t ((a, b) :: r)).getD 0))
      rw [List.lookup_cons, show (t == a) = true from beq_iff_eq.mpr e.symm]
      rfl
    · have h2 : t ∈ r.map (·.1) := by
        rcases List.mem_cons.mp h with h | h
        · exact absurd h.symm e
        · exact h
      have h1 : valV (goalKV ((a, b) :: r)) (Sum.inr t) = valV (goalKV r) (Sum.inr t) := by
        unfold goalKV valV
        rw [List.map_cons, List.find?_cons]
        have : decide ((Sum.inr a : Key) = Sum.inr t) = false := decide_eq_false fun z => e (by injection z)
        simp only [this]
      rw [h1, goal_val h2]
      show some (V.int ((List.lookup t r).getD 0)) = some (V.int ((List.lookup t ((a, b) :: r)).getD 0))
      rw [List.lookup_cons, show (t == a) = false from beq_eq_false_iff_ne.mpr fun z => e z.symm]
theorem ok_at {f : Addr} {fd : FuncData} (D : DefAt K mg "_law_at" s_law_at ["_law_held", "_law_thing"] f fd) : Ok P w K mg base 1 "_law_at" ["_law_held", "_law_thing"] spAt := by
  refine D.ok (D.fn.ok sc_law_at (fun vs H Q E h => ?_) (fun cdv A outer s H vs Q E hr h => ?_))
  · obtain ⟨d, g, e, rfl, _⟩ := h
    rfl
  · obtain ⟨d, g, e, rfl, hd, hm, q⟩ := h
    have hu := hu_of hr
    refine ⟨_, (pss_one (ps_ret (pe_ifExp (pt_cmpR op_isN (pv 1) pe_non (nomark _)) pe_int (pe_dget hu (pv 0) (pv 1) (fun _ _ => rfl))))), ?_⟩
    refine ⟨_, rfl, rfl, _, rfl, ?_⟩
    cases e with
    | none => exact q
    | some t =>
      refine iteF ?_
      exact ⟨_, rfl, _, rfl, d, _, rfl, by
        have := DGet.k (k := Sum.inr t) hd
        rwa [goal_val (hm t rfl)] at this, q⟩

/-! ### rules that all of some numbers keep -/
def Holds (g : List (Str × Int)) (r : Rule) : Prop := valG g r.low + r.gap ≤ valG g r.high
def GoalsAt (H : Hp) (b : Addr) (gs : List (Addr × List (Str × Int))) : Prop := H b = some (.lst (gs.map fun x => V.ref x.1)) ∧ ∀ x ∈ gs, H x.1 = some (.dK (goalKV x.2))
def spGaps : Sp := fun vs H Q _ => ∃ (p c a b : Addr) (n m : Nat) (ts : List Str) (gs : List (Addr × List (Str × Int))), vs = [.ref p, .ref a, .ref b, .int m] ∧ PenAt H p c n ∧ n ≤ 800000 ∧ H a = some (.lst (ts.map V.str)) ∧ NamesOk ts ∧
  GoalsAt H b gs ∧ (∀ x ∈ gs, x.2.map (·.1) = ts) ∧ 0 < gs.length ∧ gs.length ≤ 60 ∧ m ≤ 1000 ∧
  ∀ r H' n' (rs : List (Rule × Addr)), But p H H' → H r = none → H' r = some (.lst (rs.map fun x => V.ref x.2)) → KeyTups H' rs → (∀ x ∈ rs, RuleOk ts x.1) → (∀ x ∈ rs, ∀ g ∈ gs, Holds g.2 x.1) → rs.length ≤ 2 * m → PenAt H' p c n' → n' ≤ n + 1 + 4 * m → Q (.ref r) H'
def endsOf (ts : List Str) : List (Option Str) := none :: ts.map some
theorem map_erase {α β : Type} (f : α → β) : ∀ (l : List α) (k : Nat), (l.eraseIdx k).map f = (l.map f).eraseIdx k
  | [], _ => rfl
  | _ :: _, 0 => rfl
  | x :: l, k + 1 => congrArg (f x :: ·) (map_erase f l k)
theorem ends_eq (ts : List Str) : [V.non] ++ ts.map V.str = (endsOf ts).map endV := by
  unfold endsOf
  rw [List.map_cons, List.map_map]
  rfl
/-- where the loop stands before its turn i: rs are found -/
structure GapsAt (p c a b : Addr) (n m : Nat) (ts : List Str) (gs : List (Addr × List (Str × Int))) (fo th : Addr) (H : Hp) (i : Nat) (rs : List (Rule × Addr)) (Hc : Hp) : Prop where
  found : Hc fo = some (.lst (rs.map fun x => V.ref x.2))
  keys : KeyTups Hc rs
  ok : ∀ x ∈ rs, RuleOk ts x.1
  holds : ∀ x ∈ rs, ∀ g ∈ gs, Holds g.2 x.1
  len : rs.length ≤ 2 * i
  but : But p H Hc
  things : Hc th = some (.lst ([V.non] ++ ts.map V.str))
  pen : PenAt Hc p c (n + 1 + 4 * i)
/-- what is found, the things and the spans, at a heap in the turn -/
structure Fnd (p c fo th D : Addr) (H : Hp) (tl sl : List V) (k : Nat) (rs : List (Rule × Addr)) (X : Hp) : Prop where
  found : X fo = some (.lst (rs.map fun x => V.ref x.2))
  keys : KeyTups X rs
  but : But p H X
  things : X th = some (.lst tl)
  spans : X D = some (.lst sl)
  pen : PenAt X p c k
theorem Fnd.but' {p c fo th D : Addr} {H X Y : Hp} {tl sl : List V} {j k : Nat} {rs : List (Rule × Addr)} (F : Fnd p c fo th D H tl sl k rs X) (b : But p X Y) (P : PenAt Y p c j) (nfp : fo ≠ p) (ntp : th ≠ p) (nDp : D ≠ p) : Fnd p c fo th D H tl sl j rs Y :=
  ⟨b _ _ F.found nfp, fun x hx => b _ _ (F.keys x hx) (F.pen.ne_of (F.keys x hx) fun xs z => nomatch z), F.but.trans b, b _ _ F.things ntp, b _ _ F.spans nDp, P⟩
theorem Fnd.more {p c fo th D T : Addr} {H X : Hp} {tl sl : List V} {k : Nat} {rs : List (Rule × Addr)} {r : Rule} (F : Fnd p c fo th D H tl sl k rs X) (hT : X T = none) (hfo : H fo = none) (nfp : fo ≠ p) (nfc : fo ≠ c) (nft : fo ≠ th) (nfD : fo ≠ D) :
    Fnd p c fo th D H tl sl k (rs ++ [(r, T)]) (upd (upd X T (.tup (ruleV r))) fo (.lst (rs.map (fun x => V.ref x.2) ++ [.ref T]))) := by
  have sT : Same X (upd X T (.tup (ruleV r))) := same_new hT
  refine ⟨?_, fun x hx => ?_, fun z o hz nz => ?_, ?_, ?_, (F.pen.same sT).upd nfp nfc⟩
  · rw [upd_same, List.map_append]
    rfl
  · have h : (upd X T (.tup (ruleV r))) x.2 = some (.tup (ruleV x.1)) := by
      rcases List.mem_append.mp hx with hx | hx
      · exact sT _ _ (F.keys x hx)
      · rw [List.mem_singleton.mp hx]
        exact upd_same
    rw [upd_ne (ne_of h (sT _ _ F.found) fun z => nomatch z)]
    exact h
  · rw [upd_ne (ne_of_none hz hfo)]
    exact sT _ _ (F.but _ _ hz nz)
  · rw [upd_ne nft.symm]
    exact sT _ _ F.things
  · rw [upd_ne nfD.symm]
    exact sT _ _ F.spans
theorem twoWays {Goal : Prop} {G C : Int → Hp → Prop} (h1 : (∀ j He, C j He → G j He) → Goal) (h2 : ∀ j He, C j He → G j He) : Goal := h1 h2
theorem ok_gaps {f : Addr} {fd : FuncData} (D : DefAt K mg "_law_gaps" s_law_gaps ["_law_pen_here", "_law_nyms_here", "_law_goals", "_law_most"] f fd) (B : Blt mg) (O_law_draw : Ok P w K mg base 2 "_law_draw" ["_law_pen_here", "_law_under"] spDraw) (O_law_at : Ok P w K mg base 1 "_law_at" ["_law_held", "_law_thing"] spAt) :
    Ok P w K mg base 3 "_law_gaps" ["_law_pen_here", "_law_nyms_here", "_law_goals", "_law_most"] spGaps := by
  refine D.ok (D.fn.ok sc_law_gaps (fun vs H Q E h => ?_) (fun cdv A outer s H vs Q E hr h => ?_))
  · obtain ⟨p, c, a, b, n, m, ts, gs, rfl, _⟩ := h
    rfl
  · obtain ⟨p, c, a, b, n, m, ts, gs, rfl, hP, hn, hA, N, hG, hgt, hg0, hg1, hm, q⟩ := h
    have nd := sc_law_gaps.nd
    refine ⟨_, (pss_cons (ps_set (i := 4) nd rfl (Or.inl rfl) (pe_lst pa_nil))
      (pss_cons (ps_set (i := 5) nd rfl (Or.inl rfl) (pe_op op_cat (pe_lst (pa_cons pe_non pa_nil)) (pe_callTy call_list_of (by rfl) B.list (by decide +kernel) (pa_cons (pv 1) pa_nil))))
      (pss_cons (ps_for PassesOwn.never rfl (pi_range1 (by rfl) B.range (pa_cons (pe_ifExp (pt_cmpR (op_neD (hu_of64 hr)) (pv 1) (pe_lst pa_nil) (nomark _)) (pe_own O_law_draw (hr.mono (by decide)) (pa_cons (pv 0) (pa_cons (pe_op op_add (pv 3) pe_int) pa_nil))) pe_int) pa_nil)) (pg_name (i := 6) nd rfl (Or.inl rfl)) (pss_cons (ps_set (i := 7) nd rfl (Or.inl rfl) (pe_callTy call_list_of (by rfl) B.list (by decide +kernel) (pa_cons (pv 5) pa_nil)))
      (pss_cons (ps_asg (pe_tup (pa_cons (pe_bm PySem.F.plainAttrs_list PySem.F.slot_list_pop PySem.F.type_list_pop mt_popAt (pv 7) (pa_cons (pe_own O_law_draw (hr.mono (by decide)) (pa_cons (pv 0) (pa_cons (pe_callB call_len_seq (by rfl) B.len PySem.boot_len (pa_cons (pv 7) pa_nil)) pa_nil))) pa_nil)) (pa_cons (pe_ix ix_list (pv 7) (pe_own O_law_draw (hr.mono (by decide)) (pa_cons (pv 0) (pa_cons (pe_callB call_len_seq (by rfl) B.len PySem.boot_len (pa_cons (pv 7) pa_nil)) pa_nil))) (fun _ _ => rfl)) pa_nil))) (pg_tup rfl (pgs_cons (pg_name (i := 8) nd rfl (Or.inr rfl)) (pgs_cons (pg_name (i := 9) nd rfl (Or.inr rfl)) pgs_nil))))
      (pss_cons (ps_setLc (i := 10) (own := [("_law_goal_here", 12)]) (g := gName 12) (tt := tYes) (by rfl) nd rfl rfl (sw_true rfl rfl rfl (by decide +kernel)) (pi_list (pv 2)) (blkOk_by (own := [("_law_goal_here", 12)]) (N := ["_law_pen_here", "_law_nyms_here", "_law_goals", "_law_most", "_law_found", "_law_things", "_law_turn", "_law_left", "_law_first", "_law_second", "_law_spans", "_law_gap", "_law_goal_here"]) (sc := defScope s_law_gaps) (by decide +kernel)) (fun _ _ _ _ _ => (pg_name (i := 12) nd rfl (Or.inl rfl))) (fun _ _ _ _ _ => pts_nil) (fun _ _ _ _ _ => (pe_op op_sub (pe_own O_law_at (hr.mono (by decide)) (pa_cons (pv 12) (pa_cons (pv 9) pa_nil))) (pe_own O_law_at (hr.mono (by decide)) (pa_cons (pv 12) (pa_cons (pv 8) pa_nil))))))
      (pss_cons (ps_set (i := 11) nd rfl (Or.inl rfl) (pe_callB (call_max2 rfl) (by rfl) B.max (by decide +kernel) (pa_cons (pe_un un_neg pe_int) (pa_cons (pe_op op_sub (pe_callB (cr_min rfl) (by rfl) B.min (by decide +kernel) (pa_cons (pv 10) pa_nil)) (pe_ix ix_list (pe_lst (pa_cons pe_int (pa_cons pe_int (pa_cons pe_int (pa_cons pe_int (pa_cons pe_int (pa_cons pe_int pa_nil))))))) (pe_own O_law_draw (hr.mono (by decide)) (pa_cons (pv 0) (pa_cons pe_int pa_nil))) (fun _ _ => rfl))) pa_nil))))
      (C8.pss_cut (ps_if (PW.pt (pw_and (pt_cmpR op_le (pv 11) pe_int (nomark _)) (pw_and1 (pt_cmpR op_le (pv 11) (pe_callB (cr_min rfl) (by rfl) B.min (by decide +kernel) (pa_cons (pv 10) pa_nil)) (nomark _))))) (pss_one (ps_expr (pe_bm PySem.F.plainAttrs_list PySem.F.slot_list_append PySem.F.type_list_append mt_append (pv 4) (pa_cons (pe_tup (pa_cons (pv 8) (pa_cons (pv 9) (pa_cons (pv 11) pa_nil)))) pa_nil)))) pss_nil)
      (pss_one (ps_if (PW.pt (pw_and (pt_cmpR op_eq (pe_own O_law_draw (hr.mono (by decide)) (pa_cons (pv 0) (pa_cons pe_int pa_nil))) pe_int (nomark _)) (pw_and1 (pt_chain op_le op_le (pe_un un_neg pe_int) (pe_callB (cr_max rfl) (by rfl) B.max (by decide +kernel) (pa_cons (pv 10) pa_nil)) pe_int)))) (pss_one (ps_expr (pe_bm PySem.F.plainAttrs_list PySem.F.slot_list_append PySem.F.type_list_append mt_append (pv 4) (pa_cons (pe_tup (pa_cons (pv 9) (pa_cons (pv 8) (pa_cons (pe_op op_sub pe_int (pe_callB (cr_max rfl) (by rfl) B.max (by decide +kernel) (pa_cons (pv 10) pa_nil))) pa_nil)))) pa_nil)))) pss_nil))))))))
      (pss_one (ps_ret (pv 4)))))), ?_⟩
    -- found = []
    refine ⟨Nat.zero_le _, fun fo hfo => ?_⟩
    -- things = [None] + list(nyms)
    refine ⟨by show 1 ≤ sizeLine; decide, fun l1 hl1 => ?_⟩
    have sa : Same H (upd H fo (.lst [])) := same_new hfo
    have sb := sa.trans (same_new (o := .lst [.non]) hl1)
    refine ⟨_, rfl, a, _, rfl, .inl (SqL.of (sb _ _ hA)), fun l2 hl2 => ?_⟩
    have sc := sb.trans (same_new (o := .lst (ts.map V.str)) hl2)
    have hl1' := same_new (o := .lst (ts.map V.str)) hl2 _ _ (upd_same (H := upd H fo (.lst [])) (a := l1) (o := .lst [.non]))
    have hfo' := same_new (o := .lst (ts.map V.str)) hl2 _ _ (same_new (o := .lst [.non]) hl1 _ _ (upd_same (H := H) (a := fo) (o := .lst [])))
    refine ⟨l1, l2, _, _, rfl, rfl, hl1', upd_same, ?_, fun th hth => ?_⟩
    · have := N.2.2
      have : sizeLine > 1000 := by decide
      simp only [List.length_map, List.length_cons, List.length_nil]
      omega
    have sd := sc.trans (same_new (o := .lst ([V.non] ++ ts.map V.str)) hth)
    have hfo2 := same_new (o := .lst ([V.non] ++ ts.map V.str)) hth _ _ hfo'
    have hth2 := upd_same (H := (upd (upd (upd H fo (.lst [])) l1 (.lst [.non])) l2 (.lst (ts.map V.str)))) (a := th) (o := .lst ([V.non] ++ ts.map V.str))
    have nft : fo ≠ th := ne_of_none hfo' hth
    obtain ⟨nfp, nfc⟩ := hP.out hfo
    have nth := sc.free hth
    obtain ⟨ntp, ntc⟩ := hP.out nth
    have hPd := hP.same sd
    generalize upd (upd (upd (upd H fo (.lst [])) l1 (.lst [.non])) l2 (.lst (ts.map V.str))) th (.lst ([V.non] ++ ts.map V.str)) = Hd at sd hfo2 hth2 hPd ⊢
    clear hfo' hl1' sa sb sc hl1 hl2 hth
    apply twoWays (C := fun (j : Int) (He : Hp) => 0 ≤ j ∧ j ≤ m ∧ (ts = [] → j = 0) ∧ (But p Hd He) ∧ PenAt He p c (n + 1))
    · intro key
      refine ⟨_, rfl, Nat.zero_le _, fun l3 hl3 => ?_⟩
      have se := same_new (o := .lst []) hl3
      refine ⟨_, _, .lst (SqL.of (se _ _ (sd _ _ hA))) (dp_strs ts), .lst (SqL.of upd_same) .nil, shaped_strs ts (fun t ht => name_strOk (N.2.1 t ht)), rfl, _, rfl, ?_⟩
      refine ite2 (fun e => ?_) (fun e => ?_)
      · refine ⟨_, rfl, _, rfl, m, 1, rfl, rfl, p, c, n, (m : Int) + 1, rfl, hPd.same se, by omega, by omega, by omega, fun d H2 hd0 hd1 b2 hP2 => ?_⟩
        refine ⟨d, rfl, by omega, by omega, ?_⟩
        exact key d H2 ⟨hd0, by omega, (fun z => by
          rw [z] at e
          cases e), (But.of se).trans b2, hP2⟩
      · refine ⟨0, rfl, by decide, by decide, ?_⟩
        exact key 0 _ ⟨Int.le_refl _, by omega, fun _ => rfl, But.of se, (hPd.same se).le (Nat.le_succ _)⟩
    · rintro j He ⟨hj0, hj1, hj2, be, hPe⟩
      have bHe := (But.of sd).trans be
      have nap := hP.ne_strs hA
      have nbp : b ≠ p := hP.ne_refs (L := gs.map (·.1)) (by rw [List.map_map]; exact hG.1)
      have ndp : ∀ x ∈ gs, x.1 ≠ p := fun x hx => hP.ne_of (hG.2 x hx) fun xs z => nomatch z
      refine for_it walk_range (fun i σ Hc => ∃ (rs : List (Rule × Addr)) (o6 o7 o8 o9 o10 o11 o12 : Option V), σ = [some (.ref p), some (.ref a), some (.ref b), some (.int m), some (.ref fo), some (.ref th), o6, o7, o8, o9, o10, o11, o12] ∧ GapsAt p c a b n m ts gs fo th H i rs Hc)
        ⟨[], none, none, none, none, none, none, none, rfl, be _ _ hfo2 nfp, fun _ h => (List.not_mem_nil h).elim, fun _ h => (List.not_mem_nil h).elim, fun _ h => (List.not_mem_nil h).elim, Nat.le_refl _, bHe, be _ _ hth2 ntp, hPe⟩ (fun _ _ _ _ _ => True.intro) ?_ ?_
      · rintro i x σ Hc H' hi ⟨rs, o6, o7, o8, o9, o10, o11, o12, rfl, I⟩ ⟨rfl, rfl⟩
        -- left = list(things)
        refine ⟨_, rfl, th, _, rfl, .inl (SqL.of I.things), fun lf hlf => ?_⟩
        have hne : ts ≠ [] := fun z => by
          have := hj2 z
          omega
        have hts : 0 < ts.length := List.length_pos_iff.mpr hne
        rw [ends_eq ts]
        have hlen : (endsOf ts).length = ts.length + 1 := by rw [endsOf, List.length_cons, List.length_map]
        have b1 : But p H' (upd H' lf (.lst ((endsOf ts).map endV))) := But.new hlf
        have g1 : (upd H' lf (.lst ((endsOf ts).map endV))) lf = some (.lst ((endsOf ts).map endV)) := upd_same
        have P1 := I.pen.same (same_new (o := .lst ((endsOf ts).map endV)) hlf)
        obtain ⟨nlp, nlc⟩ := I.pen.out hlf
        generalize upd H' lf (.lst ((endsOf ts).map endV)) = H1 at b1 g1 P1 ⊢
        -- first, second = left.pop(draw(len(left))), left[draw(len(left))]
        refine ⟨_, rfl, .inl ⟨rfl, _, SqL.of g1⟩, _, rfl, _, rfl, lf, _, rfl, .inl (SqL.of g1), ?_⟩
        rw [List.length_map, hlen]
        have := N.2.2
        refine ⟨p, c, _, _, rfl, P1, by omega, by omega, by omega, fun d H2 hd0 hd1 b2 P2 => ?_⟩
        obtain ⟨k, rfl⟩ := Int.eq_ofNat_of_zero_le hd0
        have hk : k < (endsOf ts).length := by omega
        have g2 := b2 _ _ g1 nlp
        refine ⟨lf, _, k, k, endV (endsOf ts)[k], rfl, rfl, g2, by omega, by omega, seqIx_nat (by rwa [List.length_map]), by rw [List.getElem?_map, List.getElem?_eq_getElem hk]; rfl, ?_⟩
        have e3 : ((endsOf ts).map endV).eraseIdx k = ((endsOf ts).eraseIdx k).map endV := (map_erase _ _ _).symm
        rw [e3]
        have g3 : (upd H2 lf (.lst (((endsOf ts).eraseIdx k).map endV))) lf = some (.lst (((endsOf ts).eraseIdx k).map endV)) := upd_same
        have P3 := P2.upd (o := .lst (((endsOf ts).eraseIdx k).map endV)) nlp nlc
        have b3 : But p H' (upd H2 lf (.lst (((endsOf ts).eraseIdx k).map endV))) := fun z o hz nz => by
          rw [upd_ne (ne_of_none hz hlf)]
          exact b2 _ _ (b1 _ _ hz nz) nz
        have n3 : ∀ z, (upd H2 lf (.lst (((endsOf ts).eraseIdx k).map endV))) z = none → z ≠ p → H' z = none := fun z hz nz => b3.free nz hz
        generalize upd H2 lf (.lst (((endsOf ts).eraseIdx k).map endV)) = H3 at g3 P3 b3 n3 ⊢
        have hlen3 : ((endsOf ts).eraseIdx k).length = ts.length := by rw [List.length_eraseIdx_of_lt hk]; omega
        refine ⟨_, rfl, _, rfl, _, rfl, lf, _, rfl, .inl (SqL.of g3), ?_⟩
        rw [List.length_map, hlen3]
        refine ⟨p, c, _, _, rfl, P3, by omega, by omega, by omega, fun d2 H4 he0 he1 b4 P4 => ?_⟩
        obtain ⟨k2, rfl⟩ := Int.eq_ofNat_of_zero_le he0
        have hk2 : k2 < ((endsOf ts).eraseIdx k).length := by omega
        refine ⟨lf, _, k2, endV ((endsOf ts).eraseIdx k)[k2], rfl, rfl, SqL.of (b4 _ _ g3 nlp), atI_nat (by rw [List.getElem?_map, List.getElem?_eq_getElem hk2]; rfl), by show 2 ≤ sizeLine; decide, fun T hT => ?_⟩
        have e12 : (endsOf ts)[k] ≠ ((endsOf ts).eraseIdx k)[k2] := fun z => by
          have pm := cons_erase (endsOf ts) k hk
          have nd2 : (endsOf ts).Nodup := List.nodup_cons.mpr ⟨(fun z => by
            obtain ⟨y, _, z⟩ := List.mem_map.mp z
            cases z), List.Pairwise.map some (fun a b ne (e : some a = some b) => ne (by injection e)) N.1⟩
          exact (List.nodup_cons.mp (pm.nodup_iff.mpr nd2)).1 (z ▸ List.getElem_mem hk2)
        have m1 : (endsOf ts)[k] ∈ endsOf ts := List.getElem_mem hk
        have m2 : ((endsOf ts).eraseIdx k)[k2] ∈ endsOf ts := List.mem_of_mem_eraseIdx (List.getElem_mem hk2)
        refine ⟨T, _, rfl, SqT.of upd_same, rfl, _, _, rfl, _, _, rfl, rfl, ?_⟩
        have b5 : But p H' (upd H4 T (.tup [endV (endsOf ts)[k], endV ((endsOf ts).eraseIdx k)[k2]])) := (b3.trans b4).trans (But.new hT)
        have P5 := P4.same (same_new (o := .tup [endV (endsOf ts)[k], endV ((endsOf ts).eraseIdx k)[k2]]) hT)
        generalize (endsOf ts)[k] = e1 at e12 m1 b5 P5 ⊢
        generalize ((endsOf ts).eraseIdx k)[k2] = e2 at e12 m2 b5 P5 ⊢
        generalize upd H4 T (.tup [endV e1, endV e2]) = H5 at b5 P5 ⊢
        clear b4 P4 hT T g3 P3 b3 n3 H4 he0 he1 hk2 k2 hlen3 e3 g2 hk hd0 hd1 k P2 b2 H2 P1 g1 b1 H1 H3
        -- spans
        have bH5 := I.but.trans b5
        have hB5 := bH5 _ _ hG.1 nbp
        have hG5 : ∀ x ∈ gs, H5 x.1 = some (.dK (goalKV x.2)) := fun x hx => bH5 _ _ (hG.2 x hx) (ndp x hx)
        refine ⟨_, rfl, b, rfl, ⟨_, SqL.of hB5⟩, fun D hD => ?_⟩
        refine lc_map walk_list hD (gs.map fun x => V.int (valG x.2 e2 - valG x.2 e1)) (by simp only [List.length_map]) (by
          have : sizeLine > 1000 := by decide
          simp only [List.length_map]
          omega) (fun H6 s6 => SqL.of (s6 _ _ hB5)) ?_ ?_
        · rintro i2 x H6 H7 hi2 R L s6 ⟨rfl, hx⟩ hR
          have hi2' : i2 < gs.length := by rwa [List.length_map] at hi2
          rw [List.getElem?_map, List.getElem?_eq_getElem hi2'] at hx
          cases hx
          rw [List.getElem_map] at hR
          have mg2 := List.getElem_mem hi2'
          have hin : ∀ (e : Option Str), e ∈ endsOf ts → ∀ t, e = some t → t ∈ gs[i2].2.map (·.1) := by
            rintro e he t rfl
            rw [hgt _ mg2]
            rcases List.mem_cons.mp he with z | z
            · cases z
            · obtain ⟨y, hy, z⟩ := List.mem_map.mp z
              cases z
              exact hy
          refine ⟨rfl, ?_⟩
          refine ⟨_, rfl, _, rfl, gs[i2].1, gs[i2].2, e2, rfl, s6 _ _ (hG5 _ mg2), hin e2 m2, ?_⟩
          refine ⟨_, rfl, _, rfl, gs[i2].1, gs[i2].2, e1, rfl, s6 _ _ (hG5 _ mg2), hin e1 m1, _, _, rfl, rfl, ?_⟩
          exact hR _ (Same.refl _)
        · intro H6 s6 h6
          obtain ⟨S, hSd⟩ : ∃ S : List Int, gs.map (fun x => valG x.2 e2 - valG x.2 e1) = S := ⟨_, rfl⟩
          have h6' : H6 D = some (.lst (S.map V.int)) := by
            rw [h6, ← hSd, List.map_map]
            rfl
          have hS0 : 0 < S.length := by rw [← hSd, List.length_map]; exact hg0
          have hSm : ∀ g ∈ gs, valG g.2 e2 - valG g.2 e1 ∈ S := fun g hg => hSd ▸ List.mem_map.mpr ⟨g, hg, rfl⟩
          have P6 := P5.same s6
          have b6 : But p H' H6 := b5.trans (But.of s6)
          have nDp : D ≠ p := (P5.out hD).1
          have nfD : fo ≠ D := ne_of_none (b5 _ _ I.found nfp) hD
          clear h6 hG5 hB5
          -- gap
          refine ⟨_, rfl, _, rfl, D, S, rfl, SqL.of h6', hS0, fun mn hmn hle => ?_⟩
          refine ⟨by show 6 ≤ sizeLine; decide, fun l4 hl4 => ?_⟩
          have s7 := same_new (o := .lst ([0, 0, 0, 1, 3, 60].map V.int)) hl4
          refine ⟨_, rfl, p, c, _, 6, rfl, P6.same s7, by omega, by omega, by omega, fun d3 H8 hf0 hf1 b8 P8 => ?_⟩
          obtain ⟨cc, hcc, he⟩ := pick (xs := [0, 0, 0, 1, 3, 60]) hf0 hf1
          refine ⟨l4, _, d3, _, rfl, rfl, SqL.of (b8 _ _ upd_same (P6.out hl4).1), he, _, _, rfl, rfl, _, _, rfl, ?_⟩
          have b68 : But p H' H8 := (b6.trans (But.of s7)).trans b8
          have h8 : H8 D = some (.lst (S.map V.int)) := b8 _ _ (s7 _ _ h6') nDp
          obtain ⟨G, hG1, hG2⟩ : ∃ G : Int, (if mn - cc > -999 then mn - cc else -999) = G ∧ -999 ≤ G := ⟨_, rfl, by split <;> omega⟩
          rw [show (if mn - cc > -999 then mn - cc else -999) = G from hG1]
          clear hG1 he hcc cc hf0 hf1 d3 b8 s7 hl4 l4 b6 P6 s6 b5 P5 bH5 H5 hD hle hmn mn hlf H6 h6'
          have kt8 : KeyTups H8 rs := fun x hx => b68 _ _ (I.keys x hx) (I.pen.ne_of (I.keys x hx) fun xs z => nomatch z)
          have F8 : Fnd p c fo th D H ((endsOf ts).map endV) (S.map V.int) (n + 1 + 4 * i + 3) rs H8 :=
            ⟨b68 _ _ I.found nfp, kt8, I.but.trans b68, by rw [← ends_eq]; exact b68 _ _ I.things ntp, h8, P8⟩
          have hSv : ∀ x ∈ S, ∃ g ∈ gs, x = valG g.2 e2 - valG g.2 e1 := fun x hx => by
            rw [← hSd] at hx
            obtain ⟨g, hg, e⟩ := List.mem_map.mp hx
            exact ⟨g, hg, e.symm⟩
          have in_ : ∀ e ∈ endsOf ts, endIn ts e = true := by
            intro e he
            rcases List.mem_cons.mp he with z | z
            · rw [z]
              rfl
            · obtain ⟨y, hy, z⟩ := List.mem_map.mp z
              rw [← z]
              exact List.any_eq_true.mpr ⟨y, hy, beq_self_eq_true y⟩
          clear P8 kt8 h8 b68
          refine ⟨fun σ X => σ = [some (.ref p), some (.ref a), some (.ref b), some (.int m), some (.ref fo), some (.ref th), some (.int (0 + (i : Nat))), some (.ref lf), some (endV e1), some (endV e2), some (.ref D), some (.int G), o12] ∧
            ∃ rs', Fnd p c fo th D H ((endsOf ts).map endV) (S.map V.int) (n + 1 + 4 * i + 3) rs' X ∧ rs'.length ≤ 2 * i + 1 ∧ (∀ x ∈ rs', RuleOk ts x.1) ∧ (∀ x ∈ rs', ∀ g ∈ gs, Holds g.2 x.1), ?_, ?_⟩
          · have none_ : ∃ rs', Fnd p c fo th D H ((endsOf ts).map endV) (S.map V.int) (n + 1 + 4 * i + 3) rs' H8 ∧ rs'.length ≤ 2 * i + 1 ∧ (∀ x ∈ rs', RuleOk ts x.1) ∧ (∀ x ∈ rs', ∀ g ∈ gs, Holds g.2 x.1) :=
              ⟨rs, F8, by have := I.len; omega, I.ok, I.holds⟩
            refine ⟨_, rfl, G, 999, rfl, rfl, _, rfl, ?_⟩
            refine ite2 (fun t1 => ?_) (fun _ => ⟨rfl, none_⟩)
            refine ⟨_, rfl, _, rfl, D, S, rfl, SqL.of F8.spans, hS0, fun mn hmn hle => ⟨G, mn, rfl, rfl, _, rfl, ?_⟩⟩
            refine ite2 (fun t2 => ?_) (fun _ => ⟨rfl, none_⟩)
            have t1 := of_decide_eq_true t1
            have t2 := of_decide_eq_true t2
            refine ⟨_, rfl, .inl ⟨rfl, _, SqL.of F8.found⟩, _, rfl, _, rfl, _, rfl, by show 3 ≤ sizeLine; decide, fun T hT => ?_⟩
            have hf := same_new (o := .tup (ruleV ⟨e1, e2, G⟩)) hT _ _ F8.found
            refine ⟨fo, _, _, rfl, rfl, hf, ?_, ?_⟩
            · have := I.len
              have : sizeLine > 100000 := by decide
              rw [List.length_map]
              omega
            · refine ⟨rfl, rs ++ [(⟨e1, e2, G⟩, T)], F8.more hT hfo nfp nfc nft nfD, ?_, ?_, ?_⟩
              · rw [List.length_append, List.length_singleton]
                have := I.len
                omega
              · intro x hx
                rcases List.mem_append.mp hx with hx | hx
                · exact I.ok x hx
                · rw [List.mem_singleton.mp hx]
                  exact ⟨in_ e1 m1, in_ e2 m2, e12, hG2, t1⟩
              · intro x hx g hg
                rcases List.mem_append.mp hx with hx | hx
                · exact I.holds x hx g hg
                · rw [List.mem_singleton.mp hx]
                  have := hle _ (hSm g hg)
                  show valG g.2 e1 + G ≤ valG g.2 e2
                  omega
          · rintro σ X ⟨rfl, rs', F, hl', hok, hhold⟩
            have done : ∀ (X2 : Hp) (rs2 : List (Rule × Addr)), Fnd p c fo th D H ((endsOf ts).map endV) (S.map V.int) (n + 1 + 4 * i + 4) rs2 X2 → rs2.length ≤ 2 * i + 2 → (∀ x ∈ rs2, RuleOk ts x.1) → (∀ x ∈ rs2, ∀ g ∈ gs, Holds g.2 x.1) →
                ∃ (rs : List (Rule × Addr)) (o6 o7 o8 o9 o10 o11 o12' : Option V), [some (V.ref p), some (.ref a), some (.ref b), some (.int m), some (.ref fo), some (.ref th), some (.int (0 + (i : Nat))), some (.ref lf), some (endV e1), some (endV e2), some (.ref D), some (.int G), o12] =
                  [some (.ref p), some (.ref a), some (.ref b), some (.int m), some (.ref fo), some (.ref th), o6, o7, o8, o9, o10, o11, o12'] ∧ GapsAt p c a b n m ts gs fo th H (i + 1) rs X2 := fun X2 rs2 F2 h1 h2 h3 =>
              ⟨rs2, _, _, _, _, _, _, _, rfl, F2.found, F2.keys, h2, h3, by omega, F2.but, by rw [ends_eq]; exact F2.things, F2.pen.le (by omega)⟩
            refine ⟨_, rfl, p, c, _, 3, rfl, F.pen, by omega, by omega, by omega, fun d X2 hd0 hd1 b2 P2 => ?_⟩
            have F2 := F.but' b2 P2 nfp ntp nDp
            refine ⟨rfl, _, rfl, ?_⟩
            refine ite2 (fun _ => ?_) (fun _ => done X2 rs' F2 (by omega) hok hhold)
            refine ⟨_, rfl, _, rfl, D, S, rfl, SqL.of F2.spans, hS0, fun mx hmx hge => ⟨_, _, rfl, rfl, _, rfl, ?_⟩⟩
            refine ite2 (fun t1 => ?_) (fun _ => ⟨_, rfl, done X2 rs' F2 (by omega) hok hhold⟩)
            refine ⟨_, _, rfl, rfl, _, rfl, ?_⟩
            refine ite2 (fun t2 => ?_) (fun _ => done X2 rs' F2 (by omega) hok hhold)
            have t1 := of_decide_eq_true t1
            have t2 := of_decide_eq_true t2
            refine ⟨_, rfl, .inl ⟨rfl, _, SqL.of F2.found⟩, _, rfl, _, rfl, _, rfl, D, S, rfl, SqL.of F2.spans, hS0, fun my hmy hge2 => ⟨_, _, rfl, rfl, by show 3 ≤ sizeLine; decide, fun T hT => ?_⟩⟩
            have exy : my = mx := by
              have := hge _ hmy
              have := hge2 _ hmx
              omega
            have hf := same_new (o := .tup (ruleV ⟨e2, e1, 0 - my⟩)) hT _ _ F2.found
            refine ⟨fo, _, _, rfl, rfl, hf, ?_, ?_⟩
            · have : sizeLine > 100000 := by decide
              rw [List.length_map]
              omega
            · refine done _ (rs' ++ [(⟨e2, e1, 0 - my⟩, T)]) (F2.more hT hfo nfp nfc nft nfD) ?_ ?_ ?_
              · rw [List.length_append, List.length_singleton]
                omega
              · intro x hx
                rcases List.mem_append.mp hx with hx | hx
                · exact hok x hx
                · rw [List.mem_singleton.mp hx]
                  refine ⟨in_ e2 m2, in_ e1 m1, fun z => e12 z.symm, ?_, ?_⟩
                  · show -999 ≤ 0 - my
                    omega
                  · show 0 - my ≤ 999
                    omega
              · intro x hx g hg
                rcases List.mem_append.mp hx with hx | hx
                · exact hhold x hx g hg
                · rw [List.mem_singleton.mp hx]
                  have := hge2 _ (hSm g hg)
                  show valG g.2 e2 + (0 - my) ≤ valG g.2 e1
                  omega
      · rintro σ Hc ⟨rs, o6, o7, o8, o9, o10, o11, o12, rfl, I⟩
        exact ⟨_, rfl, q fo Hc _ rs I.but hfo I.found I.keys I.ok I.holds (by have := I.len; omega) I.pen (by omega)⟩

end
end Wnd

namespace Wnd
open PySem PySem.Spec PyProof.Rows L2
section
variable {P : Program} {w : World} {K : PySem.W.Frag} {mg : Str → Option Value} {base : Heap}
/-! ### systems made and compared in a def of the law -/
structure OkMk (P : Program) (w : World) (K : PySem.W.Frag) (mg : Str → Option Value) (base : Heap) (C : Addr) (k : Nat) (ps : List Str) (sp : Sp) : Prop where
  ex : ∃ (f : Addr) (fd : FuncData), Mk K C f ∧ Binds K fd ps [] ∧ FnOk P w K mg base CX0 k f fd ps sp
theorem pe_mk {X : Cx} {C : Addr} {k : Nat} {x : Str} {ps : List Str} {sp : Sp} {e : Expr} {es : List Expr} {p pos : Pos} {t : TA} (O : OkMk X.prog X.w X.K X.mg X.base C k ps sp) (hr : Room (k + 1) X.A) (hm : X.mg x = some (.ref C)) (ha : PA X (e :: es) t)
    (hg : Gl X x := by rfl) (hd : (x == ("__debug__" : Str)) = false := by decide) (he : starEach (e :: es) X.env = (false, eval e X.env) :: starEach es X.env := by rfl) (hpl : (backTo pos (starEach es X.env)).any (·.1) = false := by rfl) :
    PE X (.Call (.Name x p) (e :: es) [] pos) (tMake C sp [] E0 t) := by
  obtain ⟨f, fd, h1, h2, h3⟩ := O.ex
  exact pe_make h1 h3 hr hg hm h2 .nil pass0 ha hd he hpl
/-- what a def of the text that compares systems has of their class -/
structure OkEq (P : Program) (w : World) (K : PySem.W.Frag) (mg : Str → Option Value) (base : Heap) (C : Addr) (k : Nat) (sp : Sp) : Prop where
  ex : ∃ (f : Addr) (fd : FuncData) (ps : List Str), EqC K C f ∧ Binds K fd ps [] ∧ FnOk P w K mg base CX0 k f fd ps sp
theorem op_eqO {X : Cx} {C : Addr} {k : Nat} {sp : Sp} (O : OkEq X.prog X.w X.K X.mg X.base C k sp) (hr : Room k X.A) : OpR X (compareOp .Eq) (rOwnEq X.K C sp) := by
  obtain ⟨f, fd, ps, h1, h2, h3⟩ := O.ex
  exact op_ownEq h3 h2 hr h1
theorem op_neO {X : Cx} {C : Addr} {k : Nat} {sp : Sp} (O : OkEq X.prog X.w X.K X.mg X.base C k sp) (hr : Room (k + 1) X.A) : OpR X (compareOp .NotEq) (rOwnNe X.K C sp) := by
  obtain ⟨f, fd, ps, h1, h2, h3⟩ := O.ex
  exact op_ownNe h3 h2 hr h1
/-- C beside the built-in types, for isinstance and for comparing -/
structure Beside (K : PySem.W.Frag) (C : Addr) (T : String) : Prop where
  no : PySem.W.kitOne K (.type T) (.ref C) = some false
  nf : PySem.W.notFirst K C (.type T) = true
structure SysF (K : PySem.W.Frag) (mg : Str → Option Value) (C : Addr) : Prop extends SysC K mg C where
  isC : C8.InsC K C
  nf : PySem.W.notFirst K C (.ref C) = true
  bList : Beside K C "list"
  bTuple : Beside K C "tuple"
  bNone : Beside K C "NoneType"
  bStr : Beside K C "str"
  bInt : Beside K C "int"
theorem SysF.ty {C : Addr} (T : SysF K mg C) {H : Hp} {x : Addr} {ns : List Str} {L : List (Rule × Addr)} (h : SysAt C H x ns L) : TyX K H (.ref x) (.ref C) := by
  obtain ⟨dx, ln, lr, h1, _⟩ := h
  exact .base (.ins h1 T.cl T.isC.ha T.isC.hn T.isC.htk T.isC.hm)
/-- x == y, both systems -/
theorem eq_sys {C : Addr} (T : SysF K mg C) {H : Hp} {x y : Addr} {ns ns' : List Str} {L L' : List (Rule × Addr)} {Q : VK} (hx : SysAt C H x ns L) (hy : SysAt C H y ns' L') (q : Q (.bl (decide (ns = ns') && decide (L.map (·.1) = L'.map (·.1)))) H) :
    rOwnEq K C (spEq K C) (.ref x) (.ref y) H Q := by
  have hx' := hx
  obtain ⟨dx, ln, lr, h1, _⟩ := hx'
  exact ⟨x, dx, _, rfl, h1, ⟨_, T.ty hy, T.nf⟩, x, .ref y, ns, L, _, rfl, hx, .inl ⟨y, ns', L', rfl, hy, rfl⟩, _, rfl, q⟩
theorem ne_sys {C : Addr} (T : SysF K mg C) {H : Hp} {x y : Addr} {ns ns' : List Str} {L L' : List (Rule × Addr)} {Q : VK} (hx : SysAt C H x ns L) (hy : SysAt C H y ns' L') (q : Q (.bl (!(decide (ns = ns') && decide (L.map (·.1) = L'.map (·.1))))) H) :
    rOwnNe K C (spEq K C) (.ref x) (.ref y) H Q := by
  have hx' := hx
  obtain ⟨dx, ln, lr, h1, _⟩ := hx'
  exact ⟨x, dx, _, rfl, h1, ⟨_, T.ty hy, T.nf⟩, x, .ref y, ns, L, _, rfl, hx, .inl ⟨y, ns', L', rfl, hy, rfl⟩, _, rfl, q⟩
/-- x == y, y no system -/
theorem eq_no {C : Addr} {H : Hp} {x : Addr} {y : V} {t : String} {ns : List Str} {L : List (Rule × Addr)} {Q : VK} (hx : SysAt C H x ns L) (ty : TyX K H y (.type t)) (b : Beside K C t) (q : Q (.bl false) H) : rOwnEq K C (spEq K C) (.ref x) y H Q := by
  have hx' := hx
  obtain ⟨dx, ln, lr, h1, _⟩ := hx'
  exact ⟨x, dx, _, rfl, h1, ⟨_, ty, b.nf⟩, x, y, ns, L, _, rfl, hx, .inr ⟨_, ty, b.no, rfl⟩, _, rfl, q⟩
theorem ne_no {C : Addr} {H : Hp} {x : Addr} {y : V} {t : String} {ns : List Str} {L : List (Rule × Addr)} {Q : VK} (hx : SysAt C H x ns L) (ty : TyX K H y (.type t)) (b : Beside K C t) (q : Q (.bl true) H) : rOwnNe K C (spEq K C) (.ref x) y H Q := by
  have hx' := hx
  obtain ⟨dx, ln, lr, h1, _⟩ := hx'
  exact ⟨x, dx, _, rfl, h1, ⟨_, ty, b.nf⟩, x, y, ns, L, _, rfl, hx, .inr ⟨_, ty, b.no, rfl⟩, _, rfl, q⟩
/-- System(names, rules) from lists that stand -/
theorem init_sys {C : Addr} {H : Hp} {a b x dx : Addr} {ts : List Str} {rs : List (Rule × Addr)} {R : VK} (nx : H x = none) (ndx : H dx = none) (hA : H a = some (.lst (ts.map V.str))) (N : NamesOk ts) (hB : H b = some (.lst (rs.map fun p => V.ref p.2))) (hk : KeyTups H rs) (hro : ∀ p ∈ rs, RuleOk ts p.1) (hz : rs.length < 100000)
    (q : ∀ H', Same H H' → SysNew C H H' x (sortN ts) (inOrder (putAll rs [])) → R .non H') : spInit C [.ref x, .ref a, .ref b] (upd (upd H dx (.own x)) x (.ins C dx [])) R E0 := by
  have s : Same H (upd (upd H dx (.own x)) x (.ins C dx [])) := fun z o hz => by
    rw [upd_ne (ne_of_none hz nx), upd_ne (ne_of_none hz ndx)]
    exact hz
  exact ⟨x, a, b, dx, ts, rs, rfl, upd_same, s _ _ hA, N, s _ _ hB, fun p hp => s _ _ (hk p hp), hro, hz, fun H' bt hS => q H' (fun z o hz => bt _ _ (s _ _ hz) (ne_of_none hz nx)) (hS.from_ s)⟩
theorem decide_sym {α : Type} [DecidableEq α] (x y : α) : decide (x = y) = decide (y = x) := by
  rw [Bool.eq_iff_iff, decide_eq_true_iff, decide_eq_true_iff]
  exact eq_comm
theorem flip_ne (b : Bool) : ¬ (V.bl (!b) = V.bl b) := fun z => by
  injection z with z
  cases b <;> cases z
theorem names_here {us : List Str} (nd : us.Nodup) (m : ∀ t ∈ us, t ∈ nymPool) (l : us.length ≤ 5) : NamesOk (("mid" : Str) :: us) ∧ NamesOk ((("mid" : Str) :: us) ++ [("late" : Str)]) ∧ endIn (("mid" : Str) :: us) (some "mid") = true := by
  have n1 : ("mid" : Str) ∉ us := fun h => absurd (m _ h) (by decide +kernel)
  have n2 : ("late" : Str) ∉ us := fun h => absurd (m _ h) (by decide +kernel)
  have n3 : ("late" : Str) ≠ ("mid" : Str) := by decide +kernel
  have nm : nameB ("mid" : Str) = true := by decide +kernel
  have nl : nameB ("late" : Str) = true := by decide +kernel
  have nd1 : (("mid" : Str) :: us).Nodup := List.nodup_cons.mpr ⟨n1, nd⟩
  have al : ∀ t ∈ ("mid" : Str) :: us, nameB t = true := fun t ht => by
    rcases List.mem_cons.mp ht with rfl | ht
    · exact nm
    · exact pool_names t (m t ht)
  refine ⟨⟨nd1, al, by rw [List.length_cons]; omega⟩, ⟨List.nodup_append.mpr ⟨nd1, List.nodup_cons.mpr ⟨List.not_mem_nil, List.nodup_nil⟩, fun x hx y hy e => ?_⟩, fun t ht => ?_, by rw [List.length_append, List.length_cons, List.length_singleton]; omega⟩, ?_⟩
  · rw [List.mem_singleton.mp hy] at e
    rcases List.mem_cons.mp hx with h | h
    · exact n3 (e.symm.trans h)
    · exact n2 (e ▸ h)
  · rcases List.mem_append.mp ht with ht | ht
    · exact al t ht
    · rw [List.mem_singleton.mp ht]
      exact nl
  · exact List.any_eq_true.mpr ⟨"mid", List.mem_cons_self .., beq_self_eq_true _⟩
end
end Wnd

/-! lists that are drawn, cut, summed -/
namespace Wnd
open PySem PySem.Spec PyProof.Rows L2
structure Blt3 (mg : Str → Option Value) : Prop extends Blt2 mg where
  sum : mg "sum" = none
  repr : mg "repr" = none
theorem map_of_permF {α : Type} {f : α → V} (inj : ∀ a b, f a = f b → a = b) {ys rest : List V} {ts : List α} (h : (ys ++ rest).Perm (ts.map f)) (nd : ts.Nodup) : ∃ us : List α, ys = us.map f ∧ us.Nodup ∧ ∀ t ∈ us, t ∈ ts := by
  have all : ∀ y ∈ ys, ∃ t ∈ ts, f t = y := fun y hy => List.mem_map.mp (h.mem_iff.mp (List.mem_append_left _ hy))
  have ndm : (ys ++ rest).Nodup := h.nodup_iff.mpr (List.Pairwise.map f (fun a b ne e => ne (inj a b e)) nd)
  have ndy := (List.nodup_append.mp ndm).1
  clear h ndm
  induction ys with
  | nil => exact ⟨[], rfl, List.nodup_nil, fun _ h => nomatch h⟩
  | cons y r ih =>
    obtain ⟨us, rfl, h1, h2⟩ := ih (fun y hy => all y (List.mem_cons_of_mem _ hy)) (List.nodup_cons.mp ndy).2
    obtain ⟨t, ht, rfl⟩ := all y (List.mem_cons_self ..)
    refine ⟨t :: us, rfl, List.nodup_cons.mpr ⟨fun m => (List.nodup_cons.mp ndy).1 (List.mem_map.mpr ⟨t, m, rfl⟩), h1⟩, fun x hx => ?_⟩
    rcases List.mem_cons.mp hx with rfl | hx
    · exact ht
    · exact h2 x hx
theorem ends_nodup {ts : List Str} (h : ts.Nodup) : (endsOf ts).Nodup := List.nodup_cons.mpr ⟨(fun z => by
  obtain ⟨y, _, z⟩ := List.mem_map.mp z
  cases z), List.Pairwise.map some (fun a b ne (e : some a = some b) => ne (by injection e)) h⟩
theorem ends_in {ts : List Str} : ∀ e ∈ endsOf ts, endIn ts e = true := by
  intro e he
  rcases List.mem_cons.mp he with z | z
  · rw [z]
    rfl
  · obtain ⟨y, hy, z⟩ := List.mem_map.mp z
    rw [← z]
    exact List.any_eq_true.mpr ⟨y, hy, beq_self_eq_true y⟩
theorem sum_bound : ∀ {S : List Int}, (∀ x ∈ S, -4 ≤ x ∧ x ≤ 4) → -4 * (S.length : Int) ≤ S.sum ∧ S.sum ≤ 4 * (S.length : Int)
  | [], _ => ⟨by decide, by decide⟩
  | x :: S, h => by
    obtain ⟨h1, h2⟩ := sum_bound fun y hy => h y (List.mem_cons_of_mem _ hy)
    have := h x (List.mem_cons_self ..)
    rw [List.sum_cons, List.length_cons]
    omega
theorem cut_tail (xs : List V) : cutV xs (some 1) none = xs.drop 1 := by
  unfold cutV
  rw [HT.sIx_none, show HT.sIx xs.length 0 (some 1) = min 1 xs.length from HT.sIx_nat _ _ 1]
  cases xs with
  | nil => rfl
  | cons x r =>
    rw [show min 1 (x :: r).length = 1 by rw [List.length_cons]; omega]
    rw [List.take_of_length_le (by rw [List.length_drop]; omega)]
theorem cut_head (xs : List V) (k : Nat) : cutV xs none (some k) = xs.take k := by
  unfold cutV
  rw [HT.sIx_none, show HT.sIx xs.length xs.length (some (k : Int)) = min k xs.length from HT.sIx_nat _ _ k, List.drop_zero, Nat.sub_zero]
  by_cases hl : xs.length ≤ k
  · rw [Nat.min_eq_right hl, List.take_length, List.take_of_length_le hl]
  · rw [Nat.min_eq_left (by omega)]
theorem atI_last {xs : List V} (h : 0 < xs.length) : atI xs (-1) = xs[xs.length - 1]? := by
  unfold atI ixN
  rw [if_neg (by decide), if_pos (by omega)]
  show xs[((-1 : Int) + xs.length).toNat]? = _
  rw [show ((-1 : Int) + xs.length).toNat = xs.length - 1 by omega]
end Wnd

namespace Wnd
open PySem PySem.Spec PyProof.Rows L2
section
variable {P : Program} {w : World} {K : PySem.W.Frag} {mg : Str → Option Value} {base : Heap}
/-! ### properties -/
structure OkP (P : Program) (w : World) (K : PySem.W.Frag) (mg : Str → Option Value) (base : Heap) (C : Addr) (k : Nat) (m : Str) (sp : Sp) : Prop where
  ex : ∃ (p g : Addr) (fd : FuncData) (ps : List Str), Cls K C ∧ PropOf K C m p g ∧ Binds K fd ps [] ∧ FnOk P w K mg base CX0 k g fd ps sp
theorem pe_propO {X : Cx} {C : Addr} {k : Nat} {m : Str} {sp : Sp} {e : Expr} {ta : TE} {pos : Pos} (O : OkP X.prog X.w X.K X.mg X.base C k m sp) (hr : Room (k + 1) X.A) (he : PE X e ta) (hab : attributeBase e m X.env (eval e X.env) = eval e X.env := by rfl) :
    PE X (.Attribute e m pos) (tProp C sp [] E0 ta) := by
  obtain ⟨p, g, fd, ps, h1, h2, h3, h4⟩ := O.ex
  exact pe_prop he h1 h2 h4 hr h3 .nil pass0 hab
def spNames (C : Addr) : Sp := fun vs H Q _ => ∃ (x : Addr) (ns : List Str) (L : List (Rule × Addr)), vs = [.ref x] ∧ SysAt C H x ns L ∧ ∀ l, H l = none → Q (.ref l) (upd H l (.lst (ns.map V.str)))
def spRulesP (C : Addr) : Sp := fun vs H Q _ => ∃ (x : Addr) (ns : List Str) (L : List (Rule × Addr)), vs = [.ref x] ∧ SysAt C H x ns L ∧ ∀ l, H l = none → Q (.ref l) (upd H l (.lst (L.map fun p => V.ref p.2)))
theorem ok_names {C : Addr} {qn : Str} {f : Addr} {fd : FuncData} (F : Fun K "names" qn s_System_names f fd) (T : SysC K mg C) (B : Blt mg) : FnOk P w K mg base CX0 1 f fd ["self"] (spNames C) := by
  refine F.ok sc_System_names (fun vs H Q E h => ?_) (fun cdv A outer s H vs Q E hr h => ?_)
  · obtain ⟨x, ns, L, rfl, _⟩ := h
    rfl
  · obtain ⟨x, ns, L, rfl, ⟨dx, ln, lr, h1, h2, h3, h4, h5⟩, q⟩ := h
    refine ⟨_, (pss_one (ps_ret (pe_callTy call_list_of (by rfl) B.list (by decide +kernel) (pa_cons (pe_fld (pv 0) rfl) pa_nil)))), ?_⟩
    exact ⟨_, rfl, x, C, dx, _, _, rfl, h1, T.cl, T.nN, sysF_names _ _, ln, _, rfl, .inl (SqL.of h2), fun l hl => q l hl⟩
theorem ok_rulesP {C : Addr} {qn : Str} {f : Addr} {fd : FuncData} (F : Fun K "rules" qn s_System_rules f fd) (T : SysC K mg C) (B : Blt mg) : FnOk P w K mg base CX0 1 f fd ["self"] (spRulesP C) := by
  refine F.ok sc_System_rules (fun vs H Q E h => ?_) (fun cdv A outer s H vs Q E hr h => ?_)
  · obtain ⟨x, ns, L, rfl, _⟩ := h
    rfl
  · obtain ⟨x, ns, L, rfl, ⟨dx, ln, lr, h1, h2, h3, h4, h5⟩, q⟩ := h
    refine ⟨_, (pss_one (ps_ret (pe_callTy call_list_of (by rfl) B.list (by decide +kernel) (pa_cons (pe_fld (pv 0) rfl) pa_nil)))), ?_⟩
    exact ⟨_, rfl, x, C, dx, _, _, rfl, h1, T.cl, T.nR, sysF_rules _ _, lr, _, rfl, .inl (SqL.of h3), fun l hl => q l hl⟩
/-- reading a property of a system -/
theorem prop_at {C : Addr} {H : Hp} {x : Addr} {ns : List Str} {L : List (Rule × Addr)} (h : SysAt C H x ns L) : ∃ dx fs, H x = some (.ins C dx fs) := by
  obtain ⟨dx, ln, lr, h1, _⟩ := h
  exact ⟨dx, _, h1⟩
theorem dp_rule {X : Hp} (x : Rule × Addr) (hx : X x.2 = some (.tup (ruleV x.1))) : Dp K X (.ref x.2) (ruleD x.1) := .tup (SqT.of hx) (.cons (dp_end _) (.cons (dp_end _) (.cons (.int _) .nil)))
theorem shaped_rule' (r : Rule) (h : ROk r) : SeqAt.shaped (ruleD r) = true := by
  obtain ⟨h1, h2⟩ := lay_rule r h
  simp [SeqAt.shaped, h1, h2]
theorem hu65 {A : Around} {k : Nat} (hr : Room k A) : A.units + 65 < cLine := by
  have := hr.un
  omega
end
end Wnd

/-! Windowsteps: the law's def run where the row itself calls it: nothing is being shown there, so repr may be asked of lists and dicts. -/
namespace Wnd
open PySem PySem.Spec PyProof.Rows L2
section
variable {P : Program} {w : World} {K : PySem.W.Frag} {mg : Str → Option Value} {base : Heap}
/-- a def run from the row's own call -/
theorem top_run {x q : Str} {st : Stmt} {f : Addr} {fd : FuncData} {N ps : List Str} {k : Nat} {sp : Sp} (F : Fun K x q st f fd) (S : FnScope N ps (defScope st)) (bd : Binds K fd ps []) (room : Room (k + 1) callerA)
    (body : ∀ (cdv : Value) (s : Shared) (H : Hp) (vs : List V) (Q : VK) (E : XK), Room k (callerA.deeper (envOfC q (defScope st) s.heap.objs.size f cdv)) → sp vs H Q E →
      ∃ t, PSs (cxOf CX0 P w K mg base N q (defScope st) f cdv callerA [] s H E).nox (defBody st) t ∧ t { nx := fun _ H' => Q .non H', rt := Q } (L2.start N vs) H)
    {s : Shared} {H : Hp} {us : List Value} {vs : List V} {Q : VK} {E : XK} (env : Env0 P w K mg base callerA [] s H) (len : vs.length = ps.length) (rel : Vals vs us) (h : sp vs H Q E) : codeAny (model P w) callerA (.call (.ref f) ⟨us, []⟩) (CR CX0 [] P w H s Q E) s := by
  obtain ⟨oc, od, kV, doc, pm, an, cdv, ct, osl, rfl, lk, hcd⟩ := F.ex
  have kin : K.In s.heap := env.mod.kin.keeps fun b o e => (env.bs b o e).1
  refine StX.run_bnd (G := fun ws H2 => ws = vs ∧ H2 = H ∧ sp ws H2 Q E) lk hcd S room env (fun A' Ex R next => ?_) fun s2 H2 ws g hr => ?_
  · have z := bd s us kin (by rw [List.append_nil, ← rel.length]; exact len)
    rw [List.append_nil] at z
    exact z _ A' Ex R (next s H vs us env Un.refl rfl (fun _ _ z => z) rel len ⟨rfl, rfl, h⟩)
  · obtain ⟨rfl, rfl, h2⟩ := g
    obtain ⟨t, ht, hq⟩ := body cdv s2 _ _ Q E hr h2
    exact ⟨t, ht.nox, hq⟩
/-- the row's call, from what the def does there -/
theorem top_call {mb : Str → Option Value} {fa a : Addr} {s₁ : Shared} {vs : List Value} {ns : List Int} (kin : K.In s₁.heap) (glob : s₁.heap.Ns mainGlobals mg) (blt : s₁.heap.Ns builtinsNs mb) (boot : ∀ x : Str, x ≠ "__name__" → mb x = bootBuiltins x)
    (free : s₁.heap.NoLimit) (nogen : s₁.gens = #[]) (at_ : s₁.heap.get? a = some { cls := .type "list", data := .seq vs.toArray }) (are : IntsAre vs ns) (few : ns.length ≤ sizeLine)
    (run : ∀ (base : Heap) (H : Hp), K.In base → base.Ns mainGlobals mg → Env0 P w K mg base callerA [] s₁ H → SqL K H a (ns.map V.int) →
      codeAny (model P w) callerA (.call (.ref fa) ⟨[.ref a], []⟩) (CR CX0 [] P w H s₁ (fun v _ => v = .bl true) fun _ _ _ => False) s₁) :
    codeAny (model P w) callerA (.call (.ref fa) ⟨[.ref a], []⟩) (fun r s' => r = .ok (.ret (.bool true)) ∧ OldK s₁.heap s'.heap ∧ s'.os = s₁.os ∧ AllBare s'.gens) s₁ := by
  have vals := vals_ints are
  have size := are.length
  have from_ : ∀ H : Hp, L2.Only H → SqL K H a (ns.map V.int) → HOk P w H s₁.heap → (∀ b, H b ≠ none → b = a) → (H a ≠ none → K.lookup a = none) →
      codeAny (model P w) callerA (.call (.ref fa) ⟨[.ref a], []⟩) (fun r s' => r = .ok (.ret (.bool true)) ∧ OldK s₁.heap s'.heap ∧ s'.os = s₁.os ∧ AllBare s'.gens) s₁ := by
    intro H only seq hok one notK
    have still : ∀ {b : Addr} {o : Obj}, s₁.heap.get? b = some o → H b = none → (hidT s₁.heap H).get? b = some o := fun e n => hidT_get e n
    have notDict : ∀ {b : Addr} {o : Obj} {es : Array DictEntry} {ep : Nat}, s₁.heap.get? b = some o → o.data = .dict es ep → H b = none := by
      intro b o es ep e d
      cases hb : H b with
      | none => rfl
      | some u =>
        have same : b = a := one b (by rw [hb]; exact fun z => nomatch z)
        rw [same, at_] at e
        cases e
        cases (show Data.seq vs.toArray _ = Data.dict es ep from d)
    have nsOn : ∀ {b : Addr} {m : Str → Option Value}, s₁.heap.Ns b m → (hidT s₁.heap H).Ns b m := by
      rintro b m ⟨o, es, ep, e, d, r⟩
      exact ⟨o, es, ep, still e (notDict e d), d, r⟩
    have kinH : K.In (hidT s₁.heap H) := by
      intro b o e
      refine still (kin b o e) ?_
      cases hb : H b with
      | none => rfl
      | some u =>
        have same : b = a := one b (by rw [hb]; exact fun z => nomatch z)
        rw [same] at hb e
        rw [notK (by rw [hb]; exact fun z => nomatch z)] at e
        cases e
    obtain ⟨mc, l1, l2⟩ := free
    have env : Env0 P w K mg (hidT s₁.heap H) callerA [] s₁ H :=
      ⟨rfl, ⟨kinH, nsOn glob, ⟨mb, nsOn blt, boot⟩, ⟨mc, nsOn l1, l2⟩⟩, fun b o e => of_hidT e, Nat.le_of_eq (hidT_size _ _), trivial, fun b hb => (List.not_mem_nil (show b ∈ ([] : List Addr) from hb)).elim, hok, .of_eq nogen⟩
    refine codeAny_mono (run _ H kinH (nsOn glob) env seq) fun r s' res => ?_
    cases r with
    | error e => exact False.elim res
    | ok fl =>
      cases fl with
      | ret u =>
        obtain ⟨v, H', os, bare, un, hok', rel, val⟩ := res
        have val : v = .bl true := val
        subst val
        cases (show u = Value.bool true from rel)
        refine ⟨rfl, OldK.of_keep fun b o e => ?_, os, bare⟩
        cases hb : H b with
        | none => exact un.keep b o e hb (fun z => (List.not_mem_nil (show b ∈ ([] : List Addr) from z)).elim) (List.not_mem_nil)
        | some u =>
          rcases only b with z | ⟨ob, xs, z⟩
          · rw [hb] at z
            cases z
          · obtain ⟨old, _⟩ := hok b _ z
            obtain ⟨new, _⟩ := hok' b _ (un.frzs b ob _ z)
            rw [e] at old
            cases old
            exact new
      | next => exact False.elim res
      | brk => exact False.elim res
      | cont => exact False.elim res
  cases known : K.lookup a with
  | some o =>
    have e := kin a o known
    rw [at_] at e
    cases e
    refine from_ (fun _ => none) (fun _ => .inl rfl) (.inr ⟨_, vs.toArray, _, known, rfl, rfl, rfl, ?_, ?_⟩) (fun b u z => nomatch (show (none : Option HO) = some u from z)) (fun b z => (z rfl).elim) fun z => (z rfl).elim
    · rw [List.size_toArray, size]
      exact few
    · simpa using vals
  | none =>
    have at2 : (fun b => if b = a then some (HO.frz { cls := .type "list", data := .seq vs.toArray } (.lst (ns.map V.int))) else none : Hp) a = some (HO.frz { cls := .type "list", data := .seq vs.toArray } (.lst (ns.map V.int))) := if_pos rfl
    refine from_ (fun b => if b = a then some (.frz { cls := .type "list", data := .seq vs.toArray } (.lst (ns.map V.int))) else none) (fun b => ?_) (.inl (.inr ⟨_, at2⟩)) (fun b u z => ?_) (fun b z => ?_) fun _ => known
    · by_cases hb : b = a
      · exact .inr ⟨_, _, if_pos hb⟩
      · exact .inl (if_neg hb)
    · by_cases hb : b = a
      · subst hb
        cases at2.symm.trans z
        refine ⟨at_, ?_, vs, _, vals, at_⟩
        rw [List.length_map]
        exact few
      · cases (if_neg hb).symm.trans z
    · by_cases hb : b = a
      · exact hb
      · exact (z (if_neg hb)).elim
end
/-- the law's row, from what its def does at the row's call -/
theorem top_walk {l : PySem.W.OpenLaw} {n : Nat} {q : Program} {loose : List Str} {XP : (Str → Option Value) → Heap → Prop} {YP : World → Heap → Prop} {d : DefRec} {K : Params → PySem.W.Frag} (hn : l.most = some n) (few : n ≤ sizeLine) (hdf : d.params.defaults = [])
    (hY : ∀ (w : World) (h : Heap), YP w h → (K w.params).In h)
    (F : ∀ (w : World) (mg : Str → Option Value) (fa : Addr) (h : Heap), (K w.params).In h → h.Ns mainGlobals mg → mg d.name = some (.ref fa) →
      ∀ (base : Heap) (H : Hp) (s : Shared) (a : Addr) (ns : List Int), ns.length ≤ n → (K w.params).In base → base.Ns mainGlobals mg → Env0 l.prog w (K w.params) mg base callerA [] s H → SqL (K w.params) H a (ns.map V.int) →
        codeAny (model l.prog w) callerA (.call (.ref fa) ⟨[.ref a], []⟩) (CR CX0 [] l.prog w H s (fun v _ => v = .bl true) fun _ _ _ => False) s) :
    PySem.W.WalkO q loose XP YP l.row.toRowW d [] (fun f vs => PySem.call f vs) := by
  refine Att.attach_call hn hdf fun w s₀ s₁ mg mb fa o pm cd doc a vs ns G Y _ _ _ hmg at_ are len nogen => ?_
  have kin := hY w _ Y
  exact top_call kin G.T.g G.T.b G.T.builtins G.T.nolimit nogen at_ are (Nat.le_trans len few) fun base H k1 k2 env seq => F w mg fa _ kin G.T.g hmg base H s₁ a ns len k1 k2 env seq
end Wnd

/-! Windowsteps: repr(x) where nothing is being shown: plain data, and a dict of texts and ints. -/
namespace Wnd
open PySem PySem.Spec PyProof.Rows L2
def goalD (g : List (Str × Int)) : PyData := .dict (g.map fun x => (PyData.str x.1, PyData.int x.2))
/-- the value x shows as d does -/
inductive Sh (K : PySem.W.Frag) (H : Hp) : V → PyData → Prop where
  | dp {x : V} {d : PyData} (h : Dp K H x d) : Sh K H x d
  | goal {a : Addr} {g : List (Str × Int)} (h : H a = some (.dK (g.map fun x => (Sum.inr x.1, V.int x.2)))) : Sh K H (.ref a) (goalD g)
def rRepr (K : PySem.W.Frag) : List V → Hp → VK → Prop := fun xs H Q => ∃ (x : V) (d : PyData), xs = [x] ∧ Sh K H x d ∧ d.canLay0 = (match d with | .dict _ => d.canLay0 | _ => true) ∧ d.showable = true ∧ d.shown.length ≤ sizeLine ∧ d.depth ≤ 60 ∧ Q (.str d.shown) H
theorem goal_reads {P : Program} {w : World} {h : Heap} : ∀ {g : List (Str × Int)} {vs : List (Key × Value)} {es : List DictEntry}, KV (g.map fun x => ((Sum.inr x.1 : Key), V.int x.2)) vs → Pairs (mixKind P w) es vs →
    ReadsAll h (es.map (·.key)) ((g.map fun x => (PyData.str x.1, PyData.int x.2)).map (·.1)) [] ∧ ReadsAll h (es.map (·.val)) ((g.map fun x => (PyData.str x.1, PyData.int x.2)).map (·.2)) []
  | [], _, _, .nil, .nil => ⟨.nil, .nil⟩
  | x :: g, _, _, .cons r1 r2, .cons k1 k2 k3 => by
    obtain ⟨i1, i2⟩ := goal_reads (h := h) r2 k3
    obtain ⟨e1, t1, e2⟩ := r1
    rename_i kv tail ent es'
    obtain ⟨key, val⟩ := kv
    have e1 : Sum.inr x.1 = key := e1
    subst e1
    have e2 : val = Value.int x.2 t1 := e2
    subst e2
    have k1 : keyIs (Sum.inr x.1) ent.key = true := k1
    rcases keyIs_shape k1 with ⟨i, t, z, z2⟩ | ⟨y, t, z, z2⟩
    · cases z
    · injection z with z
      subst z
      refine ⟨?_, ?_⟩
      · show ReadsAll h (ent.key :: es'.map (·.key)) (PyData.str x.1 :: _) ([] ++ [])
        rw [z2]
        exact .cons (.str x.1 t) i1
      · show ReadsAll h (ent.val :: es'.map (·.val)) (PyData.int x.2 :: _) ([] ++ [])
        rw [show ent.val = Value.int x.2 t1 from k2]
        exact .cons (.int x.2 t1) i2
section
variable {X : Cx}
theorem call_reprD (free : X.A.guards = some []) (hu : X.A.units + 65 < cLine) : CallR X (.builtin "repr") (rRepr X.K) := by
  intro pins s σ H xs us Q I r h
  obtain ⟨x, d, rfl, sh, lay, sw, sz, dp, q⟩ := h
  obtain ⟨u, rfl, ru⟩ := vals1 r
  have last : ∀ (h' : Heap) (t : Tok) (tk : Nat), (∀ b o, s.heap.get? b = some o → h'.get? b = some o) → EP X pins σ Q (.str d.shown t) { s with heap := h', toks := tk } := fun h' t tk kp => ⟨.str d.shown, H, I.kept (t' := tk) kp, ⟨t, rfl⟩, q⟩
  cases sh with
  | dp hd =>
    obtain ⟨as, rd⟩ := Dp.reads I d x u hd ru
    cases hd with
    | non =>
      cases (show u = Value.none from ru)
      exact PySem.P.repr_of_none (last s.heap _ _ fun _ _ e => e)
    | bl b =>
      cases (show u = Value.bool b from ru)
      have := PySem.P.repr_of_bool (prog := X.prog) (w := X.w) (A := X.A) (E := X.xe) (s := s) (b := b) (Q := EP X pins σ Q) (by
        cases b <;> exact last s.heap _ _ fun _ _ e => e)
      exact this
    | int i =>
      obtain ⟨t, rfl⟩ := (show ∃ t, u = Value.int i t from ru)
      exact PySem.P.repr_of_int (of_decide_eq_true (by simpa [PyData.showable] using sw)) (last s.heap _ _ fun _ _ e => e)
    | str y =>
      obtain ⟨t, rfl⟩ := (show ∃ t, u = Value.str y t from ru)
      exact PySem.P.repr_of_str (last s.heap _ _ fun _ _ e => e) (hsz := sz)
    | lst hs ha =>
      cases (show u = Value.ref _ from ru)
      exact repr_of_reads' rd sw (PyData.noDict_hsm (PyData.hasDict_of_canLay _ lay)) free (by omega) (fun _ _ e => e) last sz
    | tup hs ha =>
      cases (show u = Value.ref _ from ru)
      exact repr_of_reads' rd sw (PyData.noDict_hsm (PyData.hasDict_of_canLay _ lay)) free (by omega) (fun _ _ e => e) last sz
  | @goal a g hg =>
    cases (show u = Value.ref a from ru)
    obtain ⟨_, lo, vs, kv, o, es, ep, h1, h2, h3, _, h5, _⟩ := dk_of I.hok hg
    obtain ⟨r1, r2⟩ := goal_reads (P := X.prog) (w := X.w) (h := s.heap) (es := es.toList) kv h5
    have rd : Reads s.heap (.ref a) (goalD g) (a :: [] ++ []) := .dict h1 h2.1 h3 r1 r2
    refine repr_of_reads' rd sw (fun _ hm => ?_) free (by omega) (fun _ _ e => e) last sz
    have : sysModules = a := by simpa using hm
    rw [this] at lo
    simp at lo
end
end Wnd

/-! Windowsteps: how long repr(x) is, numbers of settings. -/
namespace Wnd
open PySem PySem.Spec PyProof.Rows L2
theorem int_shown_len {i : Int} (h : i.natAbs < 10 ^ 12) : (PyData.shown (.int i)).length ≤ 13 := by
  have e := PySem.int_text_length_le10 (a := i) (k := 12) (by decide) h
  show (Str.ofString (toString i)).length ≤ 13
  rw [PySem.ofString_length]
  exact e
theorem log_small {n k : Nat} (hk : 0 < k) (h : n < 2 ^ k) : n.log2 < k := by
  by_cases z : n = 0
  · subst z
    rw [show Nat.log2 0 = 0 from by decide]
    exact hk
  · exact (Nat.log2_lt z).mpr h
/-- one text and one int -/
structure Small (x : Str × Int) : Prop where
  len : x.1.length ≤ 8
  sign : ∀ c ∈ x.1.cps.toList, c < 16 ^ 8
  ge : -99999 ≤ x.2
  le : x.2 ≤ 99999
theorem Small.abs {x : Str × Int} (h : Small x) : x.2.natAbs < 10 ^ 12 := by
  have := h.ge
  have := h.le
  omega
theorem Small.log {x : Str × Int} (h : Small x) : x.2.natAbs.log2 < 17 := by
  have := h.ge
  have := h.le
  exact log_small (by decide) (by omega)
theorem goal_kv : ∀ {g : List (Str × Int)}, (∀ x ∈ g, Small x) → PyData.leavesShortKv 13 (g.map fun x => (PyData.str x.1, PyData.int x.2)) = true ∧ PyData.showableKv (g.map fun x => (PyData.str x.1, PyData.int x.2)) = true ∧
    PyData.weightKv (g.map fun x => (PyData.str x.1, PyData.int x.2)) ≤ 27 * g.length ∧ PyData.depthKv (g.map fun x => (PyData.str x.1, PyData.int x.2)) = 0
  | [], _ => ⟨by simp [PyData.leavesShortKv], by simp [PyData.showableKv], by simp [PyData.weightKv], by simp [PyData.depthKv]⟩
  | x :: g, h => by
    obtain ⟨h1, h2, h3, h4⟩ := goal_kv fun y hy => h y (List.mem_cons_of_mem _ hy)
    have hx := h x (List.mem_cons_self ..)
    have lg := hx.log
    have ln : x.1.cps.size ≤ 8 := hx.len
    refine ⟨?_, ?_, ?_, ?_⟩
    · rw [List.map_cons, PyData.leavesShortKv, h1, PyData.leavesShort, PyData.leavesShort, Bool.and_true, Bool.and_eq_true, List.all_eq_true, decide_eq_true_iff]
      exact ⟨fun c hc => decide_eq_true (hx.sign c hc), int_shown_len hx.abs⟩
    · rw [List.map_cons, PyData.showableKv, h2, PyData.showable, PyData.showable, Bool.true_and, Bool.and_true, decide_eq_true_iff]
      omega
    · rw [List.map_cons, PyData.weightKv, PyData.weight, PyData.weight, List.length_cons]
      split <;> omega
    · rw [List.map_cons, PyData.depthKv, h4, PyData.depth, PyData.depth]
      rfl
theorem goal_show {g : List (Str × Int)} (h : ∀ x ∈ g, Small x) (hz : g.length ≤ 1000) : (goalD g).showable = true ∧ (goalD g).shown.length ≤ sizeLine ∧ (goalD g).depth ≤ 60 := by
  obtain ⟨h1, h2, h3, h4⟩ := goal_kv h
  refine ⟨?_, ?_, ?_⟩
  · rw [goalD, PyData.showable]
    exact h2
  · have e := PyData.shown_le 13 (by decide) (goalD g) (by rw [goalD, PyData.leavesShort]; exact h1)
    have ew : (goalD g).weight ≤ 27 * g.length := by
      rw [goalD, PyData.weight]
      exact h3
    have : sizeLine = 16777216 := by decide
    omega
  · rw [goalD, PyData.depth, h4]
    decide
theorem int_show {i : Int} (h : i.natAbs < 10 ^ 12) : (PyData.int i).canLay0 = true ∧ (PyData.int i).showable = true ∧ (PyData.int i).shown.length ≤ sizeLine ∧ (PyData.int i).depth ≤ 60 := by
  have z : i.natAbs.log2 < 1920 := Nat.lt_trans (log_small (k := 40) (by decide) (Nat.lt_trans h (by decide))) (by decide)
  have len := int_shown_len h
  have : sizeLine = 16777216 := by decide
  exact ⟨by simp [PyData.canLay0], by simp [PyData.showable, z], by omega, by simp [PyData.depth]⟩
/-- repr of an int -/
theorem repr_int {K : PySem.W.Frag} {H : Hp} {i : Int} {Q : VK} (h : i.natAbs < 10 ^ 12) (q : Q (.str (PyData.shown (.int i))) H) : rRepr K [.int i] H Q := by
  have z : i.natAbs.log2 < 1920 := Nat.lt_trans (log_small (k := 40) (by decide) (Nat.lt_trans h (by decide))) (by decide)
  have len := int_shown_len h
  have : sizeLine = 16777216 := by decide
  exact ⟨_, .int i, rfl, .dp (.int i), by simp [PyData.canLay0], by simp [PyData.showable, z], by omega, by simp [PyData.depth], q⟩
/-- repr of numbers -/
theorem repr_goal {K : PySem.W.Frag} {H : Hp} {a : Addr} {g : List (Str × Int)} {Q : VK} (ha : H a = some (.dK (g.map fun x => (Sum.inr x.1, V.int x.2)))) (h : ∀ x ∈ g, Small x) (hz : g.length ≤ 1000) (q : Q (.str (goalD g).shown) H) : rRepr K [.ref a] H Q := by
  obtain ⟨h1, h2, h3⟩ := goal_show h hz
  exact ⟨_, goalD g, rfl, .goal ha, rfl, h1, h2, h3, q⟩
end Wnd

/-! Windowsteps: repr of a number or None, asked anywhere; defs called by keywords alone. -/
namespace Wnd
open PySem PySem.Spec PyProof.Rows L2
def optV (o : Option Int) : V := match o with
  | none => .non
  | some i => .int i
def optD (o : Option Int) : PyData := match o with
  | none => .none
  | some i => .int i
def rReprI : List V → Hp → VK → Prop := fun xs H Q => ∃ o : Option Int, xs = [optV o] ∧ (∀ i, o = some i → i.natAbs < 10 ^ 12) ∧ Q (.str (optD o).shown) H
theorem call_reprI {X : Cx} : CallR X (.builtin "repr") rReprI := by
  intro pins s σ H xs us Q I r h
  obtain ⟨o, rfl, sm, q⟩ := h
  obtain ⟨u, rfl, ru⟩ := vals1 r
  have last : ∀ (h' : Heap) (t : Tok) (tk : Nat), (∀ b o, s.heap.get? b = some o → h'.get? b = some o) → EP X pins σ Q (.str (optD o).shown t) { s with heap := h', toks := tk } := fun h' t tk kp => ⟨.str (optD o).shown, H, I.kept (t' := tk) kp, ⟨t, rfl⟩, q⟩
  cases o with
  | none =>
    cases (show u = Value.none from ru)
    exact PySem.P.repr_of_none (last s.heap _ _ fun _ _ e => e)
  | some i =>
    obtain ⟨t, rfl⟩ := (show ∃ t, u = Value.int i t from ru)
    have sw := (int_show (sm i rfl)).2.1
    exact PySem.P.repr_of_int (of_decide_eq_true (by simpa [PyData.showable] using sw)) (last s.heap _ _ fun _ _ e => e)
/-! ### f(a = x, b = y) -/
structure OkK (P : Program) (w : World) (K : PySem.W.Frag) (mg : Str → Option Value) (base : Heap) (k : Nat) (x : Str) (ps ks : List Str) (gV : List V → List V → List V) (sp : Sp) : Prop where
  ex : ∃ (f : Addr) (fd : FuncData) (g : List Value → List Value → List Value), mg x = some (.ref f) ∧ PySem.W.keepIn K (.ref f) = true ∧ KBinds K fd ps ks g gV ∧ FnOk P w K mg base CX0 k f fd ps sp
def tCallK0 (sp : Sp) (gV : List V → List V → List V) (tk : TA) : TE := fun σ H Q => tk σ H fun zs H1 => sp (gV [] zs) H1 Q E0
theorem pe_ownK0 {X : Cx} {k : Nat} {x : Str} {ps ks : List Str} {gV : List V → List V → List V} {sp : Sp} {p pos : Pos} {kws : List Keyword} {tk : TA} (O : OkK X.prog X.w X.K X.mg X.base k x ps ks gV sp) (hr : Room k X.A) (hkw : PK X kws tk) (hg : Gl X x := by rfl)
    (hall : (backToKw pos (keywordEach kws X.env)).all (·.1.isSome) = true := by rfl) (hks : (backToKw pos (keywordEach kws X.env)).filterMap (·.1) = ks := by rfl) (hdb : (x == ("__debug__" : Str)) = false := by decide)
    (hpl : ((backTo pos (starEach [] X.env)).any (·.1) || (backToKw pos (keywordEach kws X.env)).any (·.1.isNone)) = false := by rfl) : PE X (.Call (.Name x p) [] kws pos) (tCallK0 sp gV tk) := by
  obtain ⟨f, fd, g, h1, h2, hb, F⟩ := O.ex
  refine ⟨fun pins s σ H Q I h => ?_⟩
  refine wpAny_Call_Name_kw (ld_glob I hg h1 ?_ hdb)
  refine PySem.W.callWith_KW0 (h₀ := X.base) (first := []) I.ok.mod.kin h2 hall (thn (hkw.run pos pins s σ H _ I h) ?_) hpl
  rintro ws s2 ⟨zs, H2, I2, rz, q2⟩
  refine ⟨I2.kIn, ?_⟩
  rw [hks]
  exact run_fnk (us := []) F hr hb pass0 I2 .nil rz q2
end Wnd

/-! repr of any nest of lists, tuples and dicts (keys: ints and texts), where nothing is being shown. -/
namespace Wnd
open PySem PySem.Spec PyProof.Rows L2
def keyD : Key → PyData
  | .inl i => .int i
  | .inr t => .str t
mutual
/-- the value x is the data d; its lists lie at none of the places B (where the modules are kept; what changes) -/
inductive Da (K : PySem.W.Frag) (B : List Addr) (H : Hp) : V → PyData → Prop
  | non : Da K B H .non .none
  | bl (b : Bool) : Da K B H (.bl b) (.bool b)
  | int (i : Int) : Da K B H (.int i) (.int i)
  | str (x : Str) : Da K B H (.str x) (.str x)
  | lst {a : Addr} {xs : List V} {ds : List PyData} : H a = some (.lst xs) → a ∉ B → DaAll K B H xs ds → Da K B H (.ref a) (.list ds)
  | tup {a : Addr} {xs : List V} {ds : List PyData} : SqT K H a xs → DaAll K B H xs ds → Da K B H (.ref a) (.tuple ds)
  | dic {a : Addr} {kvs : List (Key × V)} {ps : List (PyData × PyData)} : H a = some (.dK kvs) → DaKv K B H kvs ps → Da K B H (.ref a) (.dict ps)
inductive DaAll (K : PySem.W.Frag) (B : List Addr) (H : Hp) : List V → List PyData → Prop
  | nil : DaAll K B H [] []
  | cons {v : V} {vs : List V} {d : PyData} {ds : List PyData} : Da K B H v d → DaAll K B H vs ds → DaAll K B H (v :: vs) (d :: ds)
inductive DaKv (K : PySem.W.Frag) (B : List Addr) (H : Hp) : List (Key × V) → List (PyData × PyData) → Prop
  | nil : DaKv K B H [] []
  | cons {k : Key} {v : V} {kvs : List (Key × V)} {d : PyData} {ps : List (PyData × PyData)} : Da K B H v d → DaKv K B H kvs ps → DaKv K B H ((k, v) :: kvs) ((keyD k, d) :: ps)
end
section
variable {K : PySem.W.Frag} {B : List Addr} {H H' : Hp}
theorem sqT_same {a : Addr} {xs : List V} (h : SqT K H a xs) (s : Same H H') : SqT K H' a xs := by
  rcases h with (h | ⟨o, h⟩) | h
  · exact .inl (.inl (s _ _ h))
  · exact .inl (.inr ⟨o, s _ _ h⟩)
  · exact .inr h
mutual
theorem Da.same : ∀ {x : V} {d : PyData}, Da K B H x d → Same H H' → Da K B H' x d
  | _, _, .non, _ => .non
  | _, _, .bl b, _ => .bl b
  | _, _, .int i, _ => .int i
  | _, _, .str x, _ => .str x
  | _, _, .lst h n r, s => .lst (s _ _ h) n (r.same s)
  | _, _, .tup h r, s => .tup (sqT_same h s) (r.same s)
  | _, _, .dic h r, s => .dic (s _ _ h) (r.same s)
theorem DaAll.same : ∀ {xs : List V} {ds : List PyData}, DaAll K B H xs ds → Same H H' → DaAll K B H' xs ds
  | _, _, .nil, _ => .nil
  | _, _, .cons h r, s => .cons (h.same s) (r.same s)
theorem DaKv.same : ∀ {xs : List (Key × V)} {ds : List (PyData × PyData)}, DaKv K B H xs ds → Same H H' → DaKv K B H' xs ds
  | _, _, .nil, _ => .nil
  | _, _, .cons h r, s => .cons (h.same s) (r.same s)
end
mutual
/-- one list changes, at one of these places -/
theorem Da.but {p : Addr} (hp : p ∈ B) (hl : ∃ ys, H p = some (.lst ys)) (b : But p H H') : ∀ {x : V} {d : PyData}, Da K B H x d → Da K B H' x d
  | _, _, .non => .non
  | _, _, .bl b => .bl b
  | _, _, .int i => .int i
  | _, _, .str x => .str x
  | _, _, .lst h n r => .lst (b _ _ h fun z => n (z ▸ hp)) n (DaAll.but hp hl b r)
  | _, _, .tup h r => .tup (by
      obtain ⟨ys, hl⟩ := hl
      rcases h with (h | ⟨o, h⟩) | h
      · exact .inl (.inl (b _ _ h fun z => by rw [z, hl] at h; cases h))
      · exact .inl (.inr ⟨o, b _ _ h fun z => by rw [z, hl] at h; cases h⟩)
      · exact .inr h) (DaAll.but hp hl b r)
  | _, _, .dic h r => .dic (by
      obtain ⟨ys, hl⟩ := hl
      exact b _ _ h fun z => by rw [z, hl] at h; cases h) (DaKv.but hp hl b r)
theorem DaAll.but {p : Addr} (hp : p ∈ B) (hl : ∃ ys, H p = some (.lst ys)) (b : But p H H') : ∀ {xs : List V} {ds : List PyData}, DaAll K B H xs ds → DaAll K B H' xs ds
  | _, _, .nil => .nil
  | _, _, .cons h r => .cons (Da.but hp hl b h) (DaAll.but hp hl b r)
theorem DaKv.but {p : Addr} (hp : p ∈ B) (hl : ∃ ys, H p = some (.lst ys)) (b : But p H H') : ∀ {xs : List (Key × V)} {ds : List (PyData × PyData)}, DaKv K B H xs ds → DaKv K B H' xs ds
  | _, _, .nil => .nil
  | _, _, .cons h r => .cons (Da.but hp hl b h) (DaKv.but hp hl b r)
end
end
section
variable {X : Cx} {B : List Addr} {pins : List (Addr × Obj)} {σ : L2.St} {H : Hp} {s : Shared}
mutual
theorem Da.reads (hB : sysModules ∈ B) (I : Inv X pins σ H s) : ∀ (d : PyData) (v : V) (u : Value), Da X.K B H v d → RelV v u → ∃ as, Reads s.heap u d as ∧ sysModules ∉ as
  | .none, _, _, h, r => by
    cases h
    cases (show _ = Value.none from r)
    exact ⟨_, .none, List.not_mem_nil⟩
  | .bool b, _, _, h, r => by
    cases h
    cases (show _ = Value.bool b from r)
    exact ⟨_, .bool b, List.not_mem_nil⟩
  | .int i, _, _, h, r => by
    cases h
    obtain ⟨t, rfl⟩ := r
    exact ⟨_, .int i t, List.not_mem_nil⟩
  | .str x, _, _, h, r => by
    cases h
    obtain ⟨t, rfl⟩ := r
    exact ⟨_, .str x t, List.not_mem_nil⟩
  | .list ds, _, u, h, r => by
    cases h with
    | @lst a xs _ ha na hr =>
      cases (show u = Value.ref a from r)
      obtain ⟨_, its, n, rv, ho⟩ := (show ObjOk X.prog X.w H s.heap a (.lst xs) from I.hok a _ ha)
      obtain ⟨as, ra, n2⟩ := DaAll.reads hB I ds xs its hr rv
      refine ⟨a :: as, .list ho rfl rfl ra, fun hm => ?_⟩
      rcases List.mem_cons.mp hm with e | e
      · exact na (e ▸ hB)
      · exact n2 e
  | .tuple ds, _, u, h, r => by
    cases h with
    | @tup a xs _ ha hr =>
      cases (show u = Value.ref a from r)
      obtain ⟨its, rv, ⟨o, ho, hcl, n, hd⟩, _⟩ := I.tuple ha
      obtain ⟨as, ra, n2⟩ := DaAll.reads hB I ds xs its hr rv
      exact ⟨as, .tuple ho hcl hd ra, n2⟩
  | .dict ps, _, u, h, r => by
    cases h with
    | @dic a kvs _ ha hr =>
      cases (show u = Value.ref a from r)
      obtain ⟨_, lo, vs, kv, o, es, ep, h1, h2, h3, _, h5, _⟩ := dk_of I.hok ha
      obtain ⟨bs, r1, r2, n2⟩ := DaKv.reads hB I ps kvs vs es.toList hr kv h5
      refine ⟨_, .dict h1 h2.1 h3 r1 r2, fun hm => ?_⟩
      rcases List.mem_cons.mp hm with e | e
      · rw [e] at lo
        simp at lo
      · exact n2 e
theorem DaAll.reads (hB : sysModules ∈ B) (I : Inv X pins σ H s) : ∀ (ds : List PyData) (vs : List V) (us : List Value), DaAll X.K B H vs ds → Vals vs us → ∃ as, ReadsAll s.heap us ds as ∧ sysModules ∉ as
  | [], _, _, h, r => by
    cases h
    cases r
    exact ⟨_, .nil, List.not_mem_nil⟩
  | d :: ds, _, _, h, r => by
    cases h with
    | cons h1 h2 =>
      cases r with
      | cons r1 r2 =>
        obtain ⟨as, ra, na⟩ := Da.reads hB I d _ _ h1 r1
        obtain ⟨bs, rb, nb⟩ := DaAll.reads hB I ds _ _ h2 r2
        exact ⟨_, .cons ra rb, fun hm => (List.mem_append.mp hm).elim na nb⟩
theorem DaKv.reads (hB : sysModules ∈ B) (I : Inv X pins σ H s) : ∀ (ps : List (PyData × PyData)) (kvs : List (Key × V)) (vs : List (Key × Value)) (es : List DictEntry), DaKv X.K B H kvs ps → KV kvs vs → Pairs (mixKind X.prog X.w) es vs →
    ∃ bs, ReadsAll s.heap (es.map (·.key)) (ps.map (·.1)) [] ∧ ReadsAll s.heap (es.map (·.val)) (ps.map (·.2)) bs ∧ sysModules ∉ bs
  | [], _, _, _, h, r, k => by
    cases h
    cases r
    cases k
    exact ⟨[], .nil, .nil, List.not_mem_nil⟩
  | p :: ps, _, _, _, h, r, k => by
    cases h with
    | @cons key v kvs d _ h1 h2 =>
      cases r with
      | cons r1 r2 =>
        cases k with
        | cons k1 k2 k3 =>
          rename_i kv tail ent es'
          obtain ⟨kk, val⟩ := kv
          have e1 : key = kk := r1.1
          subst e1
          have rv : RelV v val := r1.2
          have k1 : keyIs key ent.key = true := k1
          have k2 : ent.val = val := k2
          obtain ⟨as, ra, na⟩ := Da.reads hB I d v val h1 rv
          obtain ⟨bs, rk, rb, nb⟩ := DaKv.reads hB I ps _ _ _ h2 r2 k3
          refine ⟨as ++ bs, ?_, ?_, fun hm => (List.mem_append.mp hm).elim na nb⟩
          · show ReadsAll s.heap (ent.key :: es'.map (·.key)) (keyD key :: _) ([] ++ [])
            rcases keyIs_shape k1 with ⟨i, t, z, z2⟩ | ⟨y, t, z, z2⟩
            · subst z
              rw [z2]
              exact .cons (.int i t) rk
            · subst z
              rw [z2]
              exact .cons (.str y t) rk
          · show ReadsAll s.heap (ent.val :: es'.map (·.val)) (d :: _) (as ++ bs)
            rw [k2]
            exact .cons ra rb
end
end
/-- repr(x), x a list, a tuple or a dict -/
def rReprA (K : PySem.W.Frag) (B : List Addr) : List V → Hp → VK → Prop := fun xs H Q => ∃ (a : Addr) (d : PyData), xs = [.ref a] ∧ Da K B H (.ref a) d ∧ d.showable = true ∧ d.shown.length ≤ sizeLine ∧ d.depth ≤ 60 ∧ Q (.str d.shown) H
theorem call_reprA {X : Cx} (B : List Addr) (hB : sysModules ∈ B) (free : X.A.guards = some []) (hu : X.A.units + 65 < cLine) : CallR X (.builtin "repr") (rReprA X.K B) := by
  intro pins s σ H xs us Q I r h
  obtain ⟨a, d, rfl, hd, sw, sz, dp, q⟩ := h
  obtain ⟨u, rfl, ru⟩ := vals1 r
  cases (show u = Value.ref a from ru)
  obtain ⟨as, rd, na⟩ := Da.reads hB I d _ _ hd ru
  exact repr_of_reads' rd sw (fun _ hm => na hm) free (by omega) (fun _ _ e => e) (fun h' t tk kp => ⟨.str d.shown, H, I.kept (t' := tk) kp, ⟨t, rfl⟩, q⟩) sz
end Wnd

/-! nests of bounded size: their repr fits. -/
namespace Wnd
open PySem PySem.Spec PyProof.Rows L2
/-- a nest no deeper than m, no heavier than w -/
structure Nice (m w : Nat) (d : PyData) : Prop where
  short : d.leavesShort 45 = true
  shows : d.showable = true
  weight : d.weight ≤ w
  depth : d.depth ≤ m
theorem Nice.le {m w m' w' : Nat} {d : PyData} (h : Nice m w d) (h1 : m ≤ m') (h2 : w ≤ w') : Nice m' w' d := ⟨h.short, h.shows, Nat.le_trans h.weight h2, Nat.le_trans h.depth h1⟩
theorem nice_all {m w : Nat} : ∀ {ds : List PyData}, (∀ d ∈ ds, Nice m w d) → PyData.leavesShortAll 45 ds = true ∧ PyData.showableAll ds = true ∧ PyData.weightAll ds ≤ ds.length * (w + 1) ∧ PyData.depthAll ds ≤ m
  | [], _ => ⟨by simp [PyData.leavesShortAll], by simp [PyData.showableAll], by simp [PyData.weightAll], by simp [PyData.depthAll]⟩
  | d :: ds, h => by
    obtain ⟨h1, h2, h3, h4⟩ := nice_all fun x hx => h x (List.mem_cons_of_mem _ hx)
    have hd := h d List.mem_cons_self
    have a := hd.weight
    have b := hd.depth
    refine ⟨by simp [PyData.leavesShortAll, hd.short, h1], by simp [PyData.showableAll, hd.shows, h2], ?_, ?_⟩
    · simp only [PyData.weightAll, List.length_cons, Nat.succ_mul]
      omega
    · simp only [PyData.depthAll]
      omega
theorem nice_list {m w : Nat} {ds : List PyData} (h : ∀ d ∈ ds, Nice m w d) : Nice (m + 1) (ds.length * (w + 1)) (.list ds) := by
  obtain ⟨h1, h2, h3, h4⟩ := nice_all h
  refine ⟨by simp [PyData.leavesShort, h1], by simp [PyData.showable, h2], by simp only [PyData.weight]; exact h3, ?_⟩
  simp only [PyData.depth]
  omega
theorem nice_tuple {m w : Nat} {ds : List PyData} (h : ∀ d ∈ ds, Nice m w d) : Nice (m + 1) (ds.length * (w + 1)) (.tuple ds) := by
  obtain ⟨h1, h2, h3, h4⟩ := nice_all h
  refine ⟨by simp [PyData.leavesShort, h1], by simp [PyData.showable, h2], by simp only [PyData.weight]; exact h3, ?_⟩
  simp only [PyData.depth]
  omega
theorem nice_kv {m w : Nat} : ∀ {ps : List (PyData × PyData)}, (∀ p ∈ ps, Nice m w p.1 ∧ Nice m w p.2) → PyData.leavesShortKv 45 ps = true ∧ PyData.showableKv ps = true ∧ PyData.weightKv ps ≤ ps.length * (2 * w + 2) ∧ PyData.depthKv ps ≤ m
  | [], _ => ⟨by simp [PyData.leavesShortKv], by simp [PyData.showableKv], by simp [PyData.weightKv], by simp [PyData.depthKv]⟩
  | (a, b) :: ps, h => by
    obtain ⟨h1, h2, h3, h4⟩ := nice_kv fun x hx => h x (List.mem_cons_of_mem _ hx)
    obtain ⟨ha, hb⟩ := h (a, b) List.mem_cons_self
    have a1 := ha.weight
    have a2 := ha.depth
    have b1 := hb.weight
    have b2 := hb.depth
    have a3 := ha.short
    have b3 := hb.short
    have a4 := ha.shows
    have b4 := hb.shows
    dsimp only at a1 a2 b1 b2 a3 b3 a4 b4
    refine ⟨by simp [PyData.leavesShortKv, a3, b3, h1], by simp [PyData.showableKv, a4, b4, h2], ?_, ?_⟩
    · rw [List.length_cons, Nat.succ_mul]
      simp only [PyData.weightKv]
      omega
    · simp only [PyData.depthKv]
      omega
theorem nice_dict {m w : Nat} {ps : List (PyData × PyData)} (h : ∀ p ∈ ps, Nice m w p.1 ∧ Nice m w p.2) : Nice (m + 1) (ps.length * (2 * w + 2)) (.dict ps) := by
  obtain ⟨h1, h2, h3, h4⟩ := nice_kv h
  refine ⟨by simp [PyData.leavesShort, h1], by simp [PyData.showable, h2], by simp only [PyData.weight]; exact h3, ?_⟩
  simp only [PyData.depth]
  omega
/-- its repr fits a line -/
theorem Nice.fits {m w : Nat} {d : PyData} (h : Nice m w d) (hm : m ≤ 60) (hw : w ≤ 300000) : d.showable = true ∧ d.shown.length ≤ sizeLine ∧ d.depth ≤ 60 := by
  refine ⟨h.shows, ?_, Nat.le_trans h.depth hm⟩
  have e := PyData.shown_le 45 (by decide) d h.short
  have a := h.weight
  have : sizeLine = 16777216 := by decide
  omega
theorem nice_none : Nice 0 0 .none := ⟨by simp [PyData.leavesShort], by simp [PyData.showable], by simp [PyData.weight], by simp [PyData.depth]⟩
theorem nice_bool (b : Bool) : Nice 0 0 (.bool b) := ⟨by simp [PyData.leavesShort], by simp [PyData.showable], by simp [PyData.weight], by simp [PyData.depth]⟩
theorem nice_str {t : Str} (h : ∀ c ∈ t.cps.toList, c < 16 ^ 8) : Nice 0 t.length (.str t) := ⟨by
  simp only [PyData.leavesShort, List.all_eq_true, decide_eq_true_eq]
  exact h, by simp [PyData.showable], by simp only [PyData.weight]; exact Nat.le_refl _, by simp [PyData.depth]⟩
theorem nice_int {i : Int} (h : i.natAbs < 10 ^ 12) : Nice 0 64 (.int i) := by
  have l := log_small (k := 40) (by decide) (Nat.lt_trans h (by decide))
  refine ⟨?_, ?_, ?_, by simp [PyData.depth]⟩
  · have := int_shown_len h
    simp only [PyData.leavesShort, decide_eq_true_eq]
    omega
  · simp only [PyData.showable, decide_eq_true_eq]
    omega
  · simp only [PyData.weight]
    split
    · omega
    · omega
section
variable {K : PySem.W.Frag} {B : List Addr} {H : Hp}
/-- whether it is an integer within bounds is known of all that a nest holds -/
theorem da_in {x : V} {d : PyData} (h : Da K B H x d) (lo hi : Int) : ∃ b, (∃ i, x = .int i ∧ b = (decide (lo ≤ i) && decide (i ≤ hi))) ∨ (((∃ k, x = .bl k) ∨ ∃ t, TyX K H x t ∧ PySem.W.kitOne K t (.type "int") = some false) ∧ b = false) := by
  cases h with
  | non => exact ⟨false, .inr ⟨.inr ⟨_, .base .non, kit_ty (by decide +kernel)⟩, rfl⟩⟩
  | bl b => exact ⟨false, .inr ⟨.inl ⟨b, rfl⟩, rfl⟩⟩
  | int i => exact ⟨_, .inl ⟨i, rfl, rfl⟩⟩
  | str x => exact ⟨false, .inr ⟨.inr ⟨_, .base (.str x), kit_ty (by decide +kernel)⟩, rfl⟩⟩
  | lst ha _ _ => exact ⟨false, .inr ⟨.inr ⟨_, .base (.lst ha), kit_ty (by decide +kernel)⟩, rfl⟩⟩
  | tup ha _ =>
    rcases ha with (ha | ⟨o, ha⟩) | ⟨o, its, n, hk, hc, _⟩
    · exact ⟨false, .inr ⟨.inr ⟨_, .base (.tup ha), kit_ty (by decide +kernel)⟩, rfl⟩⟩
    · exact ⟨false, .inr ⟨.inr ⟨_, .fTuple ha, kit_ty (by decide +kernel)⟩, rfl⟩⟩
    · exact ⟨false, .inr ⟨.inr ⟨_, .kTuple hk hc, kit_ty (by decide +kernel)⟩, rfl⟩⟩
  | dic ha _ => exact ⟨false, .inr ⟨.inr ⟨_, .base (.dK ha), kit_ty (by decide +kernel)⟩, rfl⟩⟩
end
end Wnd

/-! prices of one's own: names, each with a number or None -/
namespace Wnd
open PySem PySem.Spec PyProof.Rows L2
abbrev Own := List (Str × Option Int)
def ownKV (g : Own) : List (Key × V) := g.map fun x => (Sum.inr x.1, optV x.2)
def valO (g : Own) (t : Str) : Option (Option Int) := (g.find? fun x => decide (x.1 = t)).map (·.2)
def putO (g : Own) (t : Str) (o : Option Int) : Own := if (g.any fun x => decide (x.1 = t)) = true then g.map (fun x => if x.1 = t then (x.1, o) else x) else g ++ [(t, o)]
def sortO (g : Own) : Own := (sortN (g.map (·.1))).map fun t => (t, (valO g t).getD none)
theorem own_keys (g : Own) : (ownKV g).map (·.1) = (g.map (·.1)).map Sum.inr := by
  unfold ownKV
  rw [List.map_map, List.map_map]
  rfl
theorem val_own (t : Str) : ∀ g : Own, valV (ownKV g) (Sum.inr t : Key) = (valO g t).map optV
  | [] => rfl
  | x :: g => by
    have ih := val_own t g
    by_cases e : x.1 = t
    · rw [show ownKV (x :: g) = (Sum.inr x.1, optV x.2) :: ownKV g from rfl, valV_pos (by rw [e])]
      simp [valO, List.find?_cons, e]
    · rw [show ownKV (x :: g) = (Sum.inr x.1, optV x.2) :: ownKV g from rfl, valV_neg (fun z => e (by injection z)), ih]
      simp [valO, List.find?_cons, e]
theorem any_own (t : Str) (g : Own) : ((ownKV g).any fun kv => decide (kv.1 = (Sum.inr t : Key))) = g.any fun x => decide (x.1 = t) := by
  unfold ownKV
  rw [List.any_map]
  congr 1
  funext x
  rw [Bool.eq_iff_iff]
  simp
theorem put_own (g : Own) (t : Str) (o : Option Int) : putK (ownKV g) (Sum.inr t : Key) (optV o) = ownKV (putO g t o) := by
  unfold putK putO
  rw [any_own]
  by_cases e : (g.any fun x => decide (x.1 = t)) = true
  · rw [if_pos e, if_pos e]
    unfold ownKV
    rw [List.map_map, List.map_map]
    refine List.map_congr_left fun x _ => ?_
    by_cases ex : x.1 = t
    · simp [ex]
    · have : ¬ ((Sum.inr x.1 : Key) = Sum.inr t) := fun z => ex (by injection z)
      simp [ex]
  · rw [if_neg e, if_neg e]
    unfold ownKV
    rw [List.map_append]
    rfl
theorem any_mem {g : Own} {t : Str} : (g.any fun x => decide (x.1 = t)) = true ↔ t ∈ g.map (·.1) := by
  rw [List.any_eq_true, List.mem_map]
  exact ⟨fun ⟨x, h, e⟩ => ⟨x, h, of_decide_eq_true e⟩, fun ⟨x, h, e⟩ => ⟨x, h, decide_eq_true e⟩⟩
theorem put_keys (g : Own) (t : Str) (o : Option Int) : (putO g t o).map (·.1) = if t ∈ g.map (·.1) then g.map (·.1) else g.map (·.1) ++ [t] := by
  unfold putO
  by_cases e : t ∈ g.map (·.1)
  · rw [if_pos (any_mem.mpr e), if_pos e, List.map_map]
    refine List.map_congr_left fun x _ => ?_
    by_cases ex : x.1 = t <;> simp [ex]
  · rw [if_neg (fun z => e (any_mem.mp z)), if_neg e, List.map_append]
    rfl
theorem put_nodup {g : Own} {t : Str} {o : Option Int} (h : (g.map (·.1)).Nodup) : ((putO g t o).map (·.1)).Nodup := by
  rw [put_keys]
  by_cases e : t ∈ g.map (·.1)
  · rw [if_pos e]; exact h
  · rw [if_neg e]
    exact List.nodup_append.mpr ⟨h, by simp, fun a ha b hb z => by
      rw [List.mem_singleton.mp hb] at z
      exact e (z ▸ ha)⟩
theorem put_len {g : Own} {t : Str} {o : Option Int} : (putO g t o).length ≤ g.length + 1 := by
  have h : (putO g t o).length = ((putO g t o).map (·.1)).length := (List.length_map _).symm
  rw [h, put_keys]
  split
  · rw [List.length_map]; omega
  · rw [List.length_append, List.length_map]; exact Nat.le_refl _
theorem val_put (t : Str) (o : Option Int) (s : Str) : ∀ g : Own, valO (putO g t o) s = if s = t then some o else valO g s := by
  intro g
  unfold putO
  by_cases e : (g.any fun x => decide (x.1 = t)) = true
  · rw [if_pos e]
    induction g with
    | nil => cases e
    | cons x g ih =>
      rw [List.map_cons]
      by_cases ex : x.1 = t
      · rw [if_pos ex]
        by_cases es : s = t
        · simp [valO, List.find?_cons, ex, es]
        · rw [if_neg es]
          have h1 : ¬ x.1 = s := fun z => es (by rw [← z, ex])
          by_cases e2 : (g.any fun x => decide (x.1 = t)) = true
          · have := ih e2
            rw [if_neg es] at this
            have a1 : ∀ r : Own, valO ((x.1, o) :: r) s = valO r s := fun r => by simp [valO, List.find?_cons, h1]
            have a2 : ∀ r : Own, valO (x :: r) s = valO r s := fun r => by simp [valO, List.find?_cons, h1]
            rw [a1, a2, this]
          · have idm : g.map (fun x => if x.1 = t then (x.1, o) else x) = g := by
              conv => rhs; rw [← List.map_id g]
              refine List.map_congr_left fun y hy => ?_
              have : ¬ y.1 = t := fun z => e2 (List.any_eq_true.mpr ⟨y, hy, decide_eq_true z⟩)
              rw [if_neg this]; rfl
            rw [idm]
            simp [valO, List.find?_cons, h1]
      · rw [if_neg ex]
        have e2 : (g.any fun x => decide (x.1 = t)) = true := by
          rw [List.any_cons, decide_eq_false ex, Bool.false_or] at e
          exact e
        have := ih e2
        by_cases exs : x.1 = s
        · have es : ¬ s = t := fun z => ex (by rw [exs, z])
          rw [if_neg es]
          simp [valO, List.find?_cons, exs]
        · have a2 : ∀ r : Own, valO (x :: r) s = valO r s := fun r => by simp [valO, List.find?_cons, exs]
          rw [a2, a2, this]
  · rw [if_neg e]
    have no : ∀ x ∈ g, ¬ x.1 = t := fun x hx z => e (List.any_eq_true.mpr ⟨x, hx, decide_eq_true z⟩)
    by_cases es : s = t
    · rw [if_pos es]
      unfold valO
      rw [List.find?_append, List.find?_eq_none.mpr (fun x hx => by simpa [es] using no x hx)]
      simp [es]
    · rw [if_neg es]
      unfold valO
      rw [List.find?_append]
      have : List.find? (fun x => decide (x.1 = s)) [(t, o)] = none := by
        rw [List.find?_eq_none]
        intro x hx
        rw [List.mem_singleton.mp hx]
        simpa using fun z => es z.symm
      rw [this, Option.or_none]
theorem val_mem {g : Own} {t : Str} : (valO g t).isSome = true ↔ t ∈ g.map (·.1) := by
  unfold valO
  rw [Option.isSome_map, List.find?_isSome]
  constructor
  · rintro ⟨x, hx, e⟩
    exact List.mem_map.mpr ⟨x, hx, of_decide_eq_true e⟩
  · intro h
    obtain ⟨x, hx, e⟩ := List.mem_map.mp h
    exact ⟨x, hx, decide_eq_true e⟩
theorem val_of_map (f : Str → Option Int) (t : Str) : ∀ ks : List Str, valO (ks.map fun k => (k, f k)) t = if t ∈ ks then some (f t) else none
  | [] => rfl
  | k :: ks => by
    by_cases e : k = t
    · subst e
      simp [valO, List.find?_cons]
    · have ih := val_of_map f t ks
      have a : valO (((k :: ks).map fun k => (k, f k))) t = valO (ks.map fun k => (k, f k)) t := by
        rw [List.map_cons]
        simp [valO, List.find?_cons, e]
      rw [a, ih]
      have : (t ∈ k :: ks) ↔ t ∈ ks := by
        rw [List.mem_cons]
        exact ⟨fun h => h.elim (fun z => absurd z.symm e) id, .inr⟩
      simp only [this]
theorem sortO_keys (g : Own) : (sortO g).map (·.1) = sortN (g.map (·.1)) := by
  unfold sortO
  rw [List.map_map]
  exact List.map_id' _
theorem sortO_len (g : Own) : (sortO g).length = g.length := by
  unfold sortO
  rw [List.length_map, (sortN_perm _).length_eq, List.length_map]
theorem sortO_nodup {g : Own} (h : (g.map (·.1)).Nodup) : ((sortO g).map (·.1)).Nodup := by
  rw [sortO_keys]
  exact (sortN_perm _).nodup_iff.mpr h
theorem val_sort (g : Own) (t : Str) : valO (sortO g) t = valO g t := by
  unfold sortO
  rw [val_of_map]
  by_cases h : t ∈ sortN (g.map (·.1))
  · rw [if_pos h]
    have h2 := (val_mem (g := g)).mpr ((sortN_perm _).mem_iff.mp h)
    cases e : valO g t with
    | none => rw [e] at h2; cases h2
    | some o => rfl
  · rw [if_neg h]
    cases e : valO g t with
    | none => rfl
    | some o => exact absurd ((sortN_perm _).mem_iff.mpr ((val_mem (g := g)).mp (by rw [e]; rfl))) h
theorem sortO_ext {g g' : Own} (hk : (g.map (·.1)).Perm (g'.map (·.1))) (hv : ∀ t, valO g t = valO g' t) : sortO g = sortO g' := by
  unfold sortO
  rw [sortN_one hk]
  exact List.map_congr_left fun t _ => by rw [hv]
theorem sortO_put {g : Own} (h : (g.map (·.1)).Nodup) (t : Str) (o : Option Int) : sortO (putO (sortO g) t o) = sortO (putO g t o) := by
  refine sortO_ext ?_ fun s => by rw [val_put, val_put, val_sort]
  rw [put_keys, put_keys, sortO_keys]
  have mi : t ∈ sortN (g.map (·.1)) ↔ t ∈ g.map (·.1) := (sortN_perm _).mem_iff
  by_cases e : t ∈ g.map (·.1)
  · rw [if_pos e, if_pos (mi.mpr e)]
    exact sortN_perm _
  · rw [if_neg e, if_neg (fun z => e (mi.mp z))]
    exact (sortN_perm _).append_right _
theorem mem_put {g : Own} {t : Str} {o : Option Int} {x : Str × Option Int} (h : x ∈ putO g t o) : x ∈ g ∨ x = (t, o) := by
  unfold putO at h
  split at h
  · obtain ⟨y, hy, e⟩ := List.mem_map.mp h
    by_cases ey : y.1 = t
    · rw [if_pos ey] at e
      exact .inr (by rw [← e, ey])
    · rw [if_neg ey] at e
      exact .inl (e ▸ hy)
  · rcases List.mem_append.mp h with h | h
    · exact .inl h
    · exact .inr (List.mem_singleton.mp h)
theorem val_in {g : Own} {t : Str} {o : Option Int} (h : valO g t = some o) : (t, o) ∈ g := by
  unfold valO at h
  obtain ⟨x, hx, e⟩ := Option.map_eq_some_iff.mp h
  have h1 := List.mem_of_find?_eq_some hx
  have h2 := List.find?_some hx
  have : x = (t, o) := by rw [← e, ← of_decide_eq_true h2]
  exact this ▸ h1
theorem mem_sort {g : Own} {x : Str × Option Int} (h : x ∈ sortO g) : x ∈ g := by
  unfold sortO at h
  obtain ⟨t, ht, rfl⟩ := List.mem_map.mp h
  have := (val_mem (g := g)).mpr ((sortN_perm _).mem_iff.mp ht)
  cases e : valO g t with
  | none => rw [e] at this; cases this
  | some o => exact val_in e
theorem sort_sort {g : Own} : sortO (sortO g) = sortO g := sortO_ext (by rw [sortO_keys]; exact sortN_perm _) (val_sort g)
/-! how they show -/
def ownD (g : Own) : PyData := .dict (g.map fun x => (PyData.str x.1, optD x.2))
theorem da_own {K : PySem.W.Frag} {B : List Addr} {H : Hp} {a : Addr} {g : Own} (h : H a = some (.dK (ownKV g))) : Da K B H (.ref a) (ownD g) := by
  refine .dic h ?_
  clear h
  unfold ownKV
  induction g with
  | nil => exact .nil
  | cons x g ih =>
    refine .cons (k := Sum.inr x.1) ?_ ih
    cases x.2 with
    | none => exact .non
    | some i => exact .int i
theorem put_noneKV {g : Own} {t : Str} {o : Option Int} (h : t ∉ g.map (·.1)) : putK (ownKV g) (Sum.inr t : Key) (optV o) = ownKV (g ++ [(t, o)]) := by
  rw [put_own]
  unfold putO
  rw [if_neg (fun z => h (any_mem.mp z))]
end Wnd

/-! A dict display {**d, k: v}. The merge follows the library's wpAny_mergeDict. -/
namespace Wnd
open PySem PySem.Spec PyProof.Rows L2
section
variable {prog : Program} {w : World} {Key' : Type} [DecidableEq Key'] {knd : KeyKind prog w Key'} {A : Around} {E : Value → Shared → Prop} {s : Shared}
theorem wpAny_dictPut_pairs {d : Addr} {kvs : List (Key' × Value)} {k : Key'} {key v : Value} {Q : Unit → Shared → Prop} (hkey : knd.is k key = true) (hm : s.heap.DictOf knd d kvs)
    (hQ : ∀ h', h'.DictOf knd d (stored kvs k v) → Heap.SameBut d s.heap h' → Q () { s with heap := h' })
    (hsz : kvs.length ≤ sizeLine := by size_fits) :
    wpAny (model prog w) A (dictPut d (knd.hash k) key v) Q E s := by
  obtain ⟨o, es, ep, ho, hc, hd, hk, hp, hn⟩ := hm
  have hes : es.size ≤ sizeLine := by have e1 := hp.length; have e2 : es.toList.length = es.size := by simp
                                      omega
  unfold dictPut
  refine wpAny_bind (wpAny_dictFind_of hkey ho hd hk ?_)
  have hidx : (es.findIdx? fun e => knd.is k e.key) = kvs.findIdx? fun kv => decide (kv.1 = k) := by
    rw [← hp.findIdx k]; obtain ⟨l⟩ := es; simp
  cases hi : es.findIdx? fun e => knd.is k e.key with
  | some i =>
    refine wpAny_updateDict ho hd (hQ _ ⟨_, _, ep, Heap.get?_update_self _ ho (Obj.isFreed_of_dict (Obj.data_mapDict hd _)),
      hc.mapDict _, Obj.data_mapDict hd _, hk.modify _ _, ?_, ?_⟩ (Heap.SameBut.update ..))
    · rw [stored, if_pos (any_of_findIdx_some (hidx ▸ hi))]
      have hl : (es.toList.findIdx? fun e => knd.is k e.key) = some i := by rw [← hi]; obtain ⟨l⟩ := es; simp
      have := hp.modify hn hl v
      obtain ⟨l⟩ := es
      simpa using this
    · rw [stored, if_pos (any_of_findIdx_some (hidx ▸ hi)), keys_map_store]; exact hn
  | none =>
    have hnot : k ∉ kvs.map (·.1) := not_mem_of_findIdx_none (hidx ▸ hi)
    have hany : ¬ (kvs.any fun kv => decide (kv.1 = k)) = true := by
      rw [List.any_eq_true]; rintro ⟨kv, hkv, he⟩
      exact hnot (List.mem_map.mpr ⟨kv, hkv, of_decide_eq_true he⟩)
    refine wpAny_updateDictKeys (hz := hes) ho hd (hQ _ ⟨_, _, ep + 1, Heap.get?_update_self _ ho (Obj.isFreed_of_dict (Obj.data_mapDictKeys hd _)),
      hc.mapDictKeys _, Obj.data_mapDictKeys hd _, hk.push hkey _, ?_, ?_⟩ (Heap.SameBut.update ..))
    · rw [stored, if_neg hany]
      have := hp.append hkey (knd.hash k) v
      obtain ⟨l⟩ := es
      simpa using this
    · rw [stored, if_neg hany, List.map_append, List.nodup_append]
      refine ⟨hn, by simp, ?_⟩
      intro a ha b hb
      simp only [List.map_cons, List.map_nil, List.mem_singleton] at hb
      subst hb
      exact fun e => hnot (e ▸ ha)
theorem wpAny_mergeMapping {d o : Addr} {kvs more : List (Key' × Value)} {Q : Unit → Shared → Prop} (hdo : d ≠ o) (hoS : (o == sysModules) = false)
    (hd : s.heap.DictOf knd d kvs) (ho : s.heap.DictOf knd o more)
    (hQ : ∀ h', h'.DictOf knd d (merged kvs more) → h'.DictOf knd o more → Heap.SameBut d s.heap h' → Q () { s with heap := h' })
    (hsz : kvs.length + more.length ≤ sizeLine := by size_fits) :
    wpAny (model prog w) A (mergeMapping d (.ref o) false) Q E s := by
  obtain ⟨od, esd, epd, hod, hcd, hdd, hkd, hpd, hnd⟩ := id hd
  obtain ⟨oo, eso, epo, hoo, hco, hdo', hko, hpo, hno⟩ := id ho
  have hlen : more.length = eso.size := by rw [← hpo.length]; simp
  have loop : wpAny (model prog w) A (do
      let l ← dictEntries o
      let epoch ← dictEpoch o
      forIn (List.range l.size) PUnit.unit fun i (_ : PUnit) => (do
          let l' ← dictEntries o
          match l'[i]? with
            | some e => do
              holding [e.key, e.val] (dictPut d e.hash e.key e.val)
              let ep' ← dictEpoch o
              if (ep' != epoch) = true then do
                  (unsupported "dict.changed-during-merge" : Sem PUnit)
                  pure (ForInStep.yield PUnit.unit)
                else pure (ForInStep.yield PUnit.unit)
            | _ => do
              (unsupported "dict.changed-during-merge" : Sem PUnit)
              pure (ForInStep.yield PUnit.unit) : Sem (ForInStep PUnit))
      pure ()) Q E s := by
    refine wpAny_bind (wpAny_dictEntries hoo hdo' ?_)
    refine wpAny_bind (wpAny_dictEpoch hoo hdo' ?_)
    refine wpAny_bind ?_
    rw [List.range_eq_range']
    refine wpAny_forIn_list _
      (fun rest _ s' => ∃ h' i, s' = { s with heap := h' } ∧ rest = List.range' i (eso.size - i) ∧ i ≤ eso.size ∧ h'.DictOf knd d (merged kvs (more.take i)) ∧ h'.get? o = some oo ∧ Heap.SameBut d s.heap h')
      _ ?_ ?_ _ _ ⟨s.heap, 0, rfl, by simp, Nat.zero_le _, by simpa [merged] using hd, hoo, Heap.SameBut.refl _ _⟩
    · rintro x rest b s' ⟨h', i, rfl, hr, hi, hd', hoo', hs'⟩
      have hlt : i < eso.size := by
        rcases Nat.lt_or_ge i eso.size with h | h
        · exact h
        · rw [Nat.sub_eq_zero_of_le h] at hr; simp at hr
      obtain ⟨rfl, hrest⟩ : x = i ∧ rest = List.range' (i + 1) (eso.size - (i + 1)) := by
        have e : eso.size - i = (eso.size - (i + 1)) + 1 := by omega
        rw [e, List.range'_succ] at hr
        injection hr with h1 h2
        exact ⟨h1, h2⟩
      refine wpAny_bind (wpAny_dictEntries hoo' hdo' ?_)
      rw [Array.getElem?_eq_getElem hlt]
      obtain ⟨kv, hkv⟩ : ∃ kv, more[x]? = some kv := ⟨more[x]'(by rw [hlen]; exact hlt), List.getElem?_eq_getElem _⟩
      obtain ⟨k, v⟩ := kv
      obtain ⟨hkey, hval⟩ := hpo.get? (e := eso[x]) (by simp [hlt]) hkv
      obtain ⟨k', hkey', hhash⟩ := hko eso[x] (Array.getElem_mem hlt)
      obtain rfl : k' = k := knd.inj _ _ _ hkey' hkey
      show wpAny _ _ (holding [eso[x].key, eso[x].val] (dictPut d eso[x].hash eso[x].key eso[x].val) >>= _) _ _ _
      rw [hhash, hval]
      have hmx : (merged kvs (more.take x)).length ≤ sizeLine := by
        have e1 := merged_length_le kvs (more.take x)
        have e2 : (more.take x).length ≤ more.length := by rw [List.length_take]; omega
        omega
      refine wpAny_bind (wpAny_holding (wpAny_dictPut_pairs (hsz := hmx) hkey hd' fun h'' hd'' hs'' => ?_))
      have hoo'' : h''.get? o = some oo := (hs''.2 o (Ne.symm hdo)).trans hoo'
      refine wpAny_bind (wpAny_dictEpoch hoo'' hdo' ?_)
      rw [if_neg (by simp)]
      exact wpAny_pure ⟨h'', x + 1, rfl, hrest, hlt, by rw [merged_take_succ kvs more x (k', v) hkv]; exact hd'', hoo'', hs'.trans hs''⟩
    · rintro b s' ⟨h', i, rfl, hr, hi, hd', hoo', hs'⟩
      have hin : i = eso.size := by
        rcases Nat.lt_or_ge i eso.size with h | h
        · have e : eso.size - i = (eso.size - (i + 1)) + 1 := by omega
          rw [e, List.range'_succ] at hr; exact nomatch hr
        · exact Nat.le_antisymm hi h
      refine wpAny_pure (hQ h' ?_ ⟨oo, eso, epo, hoo', hco, hdo', hko, hpo, hno⟩ hs')
      rw [hin, ← hlen, List.take_length] at hd'; exact hd'
  unfold mergeMapping
  refine wpAny_bind (wpAny_isInstance ho.typeIs isSubtype_dict_dict ?_)
  simp only [if_true]
  refine wpAny_bind (wpAny_specialOf ho.typeIs F.slot_dict_iter.lookup ?_)
  simp only [beq_self_eq_true]
  refine wpAny_bind (wpAny_pure ?_)
  dsimp only
  rw [if_neg (by rw [hoS]; exact Bool.false_ne_true)]
  refine wpAny_bind (wpAny_dictEntries hod hdd ?_)
  by_cases hemp : esd.isEmpty = true
  · rw [if_pos hemp]
    refine wpAny_bind (wpAny_dictEntries hoo hdo' ?_)
    have hloop : (forIn eso PUnit.unit fun e (_ : PUnit) => (
        match e.key with
        | .ref a => do
          let __do_lift ← specialOf e.key "__eq__"
          if (__do_lift != some (Value.builtin "object.__eq__")) = true then
              if (Array.filter (fun x => x.hash == e.hash) eso).size > 1 then do
                let _ ← (unsupported "dict.merge-into-an-empty-dict:keys-of-equal-hash" : Sem PUnit)
                pure (ForInStep.yield PUnit.unit)
              else pure (ForInStep.yield PUnit.unit)
            else pure (ForInStep.yield PUnit.unit)
        | x => pure (ForInStep.yield PUnit.unit) : Sem (ForInStep PUnit))) = pure PUnit.unit := by
      rw [← Array.forIn_toList]
      refine forIn_yield_id _ fun e he c => ?_
      obtain ⟨k, hkey, _⟩ := hko e (Array.mem_toList_iff.mp he)
      have := knd.byValue k _ hkey
      cases hk : e.key with
      | ref a => rw [hk] at this; cases this
      | _ => rfl
    refine wpAny_bind (wpAny_of_eq hloop ?_)
    exact loop
  · rw [if_neg hemp]
    exact loop
end
theorem dictDisplay_star1 (e k v : Sem Value) : dictDisplay [(none, e), (some k, v)] = (do
   let d ← alloc { cls := .type "dict", data := .dict #[] }
   let m ← holding [.ref d] e
   (((holding [.ref d, m] (mergeMapping d m false)).onRaise fun x => do let _ ← holding [.ref d, m, x] (runValue (.builtin "proto.let_go" {}))).tryCatch fun e => do
        if ← isInstance e (.type "AttributeError") then
          rule "dict.display.not-a-mapping"; raiseError "TypeError" s!"'{← typeNameOf m}' object is not a mapping"
        throw e).onRaise fun x => do let _ ← holding [.ref d, x] (runValue (.builtin "proto.let_go" {}))
   let sub ← holding [.ref d] (subDict [(k, v)])
   (holding [.ref d, .ref sub] (mergeMapping d (.ref sub) false)).onRaise fun x => do let _ ← holding [.ref d, x] (runValue (.builtin "proto.let_go" {}))
   pure (.ref d)) := by
  unfold dictDisplay
  simp [List.forIn_cons]
/-- {**e, k: v}: the new dict at p, the one of its last pair at q -/
def tDispS (te tk tv : TE) : TE := fun σ H Q => ∀ p, H p = none → te σ (upd H p (.dK [])) fun m H1 => H1 p = some (.dK []) ∧ ∃ (a : Addr) (more : List (Key × V)), m = .ref a ∧ a ≠ p ∧ H1 a = some (.dK more) ∧ more.length + 1 ≤ sizeLine ∧
  ∀ q, H1 q = none → q ≠ p → tk σ (upd (upd H1 p (.dK more)) q (.dK [])) fun y H2 => tv σ H2 fun v H3 => ∃ (key : Key) (v' : V), [(y, v)] = [(kV key, v')] ∧ H3 q = some (.dK []) ∧ H3 p = some (.dK more) ∧ Q (.ref p) (upd (upd H3 q (.dK [(key, v')])) p (.dK (putK more key v')))
theorem pe_dispS {X : Cx} {pos : Pos} {e k v : Expr} {te tk tv : TE} (he : PE X e te) (hk : PE X k tk) (hv : PE X v tv)
    (hsh : (evalEachOpt [none, some k] X.env).zip ((evalEach [e, v] X.env).map fun t => do let x ← t; standAt pos; pure x) = [(none, do let x ← eval e X.env; standAt pos; pure x), (some (eval k X.env), do let x ← eval v X.env; standAt pos; pure x)] := by rfl) :
    PE X (.Dict [none, some k] [e, v] pos) (tDispS te tk tv) := by
  refine ⟨fun pins s σ H Q I q => ?_⟩
  rw [arm_eval_Dict, hsh, dictDisplay_star1]
  refine wpAny_bind (wpAny_standAt (wpAny_bind (wpAny_alloc ?_)))
  have hn := I.hok.fresh (Nat.le_refl s.heap.objs.size)
  have I1 := I.laid (a := s.heap.objs.size) (o := .dK []) (h' := s.heap.push { cls := .type "dict", data := .dict #[] }) (t' := s.toks) (fun _ _ q => Heap.get?_push_of_some _ q) (Nat.le_refl _) (dk_empty s.heap I.big)
  refine wpAny_bind (wpAny_holding (wpAny_bind (thn (he.run pins _ σ _ _ I1 (q _ hn)) fun u s2 ⟨m, H1, I2, rm, e1, a, more, em, ap, ea, z, q2⟩ => wpAny_bind (wpAny_standAt (wpAny_pure ?_)))))
  subst em
  obtain rfl : u = Value.ref a := rm
  generalize s.heap.objs.size = p at e1 ap q2 ⊢
  refine wpAny_bind (wpAny_onRaise (wpAny_tryCatch (wpAny_onRaise (wpAny_holding ?_))))
  obtain ⟨z0, hd, vs0, r0, dd⟩ := dk_of I2.hok e1
  cases r0
  obtain ⟨z1, ha, vs1, r1, da⟩ := dk_of I2.hok ea
  have l1 : vs1.length = more.length := r1.length.symm
  refine wpAny_mergeMapping (knd := mixKind X.prog X.w) (Ne.symm ap) ha dd da (fun h' hd' ha' hs => ?_) (by rw [List.length_nil]; omega)
  have nd1 : (vs1.map (·.1)).Nodup := by
    obtain ⟨o, es, ep, ho, hc, hdat, hk, hp, hn⟩ := id da
    exact hn
  rw [merged_nil_of_nodup _ nd1] at hd'
  have he' : ∃ q, h'.get? p = some q := let ⟨q, _, _, hq, _⟩ := hd'; ⟨q, hq⟩
  have I3 : Inv X pins σ (upd H1 p (.dK more)) { s2 with heap := h' } := d_write (t' := s2.toks) I2 (by rw [e1]; exact True.intro) hs he' (dk_new z1 hd r1 hd')
  generalize hs3 : ({ s2 with heap := h' } : Shared) = s3 at I3 ⊢
  have hd3 : s3.heap.DictOf (mixKind X.prog X.w) p vs1 := by rw [← hs3]; exact hd'
  have hn3 := I3.hok.fresh (Nat.le_refl s3.heap.objs.size)
  have qp : s3.heap.objs.size ≠ p := fun e => by
    rw [e, upd_same] at hn3
    cases hn3
  have hn1 : H1 s3.heap.objs.size = none := by
    rw [upd_ne qp] at hn3
    exact hn3
  refine wpAny_bind (wpAny_holding (wpAny_subDict (knd := mixKind X.prog X.w) (by show 1 ≤ 15; decide) ?_))
  have I4 := I3.laid (a := s3.heap.objs.size) (o := .dK []) (h' := s3.heap.push { cls := .type "dict", data := .dict #[] }) (t' := s3.toks) (fun _ _ q => Heap.get?_push_of_some _ q) (Nat.le_refl _) (dk_empty s3.heap I3.big)
  refine thn ((pps_cons hk hv pps_nil).run pins _ σ _ (fun ps H3 => ∃ (key : Key) (v : V), ps = [(kV key, v)] ∧ H3 s3.heap.objs.size = some (.dK []) ∧ H3 p = some (.dK more) ∧ Q (.ref p) (upd (upd H3 s3.heap.objs.size (.dK [(key, v)])) p (.dK (putK more key v)))) I4 ?_) ?_
  · exact q2 _ hn1 qp
  · rintro ws s5 ⟨ps, H5, I5, rel, key, v, eps, hq5, hp5, fin⟩
    subst eps
    obtain ⟨rs, c, rk⟩ := carries_of (P := X.prog) (w := X.w) (kvs := [(key, v)]) rel
    obtain ⟨zq, hdq, vq, rq, dq⟩ := dk_of I5.hok hq5
    cases rq
    refine ⟨rs, c, dq, fun h' dd' hs' => ?_⟩
    have z2 : (mergeK [] [(key, v)]).length ≤ sizeLine := by
      rw [sizeLine_eq]
      show 1 ≤ _
      decide
    have heq : ∃ q, h'.get? s3.heap.objs.size = some q := let ⟨q, _, _, hq, _⟩ := dd'; ⟨q, hq⟩
    have I6 : Inv X pins σ (upd H5 s3.heap.objs.size (.dK [(key, v)])) { s5 with heap := h', toks := s5.toks + ws.length } := d_write I5 (by rw [hq5]; exact True.intro) hs' heq (dk_new z2 hdq (rk.merge .nil) dd')
    refine wpAny_bind (wpAny_onRaise (wpAny_holding ?_))
    have hp6 : (upd H5 s3.heap.objs.size (.dK [(key, v)])) p = some (.dK more) := by
      rw [upd_ne (Ne.symm qp)]
      exact hp5
    obtain ⟨z6, hd6, vs6, r6, dd6⟩ := dk_of I6.hok hp6
    obtain ⟨z7, hd7, vs7, r7, dd7⟩ := dk_of I6.hok (upd_same (H := H5) (a := s3.heap.objs.size) (o := .dK [(key, v)]))
    have l6 : vs6.length = more.length := r6.length.symm
    have l7 : vs7.length = 1 := r7.length.symm
    refine wpAny_mergeMapping (knd := mixKind X.prog X.w) (Ne.symm qp) hd7 dd6 dd7 (fun h'' hd'' hq'' hs'' => ?_) (by omega)
    have he'' : ∃ q, h''.get? p = some q := let ⟨q, _, _, hq, _⟩ := hd''; ⟨q, hq⟩
    have zp : (putK more key v).length ≤ sizeLine := by
      have := length_putK more key v
      omega
    have I8 : Inv X pins σ (upd (upd H5 s3.heap.objs.size (.dK [(key, v)])) p (.dK (putK more key v))) _ := d_write (t' := s5.toks + ws.length) I6 (by rw [hp6]; exact True.intro) hs'' he'' (dk_new zp hd6 (show KV (mergeK more [(key, v)]) (merged vs6 vs7) from r7.merge r6) hd'')
    exact wpAny_pure ⟨.ref p, _, I8, rfl, fin⟩
end Wnd

/-! Windowsteps: dict comprehensions over anything that is walked. -/
namespace Wnd
open PySem PySem.Spec PyProof.Rows L2
variable {J : It} {n : Nat} {G : Hp → Prop} {Y : Nat → Hp → V → Hp → Prop}
theorem dc_it (w : Walk J n G Y) {g : TG} {tt : TT} {tk tv : TE} {vs : List Nat} {σ : L2.St} {H1 : Hp} {D : Addr} {Qd : Hp → Prop} (Pv : Nat → Hp → Prop) (h0 : Pv 0 (upd H1 D (.dK []))) (hG : ∀ i H, i ≤ n → Pv i H → G H)
    (hs : ∀ i x H H', i < n → Pv i H → Y i H x H' → g x (wipe σ vs) H' fun σ2 H2 => wipe σ2 vs = wipe σ vs ∧ tt σ2 H2 fun b H3 =>
      if b = true then tk σ2 H3 fun y H4 => tv σ2 H4 fun z H5 => ∃ kvs k, y = kV k ∧ H5 D = some (.dK kvs) ∧ kvs.length < sizeLine ∧ Pv (i + 1) (upd H5 D (.dK (putK kvs k z))) else Pv (i + 1) H3) (hd : ∀ H, Pv n H → Qd H) :
    ∃ W : Nat → Nat → Hp → Prop, (∃ m, W 0 m (upd H1 D (.dK []))) ∧ ∀ i m H, W i m H →
      (J.stop i H ∧ Qd H) ∨ (J.go i H ∧ ∃ Nx : Hp → Prop, (∀ H', Nx H' → ∃ m', m' < m ∧ W (i + 1) m' H') ∧ ∀ x H', J.yld i H x H' → g x (wipe σ vs) H' fun σ2 H2 => wipe σ2 vs = wipe σ vs ∧ tt σ2 H2 fun b H3 =>
        if b = true then tk σ2 H3 fun y H4 => tv σ2 H4 fun z H5 => ∃ kvs k, y = kV k ∧ H5 D = some (.dK kvs) ∧ kvs.length < sizeLine ∧ Nx (upd H5 D (.dK (putK kvs k z))) else Nx H3) := by
  refine ⟨fun i m H => m = n - i ∧ i ≤ n ∧ Pv i H, ⟨n, by simp, Nat.zero_le _, h0⟩, ?_⟩
  rintro i m H ⟨rfl, hi, p⟩
  have q := hG i H hi p
  by_cases hlt : i < n
  · refine .inr ⟨w.goes i H hlt q, Pv (i + 1), fun H' p' => ⟨n - (i + 1), by omega, rfl, hlt, p'⟩, fun x H' y => hs i x H H' hlt p (w.yields i H x H' hlt q y)⟩
  · have e : i = n := by omega
    subst e
    exact .inl ⟨w.stops H q, hd H p⟩
/-! in a block: the class's frame said -/
def rDictPK (K : PySem.W.Frag) : List V → Hp → VK → Prop := fun xs H Q => ∃ (a : Addr) (ps : List Addr) (kvs : List (Key × V)), xs = [.ref a] ∧ SqL K H a (ps.map V.ref) ∧ Paired (fun p kv => SqT K H p [kV kv.1, kv.2]) ps kvs ∧ ∀ p, H p = none → Q (.ref p) (upd H p (.dK (mergeK [] kvs)))
theorem call_dictPK {X : Cx} (K : PySem.W.Frag) (hcalm : X.calm = true) (h : X.K = K := by rfl) : CallR X (.type "dict") (rDictPK K) := by
  subst h
  exact call_dictP hcalm
theorem pe_revLK {X : Cx} {e : Expr} {te : TE} {k : Nat} {p1 p2 p3 pos : Pos} (K : PySem.W.Frag) (he : PE X e te) (h : X.K = K := by rfl) : PE X (.Subscript e (.Slice none none (some (.UnaryOp .USub (.Constant (.int 1) k p1) p2)) p3) pos) (tRevL K te) := by
  subst h
  exact pe_revL he
end Wnd

/-! the class Prices -/
namespace Wnd
open PySem PySem.Spec PyProof.Rows L2
abbrev s_Prices___init : Stmt := inClass (top 47) 0
theorem sc_Prices___init : FnScope ["self", "raising", "lowering"] ["self", "raising", "lowering"] (defScope s_Prices___init) := ⟨rfl, rfl, rfl, by decide +kernel, rfl, by decide +kernel, by decide +kernel⟩
abbrev s_Prices_raising : Stmt := inClass (top 47) 1
theorem sc_Prices_raising : FnScope ["self"] ["self"] (defScope s_Prices_raising) := ⟨rfl, rfl, rfl, by decide +kernel, rfl, by decide +kernel, by decide +kernel⟩
abbrev s_Prices_lowering : Stmt := inClass (top 47) 2
theorem sc_Prices_lowering : FnScope ["self"] ["self"] (defScope s_Prices_lowering) := ⟨rfl, rfl, rfl, by decide +kernel, rfl, by decide +kernel, by decide +kernel⟩
abbrev s_Prices_single : Stmt := inClass (top 47) 3
theorem sc_Prices_single : FnScope ["self"] ["self"] (defScope s_Prices_single) := ⟨rfl, rfl, rfl, by decide +kernel, rfl, by decide +kernel, by decide +kernel⟩
abbrev s_Prices_with_price : Stmt := inClass (top 47) 4
theorem sc_Prices_with_price : FnScope ["self", "name", "price", "single", "prices", "other"] ["self", "name", "price"] (defScope s_Prices_with_price) := ⟨rfl, rfl, rfl, by decide +kernel, rfl, by decide +kernel, by decide +kernel⟩
abbrev s_is_price : Stmt := top 49
theorem sc_is_price : FnScope ["thing"] ["thing"] (defScope s_is_price) := ⟨rfl, rfl, rfl, by decide +kernel, rfl, by decide +kernel, by decide +kernel⟩
/-! keyword-only parameters, bound -/
section
variable {K : PySem.W.Frag} {f : Addr} {fd : FuncData}
abbrev kwPr : List (Str × V) := [("raising", .int 1), ("lowering", .int 1)]
abbrev PrInit (K : PySem.W.Frag) (f : Addr) (fd : FuncData) : Prop := FunD K "__init__" "Prices.__init__" (defArgs s_Prices___init) (defBody s_Prices___init) (defScope s_Prices___init) [] kwPr f fd
theorem pr_k0 (F : PrInit K f fd) : ∃ mv : List Value, KBn K fd ["self", "raising", "lowering"] 1 [] (fun us ws => us ++ mv) (fun vs zs => vs ++ [.int 1, .int 1]) :=
  F.kbinds0 (ps := ["self", "raising", "lowering"]) 1 [] kwPr (fun us mv ws => us ++ mv) (fun z => nomatch z) (fun q h => h) (fun r1 r2 r3 => r1.append r2) fun D doc pm an cdv ct us mv ws l1 l2 l3 =>
    match us, mv, ws, l1, l2, l3 with
    | [a], [b, c], [], _, _, _ => ⟨_, _, _, _, _, _, rfl, rfl, _, _, _, _, _, _, rfl, rfl, rfl⟩
theorem pr_kR (F : PrInit K f fd) : ∃ mv : List Value, KBn K fd ["self", "raising", "lowering"] 1 ["raising"] (fun us ws => us ++ (ws ++ mv)) (fun vs zs => vs ++ (zs ++ [.int 1])) :=
  F.kbinds0 (ps := ["self", "raising", "lowering"]) 1 ["raising"] [("lowering", .int 1)] (fun us mv ws => us ++ (ws ++ mv)) (fun z => nomatch z) (fun q h => .tail _ h) (fun r1 r2 r3 => r1.append (r3.append r2)) fun D doc pm an cdv ct us mv ws l1 l2 l3 =>
    match us, mv, ws, l1, l2, l3 with
    | [a], [b], [c], _, _, _ => ⟨_, _, _, _, _, _, rfl, rfl, rfl⟩
theorem pr_kL (F : PrInit K f fd) : ∃ mv : List Value, KBn K fd ["self", "raising", "lowering"] 1 ["lowering"] (fun us ws => us ++ (mv ++ ws)) (fun vs zs => vs ++ ([.int 1] ++ zs)) :=
  F.kbinds0 (ps := ["self", "raising", "lowering"]) 1 ["lowering"] [("raising", .int 1)] (fun us mv ws => us ++ (mv ++ ws)) (fun z => nomatch z) (fun q h => by rw [List.mem_singleton.mp h]; exact List.mem_cons_self) (fun r1 r2 r3 => r1.append (r2.append r3)) fun D doc pm an cdv ct us mv ws l1 l2 l3 =>
    match us, mv, ws, l1, l2, l3 with
    | [a], [b], [c], _, _, _ => ⟨_, _, _, _, _, _, rfl, rfl, rfl⟩
theorem pr_kRL (F : PrInit K f fd) : ∃ mv : List Value, KBn K fd ["self", "raising", "lowering"] 1 ["raising", "lowering"] (fun us ws => us ++ ws) (fun vs zs => vs ++ zs) :=
  F.kbinds0 (ps := ["self", "raising", "lowering"]) 1 ["raising", "lowering"] [] (fun us mv ws => us ++ ws) (fun z => nomatch z) (fun q h => nomatch h) (fun r1 r2 r3 => r1.append r3) fun D doc pm an cdv ct us mv ws l1 l2 l3 =>
    match us, mv, ws, l1, l2, l3 with
    | [a], [], [b, c], _, _, _ => rfl
theorem pr_kLR (F : PrInit K f fd) : ∃ mv : List Value, KBn K fd ["self", "raising", "lowering"] 1 ["lowering", "raising"] (fun us ws => us ++ (ws.drop 1 ++ ws.take 1)) (fun vs zs => vs ++ (zs.drop 1 ++ zs.take 1)) :=
  F.kbinds0 (ps := ["self", "raising", "lowering"]) 1 ["lowering", "raising"] [] (fun us mv ws => us ++ (ws.drop 1 ++ ws.take 1)) (fun z => nomatch z) (fun q h => nomatch h) (fun r1 r2 r3 => r1.append ((r3.drop 1).append (r3.take 1))) fun D doc pm an cdv ct us mv ws l1 l2 l3 =>
    match us, mv, ws, l1, l2, l3 with
    | [a], [], [b, c], _, _, _ => rfl
end
section
variable {P : Program} {w : World} {K : PySem.W.Frag} {mg : Str → Option Value} {base : Heap}
def prF (r l : Int) (ls : Addr) : List (Str × V) := putF "_single" (.ref ls) (putF "_lowering" (.int l) (putF "_raising" (.int r) []))
theorem prF_single (r l : Int) (ls : Addr) : (prF r l ls).lookup ("_single" : Str) = some (.ref ls) := by
  unfold prF
  rw [lookup_putF, if_pos rfl]
theorem prF_low (r l : Int) (ls : Addr) : (prF r l ls).lookup ("_lowering" : Str) = some (.int l) := by
  unfold prF
  rw [lookup_putF, if_neg (by decide +kernel), lookup_putF, if_pos rfl]
theorem prF_rais (r l : Int) (ls : Addr) : (prF r l ls).lookup ("_raising" : Str) = some (.int r) := by
  unfold prF
  rw [lookup_putF, if_neg (by decide +kernel), lookup_putF, if_neg (by decide +kernel), lookup_putF, if_pos rfl]
theorem prF_put (r l : Int) (ls ls' : Addr) : putF ("_single" : Str) (.ref ls') (prF r l ls) = prF r l ls' := rfl
theorem prF_no {r l : Int} {ls : Addr} {m : Str} (h1 : ¬ m = "_single") (h2 : ¬ m = "_lowering") (h3 : ¬ m = "_raising") : (prF r l ls).lookup m = none := by
  unfold prF
  rw [lookup_putF, if_neg h1, lookup_putF, if_neg h2, lookup_putF, if_neg h3]
  rfl
def Pr9 (i : Int) : Prop := 1 ≤ i ∧ i ≤ 999
/-- own prices that may stand in an object Prices -/
structure OwnOk (g : Own) : Prop where
  nodup : (g.map (·.1)).Nodup
  names : ∀ x ∈ g, nameB x.1 = true
  vals : ∀ x ∈ g, ∀ i, x.2 = some i → Pr9 i
theorem ownOk_nil : OwnOk [] := ⟨List.nodup_nil, (fun _ h => nomatch h), fun _ h => nomatch h⟩
theorem OwnOk.put {g : Own} (h : OwnOk g) {t : Str} {o : Option Int} (ht : nameB t = true) (ho : ∀ i, o = some i → Pr9 i) : OwnOk (putO g t o) := by
  refine ⟨put_nodup h.nodup, fun x hx => ?_, fun x hx i e => ?_⟩
  · rcases mem_put hx with hx | rfl
    · exact h.names x hx
    · exact ht
  · rcases mem_put hx with hx | rfl
    · exact h.vals x hx i e
    · exact ho i e
theorem OwnOk.sort {g : Own} (h : OwnOk g) : OwnOk (sortO g) := ⟨sortO_nodup h.nodup, fun x hx => h.names x (mem_sort hx), fun x hx => h.vals x (mem_sort hx)⟩
/-- prices r, l, g stand at x -/
structure PrV (r l : Int) (g : Own) : Prop where
  r : Pr9 r
  l : Pr9 l
  own : OwnOk g
  len : g.length ≤ 60
def PrcAt (C : Addr) (H : Hp) (x : Addr) (r l : Int) (g : Own) : Prop := ∃ dx ls, H x = some (.ins C dx (prF r l ls)) ∧ H ls = some (.dK (ownKV g)) ∧ PrV r l g
/-- .. and they were laid after H -/
def PrNew (C : Addr) (H H' : Hp) (x : Addr) (r l : Int) (g : Own) : Prop := ∃ dx ls, H' x = some (.ins C dx (prF r l ls)) ∧ H' ls = some (.dK (ownKV g)) ∧ PrV r l g ∧ H x = none ∧ H ls = none
theorem PrNew.at_ {C : Addr} {H H' : Hp} {x : Addr} {r l : Int} {g : Own} (h : PrNew C H H' x r l g) : PrcAt C H' x r l g := by
  obtain ⟨dx, ls, h1, h2, h3, _⟩ := h
  exact ⟨dx, ls, h1, h2, h3⟩
theorem PrcAt.same {C : Addr} {H H' : Hp} {x : Addr} {r l : Int} {g : Own} (h : PrcAt C H x r l g) (s : Same H H') : PrcAt C H' x r l g := by
  obtain ⟨dx, ls, h1, h2, h3⟩ := h
  exact ⟨dx, ls, s _ _ h1, s _ _ h2, h3⟩
theorem PrNew.from_ {C : Addr} {H0 H H' : Hp} {x : Addr} {r l : Int} {g : Own} (h : PrNew C H H' x r l g) (s : Same H0 H) : PrNew C H0 H' x r l g := by
  obtain ⟨dx, ls, h1, h2, h3, h4, h5⟩ := h
  exact ⟨dx, ls, h1, h2, h3, s.free h4, s.free h5⟩
theorem PrNew.same {C : Addr} {H H' H2 : Hp} {x : Addr} {r l : Int} {g : Own} (h : PrNew C H H' x r l g) (s : Same H' H2) : PrNew C H H2 x r l g := by
  obtain ⟨dx, ls, h1, h2, h3, h4, h5⟩ := h
  exact ⟨dx, ls, s _ _ h1, s _ _ h2, h3, h4, h5⟩
theorem PrcAt.v {C : Addr} {H : Hp} {x : Addr} {r l : Int} {g : Own} (h : PrcAt C H x r l g) : PrV r l g := by
  obtain ⟨dx, ls, h1, h2, h3⟩ := h
  exact h3
theorem PrcAt.ins {C : Addr} {H : Hp} {x : Addr} {r l : Int} {g : Own} (h : PrcAt C H x r l g) : ∃ dx fs, H x = some (.ins C dx fs) := by
  obtain ⟨dx, ls, h1, h2, h3⟩ := h
  exact ⟨dx, _, h1⟩
structure PrC (K : PySem.W.Frag) (mg : Str → Option Value) (C : Addr) : Prop where
  cl : Cls K C
  nR : NoAttr K C "_raising"
  nL : NoAttr K C "_lowering"
  nS : NoAttr K C "_single"
  mgC : mg "Prices" = some (.ref C)
def spIsPrice (K : PySem.W.Frag) : Sp := fun vs H Q _ => ∃ (x : V) (b : Bool), vs = [x] ∧ InQ K H x 1 999 b ∧ Q (.bl b) H
theorem ok_is_price {f : Addr} {fd : FuncData} (D : DefAt K mg "_is_price" s_is_price ["thing"] f fd) (C_GREATEST_PRICE : ∃ t, mg "GREATEST_PRICE" = some (.int 999 t)) (O_is_integer_within : Ok P w K mg base 2 "is_integer_within" ["thing", "least", "greatest"] (spIsIn K)) : Ok P w K mg base 3 "_is_price" ["thing"] (spIsPrice K) := by
  obtain ⟨gt, C_GREATEST_PRICE⟩ := C_GREATEST_PRICE
  refine D.ok (D.fn.ok sc_is_price (fun vs H Q E h => ?_) (fun cdv A outer s H vs Q E hr h => ?_))
  · obtain ⟨i, b, rfl, _⟩ := h
    rfl
  · obtain ⟨x, b, rfl, hx, q⟩ := h
    refine ⟨_, (pss_one (ps_ret (pe_own O_is_integer_within (hr.mono (by decide)) (pa_cons (pv 0) (pa_cons pe_int (pa_cons (pe_glob (v := .int 999) rfl C_GREATEST_PRICE ⟨_, rfl⟩) pa_nil)))))), ?_⟩
    exact ⟨_, rfl, x, 1, 999, _, rfl, hx, q⟩
theorem inq_price {H : Hp} {i : Int} (h : Pr9 i) : InQ K H (.int i) 1 999 true := .inl ⟨i, rfl, by rw [decide_eq_true h.1, decide_eq_true h.2]; rfl⟩
def spPrInit (C : Addr) : Sp := fun vs H Q _ => ∃ (x dx : Addr) (r l : Int), vs = [.ref x, .int r, .int l] ∧ H x = some (.ins C dx []) ∧ Pr9 r ∧ Pr9 l ∧ ∀ ls H', But x H H' → H ls = none → H' x = some (.ins C dx (prF r l ls)) → H' ls = some (.dK []) → Q .non H'
theorem ok_prInit {C f : Addr} {fd : FuncData} (F : PrInit K f fd) (T : PrC K mg C) (O_is_price : Ok P w K mg base 3 "_is_price" ["thing"] (spIsPrice K)) : FnOk P w K mg base CX0 4 f fd ["self", "raising", "lowering"] (spPrInit C) := by
  refine F.ok sc_Prices___init (fun vs H Q E h => ?_) (fun cdv A outer s H vs Q E hr h => ?_)
  · obtain ⟨x, dx, r, l, rfl, _⟩ := h
    rfl
  · obtain ⟨x, dx, r, l, rfl, hx, hr9, hl9, q⟩ := h
    have nd := sc_Prices___init.nd
    refine ⟨_, (pss_cons (ps_if (PW.pt (pw_or (pt_not (pt_val (pe_own O_is_price (hr.mono (by decide)) (pa_cons (pv 1) pa_nil)))) (pw_or1 (pt_not (pt_val (pe_own O_is_price (hr.mono (by decide)) (pa_cons (pv 2) pa_nil))))))) (pss_one ps_never) pss_nil)
      (pss_cons (ps_fld (pv 0) (pv 1) rfl)
      (pss_cons (ps_fld (pv 0) (pv 2) rfl)
      (pss_one (ps_fld (pv 0) pe_dnewK rfl))))), ?_⟩
    refine ⟨_, rfl, _, true, rfl, inq_price hr9, _, rfl, ?_⟩
    refine iteF ⟨_, rfl, _, true, rfl, inq_price hl9, _, rfl, ?_⟩
    refine ⟨_, rfl, _, rfl, x, C, dx, [], rfl, hx, T.cl, T.nR, by show 0 < 1000; decide, ?_⟩
    have hx1 : (upd H x (.ins C dx (putF (Str.ofString "_raising") (.int r) []))) x = some (.ins C dx (putF (Str.ofString "_raising") (.int r) [])) := upd_same
    have b1 : But x H (upd H x (.ins C dx (putF (Str.ofString "_raising") (.int r) []))) := But.upd
    generalize upd H x (.ins C dx (putF (Str.ofString "_raising") (.int r) [])) = H1 at hx1 b1 ⊢
    refine ⟨_, rfl, _, rfl, x, C, dx, _, rfl, hx1, T.cl, T.nL, by show 1 < 1000; decide, ?_⟩
    have b2 : But x H (upd H1 x (.ins C dx (putF (Str.ofString "_lowering") (.int l) (putF (Str.ofString "_raising") (.int r) [])))) := b1.trans But.upd
    have hx2 : (upd H1 x (.ins C dx (putF (Str.ofString "_lowering") (.int l) (putF (Str.ofString "_raising") (.int r) [])))) x = some (.ins C dx (putF (Str.ofString "_lowering") (.int l) (putF (Str.ofString "_raising") (.int r) []))) := upd_same
    generalize upd H1 x (.ins C dx (putF (Str.ofString "_lowering") (.int l) (putF (Str.ofString "_raising") (.int r) []))) = H2 at hx2 b2 ⊢
    refine fun ls nls => ?_
    have lx : ls ≠ x := (ne_of_none hx2 nls).symm
    refine ⟨_, rfl, x, C, dx, _, rfl, same_new nls _ _ hx2, T.cl, T.nS, by show 2 < 1000; decide, ?_⟩
    refine q ls _ ((b2.trans (But.new nls)).trans But.upd) (b2.free lx nls) upd_same ?_
    rw [upd_ne lx, upd_same]
def spPrR (C : Addr) : Sp := fun vs H Q _ => ∃ (x : Addr) (r l : Int) (g : Own), vs = [.ref x] ∧ PrcAt C H x r l g ∧ Q (.int r) H
def spPrL (C : Addr) : Sp := fun vs H Q _ => ∃ (x : Addr) (r l : Int) (g : Own), vs = [.ref x] ∧ PrcAt C H x r l g ∧ Q (.int l) H
def spPrS (C : Addr) : Sp := fun vs H Q _ => ∃ (x : Addr) (r l : Int) (g : Own), vs = [.ref x] ∧ PrcAt C H x r l g ∧ ∀ d, H d = none → Q (.ref d) (upd H d (.dK (ownKV g)))
theorem ok_prR {C : Addr} {qn : Str} {f : Addr} {fd : FuncData} (F : Fun K "raising" qn s_Prices_raising f fd) (T : PrC K mg C) : FnOk P w K mg base CX0 1 f fd ["self"] (spPrR C) := by
  refine F.ok sc_Prices_raising (fun vs H Q E h => ?_) (fun cdv A outer s H vs Q E hr h => ?_)
  · obtain ⟨x, r, l, g, rfl, _⟩ := h
    rfl
  · obtain ⟨x, r, l, g, rfl, ⟨dx, ls, h1, h2, h3⟩, q⟩ := h
    refine ⟨_, (pss_one (ps_ret (pe_fld (pv 0) rfl))), ?_⟩
    exact ⟨_, rfl, x, C, dx, _, _, rfl, h1, T.cl, T.nR, prF_rais _ _ _, q⟩
theorem ok_prL {C : Addr} {qn : Str} {f : Addr} {fd : FuncData} (F : Fun K "lowering" qn s_Prices_lowering f fd) (T : PrC K mg C) : FnOk P w K mg base CX0 1 f fd ["self"] (spPrL C) := by
  refine F.ok sc_Prices_lowering (fun vs H Q E h => ?_) (fun cdv A outer s H vs Q E hr h => ?_)
  · obtain ⟨x, r, l, g, rfl, _⟩ := h
    rfl
  · obtain ⟨x, r, l, g, rfl, ⟨dx, ls, h1, h2, h3⟩, q⟩ := h
    refine ⟨_, (pss_one (ps_ret (pe_fld (pv 0) rfl))), ?_⟩
    exact ⟨_, rfl, x, C, dx, _, _, rfl, h1, T.cl, T.nL, prF_low _ _ _, q⟩
theorem ok_prS {C : Addr} {qn : Str} {f : Addr} {fd : FuncData} (F : Fun K "single" qn s_Prices_single f fd) (T : PrC K mg C) (Bd : mg "dict" = none) : FnOk P w K mg base CX0 1 f fd ["self"] (spPrS C) := by
  refine F.ok sc_Prices_single (fun vs H Q E h => ?_) (fun cdv A outer s H vs Q E hr h => ?_)
  · obtain ⟨x, r, l, g, rfl, _⟩ := h
    rfl
  · obtain ⟨x, r, l, g, rfl, ⟨dx, ls, h1, h2, h3⟩, q⟩ := h
    refine ⟨_, (pss_one (ps_ret (pe_callTy call_dictD (by rfl) Bd (by decide +kernel) (pa_cons (pe_fld (pv 0) rfl) pa_nil)))), ?_⟩
    exact ⟨_, rfl, x, C, dx, _, _, rfl, h1, T.cl, T.nS, prF_single _ _ _, ls, _, rfl, Rd.of h2, q⟩
/-! Prices made -/
structure OkPr (P : Program) (w : World) (K : PySem.W.Frag) (mg : Str → Option Value) (base : Heap) (C : Addr) (k : Nat) : Prop where
  ex : ∃ (f : Addr) (fd : FuncData), Mk K C f ∧ PrInit K f fd ∧ FnOk P w K mg base CX0 k f fd ["self", "raising", "lowering"] (spPrInit C)
  at_ : mg "Prices" = some (.ref C)
end
section
variable {P : Program} {w : World} {K : PySem.W.Frag} {mg : Str → Option Value} {base : Heap}
theorem mkpr {C : Addr} {H : Hp} {Q : VK} {r l : Int} (hr : Pr9 r) (hl : Pr9 l) (h : ∀ x H', Same H H' → PrNew C H H' x r l [] → Q (.ref x) H') : ∀ x dx, H x = none → H dx = none → dx ≠ x →
    spPrInit C [.ref x, .int r, .int l] (upd (upd H dx (.own x)) x (.ins C dx [])) (fun v H2 => v = .non ∧ Q (.ref x) H2) E0 := by
  intro x dx nx ndx ne
  refine ⟨x, dx, r, l, rfl, upd_same, hr, hl, fun ls H' b nls h1 h2 => ⟨rfl, ?_⟩⟩
  have lx : ls ≠ x := fun e => by
    rw [e, upd_same] at nls
    cases nls
  have nls0 : H ls = none := by
    rw [upd_ne lx] at nls
    by_cases ed : ls = dx
    · rw [ed]; exact ndx
    · rw [upd_ne ed] at nls; exact nls
  refine h x H' (fun b' o hb => b _ _ ?_ (ne_of_none hb nx)) ⟨dx, ls, h1, h2, ⟨hr, hl, ownOk_nil, Nat.zero_le _⟩, nx, nls0⟩
  rw [upd_ne (ne_of_none hb nx), upd_ne (ne_of_none hb ndx)]
  exact hb
end
/-- Prices(..): the prices of raising and of lowering, then the object -/
def tMkPr (C : Addr) (n : Nat) (fv : List V → List V) (tk : TA) : TE := fun σ H Q => tk σ H fun zs H2 => zs.length = n ∧ ∃ r l : Int, fv zs = [.int r, .int l] ∧ Pr9 r ∧ Pr9 l ∧ ∀ x H', Same H2 H' → PrNew C H2 H' x r l [] → Q (.ref x) H'
section
variable {X : Cx} {C : Addr} {k : Nat} {p pos : Pos} {kws : List Keyword} {tk : TA}
theorem pe_prK {f : Addr} {fd : FuncData} {ks : List Str} {fv : List V → List V} {g : List Value → List Value → List Value} {gV : List V → List V → List V} (M : Mk X.K C f) (F : FnOk X.prog X.w X.K X.mg X.base CX0 k f fd ["self", "raising", "lowering"] (spPrInit C)) (hm : X.mg "Prices" = some (.ref C)) (hb : KBn X.K fd ["self", "raising", "lowering"] 1 ks g gV)
    (hgv : ∀ v zs, gV [v] zs = v :: fv zs) (hr : Room (k + 1) X.A) (hkw : PK X kws tk) (hall : (backToKw pos (keywordEach kws X.env)).all (·.1.isSome) = true) (hks : (backToKw pos (keywordEach kws X.env)).filterMap (·.1) = ks)
    (hpl : ((backTo pos (starEach [] X.env)).any (·.1) || (backToKw pos (keywordEach kws X.env)).any (·.1.isNone)) = false) (hg : Gl X "Prices") : PE X (.Call (.Name "Prices" p) [] kws pos) (tMkPr C ks.length fv tk) := by
  refine ⟨fun pins s σ H Q I h => ?_⟩
  refine wpAny_Call_Name_kw (ld_glob I hg hm ?_ (by decide))
  refine PySem.W.callWith_KW0 (h₀ := X.base) I.ok.mod.kin M.kp hall ?_ hpl
  refine thn (hkw.run pos pins s σ H _ I h) fun ws s2 ⟨zs, H2, I2, rz, l2, r, l, e, h1, h2, q2⟩ => ⟨I2.kIn, ?_⟩
  rw [hks]
  refine run_makeK (us := []) (vs := []) M F hr hb pass0 I2 .nil rz rfl l2 fun x dx nx ndx ne => ?_
  rw [hgv, e]
  exact mkpr h1 h2 q2 x dx nx ndx ne
theorem pe_pr0 (O : OkPr X.prog X.w X.K X.mg X.base C k) (hr : Room (k + 1) X.A) (hg : Gl X "Prices" := by rfl) : PE X (.Call (.Name "Prices" p) [] [] pos) (tMkPr C 0 (fun _ => [.int 1, .int 1]) tNil) := by
  obtain ⟨f, fd, M, I, F⟩ := O.ex
  obtain ⟨mv, hb⟩ := pr_k0 I
  exact pe_prK M F O.at_ hb (fun _ _ => rfl) hr pk_nil rfl rfl rfl hg
theorem pe_prR (O : OkPr X.prog X.w X.K X.mg X.base C k) (hr : Room (k + 1) X.A) (hkw : PK X kws tk) (hall : (backToKw pos (keywordEach kws X.env)).all (·.1.isSome) = true := by rfl) (hks : (backToKw pos (keywordEach kws X.env)).filterMap (·.1) = (["raising"] : List Str) := by rfl)
    (hpl : ((backTo pos (starEach [] X.env)).any (·.1) || (backToKw pos (keywordEach kws X.env)).any (·.1.isNone)) = false := by rfl) (hg : Gl X "Prices" := by rfl) : PE X (.Call (.Name "Prices" p) [] kws pos) (tMkPr C 1 (fun zs => zs ++ [.int 1]) tk) := by
  obtain ⟨f, fd, M, I, F⟩ := O.ex
  obtain ⟨mv, hb⟩ := pr_kR I
  exact pe_prK M F O.at_ hb (fun _ _ => rfl) hr hkw hall hks hpl hg
theorem pe_prL (O : OkPr X.prog X.w X.K X.mg X.base C k) (hr : Room (k + 1) X.A) (hkw : PK X kws tk) (hall : (backToKw pos (keywordEach kws X.env)).all (·.1.isSome) = true := by rfl) (hks : (backToKw pos (keywordEach kws X.env)).filterMap (·.1) = (["lowering"] : List Str) := by rfl)
    (hpl : ((backTo pos (starEach [] X.env)).any (·.1) || (backToKw pos (keywordEach kws X.env)).any (·.1.isNone)) = false := by rfl) (hg : Gl X "Prices" := by rfl) : PE X (.Call (.Name "Prices" p) [] kws pos) (tMkPr C 1 (fun zs => .int 1 :: zs) tk) := by
  obtain ⟨f, fd, M, I, F⟩ := O.ex
  obtain ⟨mv, hb⟩ := pr_kL I
  exact pe_prK M F O.at_ hb (fun _ _ => rfl) hr hkw hall hks hpl hg
theorem pe_prRL (O : OkPr X.prog X.w X.K X.mg X.base C k) (hr : Room (k + 1) X.A) (hkw : PK X kws tk) (hall : (backToKw pos (keywordEach kws X.env)).all (·.1.isSome) = true := by rfl) (hks : (backToKw pos (keywordEach kws X.env)).filterMap (·.1) = (["raising", "lowering"] : List Str) := by rfl)
    (hpl : ((backTo pos (starEach [] X.env)).any (·.1) || (backToKw pos (keywordEach kws X.env)).any (·.1.isNone)) = false := by rfl) (hg : Gl X "Prices" := by rfl) : PE X (.Call (.Name "Prices" p) [] kws pos) (tMkPr C 2 id tk) := by
  obtain ⟨f, fd, M, I, F⟩ := O.ex
  obtain ⟨mv, hb⟩ := pr_kRL I
  exact pe_prK M F O.at_ hb (fun _ _ => rfl) hr hkw hall hks hpl hg
theorem pe_prLR (O : OkPr X.prog X.w X.K X.mg X.base C k) (hr : Room (k + 1) X.A) (hkw : PK X kws tk) (hall : (backToKw pos (keywordEach kws X.env)).all (·.1.isSome) = true := by rfl) (hks : (backToKw pos (keywordEach kws X.env)).filterMap (·.1) = (["lowering", "raising"] : List Str) := by rfl)
    (hpl : ((backTo pos (starEach [] X.env)).any (·.1) || (backToKw pos (keywordEach kws X.env)).any (·.1.isNone)) = false := by rfl) (hg : Gl X "Prices" := by rfl) : PE X (.Call (.Name "Prices" p) [] kws pos) (tMkPr C 2 (fun zs => zs.drop 1 ++ zs.take 1) tk) := by
  obtain ⟨f, fd, M, I, F⟩ := O.ex
  obtain ⟨mv, hb⟩ := pr_kLR I
  exact pe_prK M F O.at_ hb (fun _ _ => rfl) hr hkw hall hks hpl hg
end
section
variable {P : Program} {w : World} {K : PySem.W.Frag} {mg : Str → Option Value} {base : Heap}
def spWithPr (C : Addr) : Sp := fun vs H Q _ => ∃ (x : Addr) (t : Str) (o : Option Int) (r l : Int) (g : Own), vs = [.ref x, .str t, optV o] ∧ PrcAt C H x r l g ∧ nameB t = true ∧ (∀ i, o = some i → Pr9 i) ∧ g.length ≤ 58 ∧
  ∀ y H', Same H H' → PrNew C H H' y r l (sortO (putO g t o)) → Q (.ref y) H'
theorem ok_withPr {C : Addr} {qn : Str} {f : Addr} {fd : FuncData} (F : Fun K "with_price" qn s_Prices_with_price f fd) (T : PrC K mg C) (B : Blt mg) (O_is_price : Ok P w K mg base 3 "_is_price" ["thing"] (spIsPrice K)) (O_is_name : Ok P w K mg base 1 "is_name" ["thing"] (spIsName K))
    (OM : OkPr P w K mg base C 4) : FnOk P w K mg base CX0 6 f fd ["self", "name", "price"] (spWithPr C) := by
  refine F.ok sc_Prices_with_price (fun vs H Q E h => ?_) (fun cdv A outer s H vs Q E hr h => ?_)
  · obtain ⟨x, t, o, r, l, g, rfl, _⟩ := h
    rfl
  · obtain ⟨x, t, o, r, l, g, rfl, hx, ht, ho, hz, q⟩ := h
    have nd := sc_Prices_with_price.nd
    have hu := hu_of hr
    have big : sizeLine > 100000 := by decide
    refine ⟨_, (pss_cons (ps_if (pt_not (pt_val (pe_own O_is_name (hr.mono (by decide)) (pa_cons (pv 1) pa_nil)))) (pss_one ps_never) pss_nil)
      (C8.pss_cut (ps_if (PW.pt (pw_and (pt_cmpR op_notN (pv 2) pe_non (nomark _)) (pw_and1 (pt_not (pt_val (pe_own O_is_price (hr.mono (by decide)) (pa_cons (pv 2) pa_nil))))))) (pss_one ps_never) pss_nil)
      (pss_cons (ps_set (i := 3) nd rfl (Or.inr rfl) (pe_dispS (pe_fld (pv 0) rfl) (pv 1) (pv 2)))
      (pss_cons (ps_set (i := 4) nd rfl (Or.inl rfl) (pe_prRL OM (hr.mono (by decide)) (pk_cons (pe_fld (pv 0) rfl) (pk_cons (pe_fld (pv 0) rfl) pk_nil))))
      (pss_cons (ps_fld (pv 4) (pe_dc (own := [("other", 5)]) (g := gName 5) (tt := tYes) rfl nd (pi_list (pe_callB (call_sortedD rfl) (by rfl) B.sorted (by decide +kernel) (pa_cons (pv 3) pa_nil))) (blkOk_by (own := [("other", 5)]) (N := ["self", "name", "price", "single", "prices", "other"]) (sc := defScope s_Prices_with_price) (by decide +kernel)) (fun _ _ _ _ _ => (pg_name (i := 5) nd rfl (Or.inl rfl))) (fun _ _ _ _ _ => pts_nil) (fun _ _ _ _ _ => (pv 5)) (fun _ _ _ _ _ => (pe_dget hu (pv 3) (pv 5) (fun _ _ => rfl)))) rfl)
      (pss_one (ps_ret (pv 4)))))))), ?_⟩
    obtain ⟨dx, ls, h1, h2, h3⟩ := hx
    refine ⟨_, rfl, .str t, true, rfl, .inl ⟨t, rfl, name_line ht, ht.symm⟩, fun H1 s1 => ⟨_, rfl, iteF ?_⟩⟩
    refine ⟨fun σ X => σ = [some (.ref x), some (.str t), some (optV o), none, none, none] ∧ X = H1, ?_, ?_⟩
    · refine ⟨_, rfl, rfl, _, rfl, ?_⟩
      cases o with
      | none => exact iteF ⟨rfl, rfl⟩
      | some i => exact iteT ⟨_, rfl, _, true, rfl, inq_price (ho i rfl), _, rfl, iteF ⟨rfl, rfl⟩⟩
    · rintro σ X ⟨rfl, eX⟩
      rw [← eX] at s1
      clear eX
      replace h1 := s1 _ _ h1
      replace h2 := s1 _ _ h2
      refine fun pd npd => ⟨_, rfl, x, C, dx, _, _, rfl, same_new npd _ _ h1, T.cl, T.nS, prF_single _ _ _, upd_same, ls, ownKV g, rfl, ne_of_none h2 npd, same_new npd _ _ h2, by unfold ownKV; rw [List.length_map]; omega, fun qd nqd nq => ?_⟩
      refine ⟨_, rfl, _, rfl, Sum.inr t, optV o, rfl, upd_same, by rw [upd_ne (Ne.symm nq), upd_same], ?_⟩
      rw [put_own]
      have nqd1 : X qd = none := by
        rw [upd_ne nq] at nqd
        exact nqd
      generalize hH2 : upd (upd (upd (upd (upd X pd (.dK [])) pd (.dK (ownKV g))) qd (.dK [])) qd (.dK [(Sum.inr t, optV o)])) pd (.dK (ownKV (putO g t o))) = H2
      have s2 : Same X H2 := fun b' o' hb => by
        rw [← hH2, upd_ne (ne_of_none hb npd), upd_ne (ne_of_none hb nqd1), upd_ne (ne_of_none hb nqd1), upd_ne (ne_of_none hb npd), upd_ne (ne_of_none hb npd)]
        exact hb
      have hpd : H2 pd = some (.dK (ownKV (putO g t o))) := by rw [← hH2, upd_same]
      clear hH2 nqd nqd1 nq npd
      refine ⟨_, rfl, x, C, dx, _, _, rfl, s2 _ _ h1, T.cl, T.nR, prF_rais _ _ _, _, rfl, x, C, dx, _, _, rfl, s2 _ _ h1, T.cl, T.nL, prF_low _ _ _, rfl, r, l, rfl, h3.r, h3.l, fun y H3 s3 hy => ?_⟩
      obtain ⟨dy, ly, y1, y2, y3, y4, y5⟩ := hy
      have hpd3 := s3 _ _ hpd
      have lk : ((putO g t o).map (·.1)).length ≤ 59 := by
        have := put_len (g := g) (t := t) (o := o)
        rw [List.length_map]
        omega
      refine ⟨_, rfl, pd, _, (putO g t o).map (·.1), rfl, Rd.of hpd3, own_keys _, by omega, fun ys lsx pys sys nl => ?_⟩
      have eys := sortN_of pys sys
      subst eys
      obtain ⟨ks, eks⟩ : ∃ ks, sortN ((putO g t o).map (·.1)) = ks := ⟨_, rfl⟩
      have lks : ks.length ≤ 59 := by
        rw [← eks, (sortN_perm _).length_eq]
        exact lk
      have nks : ks.Nodup := by
        rw [← eks]
        exact (sortN_perm _).nodup_iff.mpr (put_nodup h3.own.nodup)
      have eso : sortO (putO g t o) = ks.map fun s => (s, (valO (putO g t o) s).getD none) := by
        unfold sortO
        rw [eks]
      have mks : ∀ s ∈ ks, ∃ o', valO (putO g t o) s = some o' := fun s hs => by
        rw [← eks] at hs
        exact Option.isSome_iff_exists.mp (val_mem.mpr ((sortN_perm _).mem_iff.mp hs))
      rw [eks]
      have s4 := same_new (o := .lst (ks.map V.str)) nl
      have hl4 : (upd H3 lsx (.lst (ks.map V.str))) lsx = some (.lst (ks.map V.str)) := upd_same
      generalize upd H3 lsx (.lst (ks.map V.str)) = H4 at s4 hl4 ⊢
      refine ⟨lsx, rfl, ⟨_, SqL.of hl4⟩, fun D hD => ?_⟩
      refine dc_it (walk_list (xs := ks.map V.str)) (fun i Hc => Same H4 Hc ∧ Hc D = some (.dK (ownKV ((ks.take i).map fun s => (s, (valO (putO g t o) s).getD none))))) ⟨same_new hD, upd_same⟩ (fun i Hc _ h => SqL.of (h.1 _ _ hl4)) ?_ ?_
      · rintro i v Hc H' hi ⟨sc, hd⟩ ⟨rfl, hv⟩
        obtain ⟨s', hs', rfl⟩ := get_map hv
        have mt := List.mem_of_getElem? hs'
        have hi' : i < ks.length := by rwa [List.length_map] at hi
        obtain ⟨o', ho'⟩ := mks s' mt
        have dg : DGet H' pd (V.str s') (some (optV o')) := by
          have := DGet.k (k := Sum.inr s') (sc _ _ (s4 _ _ hpd3))
          rwa [val_own, ho'] at this
        refine ⟨rfl, _, rfl, _, rfl, _, rfl, pd, _, rfl, dg, ownKV ((ks.take i).map fun s => (s, (valO (putO g t o) s).getD none)), Sum.inr s', rfl, hd, ?_, ?_, ?_⟩
        · unfold ownKV
          rw [List.length_map, List.length_map, List.length_take]
          omega
        · intro b o hb
          rw [upd_ne (ne_of_none hb hD)]
          exact sc _ _ hb
        · have ne : s' ∉ ((ks.take i).map fun s => (s, (valO (putO g t o) s).getD none)).map (·.1) := by
            rw [List.map_map]
            intro m
            obtain ⟨z, hz, e⟩ := List.mem_map.mp m
            have e : z = s' := e
            subst e
            obtain ⟨j, hj, e⟩ := List.getElem_of_mem hz
            rw [List.length_take] at hj
            rw [List.getElem_take] at e
            rw [List.getElem?_eq_getElem hi'] at hs'
            have := (List.getElem_inj (h₀ := by omega) (h₁ := hi') nks).mp (e.trans (Option.some.inj hs').symm)
            omega
          rw [put_noneKV ne, upd_same]
          congr 3
          rw [List.take_add_one, hs', List.map_append]
          show _ ++ [(s', o')] = _ ++ [(s', (valO (putO g t o) s').getD none)]
          rw [ho']
          rfl
      · rintro Hc ⟨sc, hd⟩
        rw [List.length_map, List.take_length, ← eso] at hd
        have s34 := s4.trans sc
        refine ⟨_, rfl, y, C, dy, _, rfl, s34 _ _ y1, T.cl, T.nS, by show 3 < 1000; decide, ?_⟩
        have s24 := s2.trans s3
        have yH : H y = none := (s1.trans s2).free y4
        refine ⟨_, rfl, q y _ (fun b' o' hb => ?_) ⟨dy, D, upd_same, ?_, ⟨h3.r, h3.l, (h3.own.put ht ho).sort, ?_⟩, yH, ?_⟩⟩
        · rw [upd_ne (ne_of_none hb yH)]
          exact s34 _ _ (s24 _ _ (s1 _ _ hb))
        · rw [upd_ne (ne_of hd (s34 _ _ y1) fun z => nomatch z)]
          exact hd
        · rw [sortO_len]
          have := put_len (g := g) (t := t) (o := o)
          omega
        · exact ((s1.trans s24).trans s4).free hD
end
end Wnd

/-! Windowsteps: methods and defs with *rest, called. -/
namespace Wnd
open PySem PySem.Spec PyProof.Rows L2
section
variable {P : Program} {w : World} {K : PySem.W.Frag} {mg : Str → Option Value} {base : Heap}
/-- a method, called -/
structure OkM (P : Program) (w : World) (K : PySem.W.Frag) (mg : Str → Option Value) (base : Heap) (C : Addr) (k : Nat) (m : Str) (sp : Sp) : Prop where
  ex : ∃ (g : Addr) (fd : FuncData) (ps : List Str), Cls K C ∧ Meth K C m g ∧ Binds K fd ps [] ∧ FnOk P w K mg base CX0 k g fd ps sp
theorem pe_methM {X : Cx} {C : Addr} {k : Nat} {m : Str} {sp : Sp} {o e : Expr} {es : List Expr} {ta : TE} {t : TA} {apos pos : Pos} {pl : Sem Bool} (O : OkM X.prog X.w X.K X.mg X.base C k m sp) (hr : Room k X.A) (he : PE X o ta) (ha : PA X (e :: es) t)
    (hst : starEach (e :: es) X.env = (false, eval e X.env) :: starEach es X.env := by rfl) (hpl : (backTo pos (starEach es X.env)).any (·.1) = false := by rfl)
    (ht : eval (.Call (.Attribute o m apos) (e :: es) [] pos) X.env = (do
      let ov ← eval o X.env
      standAt apos.atName
      let (f, first) ← holding [ov] (getMethod ov m pl)
      callWith pos f first (backTo pos (starEach (e :: es) X.env)) (backToKw pos (keywordEach [] X.env))) := by rfl) :
    PE X (.Call (.Attribute o m apos) (e :: es) [] pos) (tMeth C m sp [] E0 ta t) := by
  obtain ⟨g, fd, ps, c, hm, hb, F⟩ := O.ex
  exact pe_meth he c hm F hr hb .nil pass0 ha hst hpl ht
/-- a def with *rest, called by its name -/
structure OkV (P : Program) (w : World) (K : PySem.W.Frag) (mg : Str → Option Value) (base : Heap) (k : Nat) (x : Str) (sp : Sp) : Prop where
  ex : ∃ f : Addr, mg x = some (.ref f) ∧ PySem.W.keepIn K (.ref f) = true ∧ FnR P w K mg base CX0 k f sp
theorem pe_ownV {X : Cx} {k : Nat} {x : Str} {sp : Sp} {p pos : Pos} {e : Expr} {es : List Expr} {t : TA} (O : OkV X.prog X.w X.K X.mg X.base k x sp) (hr : Room k X.A) (ha : PA X (e :: es) t) (hg : Gl X x := by rfl) (hdb : (x == ("__debug__" : Str)) = false := by decide)
    (he : starEach (e :: es) X.env = (false, eval e X.env) :: starEach es X.env := by rfl) (hpl : (backTo pos (starEach es X.env)).any (·.1) = false := by rfl) :
    PE X (.Call (.Name x p) (e :: es) [] pos) (fun σ H Q => t σ H fun vs H1 => sp vs H1 Q E0) := by
  obtain ⟨f, h1, h2, F⟩ := O.ex
  refine ⟨fun pins s σ H Q I h => ?_⟩
  refine wpAny_Call_Name_kw (ld_glob I hg h1 ?_ hdb)
  refine PySem.W.callWith_K (h₀ := X.base) I.ok.mod.kin h2 (thn (ha.run pos pins s σ H _ I h) ?_) he hpl
  rintro us s1 ⟨vs, H1, I1, r, q⟩
  exact ⟨I1.kIn, wpAny_call (codeAny_mono (run_fnR F hr pass0 I1 r q) fun r s' z => z)⟩
end
end Wnd

/-! what the head finds of the class Prices -/
namespace Wnd
open PySem PySem.Spec PyProof.Rows L2
structure PrRaw (K : PySem.W.Frag) (C : Addr) : Prop where
  at_ : PySem.W.nsIn K mainGlobals "Prices" = some (some (.ref C))
  pg : PySem.W.plainGet K C Str.empty = true
  hd : PySem.W.hasDictIn K C = true
  po : PySem.W.plainOver K C = true
  sa : PySem.W.findIn K (.ref C) "__setattr__" = some (some (.builtin "object.__setattr__"))
  nR : PySem.W.findIn K (.ref C) "_raising" = some none
  nL : PySem.W.findIn K (.ref C) "_lowering" = some none
  nS : PySem.W.findIn K (.ref C) "_single" = some none
  mks : PySem.W.makesIn K C = true
  kc : PySem.W.keepIn K (.ref C) = true
theorem PrRaw.f {K : PySem.W.Frag} {C : Addr} {mg : Str → Option Value} {h : Heap} (R : PrRaw K C) (X : K.In h) (G : h.Ns mainGlobals mg) : PrC K mg C := ⟨⟨R.pg, R.hd, R.po, R.sa⟩, R.nR, R.nL, R.nS, PySem.W.mg_of X G R.at_⟩
def InitRaw (K : PySem.W.Frag) (C : Addr) : Prop := ∃ (f D : Addr) (oc : Value) (od an : Option Addr) (dc pm cd ct : Value) (sl : Array (Option Value)) (t1 t2 : Tok), PySem.W.findIn K (.ref C) "__init__" = some (some (.ref f)) ∧ PySem.W.isFn K (.ref f) = true ∧
  K.lookup f = some ⟨oc, od, .func (PySem.W.fnOf "__init__" "Prices.__init__" (defArgs s_Prices___init) (defBody s_Prices___init) (defScope s_Prices___init) .none (.ref D) dc pm an cd ct), sl⟩ ∧ PySem.W.codeIn K cd "Prices.__init__" = true ∧ PySem.W.keepIn K (.ref f) = true ∧
  PySem.W.nsIn K D "raising" = some (some (.int 1 t1)) ∧ PySem.W.nsIn K D "lowering" = some (some (.int 1 t2))
theorem initRaw_mk {K : PySem.W.Frag} {C f D : Addr} {oc : Value} {od an : Option Addr} {dc pm cd ct : Value} {sl : Array (Option Value)} {t1 t2 : Tok} (a : PySem.W.findIn K (.ref C) "__init__" = some (some (.ref f))) (b : PySem.W.isFn K (.ref f) = true)
    (c : K.lookup f = some ⟨oc, od, .func (PySem.W.fnOf "__init__" "Prices.__init__" (defArgs s_Prices___init) (defBody s_Prices___init) (defScope s_Prices___init) .none (.ref D) dc pm an cd ct), sl⟩) (d : PySem.W.codeIn K cd "Prices.__init__" = true) (e : PySem.W.keepIn K (.ref f) = true)
    (g : PySem.W.nsIn K D "raising" = some (some (.int 1 t1))) (i : PySem.W.nsIn K D "lowering" = some (some (.int 1 t2))) : InitRaw K C := ⟨f, D, oc, od, an, dc, pm, cd, ct, sl, t1, t2, a, b, c, d, e, g, i⟩
theorem InitRaw.at {K : PySem.W.Frag} {C : Addr} (R : InitRaw K C) : ∃ (f : Addr) (fd : FuncData), PrInit K f fd ∧ PySem.W.findIn K (.ref C) "__init__" = some (some (.ref f)) ∧ PySem.W.isFn K (.ref f) = true := by
  obtain ⟨f, D, oc, od, an, dc, pm, cd, ct, sl, t1, t2, a, b, c, d, e, g, i⟩ := R
  refine ⟨f, _, ⟨⟨oc, od, .none, .ref D, dc, pm, an, cd, ct, sl, rfl, c, d, .inl ⟨rfl, rfl⟩, .inr ⟨D, rfl, fun q hq => ?_⟩⟩, e⟩, a, b⟩
  simp only [kwPr, List.mem_cons, List.not_mem_nil, or_false] at hq
  rcases hq with rfl | rfl
  · exact ⟨_, g, t1, rfl⟩
  · exact ⟨_, i, t2, rfl⟩
end Wnd

namespace Wnd
open PySem PySem.Spec PyProof.Rows L2
section
variable {P : Program} {w : World} {K : PySem.W.Frag} {mg : Str → Option Value} {base : Heap}
/-! ### the different rules in ascending order, as the law finds them -/
def spSorted : Sp := fun vs H Q _ => ∃ (a : Addr) (rs : List (Rule × Addr)), vs = [.ref a] ∧ H a = some (.lst (rs.map fun x => V.ref x.2)) ∧ KeyTups H rs ∧ (∀ x ∈ rs, Named x.1 ∧ Short x.1) ∧ rs.length < 100000 ∧
  ∀ r H' (M : List (Rule × Addr)), Same H H' → H r = none → H' r = some (.lst (M.map fun x => V.ref x.2)) → M.map (·.1) = canon (rs.map (·.1)) → (∀ x ∈ M, x ∈ rs) → Q (.ref r) H'
end
end Wnd

namespace Wnd
open PySem PySem.Spec PyProof.Rows L2
abbrev s_check_numbers : Stmt := top 24
theorem sc_check_numbers : FnScope ["system", "thing"] ["system", "thing"] (defScope s_check_numbers) := ⟨rfl, rfl, rfl, by decide +kernel, rfl, by decide +kernel, by decide +kernel⟩
abbrev s_are_numbers : Stmt := top 25
theorem sc_are_numbers : FnScope ["system", "thing", "names", "name"] ["system", "thing"] (defScope s_are_numbers) := ⟨rfl, rfl, rfl, by decide +kernel, rfl, by decide +kernel, by decide +kernel⟩
abbrev s_number_of : Stmt := top 26
theorem sc_number_of : FnScope ["thing", "numbers"] ["thing", "numbers"] (defScope s_number_of) := ⟨rfl, rfl, rfl, by decide +kernel, rfl, by decide +kernel, by decide +kernel⟩
abbrev s_is_number : Stmt := top 27
theorem sc_is_number : FnScope ["thing"] ["thing"] (defScope s_is_number) := ⟨rfl, rfl, rfl, by decide +kernel, rfl, by decide +kernel, by decide +kernel⟩
section
variable {P : Program} {w : World} {K : PySem.W.Frag} {mg : Str → Option Value} {base : Heap}
/-! ### numbers of a system -/
def NumsOk (ns : List Str) (g : List (Str × Int)) : Prop := (g.map (·.1)).Perm ns ∧ ∀ x ∈ g, -99999 ≤ x.2 ∧ x.2 ≤ 99999
def spIsNum : Sp := fun vs H Q _ => ∃ i : Int, vs = [.int i] ∧ Q (.bl (decide (-99999 ≤ i) && decide (i ≤ 99999))) H
theorem ok_is_number {f : Addr} {fd : FuncData} (D : DefAt K mg "is_number" s_is_number ["thing"] f fd) (C_GREATEST_NUMBER : ∃ t, mg "GREATEST_NUMBER" = some (.int 99999 t)) (O_is_integer_within : Ok P w K mg base 2 "is_integer_within" ["thing", "least", "greatest"] (spIsIn K)) : Ok P w K mg base 3 "is_number" ["thing"] spIsNum := by
  obtain ⟨gt, C_GREATEST_NUMBER⟩ := C_GREATEST_NUMBER
  refine D.ok (D.fn.ok sc_is_number (fun vs H Q E h => ?_) (fun cdv A outer s H vs Q E hr h => ?_))
  · obtain ⟨i, rfl, _⟩ := h
    rfl
  · obtain ⟨i, rfl, q⟩ := h
    refine ⟨_, (pss_one (ps_ret (pe_own O_is_integer_within (hr.mono (by decide)) (pa_cons (pv 0) (pa_cons (pe_un un_neg (pe_glob (v := .int 99999) rfl C_GREATEST_NUMBER ⟨_, rfl⟩)) (pa_cons (pe_glob (v := .int 99999) rfl C_GREATEST_NUMBER ⟨_, rfl⟩) pa_nil)))))), ?_⟩
    exact ⟨_, rfl, _, rfl, .int i, -99999, 99999, _, rfl, .inl ⟨i, rfl, rfl⟩, q⟩
theorem valG_mem {t : Str} : ∀ {g : List (Str × Int)}, t ∈ g.map (·.1) → (t, valG g (some t)) ∈ g
  | [], h => nomatch h
  | (a, b) :: r, h => by
    by_cases e : a = t
    · have : valG ((a, b) :: r) (some t) = b := by
        show (List.lookup t ((a, b) :: r)).getD 0 = b
        rw [List.lookup_cons, show (t == a) = true from beq_iff_eq.mpr e.symm]
        rfl
      rw [this, e]
      exact List.mem_cons_self ..
    · have h2 : t ∈ r.map (·.1) := (List.mem_cons.mp h).elim (fun z => absurd z.symm e) id
      have : valG ((a, b) :: r) (some t) = valG r (some t) := by
        show (List.lookup t ((a, b) :: r)).getD 0 = (List.lookup t r).getD 0
        rw [List.lookup_cons, show (t == a) = false from beq_eq_false_iff_ne.mpr fun z => e z.symm]
      rw [this]
      exact List.mem_cons_of_mem _ (valG_mem h2)
def spCheck (C : Addr) : Sp := fun vs H Q _ => ∃ (x d : Addr) (ns : List Str) (L : List (Rule × Addr)) (g : List (Str × Int)), vs = [.ref x, .ref d] ∧ SysAt C H x ns L ∧ H d = some (.dK (goalKV g)) ∧ NumsOk ns g ∧ ∀ H', Same H H' → Q .non H'
def spAre (C : Addr) : Sp := fun vs H Q _ => ∃ (x d : Addr) (ns : List Str) (L : List (Rule × Addr)) (g : List (Str × Int)), vs = [.ref x, .ref d] ∧ SysAt C H x ns L ∧ H d = some (.dK (goalKV g)) ∧ NumsOk ns g ∧ ∀ H', Same H H' → Q (.bl true) H'
theorem ok_areNums {C : Addr} {f : Addr} {fd : FuncData} (D : DefAt K mg "are_numbers" s_are_numbers ["system", "thing"] f fd) (B : Blt2 mg) (PN : OkP P w K mg base C 1 "names" (spNames C)) (O_is_number : Ok P w K mg base 3 "is_number" ["thing"] spIsNum) :
    Ok P w K mg base 4 "are_numbers" ["system", "thing"] (spAre C) := by
  refine D.ok (D.fn.ok sc_are_numbers (fun vs H Q E h => ?_) (fun cdv A outer s H vs Q E hr h => ?_))
  · obtain ⟨x, d, ns, L, g, rfl, _⟩ := h
    rfl
  · obtain ⟨x, d, ns, L, g, rfl, hx, hd, ⟨pm, bd⟩, q⟩ := h
    have nd := sc_are_numbers.nd
    have hu := hu_of hr
    refine ⟨_, (pss_cons (ps_set (i := 2) nd rfl (Or.inl rfl) (pe_propO PN (hr.mono (by decide)) (pv 0)))
      (pss_cons (ps_if (PW.pt (pw_or (pt_not (pt_val (pe_callB call_isi (by rfl) B.isinstance (by decide +kernel) (pa_cons (pv 1) (pa_cons (pe_bltn (v := .ty "dict") (by rfl) B.dict (by decide +kernel) rfl) pa_nil))))) (pw_or1 (pt_cmpR op_ne (pe_callB call_lenD (by rfl) B.len PySem.boot_len (pa_cons (pv 1) pa_nil)) (pe_callB call_len_seq (by rfl) B.len PySem.boot_len (pa_cons (pv 2) pa_nil)) (nomark _))))) (pss_one (ps_ret pe_bl)) pss_nil)
      (pss_one (ps_ret (pe_callB (cr_all rfl) (by rfl) B.all (by decide +kernel) (pa_cons (pe_lc (own := [("name", 3)]) (g := gName 3) (tt := tYes) (by rfl) nd (pi_list (pv 2)) (blkOk_by (own := [("name", 3)]) (N := ["system", "thing", "names", "name"]) (sc := defScope s_are_numbers) (by decide +kernel)) (fun _ _ _ _ _ => (pg_name (i := 3) nd rfl (Or.inl rfl))) (fun _ _ _ _ _ => pts_nil) (fun _ _ _ _ _ => (pe_and (pe_cmp (pc_din hu (pv 3) (pv 1))) (pe_one (pe_own O_is_number (hr.mono (by decide)) (pa_cons (pe_dget hu (pv 1) (pv 3) (fun _ _ => rfl)) pa_nil)))))) pa_nil)))))), ?_⟩
    obtain ⟨dx, fs, h1⟩ := prop_at hx
    refine ⟨_, rfl, x, dx, fs, rfl, h1, x, ns, L, rfl, hx, fun l hl => ?_⟩
    have s1 := same_new (o := .lst (ns.map V.str)) hl
    have hl1 := upd_same (H := H) (a := l) (o := .lst (ns.map V.str))
    have hd1 := s1 _ _ hd
    have hlen : g.length = ns.length := by
      have := pm.length_eq
      rwa [List.length_map] at this
    have lN : ns.length < 64 := by
      obtain ⟨_, _, _, _, _, _, _, ok⟩ := hx
      exact ok.names.2.2
    refine ⟨_, rfl, _, _, _, _, true, rfl, .ty _, .base (.dK hd1), kit_ty (by decide +kernel), true, rfl, ?_⟩
    refine ⟨_, rfl, d, _, rfl, hd1, _, rfl, l, _, rfl, .inl (SqL.of hl1), rfl, _, rfl, ?_⟩
    have e : (V.int ((goalKV g).length : Nat) : V) = V.int ((ns.map V.str).length : Nat) := by
      rw [goalKV, List.length_map, List.length_map, hlen]
    rw [decide_eq_true e]
    refine iteF ?_
    refine ⟨_, rfl, l, rfl, ⟨_, SqL.of hl1⟩, fun D hD => ?_⟩
    refine lc_map walk_list hD ((ns.map fun _ => true).map V.bl) (by simp only [List.length_map]) (by
      have : sizeLine > 1000 := by decide
      rw [List.length_map]
      omega) (fun H2 s2 => SqL.of (s2 _ _ hl1)) ?_ ?_
    · rintro i y H2 H' hi R W s2 ⟨rfl, hy⟩ hR
      obtain ⟨t, ht, rfl⟩ := get_map hy
      have mt : t ∈ g.map (·.1) := pm.mem_iff.mpr (List.mem_of_getElem? ht)
      have hv := goal_val mt
      have hd2 := s2 _ _ hd1
      have b := bd _ (valG_mem mt)
      rw [List.getElem_map, List.getElem_map] at hR
      refine ⟨rfl, ?_⟩
      refine ⟨_, rfl, _, rfl, d, _, rfl, DGet.k (k := Sum.inr t) hd2, _, rfl, ?_⟩
      rw [hv]
      refine iteT ?_
      refine ⟨_, rfl, _, rfl, d, _, rfl, (by
        have := DGet.k (k := Sum.inr t) hd2
        rwa [hv] at this), ?_⟩
      refine ⟨_, rfl, ?_⟩
      rw [decide_eq_true b.1, decide_eq_true b.2]
      exact hR _ (Same.refl _)
    · intro H2 s2 h2
      refine ⟨D, ns.map fun _ => true, rfl, SqL.of h2, ?_⟩
      rw [show (ns.map fun _ => true).all id = true by rw [List.all_map]; exact List.all_eq_true.mpr fun _ _ => rfl]
      exact q _ (s1.trans s2)
theorem ok_check {C : Addr} {f : Addr} {fd : FuncData} (D : DefAt K mg "check_numbers" s_check_numbers ["system", "thing"] f fd) (O_are_numbers : Ok P w K mg base 4 "are_numbers" ["system", "thing"] (spAre C)) :
    Ok P w K mg base 5 "check_numbers" ["system", "thing"] (spCheck C) := by
  refine D.ok (D.fn.ok sc_check_numbers (fun vs H Q E h => ?_) (fun cdv A outer s H vs Q E hr h => ?_))
  · obtain ⟨x, d, ns, L, g, rfl, _⟩ := h
    rfl
  · obtain ⟨x, d, ns, L, g, rfl, hx, hd, hn, q⟩ := h
    have nd := sc_check_numbers.nd
    refine ⟨_, (pss_one (ps_if (pt_not (pt_val (pe_own O_are_numbers (hr.mono (by decide)) (pa_cons (pv 0) (pa_cons (pv 1) pa_nil))))) (pss_one ps_never) pss_nil)), ?_⟩
    exact ⟨_, rfl, _, rfl, x, d, ns, L, g, rfl, hx, hd, hn, fun H1 s1 => ⟨_, rfl, iteF (q _ s1)⟩⟩
def spNumOf : Sp := fun vs H Q _ => ∃ (d : Addr) (g : List (Str × Int)) (e : Option Str), vs = [endV e, .ref d] ∧ H d = some (.dK (goalKV g)) ∧ (∀ t, e = some t → t ∈ g.map (·.1)) ∧ Q (.int (valG g e)) H
theorem ok_numOf {f : Addr} {fd : FuncData} (D : DefAt K mg "number_of" s_number_of ["thing", "numbers"] f fd) : Ok P w K mg base 1 "number_of" ["thing", "numbers"] spNumOf := by
  refine D.ok (D.fn.ok sc_number_of (fun vs H Q E h => ?_) (fun cdv A outer s H vs Q E hr h => ?_))
  · obtain ⟨d, g, e, rfl, _⟩ := h
    rfl
  · obtain ⟨d, g, e, rfl, hd, hm, q⟩ := h
    have hu := hu_of hr
    refine ⟨_, (pss_cons (ps_if (pt_cmpR op_isN (pv 0) pe_non (nomark _)) (pss_one (ps_ret pe_int)) pss_nil)
      (pss_one (ps_ret (pe_dget hu (pv 1) (pv 0) (fun _ _ => rfl))))), ?_⟩
    refine ⟨_, rfl, rfl, _, rfl, ?_⟩
    cases e with
    | none => exact q
    | some t =>
      refine iteF ?_
      exact ⟨_, rfl, _, rfl, d, _, rfl, by
        have := DGet.k (k := Sum.inr t) hd
        rwa [goal_val (hm t rfl)] at this, q⟩
/-- how much the high of a rule is missing -/
def shortB (g : List (Str × Int)) (r : Rule) : Int := valG g r.low + r.gap - valG g r.high
def EndsIn (g : List (Str × Int)) (r : Rule) : Prop := (∀ t, r.low = some t → t ∈ g.map (·.1)) ∧ ∀ t, r.high = some t → t ∈ g.map (·.1)
def spShortOf : Sp := fun vs H Q _ => ∃ (q d : Addr) (r : Rule) (g : List (Str × Int)), vs = [.ref q, .ref d] ∧ H q = some (.tup (ruleV r)) ∧ H d = some (.dK (goalKV g)) ∧ EndsIn g r ∧ Q (.int (shortB g r)) H
end
end Wnd

namespace Wnd
open PySem PySem.Spec PyProof.Rows L2
/-- what the head finds of the class System -/
structure SysRaw (K : PySem.W.Frag) (C : Addr) : Prop where
  at_ : PySem.W.nsIn K mainGlobals "System" = some (some (.ref C))
  pg : PySem.W.plainGet K C Str.empty = true
  hd : PySem.W.hasDictIn K C = true
  po : PySem.W.plainOver K C = true
  sa : PySem.W.findIn K (.ref C) "__setattr__" = some (some (.builtin "object.__setattr__"))
  nN : PySem.W.findIn K (.ref C) "_names" = some none
  nR : PySem.W.findIn K (.ref C) "_rules" = some none
  ha : PySem.W.findIn K (.ref C) "__class__" = some (some (.builtin "object.__class__"))
  hn : PySem.W.specialIn K (.builtin "object.__class__") "__get__" = some (some (.builtin "getset_descriptor.__get__"))
  htk : PySem.W.takesIn K (.builtin "object.__class__") = some true
  hm : PySem.W.mroIn K C (.type "object") = some true
  ic : PySem.W.isClsIn K C = true
  tc : PySem.W.typeIn K (.ref C) = some (.type "type")
  nf : PySem.W.notFirst K C (.ref C) = true
  kList : PySem.W.subIn K (.type "list") (.ref C) = some false
  kTuple : PySem.W.subIn K (.type "tuple") (.ref C) = some false
  kNone : PySem.W.subIn K (.type "NoneType") (.ref C) = some false
  kStr : PySem.W.subIn K (.type "str") (.ref C) = some false
  kInt : PySem.W.subIn K (.type "int") (.ref C) = some false
  fList : PySem.W.notFirst K C (.type "list") = true
  fTuple : PySem.W.notFirst K C (.type "tuple") = true
  fNone : PySem.W.notFirst K C (.type "NoneType") = true
  fStr : PySem.W.notFirst K C (.type "str") = true
  fInt : PySem.W.notFirst K C (.type "int") = true
  ne : PySem.W.findIn K (.ref C) "__ne__" = some (some (.builtin "object.__ne__"))
  ob : PySem.W.subIn K (.ref C) (.type "object") = some true
  mks : PySem.W.makesIn K C = true
  kc : PySem.W.keepIn K (.ref C) = true
theorem SysRaw.kit {K : PySem.W.Frag} {C : Addr} {T : String} (R : SysRaw K C) (h : PySem.W.subIn K (.type T) (.ref C) = some false) : PySem.W.kitOne K (.type T) (.ref C) = some false := by
  have h1 : (PySem.W.clsIn K C).isSome = true := R.ic
  have h2 : ((Value.type T) == (Value.ref C)) = false := rfl
  unfold PySem.W.kitOne PySem.W.kitCls
  rw [h2, if_neg Bool.false_ne_true]
  show (if ((PySem.W.clsIn K C).isSome && PySem.W.typeIn K (.ref C) == some (.type "type")) = true then PySem.W.subIn K (.type T) (.ref C) else none) = some false
  rw [h1, R.tc, if_pos (by simp)]
  exact h
theorem SysRaw.me {K : PySem.W.Frag} {C : Addr} (R : SysRaw K C) : PySem.W.kitOne K (.ref C) (.ref C) = some true := by
  unfold PySem.W.kitOne
  rw [if_pos (by simp)]
theorem SysRaw.f {K : PySem.W.Frag} {C : Addr} {mg : Str → Option Value} {h : Heap} (R : SysRaw K C) (X : K.In h) (G : h.Ns mainGlobals mg) : SysF K mg C :=
  { cl := ⟨R.pg, R.hd, R.po, R.sa⟩, nN := R.nN, nR := R.nR, mgC := PySem.W.mg_of X G R.at_, isC := ⟨⟨R.pg, R.hd, R.po, R.sa⟩, R.ha, R.hn, R.htk, R.hm, R.me⟩, nf := R.nf,
    bList := ⟨R.kit R.kList, R.fList⟩, bTuple := ⟨R.kit R.kTuple, R.fTuple⟩, bNone := ⟨R.kit R.kNone, R.fNone⟩, bStr := ⟨R.kit R.kStr, R.fStr⟩, bInt := ⟨R.kit R.kInt, R.fInt⟩ }
end Wnd

/-! the shortfall of a rule, as the program and as the law find it -/
namespace Wnd
open PySem PySem.Spec PyProof.Rows L2
section
variable {P : Program} {w : World} {K : PySem.W.Frag} {mg : Str → Option Value} {base : Heap}
theorem EndsIn.of {ts : List Str} {g : List (Str × Int)} {r : Rule} (h : RuleOk ts r) (hg : ∀ t ∈ ts, t ∈ g.map (·.1)) : EndsIn g r := by
  have e_ : ∀ {e : Option Str}, endIn ts e = true → ∀ t, e = some t → t ∈ g.map (·.1) := by
    rintro e he t rfl
    obtain ⟨x, hx, e⟩ := List.any_eq_true.mp he
    exact hg t (eq_of_beq e ▸ hx)
  exact ⟨e_ h.low, e_ h.high⟩
def spLawShort : Sp := fun vs H Q _ => ∃ (d q : Addr) (r : Rule) (g : List (Str × Int)), vs = [.ref d, .ref q] ∧ H d = some (.dK (goalKV g)) ∧ H q = some (.tup (ruleV r)) ∧ EndsIn g r ∧ Q (.int (shortB g r)) H
end
end Wnd

/-! numbers of settings: in another order, shown -/
namespace Wnd
open PySem PySem.Spec PyProof.Rows L2
theorem lookup_nodup {t : Str} {v : Int} : ∀ {g : List (Str × Int)}, (g.map (·.1)).Nodup → (t, v) ∈ g → g.lookup t = some v
  | (a, b) :: r, nd, h => by
    rw [List.map_cons, List.nodup_cons] at nd
    rcases List.mem_cons.mp h with e | h
    · cases e
      rw [List.lookup_cons, show (t == t) = true from beq_self_eq_true t]
    · have : a ≠ t := fun e => nd.1 (e ▸ List.mem_map.mpr ⟨_, h, rfl⟩)
      rw [List.lookup_cons, show (t == a) = false from beq_eq_false_iff_ne.mpr fun z => this z.symm]
      exact lookup_nodup nd.2 h
theorem valG_perm {g g' : List (Str × Int)} (p : g.Perm g') (nd : (g.map (·.1)).Nodup) {e : Option Str} (h : ∀ t, e = some t → t ∈ g.map (·.1)) : valG g' e = valG g e := by
  cases e with
  | none => rfl
  | some t =>
    have m := valG_mem (h t rfl)
    show (g'.lookup t).getD 0 = valG g (some t)
    rw [lookup_nodup ((p.map (·.1)).nodup_iff.mp nd) (p.mem_iff.mp m)]
    rfl
theorem shortB_perm {g g' : List (Str × Int)} {r : Rule} (p : g.Perm g') (nd : (g.map (·.1)).Nodup) (h : EndsIn g r) : shortB g' r = shortB g r := by
  unfold shortB
  rw [valG_perm p nd h.1, valG_perm p nd h.2]
theorem EndsIn.perm {g g' : List (Str × Int)} {r : Rule} (p : g.Perm g') (h : EndsIn g r) : EndsIn g' r := ⟨fun t e => (p.map (·.1)).mem_iff.mp (h.1 t e), fun t e => (p.map (·.1)).mem_iff.mp (h.2 t e)⟩
theorem valG_bound {g : List (Str × Int)} (hb : ∀ x ∈ g, -99999 ≤ x.2 ∧ x.2 ≤ 99999) {e : Option Str} (h : ∀ t, e = some t → t ∈ g.map (·.1)) : -99999 ≤ valG g e ∧ valG g e ≤ 99999 := by
  cases e with
  | none => exact ⟨by show (-99999 : Int) ≤ 0; decide, by show (0 : Int) ≤ 99999; decide⟩
  | some t => exact hb _ (valG_mem (h t rfl))
theorem shortB_abs {g : List (Str × Int)} {ts : List Str} {r : Rule} (hb : ∀ x ∈ g, -99999 ≤ x.2 ∧ x.2 ≤ 99999) (h : EndsIn g r) (ro : RuleOk ts r) : (shortB g r).natAbs < 10 ^ 12 := by
  have h1 := valG_bound hb h.1
  have h2 := valG_bound hb h.2
  have h3 := ro.ge
  have h4 := ro.le
  unfold shortB
  omega
theorem name_sign {t : Str} (h : nameB t = true) : ∀ c ∈ t.cps.toList, c < 16 ^ 8 := by
  unfold nameB at h
  rw [Bool.and_eq_true, List.all_eq_true] at h
  intro c hc
  have := h.2 c hc
  unfold letterOk at this
  rw [Bool.and_eq_true, Bool.not_eq_true', Bool.not_eq_true', decide_eq_false_iff_not, decide_eq_false_iff_not] at this
  have h2 : ¬ (122 < c) := fun z => this.2 (List.Lex.rel z)
  omega
theorem small_of {ts : List Str} {g : List (Str × Int)} (N : NamesOk ts) (hg : (g.map (·.1)).Perm ts) (hb : ∀ x ∈ g, -99999 ≤ x.2 ∧ x.2 ≤ 99999) : ∀ x ∈ g, Small x := fun x hx => by
  have n := N.2.1 x.1 (hg.mem_iff.mp (List.mem_map.mpr ⟨x, hx, rfl⟩))
  have := (name_len n).2
  exact ⟨by omega, name_sign n, (hb x hx).1, (hb x hx).2⟩
theorem len_of {ts : List Str} {g : List (Str × Int)} (N : NamesOk ts) (hg : (g.map (·.1)).Perm ts) : g.length ≤ 1000 := by
  have h1 := hg.length_eq
  have h2 := N.2.2
  rw [List.length_map] at h1
  omega
theorem paired_rev {α β : Type} {F : α → β → Prop} : ∀ {a : List α} {b : List β}, Paired F a b → Paired F a.reverse b.reverse
  | _, _, .nil => .nil
  | _, _, .cons h t => by
    rw [List.reverse_cons, List.reverse_cons]
    exact (paired_rev t).snoc h
theorem goal_paired {K : PySem.W.Frag} {H : Hp} {ps : List Addr} {g : List (Str × Int)} (h : Paired (fun u x => H u = some (.tup [.str x.1, .int x.2])) ps g) : Paired (fun u (kv : Key × V) => SqT K H u [kV kv.1, kv.2]) ps (goalKV g) := by
  induction h with
  | nil => exact .nil
  | cons h1 h2 ih => exact .cons (SqT.of h1) ih
theorem goal_rev (g : List (Str × Int)) : (goalKV g).reverse = goalKV g.reverse := (List.map_reverse ..).symm
section
variable {P : Program} {w : World} {K : PySem.W.Frag} {mg : Str → Option Value} {base : Heap}
/-- dict(list(held.items())[::-1]): the pairs turned -/
theorem turned_at {H' : Hp} {l2 : Addr} {g : List (Str × Int)} {ts : List Addr} (hp : Paired (fun (t : Addr) (q : Key × V) => H' t = some (.tup [kV q.1, q.2])) ts (goalKV g)) (hl2 : H' l2 = none) :
    SqL K (upd H' l2 (.lst (ts.map V.ref).reverse)) l2 (ts.reverse.map V.ref) ∧ Paired (fun p' (kv : Key × V) => SqT K (upd H' l2 (.lst (ts.map V.ref).reverse)) p' [kV kv.1, kv.2]) ts.reverse (goalKV g.reverse) := by
  have s2 := same_new (o := .lst (ts.map V.ref).reverse) hl2
  refine ⟨SqL.of (by rw [upd_same, List.map_reverse]), ?_⟩
  rw [← goal_rev]
  exact Paired.mapP (paired_rev hp) fun t x h => SqT.of (s2 _ _ h)
theorem turned_merge {g : List (Str × Int)} (nodg : (g.map (·.1)).Nodup) : mergeK [] (goalKV g.reverse) = goalKV g.reverse :=
  goal_merge (by rw [List.map_reverse]; exact (List.reverse_perm _).nodup_iff.mpr nodg)
end
end Wnd

/-! the first breach, as the program and as the law find it -/
namespace Wnd
open PySem PySem.Spec PyProof.Rows L2
section
variable {P : Program} {w : World} {K : PySem.W.Frag} {mg : Str → Option Value} {base : Heap}
/-- the first rule that does not hold -/
def firstR (g : List (Str × Int)) (L : List (Rule × Addr)) : Option (Rule × Addr) := L.find? fun p => decide (0 < shortB g p.1)
def firstV (o : Option (Rule × Addr)) : V := match o with
  | none => .non
  | some p => .ref p.2
theorem find_take {α : Type} (f : α → Bool) (L : List α) (i : Nat) (h : i < L.length) (n : ∀ y ∈ L.take i, f y = false) (t : f L[i] = true) : L.find? f = some L[i] := by
  have e : L = L.take i ++ L[i] :: L.drop (i + 1) := by
    rw [← List.drop_eq_getElem_cons h, List.take_append_drop]
  have z : (L.take i).find? f = none := List.find?_eq_none.mpr fun y hy => by rw [n y hy]; exact Bool.false_ne_true
  generalize hx : L[i] = x at e t
  rw [e, List.find?_append, z, Option.none_or, List.find?_cons, t]
theorem find_none {α : Type} (f : α → Bool) (L : List α) (n : ∀ y ∈ L, f y = false) : L.find? f = none := List.find?_eq_none.mpr fun y hy => by rw [n y hy]; exact Bool.false_ne_true
def spBreach (C : Addr) : Sp := fun vs H Q _ => ∃ (x d : Addr) (ns : List Str) (L : List (Rule × Addr)) (g : List (Str × Int)), vs = [.ref x, .ref d] ∧ SysAt C H x ns L ∧ H d = some (.dK (goalKV g)) ∧ NumsOk ns g ∧ ∀ H', Same H H' → Q (firstV (firstR g L)) H'
def spAdmitted (C : Addr) : Sp := fun vs H Q _ => ∃ (x d : Addr) (ns : List Str) (L : List (Rule × Addr)) (g : List (Str × Int)), vs = [.ref x, .ref d] ∧ SysAt C H x ns L ∧ H d = some (.dK (goalKV g)) ∧ NumsOk ns g ∧ ∀ H', Same H H' → Q (.bl (firstR g L).isNone) H'
def spBroken : Sp := fun vs H Q _ => ∃ (a d : Addr) (ts : List Str) (rs : List (Rule × Addr)) (g : List (Str × Int)), vs = [.ref a, .ref d] ∧ H a = some (.lst (rs.map fun x => V.ref x.2)) ∧ KeyTups H rs ∧ NamesOk ts ∧ (∀ x ∈ rs, RuleOk ts x.1) ∧ rs.length < 100000 ∧
  H d = some (.dK (goalKV g)) ∧ (g.map (·.1)).Perm ts ∧
  ∀ r H' (M : List (Rule × Addr)), Same H H' → H r = none → M.map (·.1) = canon (rs.map (·.1)) → (∀ x ∈ M, x ∈ rs) → H' r = some (.lst ((M.filter fun x => decide (0 < shortB g x.1)).map fun x => V.ref x.2)) → Q (.ref r) H'
end
end Wnd

/-! Windowsteps: chains in the plain: walks over arcs, rounds that raise totals, all pairs. No Python here. -/
namespace Wnd
section
variable {ν : Type} [DecidableEq ν]
/-- an arc: from, to, gap -/
abbrev Arc (ν : Type) := ν × ν × Int
/-- a walk through these nodes, and its total -/
inductive Wn (A : List (Arc ν)) : List ν → Int → Prop where
  | one (a : ν) : Wn A [a] 0
  | cons {a b : ν} {g t : Int} {r : List ν} : (a, b, g) ∈ A → Wn A (b :: r) t → Wn A (a :: b :: r) (g + t)
theorem Wn.eq {A : List (Arc ν)} {ns : List ν} {s t : Int} (h : Wn A ns s) (e : s = t) : Wn A ns t := e ▸ h
theorem Wn.split {A : List (Arc ν)} {a : ν} {ys : List ν} : ∀ {xs : List ν} {t : Int}, Wn A (xs ++ a :: ys) t → ∃ t1 t2, Wn A (xs ++ [a]) t1 ∧ Wn A (a :: ys) t2 ∧ t = t1 + t2
  | [], t, h => ⟨0, t, .one a, h, by omega⟩
  | [x], t, h => by
    cases h with
    | cons m h => exact ⟨_, _, .cons m (.one a), h, by omega⟩
  | x :: y :: xs, t, h => by
    cases h with
    | cons m h =>
      obtain ⟨t1, t2, h1, h2, e⟩ := Wn.split (xs := y :: xs) h
      exact ⟨_, t2, .cons m h1, h2, by omega⟩
theorem Wn.join {A : List (Arc ν)} {a : ν} {ys : List ν} {t2 : Int} (h2 : Wn A (a :: ys) t2) : ∀ {xs : List ν} {t1 : Int}, Wn A (xs ++ [a]) t1 → Wn A (xs ++ a :: ys) (t1 + t2)
  | [], t1, h => by
    cases h
    exact h2.eq (by omega)
  | [x], t1, h => by
    cases h with
    | cons m h =>
      cases h
      exact (Wn.cons m h2).eq (by omega)
  | x :: y :: xs, t1, h => by
    cases h with
    | cons m h => exact (Wn.cons m (Wn.join h2 (xs := y :: xs) h)).eq (by omega)
theorem Wn.ne {A : List (Arc ν)} {t : Int} (h : Wn A [] t) : False := by cases h
/-- a walk from u to v of n arcs -/
def Wk (A : List (Arc ν)) (u v : ν) (n : Nat) (t : Int) : Prop := (n = 0 ∧ u = v ∧ t = 0) ∨ ∃ is : List ν, n = is.length + 1 ∧ Wn A (u :: (is ++ [v])) t
theorem Wk.zero {A : List (Arc ν)} (u : ν) : Wk A u u 0 0 := .inl ⟨rfl, rfl, rfl⟩
theorem Wk.wn {A : List (Arc ν)} {u v : ν} {n : Nat} {t : Int} (h : Wk A u v n t) : ∃ xs, xs.length = n ∧ Wn A (xs ++ [v]) t ∧ (xs ++ [v]).head? = some u := by
  rcases h with ⟨rfl, rfl, rfl⟩ | ⟨is, rfl, h⟩
  · exact ⟨[], rfl, .one u, rfl⟩
  · exact ⟨u :: is, rfl, h, rfl⟩
theorem Wk.of {A : List (Arc ν)} {v : ν} {t : Int} : ∀ {xs : List ν} {u : ν}, Wn A (xs ++ [v]) t → (xs ++ [v]).head? = some u → Wk A u v xs.length t
  | [], u, h, e => by
    cases h
    have : v = u := by simpa using e
    exact .inl ⟨rfl, this.symm, rfl⟩
  | x :: xs, u, h, e => by
    have : x = u := by simpa using e
    subst this
    exact .inr ⟨xs, rfl, h⟩
theorem Wk.trans {A : List (Arc ν)} {u v w : ν} {n m : Nat} {s t : Int} (h : Wk A u v n s) (k : Wk A v w m t) : Wk A u w (n + m) (s + t) := by
  obtain ⟨xs, hx, h1, e1⟩ := h.wn
  obtain ⟨ys, hy, h2, e2⟩ := k.wn
  have h3 : ∃ zs, ys ++ [w] = v :: zs := by
    cases ys with
    | nil => exact ⟨[], by simpa using e2⟩
    | cons y ys => exact ⟨ys ++ [w], by have : y = v := by simpa using e2
                                        rw [this]; rfl⟩
  obtain ⟨zs, hz⟩ := h3
  rw [hz] at h2
  have h4 := Wn.join h2 h1
  rw [← hz, ← List.append_assoc] at h4
  have h5 := Wk.of (u := u) h4 (by
    cases xs with
    | nil =>
      have e : v = u := by simpa using e1
      subst e
      rw [List.nil_append]
      exact e2
    | cons x xs => simpa using e1)
  rw [List.length_append, hx, hy] at h5
  exact h5
theorem Wk.arc {A : List (Arc ν)} {u v : ν} {g : Int} (m : (u, v, g) ∈ A) : Wk A u v 1 g := .inr ⟨[], rfl, (Wn.cons m (.one v)).eq (by omega)⟩
/-- the last arc of a walk -/
theorem Wk.last {A : List (Arc ν)} {u v : ν} {n : Nat} {t : Int} (h : Wk A u v (n + 1) t) : ∃ b g s, Wk A u b n s ∧ (b, v, g) ∈ A ∧ t = s + g := by
  obtain ⟨xs, hx, h1, e1⟩ := h.wn
  have hne : xs ≠ [] := fun z => by rw [z] at hx; cases hx
  obtain ⟨ys, b, rfl⟩ : ∃ ys b, xs = ys ++ [b] := ⟨xs.dropLast, xs.getLast hne, (List.dropLast_concat_getLast hne).symm⟩
  rw [List.append_assoc] at h1
  obtain ⟨t1, t2, h2, h3, e⟩ := Wn.split (a := b) (ys := [v]) h1
  cases h3 with
  | cons m h4 =>
    cases h4
    refine ⟨b, _, t1, ?_, m, by omega⟩
    have h5 := Wk.of (u := u) h2 (by
      cases ys with
      | nil => simpa using e1
      | cons y ys => simpa using e1)
    rw [List.length_append, List.length_singleton] at hx
    rw [show ys.length = n by omega] at h5
    exact h5
/-- no ring has a total above 0 -/
def NoPos (A : List (Arc ν)) : Prop := ∀ a n t, Wk A a a n t → t ≤ 0
/-- numbers that keep all arcs -/
def Keeps (A : List (Arc ν)) (φ : ν → Int) : Prop := ∀ a b g, (a, b, g) ∈ A → φ a + g ≤ φ b
theorem Keeps.wk {A : List (Arc ν)} {φ : ν → Int} (k : Keeps A φ) {u : ν} : ∀ {n : Nat} {v : ν} {t : Int}, Wk A u v n t → φ u + t ≤ φ v
  | 0, v, t, h => by
    rcases h with ⟨_, rfl, rfl⟩ | ⟨is, e, _⟩
    · omega
    · cases e
  | n + 1, v, t, h => by
    obtain ⟨b, g, s, h1, m, rfl⟩ := h.last
    have := k.wk h1
    have := k b v g m
    omega
theorem Keeps.noPos {A : List (Arc ν)} {φ : ν → Int} (k : Keeps A φ) : NoPos A := fun a n t h => by
  have := k.wk h
  omega
/-! ### a walk is as good as one that comes to no node twice -/
theorem not_nodup : ∀ {l : List ν}, ¬ l.Nodup → ∃ xs a ys zs, l = xs ++ a :: (ys ++ a :: zs)
  | [], h => (h List.nodup_nil).elim
  | b :: r, h => by
    by_cases hb : b ∈ r
    · obtain ⟨ys, zs, rfl⟩ := List.append_of_mem hb
      exact ⟨[], b, ys, zs, rfl⟩
    · obtain ⟨xs, a, ys, zs, rfl⟩ := not_nodup (l := r) fun z => h (List.nodup_cons.mpr ⟨hb, z⟩)
      exact ⟨b :: xs, a, ys, zs, rfl⟩
theorem nodup_len : ∀ {l vs : List ν}, l.Nodup → (∀ x ∈ l, x ∈ vs) → l.length ≤ vs.length
  | [], _, _, _ => Nat.zero_le _
  | b :: r, vs, hn, hs => by
    obtain ⟨hb, hr⟩ := List.nodup_cons.mp hn
    have m := hs b (List.mem_cons_self)
    have h1 := nodup_len (l := r) (vs := vs.erase b) hr fun x hx => by
      have ne : x ≠ b := fun z => hb (z ▸ hx)
      exact (List.mem_erase_of_ne ne).mpr (hs x (List.mem_cons_of_mem _ hx))
    rw [List.length_erase_of_mem m] at h1
    have h2 := List.length_pos_of_mem m
    rw [List.length_cons]
    omega
theorem Wn.nodes {A : List (Arc ν)} {vs : List ν} (hA : ∀ a b g, (a, b, g) ∈ A → a ∈ vs ∧ b ∈ vs) : ∀ {ns : List ν} {t : Int}, Wn A ns t → (∀ u, ns.head? = some u → u ∈ vs) → ∀ x ∈ ns, x ∈ vs
  | _, _, .one a, h, x, hx => by
    rw [List.mem_singleton.mp hx]
    exact h a rfl
  | _, _, .cons (a := a) (b := b) m k, h, x, hx => by
    rcases List.mem_cons.mp hx with rfl | hx
    · exact h _ rfl
    · exact Wn.nodes hA k (fun u e => by
        have : b = u := by simpa using e
        rw [← this]
        exact (hA a b _ m).2) x hx
theorem last_cat {xs rs : List ν} {a : ν} : (xs ++ a :: rs).getLast? = (a :: rs).getLast? := by
  have h : (a :: rs).getLast? = some ((a :: rs).getLast (List.cons_ne_nil _ _)) := List.getLast?_eq_some_getLast _
  rw [List.getLast?_append, h]
  rfl
theorem short_aux {A : List (Arc ν)} (np : NoPos A) {vs : List ν} : ∀ (n : Nat) {xs : List ν} {u v : ν} {t : Int}, xs.length ≤ n → Wn A (xs ++ [v]) t → (xs ++ [v]).head? = some u → (∀ x ∈ xs ++ [v], x ∈ vs) →
    ∃ ys t', ys.length < vs.length ∧ Wn A (ys ++ [v]) t' ∧ (ys ++ [v]).head? = some u ∧ t ≤ t'
  | n, xs, u, v, t, hn, h, hu, hs => by
    by_cases nd : (xs ++ [v]).Nodup
    · have := nodup_len nd hs
      rw [List.length_append, List.length_singleton] at this
      exact ⟨xs, t, by omega, h, hu, Int.le_refl _⟩
    · obtain ⟨ps, a, qs, rs, e⟩ := not_nodup nd
      rw [e] at h
      obtain ⟨t1, t2, h1, h2, e1⟩ := Wn.split h
      obtain ⟨t3, t4, h3, h4, e2⟩ := Wn.split (xs := a :: qs) (a := a) (ys := rs) h2
      have c := np a _ t3 (Wk.of (xs := a :: qs) (u := a) h3 rfl)
      have h5 := Wn.join h4 h1
      -- the rest ends in v
      obtain ⟨zs, hz⟩ : ∃ zs, ps ++ a :: rs = zs ++ [v] := by
        have l1 : (xs ++ [v]).getLast? = some v := by simp
        rw [e] at l1
        have l2 : (ps ++ a :: rs).getLast? = some v := by
          have k1 : (ps ++ a :: (qs ++ a :: rs)).getLast? = (a :: rs).getLast? := by
            rw [show ps ++ a :: (qs ++ a :: rs) = (ps ++ a :: qs) ++ a :: rs by simp]
            exact last_cat
          have k2 : (ps ++ a :: rs).getLast? = (a :: rs).getLast? := last_cat
          rw [k2, ← k1]
          exact l1
        exact List.getLast?_eq_some_iff.mp l2
      have hl : zs.length < xs.length := by
        have e3 := congrArg List.length e
        have e4 := congrArg List.length hz
        simp only [List.length_append, List.length_cons, List.length_nil] at e3 e4
        omega
      rw [hz] at h5
      have hu' : (zs ++ [v]).head? = some u := by
        rw [← hz]
        rw [e] at hu
        cases ps with
        | nil => simpa using hu
        | cons p ps => simpa using hu
      have hs' : ∀ x ∈ zs ++ [v], x ∈ vs := fun x hx => by
        rw [← hz] at hx
        rw [e] at hs
        refine hs x ?_
        rcases List.mem_append.mp hx with hx | hx
        · exact List.mem_append_left _ hx
        · rcases List.mem_cons.mp hx with rfl | hx
          · simp
          · simp [hx]
      cases n with
      | zero => omega
      | succ n =>
        obtain ⟨ys, t', l, k, k', le⟩ := short_aux np n (by omega) h5 hu' hs'
        exact ⟨ys, t', l, k, k', by omega⟩
/-- without such rings: as good a walk with fewer arcs than there are nodes -/
theorem NoPos.short {A : List (Arc ν)} (np : NoPos A) {vs : List ν} (hA : ∀ a b g, (a, b, g) ∈ A → a ∈ vs ∧ b ∈ vs) {u v : ν} {n : Nat} {t : Int} (hu : u ∈ vs) (h : Wk A u v n t) : ∃ m t', m < vs.length ∧ Wk A u v m t' ∧ t ≤ t' := by
  obtain ⟨xs, hx, h1, e1⟩ := h.wn
  obtain ⟨ys, t', l, k, k', le⟩ := short_aux np xs.length (Nat.le_refl _) h1 e1 (Wn.nodes hA h1 fun u' e => by
    rw [e1] at e
    cases e
    exact hu)
  exact ⟨ys.length, t', l, Wk.of k k', le⟩

/-! ### tables -/
def lk {β : Type} (L : List (ν × β)) (k : ν) : Option β := (L.find? fun p => decide (p.1 = k)).map (·.2)
def pt {β : Type} (L : List (ν × β)) (k : ν) (v : β) : List (ν × β) :=
  if (L.any fun p => decide (p.1 = k)) = true then L.map (fun p => if p.1 = k then (p.1, v) else p) else L ++ [(k, v)]
theorem lk_cons {β : Type} {p : ν × β} {r : List (ν × β)} {k : ν} : lk (p :: r) k = if p.1 = k then some p.2 else lk r k := by
  unfold lk
  by_cases e : p.1 = k
  · simp [List.find?_cons, e]
  · simp [List.find?_cons, e]
theorem lk_any {β : Type} (k : ν) : ∀ L : List (ν × β), (L.any fun p => decide (p.1 = k)) = (lk L k).isSome
  | [] => rfl
  | p :: r => by
    rw [List.any_cons, lk_cons, lk_any k r]
    by_cases e : p.1 = k
    · simp [e]
    · simp [e]
theorem lk_map_if {β : Type} (k j : ν) (v : β) : ∀ L : List (ν × β), lk (L.map fun p => if p.1 = k then (p.1, v) else p) j = (lk L j).map fun x => if j = k then v else x
  | [] => rfl
  | p :: r => by
    rw [List.map_cons, lk_cons, lk_cons, lk_map_if k j v r]
    by_cases h : p.1 = k
    · rw [if_pos h]
      by_cases e : p.1 = j
      · have : j = k := e.symm.trans h
        simp [e, this]
      · simp [e]
    · rw [if_neg h]
      by_cases e : p.1 = j
      · have : ¬ j = k := fun z => h (e.trans z)
        simp [e, this]
      · simp [e]
theorem lk_snoc {β : Type} (k j : ν) (v : β) : ∀ L : List (ν × β), lk L k = none → lk (L ++ [(k, v)]) j = if j = k then some v else lk L j
  | [], _ => by
    rw [List.nil_append, lk_cons]
    by_cases e : k = j
    · simp [e]
    · have : ¬ j = k := fun z => e z.symm
      simp [e, this]
  | p :: r, hn => by
    rw [lk_cons] at hn
    by_cases h : p.1 = k
    · rw [if_pos h] at hn
      cases hn
    · rw [if_neg h] at hn
      rw [List.cons_append, lk_cons, lk_cons, lk_snoc k j v r hn]
      by_cases e : p.1 = j
      · have : ¬ j = k := fun z => h (e.trans z)
        simp [e, this]
      · simp [e]
theorem lk_pt {β : Type} (L : List (ν × β)) (k j : ν) (v : β) : lk (pt L k v) j = if j = k then some v else lk L j := by
  unfold pt
  rw [lk_any]
  by_cases h : (lk L k).isSome = true
  · rw [if_pos h, lk_map_if]
    by_cases e : j = k
    · subst e
      obtain ⟨x, hx⟩ := Option.isSome_iff_exists.mp h
      simp [hx]
    · rw [if_neg e]
      cases lk L j with
      | none => rfl
      | some x => simp [e]
  · rw [if_neg h]
    refine lk_snoc k j v L ?_
    cases q : lk L k with
    | none => rfl
    | some x => rw [q] at h; exact (h rfl).elim
theorem lk_pt_same {β : Type} {L : List (ν × β)} {k : ν} {v : β} : lk (pt L k v) k = some v := by
  rw [lk_pt, if_pos rfl]
theorem lk_pt_ne {β : Type} {L : List (ν × β)} {k j : ν} {v : β} (h : j ≠ k) : lk (pt L k v) j = lk L j := by
  rw [lk_pt, if_neg h]
theorem pt_len {β : Type} {L : List (ν × β)} {k : ν} {v : β} : (pt L k v).length ≤ L.length + 1 := by
  unfold pt
  split
  · rw [List.length_map]
    omega
  · rw [List.length_append, List.length_singleton]
    omega
theorem pt_keys {β : Type} {L : List (ν × β)} {k : ν} {v : β} {x : ν} (h : x ∈ (pt L k v).map (·.1)) : x ∈ L.map (·.1) ∨ x = k := by
  obtain ⟨p, hp, rfl⟩ := List.mem_map.mp h
  unfold pt at hp
  split at hp
  · obtain ⟨q, hq, rfl⟩ := List.mem_map.mp hp
    refine .inl ?_
    by_cases e : q.1 = k
    · rw [if_pos e]
      exact List.mem_map.mpr ⟨q, hq, rfl⟩
    · rw [if_neg e]
      exact List.mem_map.mpr ⟨q, hq, rfl⟩
  · rcases List.mem_append.mp hp with hp | hp
    · exact .inl (List.mem_map.mpr ⟨p, hp, rfl⟩)
    · rw [List.mem_singleton.mp hp]
      exact .inr rfl
theorem lk_key {β : Type} {k : ν} {v : β} : ∀ {L : List (ν × β)}, lk L k = some v → k ∈ L.map (·.1)
  | [], h => by cases h
  | p :: r, h => by
    rw [lk_cons] at h
    by_cases e : p.1 = k
    · rw [List.map_cons, e]
      exact List.mem_cons_self
    · rw [if_neg e] at h
      rw [List.map_cons]
      exact List.mem_cons_of_mem _ (lk_key h)
theorem lk_val {β γ : Type} (f : β → γ) (k : ν) : ∀ L : List (ν × β), lk (L.map fun p => (p.1, f p.2)) k = (lk L k).map f
  | [] => rfl
  | p :: r => by
    rw [List.map_cons, lk_cons, lk_cons, lk_val f k r]
    by_cases e : p.1 = k <;> simp [e]
theorem pt_vals {β γ : Type} (f : β → γ) (k : ν) (v : β) (L : List (ν × β)) : pt (L.map fun p => (p.1, f p.2)) k (f v) = (pt L k v).map fun p => (p.1, f p.2) := by
  unfold pt
  have e : ((L.map fun p => (p.1, f p.2)).any fun p => decide (p.1 = k)) = L.any fun p => decide (p.1 = k) := by
    rw [List.any_map]
    rfl
  rw [e]
  split
  · rw [List.map_map, List.map_map]
    refine List.map_congr_left fun p _ => ?_
    show (if p.1 = k then (p.1, f v) else (p.1, f p.2)) = (fun p : ν × β => (p.1, f p.2)) (if p.1 = k then (p.1, v) else p)
    by_cases h : p.1 = k
    · rw [if_pos h, if_pos h]
    · rw [if_neg h, if_neg h]
  · rw [List.map_append]
    rfl

/-! ### rounds that raise totals -/
structure R3 (ν : Type) where
  T : List (ν × Int)
  L : List (ν × Nat)
  R : List ν
/-- this arc asks that its high be raised -/
def asks (T : List (ν × Int)) (a : Arc ν) : Bool := match lk T a.1 with
  | none => false
  | some x => match lk T a.2.1 with
    | none => true
    | some y => decide (y < x + a.2.2)
def raised (S : R3 ν) (i : Nat) (a : Arc ν) : R3 ν := ⟨pt S.T a.2.1 ((lk S.T a.1).getD 0 + a.2.2), pt S.L a.2.1 i, S.R ++ [a.2.1]⟩
def rstep (S : R3 ν) (i : Nat) (a : Arc ν) : R3 ν := if asks S.T a = true then raised S i a else S
/-- the arcs from the i-th on -/
def rgo : List (Arc ν) → Nat → R3 ν → R3 ν
  | [], _, S => S
  | a :: r, i, S => rgo r (i + 1) (rstep S i a)
theorem rgo_snoc : ∀ (A : List (Arc ν)) (a : Arc ν) (i : Nat) (S : R3 ν), rgo (A ++ [a]) i S = rstep (rgo A i S) (i + A.length) a
  | [], a, i, S => rfl
  | b :: r, a, i, S => by
    show rgo (r ++ [a]) (i + 1) (rstep S i b) = _
    rw [rgo_snoc r a]
    show rstep (rgo r (i + 1) (rstep S i b)) (i + 1 + r.length) a = rstep (rgo r (i + 1) (rstep S i b)) (i + (r.length + 1)) a
    rw [show i + 1 + r.length = i + (r.length + 1) by omega]
/-- values only grow, and none goes -/
def Grows (T T' : List (ν × Int)) : Prop := ∀ v x, lk T v = some x → ∃ y, lk T' v = some y ∧ x ≤ y
theorem Grows.refl (T : List (ν × Int)) : Grows T T := fun v x h => ⟨x, h, Int.le_refl _⟩
theorem Grows.trans {T1 T2 T3 : List (ν × Int)} (a : Grows T1 T2) (b : Grows T2 T3) : Grows T1 T3 := fun v x h => by
  obtain ⟨y, h1, h2⟩ := a v x h
  obtain ⟨z, h3, h4⟩ := b v y h1
  exact ⟨z, h3, by omega⟩
theorem rstep_grows (S : R3 ν) (i : Nat) (a : Arc ν) : Grows S.T (rstep S i a).T := by
  unfold rstep
  split
  · rename_i h
    intro v x hv
    unfold asks at h
    show ∃ y, lk (pt S.T a.2.1 ((lk S.T a.1).getD 0 + a.2.2)) v = some y ∧ x ≤ y
    by_cases e : v = a.2.1
    · subst e
      rw [lk_pt_same]
      refine ⟨_, rfl, ?_⟩
      cases hx : lk S.T a.1 with
      | none => rw [hx] at h; cases h
      | some z =>
        rw [hx] at h
        simp only [hv] at h
        have := of_decide_eq_true h
        show x ≤ z + a.2.2
        omega
    · rw [lk_pt_ne e]
      exact ⟨x, hv, Int.le_refl _⟩
  · exact Grows.refl _
/-- behind the arc's turn it is kept -/
theorem rstep_kept (S : R3 ν) (i : Nat) (a : Arc ν) {x : Int} (h : lk S.T a.1 = some x) : ∃ y, lk (rstep S i a).T a.2.1 = some y ∧ x + a.2.2 ≤ y := by
  unfold rstep
  split
  · show ∃ y, lk (pt S.T a.2.1 ((lk S.T a.1).getD 0 + a.2.2)) a.2.1 = some y ∧ _
    rw [lk_pt_same, h]
    exact ⟨_, rfl, Int.le_refl _⟩
  · rename_i n
    unfold asks at n
    rw [h] at n
    cases hy : lk S.T a.2.1 with
    | none => simp only [hy] at n; exact (n trivial).elim
    | some y =>
      simp only [hy] at n
      refine ⟨y, rfl, ?_⟩
      have : ¬ y < x + a.2.2 := fun z => n (decide_eq_true z)
      omega
theorem rgo_grows : ∀ (A : List (Arc ν)) (i : Nat) (S : R3 ν), Grows S.T (rgo A i S).T
  | [], i, S => Grows.refl _
  | a :: r, i, S => (rstep_grows S i a).trans (rgo_grows r (i + 1) _)
theorem rgo_kept : ∀ (A : List (Arc ν)) (i : Nat) (S : R3 ν) (a : Arc ν) (x : Int), a ∈ A → lk S.T a.1 = some x → ∃ y, lk (rgo A i S).T a.2.1 = some y ∧ x + a.2.2 ≤ y
  | b :: r, i, S, a, x, m, h => by
    rcases List.mem_cons.mp m with rfl | m
    · obtain ⟨y, h1, h2⟩ := rstep_kept S i a h
      obtain ⟨z, h3, h4⟩ := rgo_grows r (i + 1) (rstep S i a) _ y h1
      exact ⟨z, h3, by omega⟩
    · obtain ⟨x', h1, h2⟩ := rstep_grows S i b _ x h
      obtain ⟨z, h3, h4⟩ := rgo_kept r (i + 1) (rstep S i b) a x' m h1
      exact ⟨z, h3, by omega⟩
/-- all totals are totals of walks from somewhere in T0 -/
def Sound (A : List (Arc ν)) (T0 T : List (ν × Int)) : Prop := ∀ v y, lk T v = some y → ∃ u x n t, lk T0 u = some x ∧ Wk A u v n t ∧ y = x + t
theorem Sound.refl {A : List (Arc ν)} (T0 : List (ν × Int)) : Sound A T0 T0 := fun v y h => ⟨v, y, 0, 0, h, .zero v, by omega⟩
theorem rstep_sound {A : List (Arc ν)} {T0 : List (ν × Int)} {S : R3 ν} {i : Nat} {a : Arc ν} (m : a ∈ A) (s : Sound A T0 S.T) : Sound A T0 (rstep S i a).T := by
  unfold rstep
  split
  · rename_i h
    intro v y hv
    by_cases e : v = a.2.1
    · subst e
      have hv : lk (pt S.T a.2.1 ((lk S.T a.1).getD 0 + a.2.2)) a.2.1 = some y := hv
      rw [lk_pt_same] at hv
      unfold asks at h
      cases hx : lk S.T a.1 with
      | none => rw [hx] at h; cases h
      | some z =>
        rw [hx] at hv
        obtain ⟨u, x, n, t, h1, h2, rfl⟩ := s _ _ hx
        refine ⟨u, x, n + 1, t + a.2.2, h1, h2.trans (Wk.arc m), ?_⟩
        have e : (x + t) + a.2.2 = y := Option.some.inj hv
        omega
    · have hv : lk (pt S.T a.2.1 ((lk S.T a.1).getD 0 + a.2.2)) v = some y := hv
      rw [lk_pt_ne e] at hv
      exact s v y hv
  · exact s
theorem rgo_sound {A : List (Arc ν)} {T0 : List (ν × Int)} : ∀ (B : List (Arc ν)) (i : Nat) (S : R3 ν), (∀ b ∈ B, b ∈ A) → Sound A T0 S.T → Sound A T0 (rgo B i S).T
  | [], i, S, _, s => s
  | b :: r, i, S, m, s => rgo_sound r (i + 1) _ (fun c hc => m c (List.mem_cons_of_mem _ hc)) (rstep_sound (m b List.mem_cons_self) s)
theorem rstep_R (S : R3 ν) (i : Nat) (a : Arc ν) : ∃ more, (rstep S i a).R = S.R ++ more := by
  unfold rstep
  split
  · exact ⟨[a.2.1], rfl⟩
  · exact ⟨[], (List.append_nil _).symm⟩
theorem rgo_R : ∀ (A : List (Arc ν)) (i : Nat) (S : R3 ν), ∃ more, (rgo A i S).R = S.R ++ more
  | [], i, S => ⟨[], (List.append_nil _).symm⟩
  | a :: r, i, S => by
    obtain ⟨m1, e1⟩ := rstep_R S i a
    obtain ⟨m2, e2⟩ := rgo_R r (i + 1) (rstep S i a)
    exact ⟨m1 ++ m2, by show (rgo r (i + 1) (rstep S i a)).R = _; rw [e2, e1, List.append_assoc]⟩
/-- closed: no arc asks for more -/
def Closed (A : List (Arc ν)) (T : List (ν × Int)) : Prop := ∀ a ∈ A, ∀ x, lk T a.1 = some x → ∃ y, lk T a.2.1 = some y ∧ x + a.2.2 ≤ y
/-- where nothing was raised nothing has changed, and nothing is asked for -/
theorem rgo_none : ∀ (A : List (Arc ν)) (i : Nat) (S : R3 ν), S.R = [] → (rgo A i S).R = [] → rgo A i S = S ∧ ∀ a ∈ A, asks S.T a = false
  | [], i, S, _, _ => ⟨rfl, fun a h => nomatch h⟩
  | a :: r, i, S, h0, h => by
    have h' : (rgo r (i + 1) (rstep S i a)).R = [] := h
    have n : ¬ asks S.T a = true := fun z => by
      obtain ⟨more, e⟩ := rgo_R r (i + 1) (rstep S i a)
      have e2 : rstep S i a = raised S i a := if_pos z
      rw [e2] at e
      rw [e2, e] at h'
      have e3 : (raised S i a).R = S.R ++ [a.2.1] := rfl
      rw [e3] at h'
      simp at h'
    have e : rstep S i a = S := if_neg n
    rw [e] at h'
    obtain ⟨h1, h2⟩ := rgo_none r (i + 1) S h0 h'
    refine ⟨by show rgo r (i + 1) (rstep S i a) = S; rw [e]; exact h1, fun b hb => ?_⟩
    rcases List.mem_cons.mp hb with rfl | hb
    · exact Bool.eq_false_iff.mpr n
    · exact h2 b hb
theorem closed_of {A : List (Arc ν)} {T : List (ν × Int)} (h : ∀ a ∈ A, asks T a = false) : Closed A T := fun a m x hx => by
  have := h a m
  unfold asks at this
  rw [hx] at this
  cases hy : lk T a.2.1 with
  | none => simp only [hy] at this; cases this
  | some y =>
    simp only [hy] at this
    have := of_decide_eq_false this
    exact ⟨y, rfl, by omega⟩
theorem closed_none : ∀ (A : List (Arc ν)) (i : Nat) (S : R3 ν), Closed A S.T → rgo A i S = S
  | [], i, S, _ => rfl
  | a :: r, i, S, c => by
    have n : asks S.T a = false := by
      unfold asks
      cases hx : lk S.T a.1 with
      | none => rfl
      | some x =>
        obtain ⟨y, hy, le⟩ := c a List.mem_cons_self x hx
        simp only [hy]
        exact decide_eq_false (by omega)
    have e : rstep S i a = S := if_neg (by rw [n]; exact Bool.false_ne_true)
    show rgo r (i + 1) (rstep S i a) = S
    rw [e]
    exact closed_none r (i + 1) S fun b hb => c b (List.mem_cons_of_mem _ hb)
/-- all walks of at most k arcs from T0 are reached -/
def Reach (A : List (Arc ν)) (T0 T : List (ν × Int)) (k : Nat) : Prop := ∀ u x v n t, lk T0 u = some x → Wk A u v n t → n ≤ k → ∃ y, lk T v = some y ∧ x + t ≤ y
theorem Reach.zero {A : List (Arc ν)} (T0 : List (ν × Int)) : Reach A T0 T0 0 := fun u x v n t h w hn => by
  rcases w with ⟨_, rfl, rfl⟩ | ⟨is, e, _⟩
  · exact ⟨x, h, by omega⟩
  · omega
theorem Reach.round {A : List (Arc ν)} {T0 : List (ν × Int)} {k : Nat} {S : R3 ν} (r : Reach A T0 S.T k) : Reach A T0 (rgo A 0 S).T (k + 1) := fun u x v n t h w hn => by
  cases n with
  | zero =>
    obtain ⟨y, h1, h2⟩ := r u x v 0 t h w (Nat.zero_le _)
    obtain ⟨z, h3, h4⟩ := rgo_grows A 0 S v y h1
    exact ⟨z, h3, by omega⟩
  | succ n =>
    obtain ⟨b, g, s, h1, m, rfl⟩ := w.last
    obtain ⟨y, h2, h3⟩ := r u x b n s h h1 (by omega)
    obtain ⟨z, h4, h5⟩ := rgo_kept A 0 S (b, v, g) y m h2
    have h5 : y + g ≤ z := h5
    exact ⟨z, h4, by omega⟩
/-- what is sound and has reached all short walks is closed -/
theorem reach_closed {A : List (Arc ν)} (np : NoPos A) {vs : List ν} (hA : ∀ a b g, (a, b, g) ∈ A → a ∈ vs ∧ b ∈ vs) {T0 T : List (ν × Int)} (h0 : ∀ u x, lk T0 u = some x → u ∈ vs) (s : Sound A T0 T) {k : Nat} (hk : vs.length ≤ k + 1) (r : Reach A T0 T k) : Closed A T := fun ⟨b, c, gp⟩ m x hx => by
  show ∃ y, lk T c = some y ∧ x + gp ≤ y
  obtain ⟨u, x0, n, t, h1, h2, rfl⟩ := s _ _ hx
  have h3 := h2.trans (Wk.arc m)
  obtain ⟨n', t', l, w, le⟩ := np.short hA (h0 _ _ h1) h3
  obtain ⟨y, h4, h5⟩ := r u x0 _ n' t' h1 w (by omega)
  exact ⟨y, h4, by omega⟩
/-- closed totals are at least those of all walks -/
theorem Closed.wk {A : List (Arc ν)} {T : List (ν × Int)} (c : Closed A T) {u : ν} {x : Int} (hu : lk T u = some x) : ∀ {n : Nat} {v : ν} {t : Int}, Wk A u v n t → ∃ y, lk T v = some y ∧ x + t ≤ y
  | 0, v, t, h => by
    rcases h with ⟨_, rfl, rfl⟩ | ⟨is, e, _⟩
    · exact ⟨x, hu, by omega⟩
    · cases e
  | n + 1, v, t, h => by
    obtain ⟨b, g, s, h1, m, rfl⟩ := h.last
    obtain ⟨y, h2, h3⟩ := c.wk hu h1
    obtain ⟨z, h4, h5⟩ := c _ m y h2
    exact ⟨z, h4, by have h5 : y + g ≤ z := h5; omega⟩
/-- the greatest total of a walk from u to v -/
def Most (A : List (Arc ν)) (u v : ν) (o : Option Int) : Prop := match o with
  | none => ∀ n t, ¬ Wk A u v n t
  | some x => (∃ n, Wk A u v n x) ∧ ∀ n t, Wk A u v n t → t ≤ x
theorem Most.one {A : List (Arc ν)} {u v : ν} {o o' : Option Int} (h : Most A u v o) (h' : Most A u v o') : o = o' := by
  cases o with
  | none =>
    cases o' with
    | none => rfl
    | some y =>
      obtain ⟨⟨n, w⟩, _⟩ := h'
      exact (h n y w).elim
  | some x =>
    obtain ⟨⟨n, w⟩, le⟩ := h
    cases o' with
    | none => exact (h' n x w).elim
    | some y =>
      obtain ⟨⟨m, w'⟩, le'⟩ := h'
      have := le m y w'
      have := le' n x w
      rw [show x = y by omega]
/-- from one start -/
theorem most_of {A : List (Arc ν)} {T : List (ν × Int)} {u : ν} (np : NoPos A) (s : Sound A [(u, 0)] T) (c : Closed A T) (g : Grows [(u, 0)] T) (v : ν) : Most A u v (lk T v) := by
  have hs : ∀ y, lk T v = some y → ∃ n, Wk A u v n y := fun y h => by
    obtain ⟨u', x, n, t, h1, h2, rfl⟩ := s _ _ h
    rw [lk_cons] at h1
    by_cases e : u = u'
    · rw [if_pos e] at h1
      cases h1
      subst e
      exact ⟨n, by simpa using h2⟩
    · rw [if_neg e] at h1
      cases h1
  obtain ⟨z, hz, hz0⟩ := g u 0 (by rw [lk_cons, if_pos rfl])
  have hall : ∀ n t, Wk A u v n t → ∃ y, lk T v = some y ∧ t ≤ y := fun n t w => by
    obtain ⟨y, h1, h2⟩ := c.wk hz w
    exact ⟨y, h1, by omega⟩
  cases e : lk T v with
  | none =>
    intro n t w
    obtain ⟨y, h1, _⟩ := hall n t w
    rw [e] at h1
    cases h1
  | some x =>
    refine ⟨hs x e, fun n t w => ?_⟩
    obtain ⟨y, h1, h2⟩ := hall n t w
    rw [e] at h1
    cases h1
    exact h2

/-! ### totals raised from 0 -/
def itr (A : List (Arc ν)) (ns : List ν) : Nat → R3 ν
  | 0 => ⟨ns.map fun x => (x, 0), [], ns⟩
  | k + 1 => rgo A 0 ⟨(itr A ns k).T, (itr A ns k).L, []⟩
theorem lk_zero {v : ν} {x : Int} : ∀ {ns : List ν}, lk (ns.map fun x => (x, (0 : Int))) v = some x → v ∈ ns ∧ x = 0
  | [], h => by cases h
  | a :: r, h => by
    rw [List.map_cons, lk_cons] at h
    by_cases e : a = v
    · rw [if_pos e] at h
      cases h
      exact ⟨by rw [e]; exact List.mem_cons_self, rfl⟩
    · rw [if_neg e] at h
      obtain ⟨h1, h2⟩ := lk_zero h
      exact ⟨List.mem_cons_of_mem _ h1, h2⟩
theorem lk_zero_of {v : ν} : ∀ {ns : List ν}, v ∈ ns → lk (ns.map fun x => (x, (0 : Int))) v = some 0
  | a :: r, h => by
    rw [List.map_cons, lk_cons]
    by_cases e : a = v
    · rw [if_pos e]
    · rw [if_neg e]
      exact lk_zero_of (by
        rcases List.mem_cons.mp h with z | z
        · exact (e z.symm).elim
        · exact z)
theorem itr_sound (A : List (Arc ν)) (ns : List ν) : ∀ k, Sound A (itr A ns 0).T (itr A ns k).T
  | 0 => Sound.refl _
  | k + 1 => rgo_sound A 0 ⟨(itr A ns k).T, (itr A ns k).L, []⟩ (fun _ h => h) (itr_sound A ns k)
theorem itr_reach (A : List (Arc ν)) (ns : List ν) : ∀ k, Reach A (itr A ns 0).T (itr A ns k).T k
  | 0 => Reach.zero _
  | k + 1 => Reach.round (S := ⟨(itr A ns k).T, (itr A ns k).L, []⟩) (itr_reach A ns k)
theorem itr_none {A : List (Arc ν)} {ns : List ν} (np : NoPos A) (hA : ∀ a b g, (a, b, g) ∈ A → a ∈ ns ∧ b ∈ ns) (h0 : 0 < ns.length) : (itr A ns ns.length).R = [] := by
  obtain ⟨k, hk⟩ : ∃ k, ns.length = k + 1 := ⟨ns.length - 1, by omega⟩
  rw [hk]
  have c : Closed A (itr A ns k).T := reach_closed np hA (fun u x h => (lk_zero h).1) (itr_sound A ns k) (k := k) (by omega) (itr_reach A ns k)
  show (rgo A 0 ⟨(itr A ns k).T, (itr A ns k).L, []⟩).R = []
  rw [closed_none A 0 ⟨(itr A ns k).T, (itr A ns k).L, []⟩ c]
theorem itr_lens (A : List (Arc ν)) (ns : List ν) {z : Nat} (hz : A.length ≤ z) (h : ∀ (i : Nat) (S : R3 ν), (rgo A i S).T.length ≤ S.T.length + A.length ∧ (rgo A i S).L.length ≤ S.L.length + A.length ∧ (rgo A i S).R.length ≤ S.R.length + A.length) : ∀ k, (itr A ns k).T.length ≤ ns.length + z * k ∧ (itr A ns k).L.length ≤ z * k
  | 0 => by
    show (ns.map fun x => (x, (0 : Int))).length ≤ _ ∧ ([] : List (ν × Nat)).length ≤ _
    rw [List.length_map]
    exact ⟨Nat.le_refl _, Nat.zero_le _⟩
  | k + 1 => by
    obtain ⟨h1, h2⟩ := itr_lens A ns hz h k
    obtain ⟨h3, h4, _⟩ := h 0 ⟨(itr A ns k).T, (itr A ns k).L, []⟩
    have h3 : (itr A ns (k + 1)).T.length ≤ (itr A ns k).T.length + A.length := h3
    have h4 : (itr A ns (k + 1)).L.length ≤ (itr A ns k).L.length + A.length := h4
    rw [Nat.mul_succ]
    omega
theorem pt_fresh {v : ν} {x : Int} {L : List (ν × Int)} (h : v ∉ L.map (·.1)) : pt L v x = L ++ [(v, x)] := by
  unfold pt
  rw [if_neg]
  intro z
  obtain ⟨p, hp, e⟩ := List.any_eq_true.mp z
  exact h (List.mem_map.mpr ⟨p, hp, of_decide_eq_true e⟩)
theorem pt_zero {ns : List ν} (nd : ns.Nodup) {i : Nat} (hi : i < ns.length) : pt ((ns.take i).map fun x => (x, (0 : Int))) ns[i] 0 = (ns.take (i + 1)).map fun x => (x, (0 : Int)) := by
  rw [pt_fresh, List.take_add_one, List.getElem?_eq_getElem hi, List.map_append]
  · rfl
  · rw [List.map_map]
    show ns[i] ∉ (ns.take i).map id
    rw [List.map_id]
    intro z
    have e : ns.take i ++ ns.drop i = ns := List.take_append_drop i ns
    have nd2 : (ns.take i ++ ns.drop i).Nodup := by rw [e]; exact nd
    have m2 : ns[i] ∈ ns.drop i := by
      rw [List.drop_eq_getElem_cons hi]
      exact List.mem_cons_self
    exact (List.nodup_append.mp nd2).2.2 _ z _ m2 rfl

/-! ### all pairs -/
/-- what all pairs hold is a walk's total -/
def SoundF (A : List (Arc ν)) (F : List ((ν × ν) × Int)) : Prop := ∀ a b x, lk F (a, b) = some x → ∃ n, Wk A a b n x
/-- at least all walks whose inner nodes lie in M -/
def ComplF (A : List (Arc ν)) (M : ν → Prop) (F : List ((ν × ν) × Int)) : Prop := ∀ a b is t, (∀ i ∈ is, M i) → Wn A (a :: (is ++ [b])) t → ∃ x, lk F (a, b) = some x ∧ t ≤ x
theorem first_of {m : ν} : ∀ {l : List ν}, m ∈ l → ∃ xs ys, l = xs ++ m :: ys ∧ m ∉ xs
  | b :: r, h => by
    by_cases e : b = m
    · exact ⟨[], r, by rw [e]; rfl, fun z => nomatch z⟩
    · obtain ⟨xs, ys, h1, h2⟩ := first_of (l := r) (by
        rcases List.mem_cons.mp h with z | z
        · exact (e z.symm).elim
        · exact z)
      exact ⟨b :: xs, ys, by rw [h1]; rfl, fun z => by
        rcases List.mem_cons.mp z with z | z
        · exact e z.symm
        · exact h2 z⟩
theorem compl_from {A : List (Arc ν)} {M : ν → Prop} {F : List ((ν × ν) × Int)} {m : ν} (c : ComplF A M F) (z : ∀ x, lk F (m, m) = some x → x ≤ 0) : ∀ (k : Nat) (ys : List ν) (b : ν) (t : Int), ys.length ≤ k → (∀ i ∈ ys, M i ∨ i = m) → Wn A (m :: (ys ++ [b])) t → ∃ x, lk F (m, b) = some x ∧ t ≤ x
  | k, ys, b, t, hk, hy, w => by
    by_cases e : m ∈ ys
    · obtain ⟨xs, zs, rfl, nx⟩ := first_of e
      rw [List.append_assoc, show m :: (xs ++ (m :: zs ++ [b])) = (m :: xs) ++ m :: (zs ++ [b]) by simp] at w
      obtain ⟨t1, t2, h1, h2, rfl⟩ := Wn.split w
      obtain ⟨x1, k1, le1⟩ := c m m xs t1 (fun i hi => by
        rcases hy i (List.mem_append_left _ hi) with q | q
        · exact q
        · exact (nx (q ▸ hi)).elim) h1
      have := z _ k1
      cases k with
      | zero =>
        rw [List.length_append, List.length_cons] at hk
        omega
      | succ k =>
        obtain ⟨x, k2, le2⟩ := compl_from c z k zs b t2 (by
          rw [List.length_append, List.length_cons] at hk
          omega) (fun i hi => hy i (by simp [hi])) h2
        exact ⟨x, k2, by omega⟩
    · exact c m b ys t (fun i hi => by
        rcases hy i hi with q | q
        · exact q
        · exact (e (q ▸ hi)).elim) w
/-- one more middle -/
theorem compl_mid {A : List (Arc ν)} {M : ν → Prop} {F F' : List ((ν × ν) × Int)} {m : ν} (c : ComplF A M F) (z : ∀ x, lk F (m, m) = some x → x ≤ 0) (g : Grows F F')
    (h : ∀ a b x y, lk F (a, m) = some x → lk F (m, b) = some y → ∃ v, lk F' (a, b) = some v ∧ x + y ≤ v) : ComplF A (fun i => M i ∨ i = m) F' := fun a b is t hi w => by
  by_cases e : m ∈ is
  · obtain ⟨xs, ys, rfl, nx⟩ := first_of e
    rw [List.append_assoc, show a :: (xs ++ (m :: ys ++ [b])) = (a :: xs) ++ m :: (ys ++ [b]) by simp] at w
    obtain ⟨t1, t2, h1, h2, rfl⟩ := Wn.split w
    obtain ⟨x, k1, le1⟩ := c a m xs t1 (fun i q => by
      rcases hi i (List.mem_append_left _ q) with p | p
      · exact p
      · exact (nx (p ▸ q)).elim) h1
    obtain ⟨y, k2, le2⟩ := compl_from c z ys.length ys b t2 (Nat.le_refl _) (fun i q => hi i (by simp [q])) h2
    obtain ⟨v, k3, le3⟩ := h a b x y k1 k2
    exact ⟨v, k3, by omega⟩
  · obtain ⟨x, k1, le1⟩ := c a b is t (fun i q => by
      rcases hi i q with p | p
      · exact p
      · exact (e (p ▸ q)).elim) w
    obtain ⟨y, k2, le2⟩ := g _ _ k1
    exact ⟨y, k2, by omega⟩
/-- the whole table -/
theorem most_far {A : List (Arc ν)} {vs : List ν} (hA : ∀ a b g, (a, b, g) ∈ A → a ∈ vs ∧ b ∈ vs) {F : List ((ν × ν) × Int)} (np : NoPos A) (s : SoundF A F) (c : ComplF A (fun i => i ∈ vs) F) (d : ∀ v ∈ vs, ∃ x, lk F (v, v) = some x ∧ 0 ≤ x) {a b : ν} (ha : a ∈ vs) : Most A a b (lk F (a, b)) := by
  have all : ∀ n t, Wk A a b n t → ∃ y, lk F (a, b) = some y ∧ t ≤ y := fun n t w => by
    rcases w with ⟨rfl, rfl, rfl⟩ | ⟨is, rfl, w⟩
    · exact d a ha
    · exact c a b is t (fun i hi => Wn.nodes hA w (fun u e => by
        cases e
        exact ha) i (by simp [hi])) w
  cases e : lk F (a, b) with
  | none =>
    intro n t w
    obtain ⟨y, h1, _⟩ := all n t w
    rw [e] at h1
    cases h1
  | some x =>
    refine ⟨s a b x e, fun n t w => ?_⟩
    obtain ⟨y, h1, h2⟩ := all n t w
    rw [e] at h1
    cases h1
    exact h2
end
end Wnd

/-! Windowsteps: dicts whose keys are settings or the ground (None or a text), and dicts whose keys are tuples of a written form; what they hold, stores, questions. -/
namespace Wnd
open PySem PySem.Spec PyProof.Rows L2

abbrev Node := Option Str
def nk : Node → Option Key := Option.map Sum.inr
theorem nk_inj : ∀ {a b : Node}, nk a = nk b → a = b
  | none, none, _ => rfl
  | none, some _, h => nomatch h
  | some _, none, h => nomatch h
  | some x, some y, h => by
    injection h with h
    injection h with h
    rw [h]
theorem nk_is {P : Program} {w : World} {a : Node} {u : Value} (r : RelV (endV a) u) : (noneKind P w).is (nk a) u = true := by
  cases a with
  | none =>
    cases r
    rfl
  | some x =>
    obtain ⟨t, rfl⟩ := r
    exact keyIs_str x t
theorem nk_dec (a b : Node) : decide (nk a = nk b) = decide (a = b) := by
  by_cases e : a = b
  · rw [e, decide_eq_true rfl, decide_eq_true rfl]
  · rw [decide_eq_false e, decide_eq_false fun z => e (nk_inj z)]
def nkL (L : List (Node × V)) : List (Option Key × V) := L.map fun p => (nk p.1, p.2)
theorem nkL_get (k : Node) : ∀ L : List (Node × V), valV (nkL L) (nk k) = lk L k
  | [] => rfl
  | p :: r => by
    have ih := nkL_get k r
    rw [lk_cons]
    by_cases e : p.1 = k
    · rw [if_pos e]
      exact valV_pos (p := (nk p.1, p.2)) (congrArg nk e)
    · rw [if_neg e, ← ih]
      exact valV_neg (p := (nk p.1, p.2)) fun z => e (nk_inj z)
theorem nkL_put (k : Node) (v : V) (L : List (Node × V)) : putK (nkL L) (nk k) v = nkL (pt L k v) := by
  unfold putK pt
  have e : ((nkL L).any fun kv => decide (kv.1 = nk k)) = L.any fun p => decide (p.1 = k) := by
    unfold nkL
    rw [List.any_map]
    congr 1
    funext p
    exact nk_dec p.1 k
  rw [e]
  split
  · unfold nkL
    rw [List.map_map, List.map_map]
    refine List.map_congr_left fun p _ => ?_
    show (if nk p.1 = nk k then (nk p.1, v) else (nk p.1, p.2)) = (fun p : Node × V => (nk p.1, p.2)) (if p.1 = k then (p.1, v) else p)
    by_cases h : p.1 = k
    · rw [if_pos h, if_pos (congrArg nk h)]
    · rw [if_neg h, if_neg fun z => h (nk_inj z)]
  · unfold nkL
    rw [List.map_append]
    rfl
structure NdAt (P : Program) (w : World) (h : Heap) (d : Addr) (L : List (Node × V)) : Prop where
  lo : (d == sysModules) = false
  sz : L.length ≤ sizeLine
  raw : ∃ vs : List (Option Key × Value), KV (nkL L) vs ∧ h.DictOf (noneKind P w) d vs
/-- a dict of settings and the ground -/
def ndO (P : Program) (w : World) (d : Addr) (L : List (Node × V)) : HO := .ext fun h => NdAt P w h d L

/-! ### tuples of one form as keys -/
structure TK (κ : Type) where
  kk : κ → NestedKey
  kv : κ → List V
  inj : ∀ a b, kk a = kk b → a = b
  is : ∀ {P : Program} {w : World} {H : Hp} {h : Heap} {q : Addr} {k : κ}, HOk P w H h → H q = some (.tup (kv k)) → (nestedKind P w).is h (kk k) q
def ruleT : TK Rule where
  kk := ruleK
  kv := ruleV
  inj := fun _ _ e => ruleK_inj e
  is := fun ok e => rule_is ok e
def pairK (p : Node × Node) : NestedKey := .tup [endK p.1, endK p.2]
def pairV (p : Node × Node) : List V := [endV p.1, endV p.2]
def pairT : TK (Node × Node) where
  kk := pairK
  kv := pairV
  inj := fun a b e => by
    unfold pairK at e
    injection e with e
    injection e with e1 e
    injection e with e2 e
    exact Prod.ext (endK_inj e1) (endK_inj e2)
  is := fun {P w H h q k} ok e => by
    obtain ⟨_, its, rel, o, h1, h2, n, h3⟩ := (show ObjOk P w H h q (.tup (pairV k)) from ok q _ e)
    refine ⟨?_, by simp [pairK, NestedKey.depth, NestedKey.depthAll, endK_depth]⟩
    refine NestedIs.tup h1 h2 h3 ?_
    rw [List.toList_toArray]
    cases rel with
    | cons r1 t1 =>
      cases t1 with
      | cons r2 t2 =>
        cases t2
        exact .cons (endK_is r1) (.cons (endK_is r2) .nil)
section
variable {κ : Type} [DecidableEq κ]
abbrev TKs (τ : TK κ) : List (κ × Addr × V) → List (NestedKey × Addr × Value) → Prop := Paired fun p q => τ.kk p.1 = q.1 ∧ p.2.1 = q.2.1 ∧ RelV p.2.2 q.2.2
structure TdAt (τ : TK κ) (P : Program) (w : World) (h : Heap) (d : Addr) (L : List (κ × Addr × V)) : Prop where
  lo : (d == sysModules) = false
  sz : L.length ≤ sizeLine
  raw : ∃ xs, TKs τ L xs ∧ ∃ o es ep, h.get? d = some o ∧ o.ExactDict ∧ o.data = .dict es ep ∧ es.toList = xs.map (entryOfKey (nestedKind P w))
  nd : (L.map (·.1)).Nodup
/-- a dict whose keys are such tuples -/
def tdO (τ : TK κ) (P : Program) (w : World) (d : Addr) (L : List (κ × Addr × V)) : HO := .ext fun h => TdAt τ P w h d L
/-- the keys' own tuples -/
def KeysT (τ : TK κ) (H : Hp) (L : List (κ × Addr × V)) : Prop := ∀ p ∈ L, H p.2.1 = some (.tup (τ.kv p.1))
theorem KeysT.same {τ : TK κ} {H H' : Hp} {L : List (κ × Addr × V)} (k : KeysT τ H L) (s : ∀ b xs, H b = some (.tup xs) → H' b = some (.tup xs)) : KeysT τ H' L := fun p hp => s _ _ (k p hp)
/-- a store: the first key's tuple stays -/
def ptT {β : Type} (L : List (κ × Addr × β)) (k : κ) (q : Addr) (v : β) : List (κ × Addr × β) :=
  if (L.any fun p => decide (p.1 = k)) = true then L.map (fun p => if p.1 = k then (p.1, p.2.1, v) else p) else L ++ [(k, q, v)]
/-- keys and values alone -/
def bare {β : Type} (L : List (κ × Addr × β)) : List (κ × β) := L.map fun p => (p.1, p.2.2)
theorem bare_ptT {β : Type} (L : List (κ × Addr × β)) (k : κ) (q : Addr) (v : β) : bare (ptT L k q v) = pt (bare L) k v := by
  unfold ptT pt bare
  have e : ((L.map fun p => (p.1, p.2.2)).any fun p => decide (p.1 = k)) = L.any fun p => decide (p.1 = k) := by
    rw [List.any_map]
    rfl
  rw [e]
  split
  · rw [List.map_map, List.map_map]
    refine List.map_congr_left fun p _ => ?_
    show (fun p : κ × Addr × β => (p.1, p.2.2)) (if p.1 = k then (p.1, p.2.1, v) else p) = if p.1 = k then (p.1, v) else (p.1, p.2.2)
    by_cases h : p.1 = k
    · rw [if_pos h, if_pos h]
    · rw [if_neg h, if_neg h]
  · rw [List.map_append]
    rfl
theorem KeysT.put {τ : TK κ} {H : Hp} {L : List (κ × Addr × V)} {k : κ} {q : Addr} {v : V} (kt : KeysT τ H L) (hq : H q = some (.tup (τ.kv k))) : KeysT τ H (ptT L k q v) := by
  unfold ptT
  split
  · intro p hp
    obtain ⟨y, hy, rfl⟩ := List.mem_map.mp hp
    by_cases e : y.1 = k
    · rw [if_pos e]
      exact kt y hy
    · rw [if_neg e]
      exact kt y hy
  · intro p hp
    rcases List.mem_append.mp hp with hp | hp
    · exact kt p hp
    · rw [List.mem_singleton.mp hp]
      exact hq
theorem ptT_len {β : Type} {L : List (κ × Addr × β)} {k : κ} {q : Addr} {v : β} : (ptT L k q v).length ≤ L.length + 1 := by
  unfold ptT
  split
  · rw [List.length_map]
    omega
  · rw [List.length_append, List.length_singleton]
    omega
theorem ptT_nodup {β : Type} {L : List (κ × Addr × β)} {k : κ} {q : Addr} {v : β} (nd : (L.map (·.1)).Nodup) : ((ptT L k q v).map (·.1)).Nodup := by
  unfold ptT
  split
  · rw [List.map_map]
    rw [show ((fun x : κ × Addr × β => x.1) ∘ fun p : κ × Addr × β => if p.1 = k then (p.1, p.2.1, v) else p) = fun p : κ × Addr × β => p.1 from by
      funext p
      show (if p.1 = k then (p.1, p.2.1, v) else p).1 = p.1
      split <;> rfl]
    exact nd
  · rename_i e
    rw [List.map_append]
    refine List.nodup_append.mpr ⟨nd, by simp, fun a ha b hb => ?_⟩
    have hb' : b = k := by simpa using hb
    subst hb'
    intro z
    subst z
    obtain ⟨p, hp, hp2⟩ := List.mem_map.mp ha
    exact e (List.any_eq_true.mpr ⟨p, hp, decide_eq_true hp2⟩)
section
variable {P : Program} {w : World} {H : Hp} {h : Heap} {d : Addr} {τ : TK κ} {L : List (κ × Addr × V)}
theorem tdO_ok (R : TdAt τ P w h d L) : ObjOk P w H h d (tdO τ P w d L) := by
  refine ⟨R, ?_, fun h1 h2 R1 k => ?_⟩
  · obtain ⟨xs, _, o, _, _, e, _⟩ := R.raw
    exact ⟨o, e⟩
  · obtain ⟨xs, r, o, es, ep, e, c⟩ := R1.raw
    exact ⟨R1.lo, R1.sz, ⟨xs, r, o, es, ep, k o e, c⟩, R1.nd⟩
theorem td_at (ok : HOk P w H h) (e : H d = some (tdO τ P w d L)) : TdAt τ P w h d L := (ok d _ e).1
theorem tks_keys {xs : List (NestedKey × Addr × Value)} (r : TKs τ L xs) : xs.map (·.1) = L.map fun p => τ.kk p.1 := by
  induction r with
  | nil => rfl
  | cons hd tl ih => rw [List.map_cons, List.map_cons, ih, hd.1]
theorem TdAt.full (ok : HOk P w H h) (R : TdAt τ P w h d L) (k : KeysT τ H L) : ∃ xs, TKs τ L xs ∧ h.DictOfH (nestedKind P w) d xs := by
  obtain ⟨xs, r, o, es, ep, e, x, dd, en⟩ := R.raw
  refine ⟨xs, r, o, es, ep, e, x, dd, en, ?_, ?_⟩
  · clear en
    have nd := R.nd
    clear R e x dd
    induction r with
    | nil => intro y hy; exact nomatch hy
    | @cons p q ps qs hd tl ih =>
      intro y hy
      rcases List.mem_cons.mp hy with rfl | hy
      · rw [← hd.1, ← hd.2.1]
        exact τ.is ok (k _ List.mem_cons_self)
      · exact ih (fun z hz => k z (List.mem_cons_of_mem _ hz)) (List.nodup_cons.mp nd).2 y hy
  · rw [tks_keys r, show (fun p : κ × Addr × V => τ.kk p.1) = τ.kk ∘ (fun p : κ × Addr × V => p.1) from rfl, ← List.map_map]
    exact List.Pairwise.map τ.kk (fun a b hab z => hab (τ.inj a b z)) R.nd
theorem tks_get {xs : List (NestedKey × Addr × Value)} (r : TKs τ L xs) (k : κ) : RelO (lk (bare L) k) ((atKey xs (τ.kk k)).map (·.2)) := by
  induction r with
  | nil => exact True.intro
  | @cons p q ps qs hd tl ih =>
    obtain ⟨h1, _, h2⟩ := hd
    show RelO (lk ((p.1, p.2.2) :: bare ps) k) _
    rw [lk_cons]
    by_cases e : p.1 = k
    · rw [if_pos e]
      have e' : q.1 = τ.kk k := by rw [← h1, e]
      have b : atKey (q :: qs) (τ.kk k) = some q.2 := by simp [atKey, List.find?_cons, e']
      rw [b]
      exact h2
    · rw [if_neg e]
      have e' : ¬ q.1 = τ.kk k := fun z => e (τ.inj _ _ (h1.trans z))
      have b : atKey (q :: qs) (τ.kk k) = atKey qs (τ.kk k) := by simp [atKey, List.find?_cons, e']
      rw [b]
      exact ih
theorem tks_put {xs : List (NestedKey × Addr × Value)} (r : TKs τ L xs) (k : κ) {q : Addr} {v : V} {u : Value} (rv : RelV v u) : TKs τ (ptT L k q v) (storedH xs (τ.kk k) q u) := by
  have e : (L.any fun p => decide (p.1 = k)) = (atKey xs (τ.kk k)).isSome := by
    have z := (tks_get r k).isSome_eq
    rw [Option.isSome_map] at z
    rw [← z, ← lk_any, show bare L = L.map fun p => (p.1, p.2.2) from rfl, List.any_map]
    rfl
  unfold ptT storedH
  rw [e]
  split
  · rename_i hh
    clear e hh
    induction r with
    | nil => exact .nil
    | @cons p y ps ys hd tl ih =>
      obtain ⟨h1, h2, h3⟩ := hd
      refine .cons ?_ ih
      unfold putAt
      dsimp only
      by_cases c : p.1 = k
      · rw [if_pos c, if_pos (show y.1 = τ.kk k by rw [← h1, c])]
        exact ⟨h1, h2, rv⟩
      · rw [if_neg c, if_neg fun z => c (τ.inj _ _ (h1.trans z))]
        exact ⟨h1, h2, h3⟩
  · exact Paired.snoc r ⟨rfl, rfl, rv⟩
end
section
variable {P : Program} {w : World} {H : Hp} {h : Heap} {d : Addr} {L : List (Node × V)}
theorem ndO_ok (R : NdAt P w h d L) : ObjOk P w H h d (ndO P w d L) := by
  refine ⟨R, ?_, fun h1 h2 R1 k => ?_⟩
  · obtain ⟨vs, _, o, _, _, e, _⟩ := R.raw
    exact ⟨o, e⟩
  · obtain ⟨vs, r, o, es, ep, e, c⟩ := R1.raw
    exact ⟨R1.lo, R1.sz, ⟨vs, r, o, es, ep, k o e, c⟩⟩
theorem nd_at (ok : HOk P w H h) (e : H d = some (ndO P w d L)) : NdAt P w h d L := (ok d _ e).1
theorem NdAt.get {vs : List (Option Key × Value)} (r : KV (nkL L) vs) (k : Node) : RelO (lk L k) (valueAt vs (nk k)) := by
  rw [← nkL_get]
  exact r.val (nk k)
end
end

/-! ### what such a dict holds, what it holds behind a store -/
def NGet (P : Program) (w : World) (H : Hp) (a : Addr) (y : V) (o : Option V) : Prop :=
  (∃ L k, H a = some (ndO P w a L) ∧ y = endV k ∧ o = lk L k) ∨ ∃ (κ : Type) (_ : DecidableEq κ) (τ : TK κ) (L : List (κ × Addr × V)) (k : κ) (b : Addr), H a = some (tdO τ P w a L) ∧ KeysT τ H L ∧ y = .ref b ∧ H b = some (.tup (τ.kv k)) ∧ o = lk (bare L) k
def NPut (P : Program) (w : World) (H : Hp) (a : Addr) (y v : V) (H' : Hp) : Prop :=
  (∃ L k, H a = some (ndO P w a L) ∧ y = endV k ∧ L.length < sizeLine ∧ H' = upd H a (ndO P w a (pt L k v))) ∨
  ∃ (κ : Type) (_ : DecidableEq κ) (τ : TK κ) (L : List (κ × Addr × V)) (k : κ) (b : Addr), H a = some (tdO τ P w a L) ∧ KeysT τ H L ∧ y = .ref b ∧ H b = some (.tup (τ.kv k)) ∧ L.length < sizeLine ∧ H' = upd H a (tdO τ P w a (ptT L k b v))
theorem NGet.n {P : Program} {w : World} {H : Hp} {a : Addr} {L : List (Node × V)} {k : Node} (e : H a = some (ndO P w a L)) : NGet P w H a (endV k) (lk L k) := .inl ⟨L, k, e, rfl, rfl⟩
theorem NGet.t {κ : Type} [i : DecidableEq κ] {P : Program} {w : World} {H : Hp} {a b : Addr} {τ : TK κ} {L : List (κ × Addr × V)} {k : κ} (e : H a = some (tdO τ P w a L)) (kt : KeysT τ H L) (hb : H b = some (.tup (τ.kv k))) : NGet P w H a (.ref b) (lk (bare L) k) :=
  .inr ⟨κ, i, τ, L, k, b, e, kt, rfl, hb, rfl⟩
theorem NPut.n {P : Program} {w : World} {H : Hp} {a : Addr} {L : List (Node × V)} {k : Node} {v : V} (e : H a = some (ndO P w a L)) (hl : L.length < sizeLine) : NPut P w H a (endV k) v (upd H a (ndO P w a (pt L k v))) := .inl ⟨L, k, e, rfl, hl, rfl⟩
theorem NPut.t {κ : Type} [i : DecidableEq κ] {P : Program} {w : World} {H : Hp} {a b : Addr} {τ : TK κ} {L : List (κ × Addr × V)} {k : κ} {v : V} (e : H a = some (tdO τ P w a L)) (kt : KeysT τ H L) (hb : H b = some (.tup (τ.kv k))) (hl : L.length < sizeLine) : NPut P w H a (.ref b) v (upd H a (tdO τ P w a (ptT L k b v))) :=
  .inr ⟨κ, i, τ, L, k, b, e, kt, rfl, hb, hl, rfl⟩
theorem nested_in1 {P : Program} {w : World} {A : Around} (hu : A.units + 9 < cLine) : (nestedKind P w).room A.in1 := by
  show A.in1.units + 8 < cLine
  have : A.in1.units ≤ A.units + 1 := by first | exact Nat.le_refl _ | (unfold Around.in1; simp) | decide
  omega
section
variable {X : Cx} {pins : List (Addr × Obj)} {σ : L2.St} {H : Hp} {s : Shared} {a : Addr} {y v : V} {u r : Value} {o : Option V} {A : Around} {E : Value → Shared → Prop}
theorem n_get {Q : Value → Shared → Prop} (hu : A.units + 9 < cLine) (I : Inv X pins σ H s) (g : NGet X.prog X.w H a y (some v)) (ry : RelV y u) (h : ∀ w' s', Inv X pins σ H s' → RelV v w' → Q w' s') :
    wpAny (model X.prog X.w) A (getItem (.ref a) u) Q E s := by
  rcases g with ⟨L, k, e, ey, l⟩ | ⟨κ, _, τ, L, k, b, e, kt, ey, eb, l⟩
  · subst ey
    have R := nd_at I.hok e
    obtain ⟨vs, rel, dd⟩ := R.raw
    obtain ⟨w', hw, rw'⟩ := RelO.some_of (v := v) (o := valueAt vs (nk k)) (by rw [l]; exact NdAt.get rel k)
    exact wpAny_getItem_of (nk_is ry) dd.mapOf hw (h w' _ (I.tok _) rw')
  · subst ey
    cases (show u = Value.ref b from ry)
    have R := td_at I.hok e
    obtain ⟨xs, rel, dd⟩ := R.full I.hok kt
    obtain ⟨w', hw, rw'⟩ := RelO.some_of (v := v) (o := (atKey xs (τ.kk k)).map (·.2)) (by rw [l]; exact tks_get rel k)
    obtain ⟨p, hp, hp2⟩ := Option.map_eq_some_iff.mp hw
    refine wpAny_getItem_heap (nested_in1 hu) (τ.is I.hok eb) dd hp ?_
    rw [hp2]
    exact h w' _ (I.tok _) rw'
theorem n_in {Q : Value → Shared → Prop} (hu : A.units + 9 < cLine) (I : Inv X pins σ H s) (g : NGet X.prog X.w H a y o) (ry : RelV y u) (h : ∀ s', Inv X pins σ H s' → Q (.bool o.isSome) s') :
    wpAny (model X.prog X.w) A (compareOp .In u (.ref a)) Q E s := by
  rcases g with ⟨L, k, e, ey, l⟩ | ⟨κ, _, τ, L, k, b, e, kt, ey, eb, l⟩
  · subst ey
    have R := nd_at I.hok e
    obtain ⟨vs, rel, dd⟩ := R.raw
    refine wpAny_in_of (nk_is ry) R.lo dd.mapOf ?_
    rw [← (NdAt.get rel k).isSome_eq, ← l]
    exact h _ (I.tok _)
  · subst ey
    cases (show u = Value.ref b from ry)
    have R := td_at I.hok e
    obtain ⟨xs, rel, dd⟩ := R.full I.hok kt
    refine wpAny_in_heap (nested_in1 hu) (τ.is I.hok eb) R.lo dd ?_
    have q := (tks_get rel k).isSome_eq
    rw [Option.isSome_map] at q
    rw [← q, ← l]
    exact h _ (I.tok _)
theorem n_notIn {Q : Value → Shared → Prop} (hu : A.units + 9 < cLine) (I : Inv X pins σ H s) (g : NGet X.prog X.w H a y o) (ry : RelV y u) (h : ∀ s', Inv X pins σ H s' → Q (.bool (!o.isSome)) s') :
    wpAny (model X.prog X.w) A (compareOp .NotIn u (.ref a)) Q E s := by
  rcases g with ⟨L, k, e, ey, l⟩ | ⟨κ, _, τ, L, k, b, e, kt, ey, eb, l⟩
  · subst ey
    have R := nd_at I.hok e
    obtain ⟨vs, rel, dd⟩ := R.raw
    refine wpAny_notIn_of (nk_is ry) R.lo dd.mapOf ?_
    rw [← (NdAt.get rel k).isSome_eq, ← l]
    exact h _ (I.tok _)
  · subst ey
    cases (show u = Value.ref b from ry)
    have R := td_at I.hok e
    obtain ⟨xs, rel, dd⟩ := R.full I.hok kt
    refine wpAny_notIn_heap (nested_in1 hu) (τ.is I.hok eb) R.lo dd ?_
    have q := (tks_get rel k).isSome_eq
    rw [Option.isSome_map] at q
    rw [← q, ← l]
    exact h _ (I.tok _)
theorem n_set {H' : Hp} {Q : Unit → Shared → Prop} (hu : A.units + 9 < cLine) (I : Inv X pins σ H s) (g : NPut X.prog X.w H a y v H') (ry : RelV y u) (rv : RelV v r) (h : ∀ s', Inv X pins σ H' s' → Q () s') :
    wpAny (model X.prog X.w) A (setItem (.ref a) u r) Q E s := by
  rcases g with ⟨L, k, e, ey, l, eH⟩ | ⟨κ, _, τ, L, k, b, e, kt, ey, eb, l, eH⟩
  · subst ey eH
    have R := nd_at I.hok e
    obtain ⟨vs, rel, dd⟩ := R.raw
    have hn : (nkL L).length = L.length := by unfold nkL; rw [List.length_map]
    have hz : vs.length ≤ sizeLine := by rw [← rel.length, hn]; exact R.sz
    refine wpAny_setItem_pairs (hsz := hz) (nk_is ry) dd fun h' dd' hs => h _ ?_
    have he : ∃ q, h'.get? a = some q := let ⟨q, _, _, hq, _⟩ := dd'; ⟨q, hq⟩
    refine d_write I (by rw [e]; exact True.intro) hs he (ndO_ok ⟨R.lo, Nat.le_trans pt_len l, _, ?_, dd'⟩)
    rw [← nkL_put]
    exact rel.put (nk k) rv
  · subst ey eH
    cases (show u = Value.ref b from ry)
    have R := td_at I.hok e
    obtain ⟨xs, rel, dd⟩ := R.full I.hok kt
    have hz : xs.length ≤ sizeLine := by rw [← Paired.length rel]; exact R.sz
    refine wpAny_setItem_heap (hsz := hz) (nested_in1 hu) (τ.is I.hok eb) dd fun h' dd' hs => h _ ?_
    obtain ⟨q, es, ep, hq, h2, h3, h4, _, h5⟩ := dd'
    exact d_write I (by rw [e]; exact True.intro) hs ⟨q, hq⟩ (tdO_ok ⟨R.lo, Nat.le_trans ptT_len l, ⟨_, tks_put rel k rv, q, es, ep, hq, h2, h3, h4⟩, ptT_nodup R.nd⟩)
theorem n_type (I : Inv X pins σ H s) (g : NGet X.prog X.w H a y o) : s.TypeIs (.ref a) "dict" ∧ (∀ b, Value.ref a = .ref b → ∃ ob, s.heap.get? b = some ob ∧ ob.dict = none) := by
  rcases g with ⟨L, k, e, ey, l⟩ | ⟨κ, _, τ, L, k, b, e, kt, ey, eb, l⟩
  · obtain ⟨vs, rel, dd⟩ := (nd_at I.hok e).raw
    refine ⟨dd.typeIs, fun b q => ?_⟩
    cases q
    obtain ⟨ob, _, _, h1, h2, _⟩ := dd
    exact ⟨ob, h1, h2.2.1⟩
  · obtain ⟨xs, rel, dd⟩ := (td_at I.hok e).full I.hok kt
    refine ⟨dd.typeIs, fun b q => ?_⟩
    cases q
    obtain ⟨ob, _, _, h1, h2, _⟩ := dd
    exact ⟨ob, h1, h2.2.1⟩
end
/-! ### the rules -/
theorem tailD {prog : Program} {w : World} {A : Around} {E : Value → Shared → Prop} {s : Shared} {value slice : Expr} {ov iv : Value} {T id : String} {Q : Value → Shared → Prop} (hT : s.TypeIs ov T) (hl : typeLookup (.type T) "__getitem__" = pure (some (.builtin id)))
    (hs : subscripted slice false ov iv = operate [ov, iv] (getItem ov iv)) (h : wpAny (model prog w) A (getItem ov iv) Q E s) : wpAny (model prog w) A (subscriptTail value slice ov iv) Q E s := by
  unfold subscriptTail
  refine wpAny_bind ?_
  rw [getitemInPython_of_ne hT.not_modules]
  refine wpAny_bind (wpAny_specialOf hT hl ?_)
  have z : wpAny (model prog w) A (subscripted slice false ov iv) (fun x s' => wpAny (model prog w) A (letTemporaryGo value ov x >>= fun _ => pure x) Q E s') E s := by
    rw [hs]
    exact wpAny_operating (wpAny_mono h (fun x s' h' => wpAny_bind (wpAny_letTemporaryGo (wpAny_pure h'))) fun _ _ q => q)
  first
    | exact wpAny_pure (wpAny_bind z)
    | exact wpAny_bind (wpAny_pure (wpAny_bind z))
    | exact wpAny_bind z
def rNGet (P : Program) (w : World) : R2 := fun x y H Q => ∃ a v, x = .ref a ∧ NGet P w H a y (some v) ∧ Q v H
def rNIn (P : Program) (w : World) : R2 := fun y x H Q => ∃ a o, x = .ref a ∧ NGet P w H a y o ∧ Q (.bl o.isSome) H
def rNNotIn (P : Program) (w : World) : R2 := fun y x H Q => ∃ a o, x = .ref a ∧ NGet P w H a y o ∧ Q (.bl (!o.isSome)) H
section
variable {X : Cx} {P : Program} {w : World}
theorem ix_nd (hu : X.A.units + 9 < cLine) (hP : X.prog = P := by rfl) (hw : X.w = w := by rfl) : IxR X (rNGet P w) := by
  subst hP hw
  intro value slice pins s σ H x y v u Q I rx ry h hs
  obtain ⟨a, z, rfl, g, q⟩ := h
  cases rx
  exact tailD (n_type I g).1 PySem.F.slot_dict_getitem.lookup hs (n_get hu I g ry fun w' s' I' rw' => ⟨z, H, I', rw', q⟩)
theorem op_inNd (hu : X.A.units + 9 < cLine) (hP : X.prog = P := by rfl) (hw : X.w = w := by rfl) : OpR X (compareOp .In) (rNIn P w) := by
  subst hP hw
  intro pins s σ H y x u v Q I ry rx h
  obtain ⟨a, o, rfl, g, q⟩ := h
  cases rx
  exact n_in hu I g ry fun s' I' => ⟨.bl o.isSome, H, I', rfl, q⟩
theorem op_notInNd (hu : X.A.units + 9 < cLine) (hP : X.prog = P := by rfl) (hw : X.w = w := by rfl) : OpR X (compareOp .NotIn) (rNNotIn P w) := by
  subst hP hw
  intro pins s σ H y x u v Q I ry rx h
  obtain ⟨a, o, rfl, g, q⟩ := h
  cases rx
  exact n_notIn hu I g ry fun s' I' => ⟨.bl (!o.isSome), H, I', rfl, q⟩
/-- d[k] = v, by values -/
theorem set_nd (hu : X.A.units + 9 < cLine) (hP : X.prog = P := by rfl) (hw : X.w = w := by rfl) : PSet X (fun x y v H Q => ∃ a H', x = .ref a ∧ NPut P w H a y v H' ∧ Q H') := by
  subst hP hw
  intro pins s σ H x y v ov iv u Q I rx ry rv h
  obtain ⟨a, H', rfl, g, q⟩ := h
  cases rx
  exact n_set hu I g ry rv fun s' I' => ⟨H', I', q⟩
end
/-- such a dict stands at a -/
def IsN (P : Program) (w : World) (H : Hp) (a : Addr) : Prop := (∃ L, H a = some (ndO P w a L)) ∨ ∃ (κ : Type) (_ : DecidableEq κ) (τ : TK κ) (L : List (κ × Addr × V)), H a = some (tdO τ P w a L)
theorem IsN.n {P : Program} {w : World} {H : Hp} {a : Addr} {L : List (Node × V)} (h : H a = some (ndO P w a L)) : IsN P w H a := .inl ⟨L, h⟩
theorem IsN.t {κ : Type} [i : DecidableEq κ] {P : Program} {w : World} {H : Hp} {a : Addr} {τ : TK κ} {L : List (κ × Addr × V)} (h : H a = some (tdO τ P w a L)) : IsN P w H a := .inr ⟨κ, i, τ, L, h⟩
theorem isN_type {X : Cx} {pins : List (Addr × Obj)} {σ : L2.St} {H : Hp} {s : Shared} {a : Addr} (I : Inv X pins σ H s) (g : IsN X.prog X.w H a) : s.TypeIs (.ref a) "dict" ∧ (∀ b, Value.ref a = .ref b → ∃ ob, s.heap.get? b = some ob ∧ ob.dict = none) := by
  rcases g with ⟨L, e⟩ | ⟨κ, _, τ, L, e⟩
  · obtain ⟨vs, rel, dd⟩ := (nd_at I.hok e).raw
    refine ⟨dd.typeIs, fun b q => ?_⟩
    cases q
    obtain ⟨ob, _, _, h1, h2, _⟩ := dd
    exact ⟨ob, h1, h2.2.1⟩
  · obtain ⟨xs, r, o, es, ep, c1, c2, c3, c4⟩ := (td_at I.hok e).raw
    refine ⟨⟨o, c1, c2.1⟩, fun b q => ?_⟩
    cases q
    exact ⟨o, c1, c2.2.1⟩
/-- d.get(k), d.get(k, x) -/
def tNGet1 (P : Program) (w : World) (td ty : TE) : TE := fun σ H Q => td σ H fun x H1 => ∃ a, x = .ref a ∧ IsN P w H1 a ∧ ty σ H1 fun y H2 => ∃ o, NGet P w H2 a y o ∧ Q (o.getD .non) H2
def tNGet2 (P : Program) (w : World) (td ty tx : TE) : TE := fun σ H Q => td σ H fun x H1 => ∃ a, x = .ref a ∧ IsN P w H1 a ∧ ty σ H1 fun y H2 => tx σ H2 fun z H3 => ∃ o, NGet P w H3 a y o ∧ Q (o.getD z) H3
section
variable {X : Cx} {pins : List (Addr × Obj)} {σ : L2.St} {H : Hp} {s : Shared} {a : Addr} {y d : V} {u r : Value} {o : Option V} {A : Around} {E : Value → Shared → Prop}
theorem n_get1 {Q : Value → Shared → Prop} (hu : A.units + 9 < cLine) (I : Inv X pins σ H s) (g : NGet X.prog X.w H a y o) (ry : RelV y u) (h : ∀ w' s', Inv X pins σ H s' → RelV (o.getD .non) w' → Q w' s') :
    wpAny (model X.prog X.w) A (call (.builtin "dict.get") [.ref a, u]) Q E s := by
  rcases g with ⟨L, k, e, ey, l⟩ | ⟨κ, _, τ, L, k, b, e, kt, ey, eb, l⟩
  · subst ey
    have R := nd_at I.hok e
    obtain ⟨vs, rel, dd⟩ := R.raw
    refine call_meetsIn PySem.F.slot_dict_get dd.typeIs PySem.F.entry_dict_get (PySem.F.args_dict_get_2 _ _) (meets_dict_get (noneKind X.prog X.w) a (nk_is ry) R.lo) ⟨_, dd.mapOf, h _ _ (I.tok _) ?_⟩
    rw [l]
    exact (NdAt.get rel k).getD rfl
  · subst ey
    cases (show u = Value.ref b from ry)
    have R := td_at I.hok e
    obtain ⟨xs, rel, dd⟩ := R.full I.hok kt
    refine call_meetsIn PySem.F.slot_dict_get dd.typeIs PySem.F.entry_dict_get (PySem.F.args_dict_get_2 _ _) (meetsH_dict_get (nestedKind X.prog X.w) a b R.lo) ⟨nested_in1 hu, τ.kk k, xs, τ.is I.hok eb, dd, h _ _ (I.tok _) ?_⟩
    rw [l]
    exact (tks_get rel k).getD rfl
theorem n_get2 {Q : Value → Shared → Prop} (hu : A.units + 9 < cLine) (I : Inv X pins σ H s) (g : NGet X.prog X.w H a y o) (ry : RelV y u) (rd : RelV d r) (h : ∀ w' s', Inv X pins σ H s' → RelV (o.getD d) w' → Q w' s') :
    wpAny (model X.prog X.w) A (call (.builtin "dict.get") [.ref a, u, r]) Q E s := by
  rcases g with ⟨L, k, e, ey, l⟩ | ⟨κ, _, τ, L, k, b, e, kt, ey, eb, l⟩
  · subst ey
    have R := nd_at I.hok e
    obtain ⟨vs, rel, dd⟩ := R.raw
    refine call_meetsIn PySem.F.slot_dict_get dd.typeIs PySem.F.entry_dict_get (PySem.F.args_dict_get_3 _ _ _) (meets_dict_get_default (noneKind X.prog X.w) a (nk_is ry) R.lo r) ⟨_, dd.mapOf, h _ _ (I.tok _) ?_⟩
    rw [l]
    exact (NdAt.get rel k).getD rd
  · subst ey
    cases (show u = Value.ref b from ry)
    have R := td_at I.hok e
    obtain ⟨xs, rel, dd⟩ := R.full I.hok kt
    refine call_meetsIn PySem.F.slot_dict_get dd.typeIs PySem.F.entry_dict_get (PySem.F.args_dict_get_3 _ _ _) (meetsH_dict_get_default (nestedKind X.prog X.w) a b R.lo r) ⟨nested_in1 hu, τ.kk k, xs, τ.is I.hok eb, dd, h _ _ (I.tok _) ?_⟩
    rw [l]
    exact (tks_get rel k).getD rd
end
section
variable {X : Cx} {ob ke de : Expr} {apos cpos : Pos} {td ty tx : TE} {P : Program} {w : World}
theorem pe_nget1 (hu : X.A.units + 9 < cLine) (ho : PE X ob td) (he : PE X ke ty) (m : M1 X ob "get" apos ke cpos) (hP : X.prog = P := by rfl) (hw : X.w = w := by rfl) : PE X (.Call (.Attribute ob "get" apos) [ke] [] cpos) (tNGet1 P w td ty) := by
  subst hP hw
  refine ⟨fun pins s σ H Q I h => ?_⟩
  refine wpAny_Call_method m.base m.few m.line PySem.F.plainAttrs_dict PySem.F.slot_dict_get PySem.F.type_dict_get (thn (ho.run pins s σ H _ I h) ?_)
  rintro u s1 ⟨x, H1, I1, rx, a, rfl, g0, q1⟩
  cases rx
  obtain ⟨t1, t2⟩ := isN_type I1 g0
  refine ⟨t1, t2, ?_⟩
  rw [m.trees]
  refine Calls.callWith_builtin rfl (Calls.evalArgs_plain (Calls.spliced_cons (thn (he.run pins s1 σ H1 _ I1 q1) ?_)))
  rintro iv s2 ⟨y, H2, I2, ry, o, g, q2⟩
  exact Calls.spliced_nil (n_get1 hu I2 g ry fun w' s3 I3 rw' => ⟨_, H2, I3, rw', q2⟩)
theorem pe_nget2 (hu : X.A.units + 9 < cLine) (ho : PE X ob td) (he : PE X ke ty) (hd : PE X de tx) (m : M2 X ob "get" apos ke de cpos) (hP : X.prog = P := by rfl) (hw : X.w = w := by rfl) : PE X (.Call (.Attribute ob "get" apos) [ke, de] [] cpos) (tNGet2 P w td ty tx) := by
  subst hP hw
  refine ⟨fun pins s σ H Q I h => ?_⟩
  refine wpAny_Call_method m.base m.few m.line PySem.F.plainAttrs_dict PySem.F.slot_dict_get PySem.F.type_dict_get (thn (ho.run pins s σ H _ I h) ?_)
  rintro u s1 ⟨x, H1, I1, rx, a, rfl, g0, q1⟩
  cases rx
  obtain ⟨t1, t2⟩ := isN_type I1 g0
  refine ⟨t1, t2, ?_⟩
  rw [m.trees]
  refine Calls.callWith_builtin rfl (Calls.evalArgs_plain (Calls.spliced_cons (thn (he.run pins s1 σ H1 _ I1 q1) ?_)))
  rintro iv s2 ⟨y, H2, I2, ry, q2⟩
  refine Calls.spliced_cons (thn (hd.run pins s2 σ H2 _ I2 q2) ?_)
  rintro dv s3 ⟨z, H3, I3, rz, o, g, q3⟩
  exact Calls.spliced_nil (n_get2 hu I3 g ry rz fun w' s4 I4 rw' => ⟨_, H3, I4, rw', q3⟩)
end
/-! ### {} -/
theorem nd_empty {P : Program} {w : World} (h : Heap) (hb : sysModules < h.objs.size) : NdAt P w (h.push { cls := .type "dict", data := .dict #[] }) h.objs.size [] :=
  ⟨beq_eq_false_iff_ne.mpr (Ne.symm (Nat.ne_of_lt hb)), Nat.zero_le _, [], .nil, Heap.DictOf.new h⟩
def tNdNew (P : Program) (w : World) : TE := fun _ H Q => ∀ p, H p = none → Q (.ref p) (upd H p (ndO P w p []))
theorem pe_ndNew {X : Cx} {pos : Pos} {P : Program} {w : World} (hP : X.prog = P := by rfl) (hw : X.w = w := by rfl) : PE X (.Dict [] [] pos) (tNdNew P w) := by
  subst hP hw
  refine ⟨fun pins s σ H Q I q => wpAny_Dict_empty ⟨.ref s.heap.objs.size, _, ?_, rfl, q _ (I.hok.fresh (Nat.le_refl _))⟩⟩
  exact I.laid (a := s.heap.objs.size) (o := ndO X.prog X.w s.heap.objs.size []) (t' := s.toks) (fun _ _ z => Heap.get?_push_of_some _ z) (Nat.le_refl _) (ndO_ok (nd_empty s.heap I.big))
end Wnd

/-! Windowsteps: dict comprehensions into dicts keyed by settings and the ground, or by tuples. -/
namespace Wnd
open PySem PySem.Spec PyProof.Rows L2
section
variable {X : Cx} {pins : List (Addr × Obj)} {σ : L2.St} {H : Hp} {s : Shared} {a : Addr} {y v : V} {u r : Value} {A : Around} {E : Value → Shared → Prop}
theorem n_dset {H' : Hp} {Q : Unit → Shared → Prop} (hu : A.units + 9 < cLine) (I : Inv X pins σ H s) (g : NPut X.prog X.w H a y v H') (ry : RelV y u) (rv : RelV v r) (h : ∀ s', Inv X pins σ H' s' → Q () s') :
    wpAny (model X.prog X.w) A (dictSet a u r) Q E s := by
  rcases g with ⟨L, k, e, ey, l, eH⟩ | ⟨κ, _, τ, L, k, b, e, kt, ey, eb, l, eH⟩
  · subst ey eH
    have R := nd_at I.hok e
    obtain ⟨vs, rel, dd⟩ := R.raw
    have hn : (nkL L).length = L.length := by unfold nkL; rw [List.length_map]
    have hz : vs.length ≤ sizeLine := by rw [← rel.length, hn]; exact R.sz
    refine wpAny_dictSet_pairs (hsz := hz) (nk_is ry) dd fun h' dd' hs => h _ ?_
    have he : ∃ q, h'.get? a = some q := let ⟨q, _, _, hq, _⟩ := dd'; ⟨q, hq⟩
    refine d_write I (by rw [e]; exact True.intro) hs he (ndO_ok ⟨R.lo, Nat.le_trans pt_len l, _, ?_, dd'⟩)
    rw [← nkL_put]
    exact rel.put (nk k) rv
  · subst ey eH
    cases (show u = Value.ref b from ry)
    have R := td_at I.hok e
    obtain ⟨xs, rel, dd⟩ := R.full I.hok kt
    have hz : xs.length ≤ sizeLine := by rw [← Paired.length rel]; exact R.sz
    refine wpAny_dictSet_heap (hsz := hz) (show (nestedKind X.prog X.w).room A from Nat.lt_of_le_of_lt (Nat.add_le_add_left (by decide) _) hu) (τ.is I.hok eb) dd fun h' dd' hs => h _ ?_
    obtain ⟨q, es, ep, hq, h2, h3, h4, _, h5⟩ := dd'
    exact d_write I (by rw [e]; exact True.intro) hs ⟨q, hq⟩ (tdO_ok ⟨R.lo, Nat.le_trans ptT_len l, ⟨_, tks_put rel k rv, q, es, ep, hq, h2, h3, h4⟩, ptT_nodup R.nd⟩)
end
section
variable {X : Cx}
/-- what the comprehension asks: D is the new dict -/
def tDcN (P : Program) (w : World) (emp : Addr → HO) (wi : TI) (g : TG) (tt : TT) (tk tv : TE) (vs : List Nat) : TE := fun σ H Q => wi σ H fun J H1 =>
  ∀ D, H1 D = none → ∃ W : Nat → Nat → Hp → Prop, (∃ m, W 0 m (upd H1 D (emp D))) ∧ ∀ i m Hi, W i m Hi →
    (J.stop i Hi ∧ Q (.ref D) Hi) ∨ (J.go i Hi ∧ ∃ Nx : Hp → Prop, (∀ Hn, Nx Hn → ∃ m', m' < m ∧ W (i + 1) m' Hn) ∧
      ∀ x Hx, J.yld i Hi x Hx → g x (wipe σ vs) Hx fun σ2 H2 => wipe σ2 vs = wipe σ vs ∧ tt σ2 H2 fun b H3 =>
        if b = true then tk σ2 H3 fun y H4 => tv σ2 H4 fun z H5 => ∃ H6, NPut P w H5 D y z H6 ∧ Nx H6 else Nx H3)
/-- the block's keys may be laid down while D stands -/
theorem dcN_core {pins : List (Addr × Obj)} {s : Shared} {σ : L2.St} {H : Hp} {Q : VK} {kx vx tg iter : Expr} {ifs : List Expr} {scope : Scope} {own : List (Str × Nat)} {pos pos' : Pos} {wi : TI} {g : TG} {tt : TT} {tk tv : TE} {emp : Addr → HO}
    {use : Option (Value → Sem Unit)} {Qf : Value → Shared → Prop} (room : X.A.units + 9 < cLine) (hemp : ∀ {H : Hp} (h : Heap), sysModules < h.objs.size → ObjOk X.prog X.w H (h.push { cls := .type "dict", data := .dict #[] }) h.objs.size (emp h.objs.size)) (calm : X.calm = true) (nd : X.N.Nodup) (I : Inv X pins σ H s) (hi : PI X tg iter wi) (ok : BlkOk X.N X.env.scope scope own)
    (hg : ∀ (s : Shared) (H : Hp) (C : Addr) (cl : List (Str × Addr)) (fp : List Addr), PG (X.blk s H scope (compEnvC scope cl C X.env) fp) tg g)
    (ht : ∀ (s : Shared) (H : Hp) (C : Addr) (cl : List (Str × Addr)) (fp : List Addr), PTs (X.blk s H scope (compEnvC scope cl C X.env) fp) ifs tt)
    (hk : ∀ (s : Shared) (H : Hp) (C : Addr) (cl : List (Str × Addr)) (fp : List Addr), PE (X.blk s H scope (compEnvC scope cl C X.env) fp) kx tk)
    (hv : ∀ (s : Shared) (H : Hp) (C : Addr) (cl : List (Str × Addr)) (fp : List Addr), PE (X.blk s H scope (compEnvC scope cl C X.env) fp) vx tv)
    (plain : ∀ x, foldedSetIterable iter X.env x = pure x) (ask : tDcN X.prog X.w emp wi g tt tk tv (own.map (·.2)) σ H Q)
    (last : ∀ D C s' m H', Inv X pins σ H' s' → Q (.ref D) H' → s'.heap.Ns C m → FpOk X pins H' C → compPost (model X.prog X.w) X.A X.xe use Qf (.ref D) C (.ok .next) s') :
    wpAny (model X.prog X.w) X.A (comprehension (.DictComp kx vx [⟨tg, iter, ifs, 0⟩] scope pos) scope X.env pos' newDict false (eval iter X.env) use) Qf X.xe s := by
  have cells : ∀ y ∈ scope.names, y.2 = .free → ∃ c, X.env.cells.lookup y.1 = some c := by
    intro y hy e
    rcases ok.free y hy e with k | k
    · exact I.ok.has _ (.inl k)
    · exact I.ok.has _ (.inr k)
  refine wpAny_comprehension_free (use := use) rfl plain (closure_ok cells) ok.kind (fun y hy e => by rw [ok.uniq y hy, e]) (thn (hi.run pins s σ H _ I ask) ?_)
  intro xv s1 hx
  refine thn hx ?_
  rintro itv s2 ⟨it, fp, tn, J, Ha, rfl, I2, T, t0, fz, asks⟩
  refine wpAny_newObj_type (newEnv_comp ?_)
  generalize eD : s2.heap.objs.size = D
  have dNew : Ha D = none := I2.hok.fresh (Nat.le_of_eq eD)
  obtain ⟨W, ⟨m0, w0⟩, turn⟩ := asks D dNew
  -- the new dict is laid down
  generalize e3 : ({ s2 with heap := s2.heap.push { cls := .type "dict", data := .dict #[] } } : Shared) = s3
  have I3 : Inv X pins σ (upd Ha D (emp D)) s3 := by
    rw [← e3]
    refine I2.laid (t' := s2.toks) (fun b o e => Heap.get?_push_of_some _ e) (Nat.le_of_eq eD) ?_
    rw [← eD]
    exact hemp s2.heap I2.big
  have h3 : s3.heap = s2.heap.push { cls := .type "dict", data := .dict #[] } := by rw [← e3]
  have below : ∀ b ∈ fp, b < s2.heap.objs.size := by
    intro b hb
    obtain ⟨o, e, _⟩ := T.obj _ _ t0 b hb
    exact Heap.lt_size e
  have away : ∀ b ∈ fp, FpOk X pins (upd Ha D (emp D)) b ∧ b < s3.heap.objs.size := by
    intro b hb
    have lt := below b hb
    refine ⟨⟨?_, (fz b hb).2⟩, ?_⟩
    · rw [upd_ne (by rw [← eD]; exact Nat.ne_of_lt lt)]
      exact (fz b hb).1
    · rw [h3, Heap.size_push]
      exact Nat.lt_succ_of_lt lt
  have t3 : tn 0 s3.heap := T.keep _ _ _ t0 fun b _ o e => by
    rw [h3]
    exact Heap.get?_push_of_some _ e
  have I4 := block_start I3 ok nd away
  generalize eH : upd Ha D (emp D) = Hb at I3 I4 w0 away
  have pg := hg s3 Hb s3.heap.objs.size (cellsFrom (s3.heap.objs.size + 1) scope.names (cloFrom X.env.cells scope.names [])) fp
  have pk := hk s3 Hb s3.heap.objs.size (cellsFrom (s3.heap.objs.size + 1) scope.names (cloFrom X.env.cells scope.names [])) fp
  have pt := ht s3 Hb s3.heap.objs.size (cellsFrom (s3.heap.objs.size + 1) scope.names (cloFrom X.env.cells scope.names [])) fp
  have pv' := hv s3 Hb s3.heap.objs.size (cellsFrom (s3.heap.objs.size + 1) scope.names (cloFrom X.env.cells scope.names [])) fp
  generalize eE : compEnvC scope (cellsFrom (s3.heap.objs.size + 1) scope.names (cloFrom X.env.cells scope.names [])) s3.heap.objs.size X.env = be at I4 pg pk pt pv'
  show codeAny _ _ (.compStart (.DictComp kx vx [⟨tg, iter, ifs, 0⟩] scope pos) 0 (.ref it) (.ref D)
    (compEnvC scope (cellsFrom (s3.heap.objs.size + 1) scope.names (cloFrom X.env.cells scope.names [])) s3.heap.objs.size X.env))
    (compPost (model X.prog X.w) X.A X.xe use Qf (.ref D) s3.heap.objs.size) { s3 with heap := pushCells (s3.heap.push { cls := .type "dict", data := .dict #[] }) scope.names }
  rw [eE]
  have locs : be.locals = s3.heap.objs.size := by
    subst eE
    rfl
  have none0 : ∀ b ∈ fp, Hb b = none := fun b hb => (away b hb).1.1
  generalize e4 : ({ s3 with heap := pushCells (s3.heap.push { cls := .type "dict", data := .dict #[] }) scope.names } : Shared) = s4 at I4 ⊢
  have t4 : tn 0 s4.heap := T.keep _ _ _ t3 fun b _ o e => by
    rw [← e4]
    exact pushCells_keeps _ _ _ _ (Heap.get?_push_of_some _ e)
  have stat : ∀ {σ' : L2.St} {Hc : Hp} {s' : Shared}, Inv (X.blk s3 Hb scope be fp) [] σ' Hc s' → (∀ b ∈ fp, Hc b = none) → ∀ b ∈ fp, FpOk (X.blk s3 Hb scope be fp) [] Hc b := by
    intro σ' Hc s' J' hn b hb
    exact ⟨hn b hb, (J'.ok.exf b hb).1, J'.ok.exfs b hb, .inl hb, fun x c e => (J'.ok.exf b hb).2 x c e, fun p hp => absurd (show p ∈ ([] : List (Addr × Obj)) ++ [] from hp) (by simp)⟩
  have loop : codeAny (model X.prog X.w) X.A (.compLoop (.DictComp kx vx [⟨tg, iter, ifs, 0⟩] scope pos) 0 (.ref it) (.ref D) be) (compPost (model X.prog X.w) X.A X.xe use Qf (.ref D) s3.heap.objs.size) s4 := by
    refine compLoop_anyD (fun n s' => ∃ i Hc, Inv (X.blk s3 Hb scope be fp) [] (wipe σ (own.map (·.2))) Hc s' ∧ tn i s'.heap ∧ (∀ b ∈ fp, Hc b = none) ∧ W i n Hc) ?_ m0 ⟨0, Hb, I4, t4, none0, w0⟩
    rintro n s5 ⟨i, Hc, I5, t5, n5, w5⟩
    rcases turn i n Hc w5 with ⟨stop, fin⟩ | ⟨go, Nx, less, step⟩
    · refine thnF (T.done (X.blk s3 Hb scope be fp) rfl rfl rfl calm i [] s5 _ Hc (fun _ _ => False) I5 (stat I5 n5) t5 stop) ?_
      rintro r s6 ⟨rfl, I6⟩
      have I7 : Inv X pins σ Hc s6 := I3.call' (ch := fp) I6.os I6.base I6.hok I6.bare fun b hb => ⟨(away b hb).1.2.2.2.1, (away b hb).1.2.1, (away b hb).1.2.2.2.2.1, (away b hb).1.2.2.2.2.2⟩
      have nC : Hc s3.heap.objs.size = none := by
        have z : Hc be.locals = none := I6.free
        rw [locs] at z
        exact z
      obtain ⟨m, hn, _⟩ := I6.loc
      have hn : s6.heap.Ns be.locals m := hn
      rw [locs] at hn
      exact last D s3.heap.objs.size s6 m Hc I7 fin hn (I3.fpOk (Nat.le_refl _) nC)
    · refine thnF (T.item (X.blk s3 Hb scope be fp) rfl rfl rfl calm i [] s5 _ Hc (fun _ _ => False) I5 (stat I5 n5) t5 go) ?_
      rintro r s6 ⟨u, rfl, h6⟩
      refine thnF h6 ?_
      rintro _ s7 ⟨x, Hx, I7, r7, y7, t7, n7⟩
      have I7' := I7.pinned (stat I7 n7) (T.obj _ _ t7)
      refine thnF (pg.run _ s7 _ Hx x u _ I7' r7 (step x Hx y7)) ?_
      rintro _ s8 ⟨σ8, H8, I8, hw8, q8⟩
      refine thnF (pt.run _ s8 σ8 H8 _ I8 q8) ?_
      rintro b s9 ⟨H9, I9, q9⟩
      -- a turn is over
      have fin : ∀ {s' : Shared} {Hc' : Hp}, Inv (X.blk s3 Hb scope be fp) ([] ++ pinsAt fp s7.heap) σ8 Hc' s' → Nx Hc' → ∃ m, m < n ∧ ∃ i Hc, Inv (X.blk s3 Hb scope be fp) [] (wipe σ (own.map (·.2))) Hc s' ∧ tn i s'.heap ∧ (∀ b ∈ fp, Hc b = none) ∧ W i m Hc := by
        intro s' Hc' I12 nx
        obtain ⟨m', hm, w'⟩ := less _ nx
        have pinned : ∀ b ∈ fp, ∀ o, s7.heap.get? b = some o → s'.heap.get? b = some o ∧ Hc' b = none := by
          intro b hb o e
          have z := I12.pin (b, o) (List.mem_append_right _ (List.mem_append_right _ (mem_pinsAt hb e)))
          exact ⟨z.1, z.2.1⟩
        have len : (wipe σ (own.map (·.2))).length = σ8.length := by rw [← hw8, wipe_length]
        refine ⟨m', hm, i + 1, _, (I12.unpinned (pins := [])).weak len (fun j v e => ?_), T.keep _ _ _ t7 fun b hb o e => (pinned b hb o e).1, fun b hb => ?_, w'⟩
        · rw [← hw8] at e
          exact (wipe_some e).1
        · obtain ⟨o, e, _⟩ := T.obj _ _ t7 b hb
          exact (pinned b hb o e).2
      cases b with
      | false =>
        simp only [Bool.false_eq_true, if_false] at q9 ⊢
        exact fin I9 q9
      | true =>
        simp only [if_true] at q9 ⊢
        refine thnF (pk.run _ s9 σ8 H9 _ I9 q9) ?_
        rintro z s10 ⟨y, H10, I10, ry, q10⟩
        refine thnF (pv'.run _ s10 σ8 H10 _ I10 q10) ?_
        rintro z2 s11 ⟨v, H11, I11, rv, H12, put, nx⟩
        exact n_dset (X := X.blk s3 Hb scope be fp) room I11 put ry rv fun s12 I12 => fin I12 nx
  exact codeAny_compStart_dict loop (T.self X.A 0 _ _ _ t4 loop)
/-- d = {rule: True for rule in rules} on one line, d a local -/
theorem ps_setDcN {i : Nat} {y : Str} {py : Pos} {kx vx tg iter : Expr} {ifs : List Expr} {scope : Scope} {own : List (Str × Nat)} {pos spos : Pos} {wi : TI} {g : TG} {tt : TT} {tk tv : TE} {emp : Addr → HO} (room : X.A.units + 9 < cLine) (hemp : ∀ {H : Hp} (h : Heap), sysModules < h.objs.size → ObjOk X.prog X.w H (h.push { cls := .type "dict", data := .dict #[] }) h.objs.size (emp h.objs.size)) (calm : X.calm = true) (nd : X.N.Nodup)
    (hy : X.N[i]? = some y) (hyl : X.env.scope.names.lookup y = some .local) (sw : swapsWith (.DictComp kx vx [⟨tg, iter, ifs, 0⟩] scope pos) (some (.Name y py)) spos.line X.env = pure true)
    (hi : PI X tg iter wi) (ok : BlkOk X.N X.env.scope scope own)
    (hg : ∀ (s : Shared) (H : Hp) (C : Addr) (cl : List (Str × Addr)) (fp : List Addr), PG (X.blk s H scope (compEnvC scope cl C X.env) fp) tg g)
    (ht : ∀ (s : Shared) (H : Hp) (C : Addr) (cl : List (Str × Addr)) (fp : List Addr), PTs (X.blk s H scope (compEnvC scope cl C X.env) fp) ifs tt)
    (hk : ∀ (s : Shared) (H : Hp) (C : Addr) (cl : List (Str × Addr)) (fp : List Addr), PE (X.blk s H scope (compEnvC scope cl C X.env) fp) kx tk)
    (hv : ∀ (s : Shared) (H : Hp) (C : Addr) (cl : List (Str × Addr)) (fp : List Addr), PE (X.blk s H scope (compEnvC scope cl C X.env) fp) vx tv)
    (plain : ∀ x, foldedSetIterable iter X.env x = pure x := by intro _; rfl) :
    PS X (.Assign [.Name y py] (.DictComp kx vx [⟨tg, iter, ifs, 0⟩] scope pos) spos) (tAsg (tDcN X.prog X.w emp wi g tt tk tv (own.map (·.2))) (gName i)) := by
  refine ⟨fun pins s σ H D I h => ?_⟩
  rw [exec_Assign_Name_used _ _ _ _ sw]
  refine wpAny_bind (wpAny_standAt (wpAny_bind ?_))
  show wpAny _ X.A (do
    let _ ← comprehension (.DictComp kx vx [⟨tg, iter, ifs, 0⟩] scope pos) scope X.env (firstIterPos [⟨tg, iter, ifs, 0⟩] pos) newDict false (eval iter X.env) (some (assign (.Name y py) X.env))) _ _ s
  have h' : tDcN X.prog X.w emp wi g tt tk tv (own.map (·.2)) σ H (fun x H1 => gName i x σ H1 D.nx) := h
  refine wpAny_bind (thn (dcN_core (Qf := fun _ s' => SP X pins D .next s') room hemp calm nd I hi ok hg ht hk hv plain h' ?_) fun _ s' hq => wpAny_pure (wpAny_pure hq))
  intro L C s' m H' I' q hn fo
  show wpAny _ _ (assign (.Name y py) X.env (.ref L)) _ _ _
  obtain ⟨f0, f1, f2, f3, f4, f5⟩ := fo
  refine wpAny_assign_Name (store_ok2 (v := V.ref L) I' nd hy (.inl hyl) rfl (fun s2 I2 => ?_) (.inr hyl))
  rintro ⟨a, sb, ha⟩
  have apart : C ≠ a := by
    rcases ha with z | z
    · rw [z]
      exact f1
    · exact fun e => f4 y a z e.symm
  refine ⟨m, hn.sameBut sb apart, fun h3 sb3 => ⟨_, H', ?_, q⟩⟩
  exact I2.turned (t' := s2.toks) (fun b o hb e => (sb3.2 b hb).trans e) f0 f1 f3 f4 f5
/-- as a value -/
theorem pe_dcN {kx vx tg iter : Expr} {ifs : List Expr} {scope : Scope} {own : List (Str × Nat)} {pos : Pos} {wi : TI} {g : TG} {tt : TT} {tk tv : TE} {emp : Addr → HO} (room : X.A.units + 9 < cLine) (hemp : ∀ {H : Hp} (h : Heap), sysModules < h.objs.size → ObjOk X.prog X.w H (h.push { cls := .type "dict", data := .dict #[] }) h.objs.size (emp h.objs.size))
    (calm : X.calm = true) (nd : X.N.Nodup) (hi : PI X tg iter wi) (ok : BlkOk X.N X.env.scope scope own)
    (hg : ∀ (s : Shared) (H : Hp) (C : Addr) (cl : List (Str × Addr)) (fp : List Addr), PG (X.blk s H scope (compEnvC scope cl C X.env) fp) tg g)
    (ht : ∀ (s : Shared) (H : Hp) (C : Addr) (cl : List (Str × Addr)) (fp : List Addr), PTs (X.blk s H scope (compEnvC scope cl C X.env) fp) ifs tt)
    (hk : ∀ (s : Shared) (H : Hp) (C : Addr) (cl : List (Str × Addr)) (fp : List Addr), PE (X.blk s H scope (compEnvC scope cl C X.env) fp) kx tk)
    (hv : ∀ (s : Shared) (H : Hp) (C : Addr) (cl : List (Str × Addr)) (fp : List Addr), PE (X.blk s H scope (compEnvC scope cl C X.env) fp) vx tv)
    (plain : ∀ x, foldedSetIterable iter X.env x = pure x := by intro _; rfl) : PE X (.DictComp kx vx [⟨tg, iter, ifs, 0⟩] scope pos) (tDcN X.prog X.w emp wi g tt tk tv (own.map (·.2))) := by
  refine ⟨fun pins s σ H Q I h => ?_⟩
  rw [arm_eval_DictComp]
  refine dcN_core room hemp calm nd I hi ok hg ht hk hv plain h ?_
  intro D C s' m H' I' q hn fo
  refine ⟨m, hn, fun h3 sb => ?_⟩
  obtain ⟨f0, f1, f2, f3, f4, f5⟩ := fo
  exact ⟨.ref D, H', I'.turned (t' := s'.toks) (fun b o hb e => (sb.2 b hb).trans e) f0 f1 f3 f4 f5, rfl, q⟩
theorem nd_hemp {P : Program} {w : World} : ∀ {H : Hp} (h : Heap), sysModules < h.objs.size → ObjOk P w H (h.push { cls := .type "dict", data := .dict #[] }) h.objs.size (ndO P w h.objs.size []) := fun h big => ndO_ok (nd_empty h big)
/-- each turn: what is walked, its key, its value -/
theorem dcN_it {J : It} {n : Nat} {G : Hp → Prop} {Y : Nat → Hp → V → Hp → Prop} {P : Program} {w : World} {emp : Addr → HO} (wk : Walk J n G Y) {g : TG} {tt : TT} {tk tv : TE} {vs : List Nat} {σ : L2.St} {H1 : Hp} {D : Addr} {Qd : Hp → Prop} (Pv : Nat → Hp → Prop) (h0 : Pv 0 (upd H1 D (emp D))) (hG : ∀ i H, i ≤ n → Pv i H → G H)
    (hs : ∀ i x H H', i < n → Pv i H → Y i H x H' → g x (wipe σ vs) H' fun σ2 H2 => wipe σ2 vs = wipe σ vs ∧ tt σ2 H2 fun b H3 =>
      if b = true then tk σ2 H3 fun y H4 => tv σ2 H4 fun z H5 => ∃ H6, NPut P w H5 D y z H6 ∧ Pv (i + 1) H6 else Pv (i + 1) H3) (hd : ∀ H, Pv n H → Qd H) :
    ∃ W : Nat → Nat → Hp → Prop, (∃ m, W 0 m (upd H1 D (emp D))) ∧ ∀ i m Hi, W i m Hi →
      (J.stop i Hi ∧ Qd Hi) ∨ (J.go i Hi ∧ ∃ Nx : Hp → Prop, (∀ Hn, Nx Hn → ∃ m', m' < m ∧ W (i + 1) m' Hn) ∧ ∀ x Hx, J.yld i Hi x Hx → g x (wipe σ vs) Hx fun σ2 H2 => wipe σ2 vs = wipe σ vs ∧ tt σ2 H2 fun b H3 =>
        if b = true then tk σ2 H3 fun y H4 => tv σ2 H4 fun z H5 => ∃ H6, NPut P w H5 D y z H6 ∧ Nx H6 else Nx H3) := by
  refine ⟨fun i m Hi => m = n - i ∧ i ≤ n ∧ Pv i Hi, ⟨n, by simp, Nat.zero_le _, h0⟩, ?_⟩
  rintro i m Hi ⟨rfl, hi, p⟩
  have q := hG i Hi hi p
  by_cases hlt : i < n
  · refine .inr ⟨wk.goes i Hi hlt q, Pv (i + 1), fun Hn p' => ⟨n - (i + 1), by omega, rfl, hlt, p'⟩, fun x Hx y => hs i x Hi Hx hlt p (wk.yields i Hi x Hx hlt q y)⟩
  · have e : i = n := by omega
    subst e
    exact .inl ⟨wk.stops Hi q, hd Hi p⟩
end
/-! ### {k: v} -/
def tNdOne (P : Program) (w : World) (tk tv : TE) : TE := fun σ H Q => ∀ p, H p = none → tPairs [(tk, tv)] σ (upd H p (ndO P w p [])) fun ps H2 => ∃ k y, ps = [(endV k, y)] ∧ H2 p = some (ndO P w p []) ∧ Q (.ref p) (upd H2 p (ndO P w p [(k, y)]))
theorem pe_ndOne {X : Cx} {pos : Pos} {ke ve : Expr} {tk tv : TE} {P : Program} {w : World} (hk : PE X ke tk) (hv : PE X ve tv) (hP : X.prog = P := by rfl) (hw : X.w = w := by rfl) : PE X (.Dict [some ke] [ve] pos) (tNdOne P w tk tv) := by
  subst hP hw
  refine ⟨fun pins s σ H Q I q => ?_⟩
  have hn := I.hok.fresh (Nat.le_refl s.heap.objs.size)
  have I1 := I.laid (a := s.heap.objs.size) (o := ndO X.prog X.w s.heap.objs.size []) (h' := s.heap.push { cls := .type "dict", data := .dict #[] }) (t' := s.toks) (fun _ _ z => Heap.get?_push_of_some _ z) (Nat.le_refl _) (ndO_ok (nd_empty s.heap I.big))
  have pp : PPs X pos [some ke] [ve] [(tk, tv)] := pps_cons hk hv pps_nil
  refine wpAny_Dict_walk (knd := noneKind X.prog X.w) rfl rfl (List.cons_ne_nil _ _) (by show 1 ≤ 15; decide) (thn (pp.run pins _ σ _ _ I1 (q _ hn)) ?_)
  · rintro ws s2 ⟨ps, H2, I2, rel, k, y, rfl, e, q2⟩
    cases rel with
    | cons h1 h2 =>
      cases h2
      obtain ⟨ra, rb⟩ := h1
      rename_i pr
      obtain ⟨u1, u2⟩ := pr
      have R := nd_at I2.hok e
      obtain ⟨vs0, r0, dd⟩ := R.raw
      cases r0
      refine ⟨[(nk k, u2)], ⟨nk_is ra, rfl, True.intro⟩, dd, fun h' dd' hs => ⟨.ref s.heap.objs.size, _, ?_, rfl, q2⟩⟩
      have he : ∃ q, h'.get? s.heap.objs.size = some q := let ⟨q, _, _, hq, _⟩ := dd'; ⟨q, hq⟩
      exact d_write I2 (by rw [e]; exact True.intro) hs he (ndO_ok ⟨R.lo, by show 1 ≤ sizeLine; decide, [(nk k, u2)], .cons ⟨rfl, rb⟩ .nil, dd'⟩)
end Wnd

/-! Windowsteps: the last arcs lead back to the start, while totals are raised and at the end. -/
namespace Wnd
section
variable {ν : Type} [DecidableEq ν]
/-- the positions of the arcs on which L leads from u to v -/
inductive Way (A : List (Arc ν)) (L : List (ν × Nat)) (u : ν) : ν → List Nat → Prop where
  | base : lk L u = none → Way A L u u []
  | step {v b : ν} {g : Int} {i : Nat} {ps : List Nat} : lk L v = some i → A[i]? = some (b, v, g) → Way A L u b ps → Way A L u v (ps ++ [i])
def gapAt (A : List (Arc ν)) (i : Nat) : Int := match A[i]? with
  | some a => a.2.2
  | none => 0
def gapsAt (A : List (Arc ν)) (ps : List Nat) : Int := (ps.map (gapAt A)).sum
theorem gapsAt_snoc (A : List (Arc ν)) (ps : List Nat) (i : Nat) : gapsAt A (ps ++ [i]) = gapsAt A ps + gapAt A i := by
  unfold gapsAt
  rw [List.map_append, List.sum_append]
  simp
structure Ptr (A : List (Arc ν)) (u : ν) (T : List (ν × Int)) (L : List (ν × Nat)) : Prop where
  none_ : lk L u = none
  zero : lk T u = some 0
  way : ∀ v x, lk T v = some x → ∃ ps, Way A L u v ps
  arc : ∀ v i, lk L v = some i → ∃ b g xb xv, A[i]? = some (b, v, g) ∧ lk T b = some xb ∧ lk T v = some xv ∧ xv ≤ xb + g
theorem Ptr.start (A : List (Arc ν)) (u : ν) : Ptr A u [(u, 0)] [] where
  none_ := rfl
  zero := by rw [lk_cons, if_pos rfl]
  way := fun v x h => by
    rw [lk_cons] at h
    by_cases e : u = v
    · subst e
      exact ⟨[], .base rfl⟩
    · rw [if_neg e] at h
      cases h
  arc := fun v i h => by cases h
theorem Ptr.seg {A : List (Arc ν)} {u : ν} {T : List (ν × Int)} {L : List (ν × Nat)} (p : Ptr A u T L) (c : ν) (i : Nat) {v : ν} {ps : List Nat} (w : Way A L u v ps) (hcu : c ≠ u) :
    Way A (pt L c i) u v ps ∨ ∃ n s xc xv, lk T c = some xc ∧ lk T v = some xv ∧ Wk A c v n s ∧ xv ≤ xc + s := by
  induction w with
  | base h =>
    refine .inl (.base ?_)
    rw [lk_pt_ne (fun z => hcu z.symm)]
    exact h
  | @step v b g j ps h1 h2 w ih =>
    by_cases e : v = c
    · subst e
      obtain ⟨b', g', xb, xv, h3, h4, h5, h6⟩ := p.arc v j h1
      exact .inr ⟨0, 0, xv, xv, h5, h5, .zero v, by omega⟩
    · obtain ⟨b', g', xb, xv, h3, h4, h5, h6⟩ := p.arc v j h1
      rw [h2] at h3
      cases h3
      rcases ih with ih | ⟨n, s, xc, xb', k1, k2, k3, k4⟩
      · exact .inl (.step (by rw [lk_pt_ne e]; exact h1) h2 ih)
      · rw [h4] at k2
        cases k2
        exact .inr ⟨n + 1, s + g, xc, xv, k1, h5, k3.trans (Wk.arc (List.mem_of_getElem? h2)), by omega⟩
theorem Ptr.rstep {A : List (Arc ν)} {u : ν} {S : R3 ν} {i : Nat} {a : Arc ν} (np : NoPos A) (hi : A[i]? = some a) (sd : Sound A [(u, 0)] S.T) (p : Ptr A u S.T S.L) : Ptr A u (rstep S i a).T (rstep S i a).L := by
  by_cases ha : asks S.T a = true
  · rw [show Wnd.rstep S i a = raised S i a from if_pos ha]
    obtain ⟨b, c, g⟩ := a
    have hm : (b, c, g) ∈ A := List.mem_of_getElem? hi
    unfold asks at ha
    have ha : (match lk S.T b with | none => false | some x => match lk S.T c with | none => true | some y => decide (y < x + g)) = true := ha
    cases hx : lk S.T b with
    | none => rw [hx] at ha; cases ha
    | some x =>
      rw [hx] at ha
      have ha : (match lk S.T c with | none => true | some y => decide (y < x + g)) = true := ha
      have lt : ∀ y, lk S.T c = some y → y < x + g := fun y hy => by
        rw [hy] at ha
        exact of_decide_eq_true ha
      have from_u : ∃ n, Wk A u b n x := by
        obtain ⟨u', x', n, t, h1, h2, h3⟩ := sd b x hx
        rw [lk_cons] at h1
        by_cases e : u = u'
        · rw [if_pos e] at h1
          cases h1
          subst e
          exact ⟨n, by rw [h3]; simpa using h2⟩
        · rw [if_neg e] at h1
          cases h1
      have hcu : c ≠ u := fun e => by
        subst e
        have := lt 0 p.zero
        obtain ⟨n, w⟩ := from_u
        have := np _ _ _ (w.trans (Wk.arc hm))
        omega
      have eT : (raised S i (b, c, g)).T = pt S.T c (x + g) := by
        show pt S.T c ((lk S.T b).getD 0 + g) = _
        rw [hx]
        rfl
      have eL : (raised S i (b, c, g)).L = pt S.L c i := rfl
      rw [eT, eL]
      -- the new way to c
      obtain ⟨qs, wb⟩ := p.way b x hx
      have wb' : Way A (pt S.L c i) u b qs := by
        rcases p.seg c i wb hcu with h | ⟨n, s, xc, xb, h1, h2, h3, h4⟩
        · exact h
        · rw [hx] at h2
          cases h2
          have := lt xc h1
          have := np _ _ _ (h3.trans (Wk.arc hm))
          omega
      have wc : Way A (pt S.L c i) u c (qs ++ [i]) := .step lk_pt_same hi wb'
      have grows : ∀ v y, lk S.T v = some y → ∃ z, lk (pt S.T c (x + g)) v = some z ∧ y ≤ z ∧ (v ≠ c → z = y) := fun v y hv => by
        by_cases e : v = c
        · subst e
          have := lt y hv
          exact ⟨_, lk_pt_same, by omega, fun z => (z rfl).elim⟩
        · exact ⟨y, by rw [lk_pt_ne e]; exact hv, Int.le_refl _, fun _ => rfl⟩
      refine ⟨?_, ?_, fun v y hv => ?_, fun v j hj => ?_⟩
      · rw [lk_pt_ne fun z => hcu z.symm]
        exact p.none_
      · rw [lk_pt_ne fun z => hcu z.symm]
        exact p.zero
      · by_cases e : v = c
        · rw [e]
          exact ⟨_, wc⟩
        · rw [lk_pt_ne e] at hv
          obtain ⟨ps, w⟩ := p.way v y hv
          clear hv
          induction w with
          | base h => exact ⟨[], .base (by rw [lk_pt_ne fun z => hcu z.symm]; exact h)⟩
          | @step v' b' g' j' ps' h1 h2 w' ih =>
            by_cases e2 : b' = c
            · rw [e2] at h2
              exact ⟨_, .step (by rw [lk_pt_ne e]; exact h1) h2 wc⟩
            · obtain ⟨qs', wq⟩ := ih e2
              exact ⟨_, .step (by rw [lk_pt_ne e]; exact h1) h2 wq⟩
      · by_cases e : v = c
        · subst e
          rw [lk_pt_same] at hj
          cases hj
          obtain ⟨z, hz, le, _⟩ := grows b x hx
          exact ⟨b, g, z, x + g, hi, hz, lk_pt_same, by omega⟩
        · rw [lk_pt_ne e] at hj
          obtain ⟨b', g', xb, xv, h3, h4, h5, h6⟩ := p.arc v j hj
          obtain ⟨z, hz, le, _⟩ := grows b' xb h4
          exact ⟨b', g', z, xv, h3, hz, by rw [lk_pt_ne e]; exact h5, by omega⟩
  · rw [show Wnd.rstep S i a = S from if_neg ha]
    exact p
theorem Ptr.rgo {A : List (Arc ν)} {u : ν} (np : NoPos A) : ∀ (B : List (Arc ν)) (i : Nat) (S : R3 ν), (∀ j, B[j]? = A[i + j]? ∨ B[j]? = none) → Sound A [(u, 0)] S.T → Ptr A u S.T S.L → Ptr A u (Wnd.rgo B i S).T (Wnd.rgo B i S).L
  | [], i, S, _, _, p => p
  | b :: r, i, S, m, sd, p => by
    have hi : A[i]? = some b := by
      rcases m 0 with h | h
      · exact h.symm
      · cases h
    refine Ptr.rgo np r (i + 1) (Wnd.rstep S i b) (fun j => ?_) (rstep_sound (List.mem_of_getElem? hi) sd) (p.rstep np hi sd)
    have := m (j + 1)
    rw [show i + 1 + j = i + (j + 1) by omega]
    exact this
theorem Ptr.round {A : List (Arc ν)} {u : ν} (np : NoPos A) {T : List (ν × Int)} {L : List (ν × Nat)} (sd : Sound A [(u, 0)] T) (p : Ptr A u T L) : Ptr A u (Wnd.rgo A 0 ⟨T, L, []⟩).T (Wnd.rgo A 0 ⟨T, L, []⟩).L :=
  Ptr.rgo np A 0 ⟨T, L, []⟩ (fun j => .inl (by rw [Nat.zero_add])) sd p
/-- at the end the way's total is the total -/
theorem Ptr.total {A : List (Arc ν)} {u : ν} {T : List (ν × Int)} {L : List (ν × Nat)} (p : Ptr A u T L) (c : Closed A T) {v : ν} {ps : List Nat} (w : Way A L u v ps) : lk T v = some (gapsAt A ps) := by
  induction w with
  | base h => exact p.zero
  | @step v b g i ps h1 h2 w ih =>
    obtain ⟨b', g', xb, xv, h3, h4, h5, h6⟩ := p.arc v i h1
    rw [h2] at h3
    cases h3
    rw [h4] at ih
    cases ih
    obtain ⟨y, h7, h8⟩ := c _ (List.mem_of_getElem? h2) _ h4
    have h7 : lk T v = some y := h7
    rw [h5] at h7
    cases h7
    have h8 : gapsAt A ps + g ≤ xv := h8
    have e : gapAt A i = g := by
      unfold gapAt
      rw [h2]
    rw [gapsAt_snoc, e, h5, show xv = gapsAt A ps + g by omega]
/-- a way as arcs, from u to v -/
theorem Way.arcs {A : List (Arc ν)} {L : List (ν × Nat)} {u v : ν} {ps : List Nat} (w : Way A L u v ps) : ∀ i ∈ ps, i < A.length := by
  induction w with
  | base h => intro i hi; cases hi
  | @step v b g i ps h1 h2 w ih =>
    intro j hj
    rcases List.mem_append.mp hj with hj | hj
    · exact ih j hj
    · rw [List.mem_singleton.mp hj]
      exact (List.getElem?_eq_some_iff.mp h2).1
theorem Way.wk {A : List (Arc ν)} {L : List (ν × Nat)} {u v : ν} {ps : List Nat} (w : Way A L u v ps) : Wk A u v ps.length (gapsAt A ps) := by
  induction w with
  | base h => exact .zero u
  | @step v b g i ps h1 h2 w ih =>
    have e : gapAt A i = g := by
      unfold gapAt
      rw [h2]
    rw [gapsAt_snoc, e, List.length_append]
    exact ih.trans (Wk.arc (List.mem_of_getElem? h2))
end
end Wnd

/-! the search for chains: totals raised round by round -/
namespace Wnd
open PySem PySem.Spec PyProof.Rows L2
abbrev s_raise_highs : Stmt := top 9
theorem sc_raise_highs : FnScope ["arcs", "totals", "last", "raised", "at", "low", "high", "gap"] ["arcs", "totals", "last"] (defScope s_raise_highs) := ⟨rfl, rfl, rfl, by decide +kernel, rfl, by decide +kernel, by decide +kernel⟩
abbrev s_greatest_totals : Stmt := top 4
theorem sc_greatest_totals : FnScope ["arcs", "start", "totals", "last"] ["arcs", "start"] (defScope s_greatest_totals) := ⟨rfl, rfl, rfl, by decide +kernel, rfl, by decide +kernel, by decide +kernel⟩
theorem iteB {b : Bool} {A B : Prop} (e : b = true) (h : A) : if b = true then A else B := by
  subst e
  exact iteT h
theorem hu9_of {A : Around} {k : Nat} (hr : Room k A) : A.units + 9 < cLine := by
  have := hu_of64 hr
  omega
def intsV (T : List (Node × Int)) : List (Node × V) := T.map fun p => (p.1, V.int p.2)
def natsV (T : List (Node × Nat)) : List (Node × V) := T.map fun p => (p.1, V.int (p.2 : Nat))
theorem lk_ints (T : List (Node × Int)) (k : Node) : lk (intsV T) k = (lk T k).map V.int := lk_val V.int k T
theorem pt_ints (T : List (Node × Int)) (k : Node) (x : Int) : pt (intsV T) k (V.int x) = intsV (pt T k x) := pt_vals V.int k x T
theorem lk_nats (T : List (Node × Nat)) (k : Node) : lk (natsV T) k = (lk T k).map fun n : Nat => V.int (n : Int) := lk_val (fun n : Nat => V.int (n : Int)) k T
theorem pt_nats (T : List (Node × Nat)) (k : Node) (x : Nat) : pt (natsV T) k (V.int (x : Int)) = natsV (pt T k x) := pt_vals (fun n : Nat => V.int (n : Int)) k x T
theorem ints_len (T : List (Node × Int)) : (intsV T).length = T.length := List.length_map _
theorem nats_len (T : List (Node × Nat)) : (natsV T).length = T.length := List.length_map _
def arcOf (r : Rule) : Arc Node := (r.low, r.high, r.gap)
def arcsOf (rs : List (Rule × Addr)) : List (Arc Node) := rs.map fun p => arcOf p.1
theorem rgo_lens : ∀ (A : List (Arc Node)) (i : Nat) (S : R3 Node), (rgo A i S).T.length ≤ S.T.length + A.length ∧ (rgo A i S).L.length ≤ S.L.length + A.length ∧ (rgo A i S).R.length ≤ S.R.length + A.length
  | [], i, S => ⟨Nat.le_refl _, Nat.le_refl _, Nat.le_refl _⟩
  | a :: r, i, S => by
    obtain ⟨h1, h2, h3⟩ := rgo_lens r (i + 1) (rstep S i a)
    have k : (rstep S i a).T.length ≤ S.T.length + 1 ∧ (rstep S i a).L.length ≤ S.L.length + 1 ∧ (rstep S i a).R.length ≤ S.R.length + 1 := by
      unfold rstep
      split
      · refine ⟨pt_len, pt_len, ?_⟩
        show (S.R ++ [a.2.1]).length ≤ _
        rw [List.length_append, List.length_singleton]
        omega
      · omega
    have e : (rgo (a :: r) i S) = rgo r (i + 1) (rstep S i a) := rfl
    rw [e, List.length_cons]
    omega
section
variable {P : Program} {w : World} {K : PySem.W.Frag} {mg : Str → Option Value} {base : Heap}
def spRaise (P : Program) (w : World) : Sp := fun vs H Q _ => ∃ (a d l : Addr) (rs : List (Rule × Addr)) (T : List (Node × Int)) (L : List (Node × Nat)), vs = [.ref a, .ref d, .ref l] ∧ H a = some (.lst (rs.map fun p => V.ref p.2)) ∧ KeyTups H rs ∧ rs.length ≤ 2000 ∧
  H d = some (ndO P w d (intsV T)) ∧ H l = some (ndO P w l (natsV L)) ∧ d ≠ l ∧ T.length ≤ 500000 ∧ L.length ≤ 500000 ∧
  ∀ r H', Out (fun b => b = d ∨ b = l) H H' → H r = none → H' r = some (.lst ((rgo (arcsOf rs) 0 ⟨T, L, []⟩).R.map endV)) → H' d = some (ndO P w d (intsV (rgo (arcsOf rs) 0 ⟨T, L, []⟩).T)) → H' l = some (ndO P w l (natsV (rgo (arcsOf rs) 0 ⟨T, L, []⟩).L)) → Q (.ref r) H'
theorem NGet.i {P : Program} {w : World} {H : Hp} {a : Addr} {T : List (Node × Int)} {k : Node} {o : Option Int} (e : H a = some (ndO P w a (intsV T))) (h : lk T k = o) : NGet P w H a (endV k) (o.map V.int) := by
  rw [← h, ← lk_ints]
  exact NGet.n e
theorem NPut.i {P : Program} {w : World} {H : Hp} {a : Addr} {T : List (Node × Int)} {k : Node} {x : Int} (e : H a = some (ndO P w a (intsV T))) (hl : T.length < sizeLine) : NPut P w H a (endV k) (.int x) (L2.upd H a (ndO P w a (intsV (pt T k x)))) := by
  rw [← pt_ints]
  exact NPut.n e (by rw [ints_len]; exact hl)
theorem NPut.j {P : Program} {w : World} {H : Hp} {a : Addr} {T : List (Node × Nat)} {k : Node} {x : Nat} (e : H a = some (ndO P w a (natsV T))) (hl : T.length < sizeLine) : NPut P w H a (endV k) (.int (x : Int)) (L2.upd H a (ndO P w a (natsV (pt T k x)))) := by
  rw [← pt_nats]
  exact NPut.n e (by rw [nats_len]; exact hl)
theorem take_arcs {rs : List (Rule × Addr)} {i : Nat} (hi : i < rs.length) : (arcsOf rs).take (i + 1) = (arcsOf rs).take i ++ [arcOf rs[i].1] := by
  rw [List.take_add_one]
  unfold arcsOf
  rw [List.getElem?_map, List.getElem?_eq_getElem hi]
  rfl
theorem len_arcs (rs : List (Rule × Addr)) : (arcsOf rs).length = rs.length := List.length_map _
theorem nd_ne_lst {d : Addr} {L : List (Node × V)} {xs : List V} : ndO P w d L ≠ .lst xs := fun z => nomatch z
theorem nd_ne_tup {d : Addr} {L : List (Node × V)} {xs : List V} : ndO P w d L ≠ .tup xs := fun z => nomatch z
theorem ok_raise {f : Addr} {fd : FuncData} (D : DefAt K mg "_raise_highs" s_raise_highs ["arcs", "totals", "last"] f fd) (Benum : mg "enumerate" = none) : Ok P w K mg base 1 "_raise_highs" ["arcs", "totals", "last"] (spRaise P w) := by
  refine D.ok (D.fn.ok sc_raise_highs (fun vs H Q E h => ?_) (fun cdv A outer s H vs Q E hr h => ?_))
  · obtain ⟨a, d, l, rs, T, L, rfl, _⟩ := h
    rfl
  · obtain ⟨a, d, l, rs, T, L, rfl, hA, hk, hz, hd, hl, ndl, zT, zL, q⟩ := h
    have nd := sc_raise_highs.nd
    have hu9 := hu9_of hr
    have big : sizeLine > 1000000 := by decide
    refine ⟨_, (pss_cons (ps_set (i := 3) nd rfl (Or.inl rfl) (pe_lst pa_nil))
      (pss_cons (ps_for PassesOwn.never rfl (pi_enum (by rfl) Benum (pa_cons (pv 0) pa_nil)) (pg_tup rfl (pgs_cons (pg_name (i := 4) nd rfl (Or.inl rfl)) (pgs_cons (pg_tup rfl (pgs_cons (pg_name (i := 5) nd rfl (Or.inl rfl)) (pgs_cons (pg_name (i := 6) nd rfl (Or.inl rfl)) (pgs_cons (pg_name (i := 7) nd rfl (Or.inl rfl)) pgs_nil)))) pgs_nil))) (pss_one (ps_if (PW.pt (pw_and (pt_cmpR (op_inNd hu9) (pv 5) (pv 1) rfl) (pw_and1 (PW.pt (pw_or (pt_cmpR (op_notInNd hu9) (pv 6) (pv 1) rfl) (pw_or1 (pt_cmpR op_gt (pe_op op_add (pe_ix (ix_nd hu9) (pv 1) (pv 5) (fun _ _ => rfl)) (pv 7)) (pe_ix (ix_nd hu9) (pv 1) (pv 6) (fun _ _ => rfl)) (nomark _)))))))) (pss_cons (ps_asg (pe_op op_add (pe_ix (ix_nd hu9) (pv 1) (pv 5) (fun _ _ => rfl)) (pv 7)) (pg_sub (pv 1) (pv 6) (set_nd (P := P) (w := w) hu9)))
      (pss_cons (ps_asg (pv 4) (pg_sub (pv 2) (pv 6) (set_nd (P := P) (w := w) hu9)))
      (pss_one (ps_expr (pe_bm PySem.F.plainAttrs_list PySem.F.slot_list_append PySem.F.type_list_append mt_append (pv 3) (pa_cons (pv 6) pa_nil)))))) pss_nil)))
      (pss_one (ps_ret (pv 3))))), ?_⟩
    refine ⟨by show 0 ≤ sizeLine; decide, fun r nr => ?_⟩
    have nra : a ≠ r := ne_of_none hA nr
    have nrd : d ≠ r := ne_of_none hd nr
    have nrl : l ≠ r := ne_of_none hl nr
    have nad : a ≠ d := ne_of hA hd fun z => nomatch z
    have nal : a ≠ l := ne_of hA hl fun z => nomatch z
    have s0 := same_new (o := .lst []) nr
    refine ⟨_, rfl, a, _, rfl, SqL.of (s0 _ _ hA), ?_⟩
    refine for_it (walk_enum (xs := rs.map fun p => V.ref p.2)) (fun i σ Hc => ∃ (o4 o5 o6 o7 : Option V) (S : R3 Node), σ = [some (.ref a), some (.ref d), some (.ref l), some (.ref r), o4, o5, o6, o7] ∧ S = rgo ((arcsOf rs).take i) 0 ⟨T, L, []⟩ ∧ Out (fun b => b = d ∨ b = l) H Hc ∧ Hc r = some (.lst (S.R.map endV)) ∧ Hc d = some (ndO P w d (intsV S.T)) ∧ Hc l = some (ndO P w l (natsV S.L)))
      ⟨_, _, _, _, ⟨T, L, []⟩, rfl, rfl, Out.of s0, upd_same, s0 _ _ hd, s0 _ _ hl⟩ (fun i σ Hc _ h => ?_) ?_ ?_
    · obtain ⟨_, _, _, _, S, _, _, ho, _⟩ := h
      exact SqL.of (ho _ _ hA fun z => z.elim nad nal)
    · rintro i x σ Hc H' hi ⟨o4, o5, o6, o7, S, rfl, eS, ho, hr', hd', hl'⟩ hY
      rw [List.length_map] at hi
      obtain ⟨tq, x1, y1, rfl, nt, rfl, e1, e2⟩ := hY
      cases e1
      replace e2 : (rs.map fun p => V.ref p.2)[i]? = some y1 := e2
      rw [List.getElem?_map, List.getElem?_eq_getElem hi] at e2
      cases e2
      have st := same_new (o := .tup [.int (i : Nat), .ref rs[i].2]) nt
      have mi : rs[i] ∈ rs := List.getElem_mem hi
      have hki := ho _ _ (hk _ mi) fun z => z.elim (ne_of (hk _ mi) hd fun z => nomatch z) (ne_of (hk _ mi) hl fun z => nomatch z)
      have eN : rgo ((arcsOf rs).take (i + 1)) 0 ⟨T, L, []⟩ = rstep S i (arcOf rs[i].1) := by
        rw [take_arcs hi, rgo_snoc, ← eS, List.length_take, len_arcs, Nat.min_eq_left (Nat.le_of_lt hi), Nat.zero_add]
      have lens := rgo_lens ((arcsOf rs).take i) 0 ⟨T, L, []⟩
      rw [← eS, List.length_take, len_arcs, Nat.min_eq_left (Nat.le_of_lt hi)] at lens
      have lens : S.T.length ≤ T.length + i ∧ S.L.length ≤ L.length + i ∧ S.R.length ≤ 0 + i := lens
      have hd2 := st _ _ hd'
      have hl2 := st _ _ hl'
      have hr2 := st _ _ hr'
      have ho2 := ho.trans (Out.of st)
      refine ⟨tq, _, rfl, SqT.of upd_same, rfl, _, _, rfl, _, _, rfl, rs[i].2, _, rfl, SqT.of (st _ _ hki), rfl, _, _, rfl, _, _, rfl, _, _, rfl, rfl, rfl, ?_⟩
      generalize upd Hc tq (.tup [.int (i : Nat), .ref rs[i].2]) = Hb at *
      have stay : asks S.T (arcOf rs[i].1) = false → rgo ((arcsOf rs).take (i + 1)) 0 ⟨T, L, []⟩ = S := fun z => by
        rw [eN]
        exact if_neg (by rw [z]; exact Bool.false_ne_true)
      cases hx : lk S.T rs[i].1.low with
      | none =>
        refine ⟨_, rfl, _, rfl, d, _, rfl, NGet.i hd2 hx, _, rfl, ?_⟩
        refine iteF ?_
        refine ⟨_, _, _, _, S, rfl, (stay ?_).symm, ho2, hr2, hd2, hl2⟩
        show (match lk S.T rs[i].1.low with | none => false | some x => _) = false
        rw [hx]
      | some x =>
        refine ⟨_, rfl, _, rfl, d, _, rfl, NGet.i hd2 hx, _, rfl, ?_⟩
        refine iteT ?_
        have gap : asks S.T (arcOf rs[i].1) = match lk S.T rs[i].1.high with | none => true | some y => decide (y < x + rs[i].1.gap) := by
          show (match lk S.T rs[i].1.low with | none => false | some x => _) = _
          rw [hx]
          rfl
        have hc : asks S.T (arcOf rs[i].1) = false ∨ (asks S.T (arcOf rs[i].1) = true ∧ lk S.T rs[i].1.high = none) ∨ asks S.T (arcOf rs[i].1) = true ∧ ∃ y, lk S.T rs[i].1.high = some y := by
          cases hy : lk S.T rs[i].1.high with
          | none =>
            rw [hy] at gap
            exact .inr (.inl ⟨gap, rfl⟩)
          | some y =>
            cases ha : asks S.T (arcOf rs[i].1) with
            | false => exact .inl rfl
            | true => exact .inr (.inr ⟨rfl, y, rfl⟩)
        rcases hc with hc | ⟨hc, hy⟩ | ⟨hc, y, hy⟩
        · cases hy : lk S.T rs[i].1.high with
          | none =>
            rw [hy, hc] at gap
            cases gap
          | some y =>
            rw [hy, hc] at gap
            refine ⟨_, rfl, _, rfl, d, _, rfl, NGet.i hd2 hy, _, rfl, ?_⟩
            refine iteF ?_
            refine ⟨_, rfl, _, rfl, d, _, rfl, NGet.i hd2 hx, _, rfl, _, _, rfl, rfl, _, rfl, _, rfl, d, _, rfl, NGet.i hd2 hy, _, _, rfl, rfl, _, rfl, ?_⟩
            refine ite2 (fun z => ?_) (fun z => ?_)
            · have z := of_decide_eq_true z
              have g := of_decide_eq_false gap.symm
              omega
            · exact ⟨_, _, _, _, S, rfl, (stay hc).symm, ho2, hr2, hd2, hl2⟩
        case' inr.inl =>
          refine ⟨_, rfl, _, rfl, d, _, rfl, NGet.i hd2 hy, _, rfl, ?_⟩
          refine iteT ?_
        case' inr.inr =>
          rw [hy, hc] at gap
          refine ⟨_, rfl, _, rfl, d, _, rfl, NGet.i hd2 hy, _, rfl, ?_⟩
          refine iteF ?_
          refine ⟨_, rfl, _, rfl, d, _, rfl, NGet.i hd2 hx, _, rfl, _, _, rfl, rfl, _, rfl, _, rfl, d, _, rfl, NGet.i hd2 hy, _, _, rfl, rfl, _, rfl, ?_⟩
          refine iteB (decide_eq_true (by have g := of_decide_eq_true gap.symm; omega)) ?_
        all_goals
          have eN2 : rgo ((arcsOf rs).take (i + 1)) 0 ⟨T, L, []⟩ = ⟨pt S.T rs[i].1.high (x + rs[i].1.gap), pt S.L rs[i].1.high i, S.R ++ [rs[i].1.high]⟩ := by
            rw [eN]
            refine (if_pos hc).trans ?_
            show R3.mk (pt S.T rs[i].1.high ((lk S.T rs[i].1.low).getD 0 + rs[i].1.gap)) (pt S.L rs[i].1.high i) (S.R ++ [rs[i].1.high]) = _
            rw [hx]
            rfl
          refine ⟨_, rfl, _, rfl, d, _, rfl, NGet.i hd2 hx, _, rfl, _, _, rfl, rfl, _, rfl, _, rfl, d, _, rfl, NPut.i hd2 (by omega), ?_⟩
          have hl3 : (upd Hb d (ndO P w d (intsV (pt S.T rs[i].1.high (x + rs[i].1.gap))))) l = some (ndO P w l (natsV S.L)) := by
            rw [upd_ne (fun z => ndl z.symm)]
            exact hl2
          have hr3 : (upd Hb d (ndO P w d (intsV (pt S.T rs[i].1.high (x + rs[i].1.gap))))) r = some (.lst (S.R.map endV)) := by
            rw [upd_ne (fun z => nrd z.symm)]
            exact hr2
          refine ⟨_, rfl, _, rfl, _, rfl, l, _, rfl, NPut.j hl3 (by omega), ?_⟩
          have hr4 : (upd (upd Hb d (ndO P w d (intsV (pt S.T rs[i].1.high (x + rs[i].1.gap))))) l (ndO P w l (natsV (pt S.L rs[i].1.high i)))) r = some (.lst (S.R.map endV)) := by
            rw [upd_ne (fun z => nrl z.symm)]
            exact hr3
          refine ⟨_, rfl, .inl ⟨rfl, _, SqL.of hr4⟩, _, rfl, r, _, _, rfl, rfl, hr4, by rw [List.length_map]; omega, ?_⟩
          refine ⟨_, _, _, _, _, rfl, eN2.symm, ?_, ?_, ?_, ?_⟩
          · intro b o hb hn
            rw [upd_ne (ne_of_none hb nr), upd_ne (fun z => hn (.inr z)), upd_ne (fun z => hn (.inl z))]
            exact ho2 b o hb hn
          · rw [upd_same, List.map_append]
            rfl
          · rw [upd_ne nrd, upd_ne ndl, upd_same]
          · rw [upd_ne nrl, upd_same]
    · rintro σ Hc ⟨o4, o5, o6, o7, S, rfl, eS, ho, hr', hd', hl'⟩
      rw [List.length_map, show rs.length = (arcsOf rs).length from (List.length_map _).symm, List.take_length] at eS
      subst eS
      exact ⟨_, rfl, q r Hc ho nr hr' hd' hl'⟩
/-- the greatest totals of all chains from u -/
def spGreat (P : Program) (w : World) : Sp := fun vs H Q _ => ∃ (a : Addr) (u : Node) (rs : List (Rule × Addr)) (ns : List Node), vs = [.ref a, endV u] ∧ H a = some (.lst (rs.map fun p => V.ref p.2)) ∧ KeyTups H rs ∧ rs.length ≤ 2000 ∧
  NoPos (arcsOf rs) ∧ (∀ x y g, (x, y, g) ∈ arcsOf rs → x ∈ ns ∧ y ∈ ns) ∧ u ∈ ns ∧ ns.length ≤ 64 ∧
  ∀ t d l H' T L, Same H H' → H t = none → H d = none → H l = none → H' t = some (.tup [.ref d, .ref l]) → H' d = some (ndO P w d (intsV T)) → H' l = some (ndO P w l (natsV L)) → Sound (arcsOf rs) [(u, 0)] T → Closed (arcsOf rs) T → Grows [(u, 0)] T → Ptr (arcsOf rs) u T L → Q (.ref t) H'
theorem ok_great {f : Addr} {fd : FuncData} (D : DefAt K mg "greatest_totals" s_greatest_totals ["arcs", "start"] f fd) (O_raise_highs : Ok P w K mg base 1 "_raise_highs" ["arcs", "totals", "last"] (spRaise P w)) : Ok P w K mg base 2 "greatest_totals" ["arcs", "start"] (spGreat P w) := by
  refine D.ok (D.fn.ok sc_greatest_totals (fun vs H Q E h => ?_) (fun cdv A outer s H vs Q E hr h => ?_))
  · obtain ⟨a, u, rs, ns, rfl, _⟩ := h
    rfl
  · obtain ⟨a, u, rs, ns, rfl, hA, hk, hz, np, hns, hu, hnl, q⟩ := h
    have nd := sc_greatest_totals.nd
    have npos : 0 < ns.length := List.length_pos_of_mem hu
    refine ⟨_, (pss_cons (ps_set (i := 2) nd rfl (Or.inl rfl) (pe_ndOne (P := P) (w := w) (pv 1) pe_int))
      (pss_cons (ps_set (i := 3) nd rfl (Or.inl rfl) (pe_ndNew (P := P) (w := w)))
      (pss_cons (ps_while PassesOwn.never (pt_truth (pe_own O_raise_highs (hr.mono (by decide)) (pa_cons (pv 0) (pa_cons (pv 2) (pa_cons (pv 3) pa_nil)))) (by intro _; rfl)) (pss_one ps_pass))
      (pss_one (ps_ret (pe_tup (pa_cons (pv 2) (pa_cons (pv 3) pa_nil)))))))), ?_⟩
    refine fun d nd0 => ⟨_, rfl, u, _, rfl, upd_same, fun l nl => ?_⟩
    have s1 : Same H (upd (upd H d (ndO P w d [])) d (ndO P w d [(u, V.int 0)])) := by
      rw [upd_upd]
      exact same_new nd0
    have ndl : d ≠ l := by
      refine ne_of_none (o := ndO P w d [(u, V.int 0)]) ?_ nl
      exact upd_same
    have nl0 : H l = none := s1.free nl
    have h1 : (upd (upd (upd H d (ndO P w d [])) d (ndO P w d [(u, V.int 0)])) l (ndO P w l [])) d = some (ndO P w d (intsV [(u, 0)])) := by
      rw [upd_ne ndl, upd_same]
      rfl
    have s2 := s1.trans (same_new (o := ndO P w l []) nl)
    refine ⟨fun m σ Hc => ∃ (T : List (Node × Int)) (L : List (Node × Nat)) (k : Nat), m + k = ns.length ∧ 0 < m ∧ σ = [some (.ref a), some (endV u), some (.ref d), some (.ref l)] ∧ Same H Hc ∧ Hc d = some (ndO P w d (intsV T)) ∧ Hc l = some (ndO P w l (natsV L)) ∧
      Sound (arcsOf rs) [(u, 0)] T ∧ Reach (arcsOf rs) [(u, 0)] T k ∧ Grows [(u, 0)] T ∧ Ptr (arcsOf rs) u T L ∧ T.length ≤ 1 + 2000 * k ∧ L.length ≤ 2000 * k, ⟨ns.length, [(u, 0)], [], 0, rfl, npos, rfl, s2, h1, upd_same, Sound.refl _, Reach.zero _, Grows.refl _, Ptr.start _ _, Nat.le_refl _, Nat.le_refl _⟩, ?_⟩
    rintro m σ Hc ⟨T, L, k, hm, h0, rfl, sc, hd, hl, sd, re, gr, pr, zT, zL⟩
    refine ⟨_, rfl, _, rfl, _, rfl, a, d, l, rs, T, L, rfl, sc _ _ hA, fun x hx => sc _ _ (hk x hx), hz, hd, hl, ndl, by omega, by omega, fun r H' ho nr hr' hd' hl' => ?_⟩
    have sc' : Same H H' := fun b o hb => ho b o (sc b o hb) fun z => by
      rcases z with z | z
      · rw [z, nd0] at hb
        cases hb
      · rw [z, nl0] at hb
        cases hb
    have sd' : Sound (arcsOf rs) [(u, 0)] (rgo (arcsOf rs) 0 ⟨T, L, []⟩).T := rgo_sound _ _ _ (fun b hb => hb) sd
    have lens := rgo_lens (arcsOf rs) 0 ⟨T, L, []⟩
    rw [len_arcs] at lens
    have lens : (rgo (arcsOf rs) 0 ⟨T, L, []⟩).T.length ≤ T.length + rs.length ∧ (rgo (arcsOf rs) 0 ⟨T, L, []⟩).L.length ≤ L.length + rs.length ∧ _ := lens
    refine ⟨_, .inl ⟨_, SqL.of hr', rfl⟩, ?_⟩
    cases eR : (rgo (arcsOf rs) 0 ⟨T, L, []⟩).R with
    | nil =>
      obtain ⟨e1, e2⟩ := rgo_none (arcsOf rs) 0 ⟨T, L, []⟩ rfl eR
      rw [e1] at hd' hl'
      refine iteF ?_
      refine ⟨_, rfl, _, rfl, by show 2 ≤ sizeLine; decide, fun t nt => ?_⟩
      have st := same_new (o := .tup [.ref d, .ref l]) nt
      exact q t d l _ T L (sc'.trans st) (sc'.free nt) nd0 nl0 upd_same (st _ _ hd') (st _ _ hl') sd (closed_of e2) gr pr
    | cons x r' =>
      refine iteT ?_
      have hk1 : 0 < m - 1 := by
        by_cases z : m = 1
        · have c : Closed (arcsOf rs) T := reach_closed np hns (fun v x hv => by
            rw [lk_cons] at hv
            by_cases e : u = v
            · rw [← e]
              exact hu
            · rw [if_neg e] at hv
              cases hv) sd (k := k) (by omega) re
          have := closed_none (arcsOf rs) 0 ⟨T, L, []⟩ c
          rw [this] at eR
          cases eR
        · omega
      refine ⟨fun σ' H'' => σ' = [some (.ref a), some (endV u), some (.ref d), some (.ref l)] ∧ H'' = H', ?_, rfl, rfl⟩
      rintro σ' H'' ⟨rfl, rfl⟩
      exact ⟨m - 1, by omega, _, _, k + 1, by omega, hk1, rfl, sc', hd', hl', sd', re.round, gr.trans (rgo_grows (arcsOf rs) 0 ⟨T, L, []⟩), pr.round np sd, by omega, by omega⟩
end
end Wnd

/-! a drawn system: names, rules that drawn numbers keep, these numbers -/
namespace Wnd
open PySem PySem.Spec PyProof.Rows L2
abbrev s_law_drawn : Stmt := top 60
theorem sc_law_drawn : FnScope ["_law_pen_here", "_law_most", "_law_many", "_law_nyms_here", "_law_goals"] ["_law_pen_here", "_law_most", "_law_many"] (defScope s_law_drawn) := ⟨rfl, rfl, rfl, by decide +kernel, rfl, by decide +kernel, by decide +kernel⟩
section
variable {P : Program} {w : World} {K : PySem.W.Frag} {mg : Str → Option Value} {base : Heap}
theorem keeps_of {rs : List (Rule × Addr)} {g : List (Str × Int)} (h : ∀ x ∈ rs, Holds g x.1) : Keeps (arcsOf rs) (valG g) := fun a b z m => by
  obtain ⟨x, hx, e⟩ := List.mem_map.mp m
  have := h x hx
  unfold arcOf at e
  cases e
  exact this
theorem cut_nat (xs : List V) (k : Nat) : cutV xs none (some (k : Int)) = xs.take k := by
  unfold cutV
  rw [HT.sIx_none, show HT.sIx xs.length xs.length (some (k : Int)) = min k xs.length from HT.sIx_nat _ _ k, List.drop_zero, Nat.sub_zero]
  by_cases hl : xs.length ≤ k
  · rw [Nat.min_eq_right hl, List.take_length, List.take_of_length_le hl]
  · rw [Nat.min_eq_left (by omega)]
def spDrawn : Sp := fun vs H Q _ => ∃ (p c : Addr) (n m k : Nat), vs = [.ref p, .int m, .int k] ∧ PenAt H p c n ∧ n ≤ 700000 ∧ m ≤ 60 ∧ k ≤ 500 ∧
  ∀ t an bg gl H' n' (ts : List Str) (rs : List (Rule × Addr)) (d1 d2 : Addr) (g1 g2 : List (Str × Int)), But p H H' → H t = none → H an = none → H bg = none → H gl = none → H d1 = none → H d2 = none → H' t = some (.tup [.ref an, .ref bg, .ref gl]) → H' an = some (.lst (ts.map V.str)) → NamesOk ts → (∀ t ∈ ts, t ∈ nymPool) → ts.length ≤ m →
    H' bg = some (.lst (rs.map fun x => V.ref x.2)) → KeyTups H' rs → (∀ x ∈ rs, RuleOk ts x.1) → rs.length ≤ 2 * k → H' gl = some (.lst [.ref d1, .ref d2]) → H' d1 = some (.dK (goalKV g1)) → H' d2 = some (.dK (goalKV g2)) → g1.map (·.1) = ts → g2.map (·.1) = ts →
    (∀ x ∈ g1, -900 ≤ x.2 ∧ x.2 ≤ 900) → (∀ x ∈ g2, -900 ≤ x.2 ∧ x.2 ≤ 900) → (∀ x ∈ rs, Holds g1 x.1) → PenAt H' p c n' → n' ≤ n + 4 * m + 4 * k + 10 → Q (.ref t) H'
theorem ok_drawn {f : Addr} {fd : FuncData} (D : DefAt K mg "_law_drawn" s_law_drawn ["_law_pen_here", "_law_most", "_law_many"] f fd) (O_law_draw : Ok P w K mg base 2 "_law_draw" ["_law_pen_here", "_law_under"] spDraw) (O_law_nyms : Ok P w K mg base 4 "_law_nyms" ["_law_pen_here", "_law_most"] spNyms)
    (O_law_goal : Ok P w K mg base 3 "_law_goal" ["_law_pen_here", "_law_nyms_here"] (spGoal K)) (O_law_gaps : Ok P w K mg base 3 "_law_gaps" ["_law_pen_here", "_law_nyms_here", "_law_goals", "_law_most"] spGaps) : Ok P w K mg base 5 "_law_drawn" ["_law_pen_here", "_law_most", "_law_many"] spDrawn := by
  refine D.ok (D.fn.ok sc_law_drawn (fun vs H Q E h => ?_) (fun cdv A outer s H vs Q E hr h => ?_))
  · obtain ⟨p, c, n, m, k, rfl, _⟩ := h
    rfl
  · obtain ⟨p, c, n, m, k, rfl, hP, hn, hm, hk, q⟩ := h
    have nd := sc_law_drawn.nd
    refine ⟨_, (pss_cons (ps_set (i := 3) nd rfl (Or.inl rfl) (pe_own O_law_nyms (hr.mono (by decide)) (pa_cons (pv 0) (pa_cons (pv 1) pa_nil))))
      (pss_cons (ps_set (i := 4) nd rfl (Or.inl rfl) (pe_lst (pa_cons (pe_own O_law_goal (hr.mono (by decide)) (pa_cons (pv 0) (pa_cons (pv 3) pa_nil))) (pa_cons (pe_own O_law_goal (hr.mono (by decide)) (pa_cons (pv 0) (pa_cons (pv 3) pa_nil))) pa_nil))))
      (pss_one (ps_ret (pe_tup (pa_cons (pv 3) (pa_cons (pe_own O_law_gaps (hr.mono (by decide)) (pa_cons (pv 0) (pa_cons (pv 3) (pa_cons (pe_slice sl_list (pv 4) po_none (po_some (pe_op op_add pe_int (pe_own O_law_draw (hr.mono (by decide)) (pa_cons (pv 0) (pa_cons pe_int pa_nil)))))) (pa_cons (pv 2) pa_nil))))) (pa_cons (pv 4) pa_nil)))))))), ?_⟩
    refine ⟨_, rfl, _, rfl, p, c, n, m, rfl, hP, by omega, by omega, fun ln H1 n1 ts b1 nln hln nn mem len P1 hn1 => ?_⟩
    have N : NamesOk ts := ⟨nn, fun t ht => pool_names t (mem t ht), by omega⟩
    have lp1 : ln ≠ p := P1.ne_strs hln
    -- the goals
    refine ⟨_, rfl, _, rfl, p, c, ln, n1, ts, rfl, P1, by omega, hln, nn, by omega, fun d1 H2 n2 g1 b2 nd1 hg1 e1 r1 P2 hn2 => ?_⟩
    have hln2 := b2 _ _ hln lp1
    refine ⟨_, rfl, _, rfl, p, c, ln, n2, ts, rfl, P2, by omega, hln2, nn, by omega, fun d2 H3 n3 g2 b3 nd2 hg2 e2 r2 P3 hn3 => ?_⟩
    have hln3 := b3 _ _ hln2 lp1
    have dp1 : d1 ≠ p := by
      obtain ⟨o, ho⟩ := P1.some
      exact (ne_of_none ho nd1).symm
    have dp2 : d2 ≠ p := by
      obtain ⟨o, ho⟩ := P2.some
      exact (ne_of_none ho nd2).symm
    have hg13 := b3 _ _ hg1 dp1
    refine ⟨by show 2 ≤ sizeLine; decide, fun gl ngl => ?_⟩
    have s4 := same_new (o := .lst [.ref d1, .ref d2]) ngl
    have hgl4 : (upd H3 gl (.lst [.ref d1, .ref d2])) gl = some (.lst [.ref d1, .ref d2]) := upd_same
    have P4 := P3.same s4
    have hln4 := s4 _ _ hln3
    have hg14 := s4 _ _ hg13
    have hg24 := s4 _ _ hg2
    generalize upd H3 gl (.lst [.ref d1, .ref d2]) = H4 at s4 hgl4 P4 hln4 hg14 hg24 ⊢
    refine ⟨_, rfl, _, rfl, _, rfl, _, rfl, _, rfl, p, c, n3, 2, rfl, P4, by omega, by decide, by decide, fun e H5 he0 he1 b5 P5 => ?_⟩
    obtain ⟨e, rfl⟩ := Int.eq_ofNat_of_zero_le he0
    have lp : ln ≠ p := lp1
    have glp : gl ≠ p := by
      obtain ⟨o, ho⟩ := P3.some
      exact (ne_of_none ho ngl).symm
    have hgl5 := b5 _ _ hgl4 glp
    refine ⟨1, (e : Int), rfl, rfl, ((1 + e : Nat) : Int), by rw [Int.natCast_add]; rfl, gl, _, rfl, SqL.of hgl5, fun sl nsl => ?_⟩
    rw [cut_nat]
    have s6 := same_new (o := .lst ([V.ref d1, V.ref d2].take (1 + e))) nsl
    have hsl6 : (upd H5 sl (.lst ([V.ref d1, V.ref d2].take (1 + e)))) sl = some (.lst ([V.ref d1, V.ref d2].take (1 + e))) := upd_same
    have P6 := P5.same s6
    have hln6 := s6 _ _ (b5 _ _ hln4 lp)
    have hgl6 := s6 _ _ hgl5
    have hg16 := s6 _ _ (b5 _ _ hg14 dp1)
    have hg26 := s6 _ _ (b5 _ _ hg24 dp2)
    generalize upd H5 sl (.lst ([V.ref d1, V.ref d2].take (1 + e))) = H6 at s6 hsl6 P6 hln6 hgl6 hg16 hg26 ⊢
    obtain ⟨gs, hgs⟩ : ∃ gs : List (Addr × List (Str × Int)), gs = [(d1, g1), (d2, g2)].take (1 + e) := ⟨_, rfl⟩
    have em : [V.ref d1, V.ref d2].take (1 + e) = gs.map fun x => V.ref x.1 := by
      rw [hgs, List.map_take]
      rfl
    have mem1 : ((d1, g1) : Addr × List (Str × Int)) ∈ gs := by
      rw [hgs, Nat.add_comm, List.take_succ_cons]
      exact List.mem_cons_self
    have memG : ∀ x ∈ gs, x = (d1, g1) ∨ x = (d2, g2) := fun x hx => by
      rw [hgs] at hx
      have := List.mem_of_mem_take hx
      simpa using this
    have lenG : gs.length ≤ 2 := by
      rw [hgs, List.length_take]
      exact Nat.min_le_right _ _
    rw [em] at hsl6
    refine ⟨_, rfl, p, c, ln, sl, n3 + 1, k, ts, gs, rfl, P6, by omega, hln6, N, ⟨hsl6, fun x hx => ?_⟩, fun x hx => ?_, List.length_pos_of_mem mem1, by omega, by omega, fun bg H7 n7 rs b7 nbg hbg hkt hro hh hlen P7 hn7 => ?_⟩
    · rcases memG x hx with rfl | rfl
      · exact hg16
      · exact hg26
    · rcases memG x hx with rfl | rfl
      · exact e1
      · exact e2
    have hln7 := b7 _ _ hln6 lp
    have hgl7 := b7 _ _ hgl6 glp
    have hg17 := b7 _ _ hg16 dp1
    have hg27 := b7 _ _ hg26 dp2
    refine ⟨_, rfl, by show 3 ≤ sizeLine; decide, fun t nt => ?_⟩
    have s8 := same_new (o := .tup [.ref ln, .ref bg, .ref gl]) nt
    have bA : But p H H2 := b1.trans b2
    have bB : But p H H3 := bA.trans b3
    have bC : But p H H5 := (bB.trans (But.of s4)).trans b5
    have bD : But p H H6 := bC.trans (But.of s6)
    have bE : But p H H7 := bD.trans b7
    have fr : ∀ {x : Addr} {X : Hp}, But p H X → X x = none → (∃ o, X p = some o) → H x = none := fun b hx hp => by
      obtain ⟨o, ho⟩ := hp
      exact b.free (ne_of_none ho hx).symm hx
    exact q t ln bg gl _ n7 ts rs d1 d2 g1 g2 (bE.trans (But.of s8)) (fr bE nt P7.some) nln (fr bD nbg P6.some) (fr bB ngl P3.some) (fr b1 nd1 P1.some) (fr bA nd2 P2.some) upd_same (s8 _ _ hln7) N mem len
      (s8 _ _ hbg) (fun x hx => s8 _ _ (hkt x hx)) hro hlen (s8 _ _ hgl7) (s8 _ _ hg17) (s8 _ _ hg27) e1 e2 r1 r2 (fun x hx => hh x hx _ mem1) (P7.same s8) (by omega)
end
end Wnd

namespace Wnd
open PySem PySem.Spec PyProof.Rows L2
section
variable {P : Program} {w : World} {K : PySem.W.Frag} {mg : Str → Option Value} {base : Heap}
/-! ### rules with a contradiction -/
def spTorn : Sp := fun vs H Q _ => ∃ (p c a b : Addr) (n : Nat) (ts : List Str) (rs : List (Rule × Addr)), vs = [.ref p, .ref a, .ref b] ∧ PenAt H p c n ∧ n ≤ 800000 ∧ H a = some (.lst (ts.map V.str)) ∧ NamesOk ts ∧
  H b = some (.lst (rs.map fun x => V.ref x.2)) ∧ KeyTups H rs ∧ (∀ x ∈ rs, RuleOk ts x.1) ∧ rs.length ≤ 1000 ∧
  ∀ r H' n' (rs' : List (Rule × Addr)), But p H H' → r ≠ p → H' r = some (.lst (rs'.map fun x => V.ref x.2)) → KeyTups H' rs' → (∀ x ∈ rs', RuleOk ts x.1) → rs'.length ≤ rs.length + 3 → PenAt H' p c n' → n' ≤ n + 9 → Q (.ref r) H'
end
end Wnd

/-! numbers made by a comprehension of pairs, copied, changed -/
namespace Wnd
open PySem PySem.Spec PyProof.Rows L2
/-- [(nym, ..) for nym in nyms]: the j-th number has R j -/
theorem lc_pairs {K : PySem.W.Frag} {p c an D : Addr} {n0 m : Nat} {ts : List Str} {H1 : Hp} {gT : TG} {tt : TT} {te : TE} {vs : List Nat} {σ : L2.St} {Qd : Hp → Prop} (R : Nat → Int → Prop) (hD : H1 D = none) (hP : PenAt H1 p c n0) (hA : H1 an = some (.lst (ts.map V.str))) (hz : ts.length < 1000)
    (hs : ∀ (j : Nat) (hj : j < ts.length) (Hc : Hp) (Nx : Hp → Prop), But p H1 Hc → PenAt Hc p c (n0 + m * j) →
      (∀ (v : Int) (H' : Hp), R j v → But p Hc H' → PenAt H' p c (n0 + m * (j + 1)) → ∀ T, H' T = none → ∃ acc, (upd H' T (.tup [.str ts[j], .int v])) D = some (.lst acc) ∧ acc.length < sizeLine ∧ Nx (upd (upd H' T (.tup [.str ts[j], .int v])) D (.lst (acc ++ [.ref T])))) →
      gT (.str ts[j]) (wipe σ vs) Hc fun σ2 H2 => wipe σ2 vs = wipe σ vs ∧ tt σ2 H2 fun b H3 => if b = true then te σ2 H3 fun y H4 => ∃ acc, H4 D = some (.lst acc) ∧ acc.length < sizeLine ∧ Nx (upd H4 D (.lst (acc ++ [y]))) else Nx H3)
    (hd : ∀ (Hc : Hp) (ps : List Addr) (g : List (Str × Int)), g.map (·.1) = ts → (∀ (j : Nat) (h : j < g.length), R j g[j].2) → Paired (fun u x => Hc u = some (.tup [.str x.1, .int x.2])) ps g → Hc D = some (.lst (ps.map V.ref)) → But p H1 Hc → PenAt Hc p c (n0 + m * ts.length) → Qd Hc) :
    ∃ W : Nat → Nat → Hp → Prop, (∃ m, W 0 m (upd H1 D (.lst []))) ∧ ∀ i m H, W i m H →
      ((Itl K an).stop i H ∧ Qd H) ∨ ((Itl K an).go i H ∧ ∃ Nx : Hp → Prop, (∀ H', Nx H' → ∃ m', m' < m ∧ W (i + 1) m' H') ∧ ∀ x H', (Itl K an).yld i H x H' → gT x (wipe σ vs) H' fun σ2 H2 => wipe σ2 vs = wipe σ vs ∧ tt σ2 H2 fun b H3 =>
        if b = true then te σ2 H3 fun y H4 => ∃ acc, H4 D = some (.lst acc) ∧ acc.length < sizeLine ∧ Nx (upd H4 D (.lst (acc ++ [y]))) else Nx H3) := by
  obtain ⟨nDp, nDc⟩ := hP.out hD
  have nap := hP.ne_strs hA
  have big : sizeLine > 100000 := by decide
  refine lc_it (walk_list (xs := ts.map V.str)) (fun j Hc => ∃ (ps : List Addr) (g : List (Str × Int)), g.map (·.1) = ts.take j ∧ (∀ (i : Nat) (h : i < g.length), R i g[i].2) ∧ Paired (fun u x => Hc u = some (.tup [.str x.1, .int x.2])) ps g ∧ Hc D = some (.lst (ps.map V.ref)) ∧ But p H1 Hc ∧ PenAt Hc p c (n0 + m * j))
    ⟨[], [], rfl, fun _ h => absurd h (Nat.not_lt_zero _), .nil, upd_same, But.new hD, hP.same (same_new hD)⟩ (fun j Hc _ ⟨_, _, _, _, _, _, b, _⟩ => SqL.of (b _ _ hA nap)) ?_ ?_
  · rintro j x Hc H' hj ⟨ps, g, hg, hb, hp, h2, b, hPc⟩ ⟨rfl, hx⟩
    obtain ⟨t, ht, rfl⟩ := get_map hx
    have hj' : j < ts.length := by rwa [List.length_map] at hj
    have et : ts[j] = t := by
      rw [List.getElem?_eq_getElem hj'] at ht
      exact Option.some.inj ht
    have hgl : g.length = j := by
      have h2 : (g.map (·.1)).length = (ts.take j).length := by rw [hg]
      rw [List.length_map, List.length_take] at h2
      omega
    have hpl : ps.length = j := by
      have h1 := hp.length
      omega
    have h0 := hs j hj' H' (fun Hx => ∃ (ps : List Addr) (g : List (Str × Int)), g.map (·.1) = ts.take (j + 1) ∧ (∀ (i : Nat) (h : i < g.length), R i g[i].2) ∧ Paired (fun u x => Hx u = some (.tup [.str x.1, .int x.2])) ps g ∧ Hx D = some (.lst (ps.map V.ref)) ∧ But p H1 Hx ∧ PenAt Hx p c (n0 + m * (j + 1))) b hPc
      (fun v X hv bX PX T hT => ?_)
    · rwa [et] at h0
    · have h2' := bX _ _ h2 nDp
      have nDT : D ≠ T := ne_of_none h2' hT
      obtain ⟨nTp, nTc⟩ := PX.out hT
      refine ⟨ps.map V.ref, by rw [upd_ne nDT]; exact h2', by rw [List.length_map]; omega, ps ++ [T], g ++ [(t, v)], ?_, ?_, ?_, ?_, ?_, ?_⟩
      · rw [List.map_append, hg, List.take_add_one, ht]
        rfl
      · intro i hi
        rw [List.length_append, List.length_singleton] at hi
        by_cases z : i < g.length
        · rw [List.getElem_append_left z]
          exact hb i z
        · have : i = j := by omega
          subst this
          rw [List.getElem_append_right (by omega)]
          simpa [hgl] using hv
      · refine Paired.snoc (Paired.mono (fun u x hu => ?_) hp) ?_
        · have hu3 := bX _ _ hu (hPc.ne_of hu fun xs z => nomatch z)
          rw [upd_ne (ne_of hu3 h2' fun z => nomatch z), upd_ne (ne_of_none hu3 hT)]
          exact hu3
        · rw [upd_ne nDT.symm, et]
          exact upd_same
      · rw [upd_same, List.map_append]
        rfl
      · intro z o hz nz
        rw [upd_ne (ne_of_none hz hD), upd_ne (ne_of_none (bX _ _ (b _ _ hz nz) nz) hT)]
        exact bX _ _ (b _ _ hz nz) nz
      · exact (PX.same (same_new hT)).upd nDp nDc
  · rintro Hc ⟨ps, g, hg, hb, hp, h2, b, hPc⟩
    rw [List.length_map] at hg hPc
    rw [List.take_length] at hg
    exact hd Hc ps g hg hb hp h2 b hPc
/-- one number changed -/
def setG (g : List (Str × Int)) (t : Str) (v : Int) : List (Str × Int) := g.map fun x => if x.1 = t then (x.1, v) else x
theorem setG_keys (g : List (Str × Int)) (t : Str) (v : Int) : (setG g t v).map (·.1) = g.map (·.1) := by
  unfold setG
  rw [List.map_map]
  refine List.map_congr_left fun x _ => ?_
  show (if x.1 = t then (x.1, v) else x).1 = x.1
  split <;> rfl
theorem put_goal {g : List (Str × Int)} {t : Str} {v : Int} (h : t ∈ g.map (·.1)) : putK (goalKV g) (Sum.inr t : Key) (V.int v) = goalKV (setG g t v) := by
  obtain ⟨y, hy, e⟩ := List.mem_map.mp h
  unfold putK
  have z : ((goalKV g).any fun kv => decide (kv.1 = (Sum.inr t : Key))) = true := List.any_eq_true.mpr ⟨(Sum.inr y.1, V.int y.2), List.mem_map.mpr ⟨y, hy, rfl⟩, decide_eq_true (by rw [e])⟩
  rw [if_pos z]
  unfold goalKV setG
  rw [List.map_map, List.map_map]
  refine List.map_congr_left fun x _ => ?_
  show (if (Sum.inr x.1 : Key) = Sum.inr t then ((Sum.inr x.1 : Key), V.int v) else (Sum.inr x.1, V.int x.2)) = (Sum.inr (if x.1 = t then (x.1, v) else x).1, V.int (if x.1 = t then (x.1, v) else x).2)
  by_cases z : x.1 = t
  · rw [if_pos (by rw [z]), if_pos z]
  · rw [if_neg (fun w => z (by injection w)), if_neg z]
theorem setG_bound {g : List (Str × Int)} {t : Str} {v lo hi : Int} (hb : ∀ x ∈ g, lo ≤ x.2 ∧ x.2 ≤ hi) (hv : lo ≤ v ∧ v ≤ hi) : ∀ x ∈ setG g t v, lo ≤ x.2 ∧ x.2 ≤ hi := by
  intro x hx
  obtain ⟨y, hy, rfl⟩ := List.mem_map.mp hx
  split
  · exact hv
  · exact hb y hy
theorem valG_set {g : List (Str × Int)} {t : Str} {v : Int} (h : t ∈ g.map (·.1)) : ∀ e : Option Str, (∀ u, e = some u → u ∈ g.map (·.1)) → valG (setG g t v) e = if e = some t then v else valG g e := by
  intro e he
  cases e with
  | none => rfl
  | some u =>
    have hu := he u rfl
    clear he
    induction g with
    | nil => exact nomatch hu
    | cons x g ih =>
      show ((setG (x :: g) t v).lookup u).getD 0 = _
      have e1 : setG (x :: g) t v = (if x.1 = t then (x.1, v) else x) :: setG g t v := rfl
      rw [e1]
      by_cases z : x.1 = u
      · subst z
        by_cases y : x.1 = t
        · rw [if_pos y, if_pos (by rw [y]), List.lookup_cons, show (x.1 == x.1) = true from beq_self_eq_true _]
          rfl
        · rw [if_neg y, if_neg (fun w => y (by injection w)), List.lookup_cons, show (x.1 == x.1) = true from beq_self_eq_true _]
          show x.2 = (List.lookup x.1 (x :: g)).getD 0
          rw [show List.lookup x.1 (x :: g) = some x.2 by rw [show x = (x.1, x.2) from rfl, List.lookup_cons, show (x.1 == x.1) = true from beq_self_eq_true _]]
          rfl
      · have hu2 : u ∈ g.map (·.1) := (List.mem_cons.mp hu).elim (fun w => absurd w.symm z) id
        have e2 : (List.lookup u ((if x.1 = t then (x.1, v) else x) :: setG g t v)) = List.lookup u (setG g t v) := by
          have k : (if x.1 = t then (x.1, v) else x).1 = x.1 := by split <;> rfl
          generalize (if x.1 = t then (x.1, v) else x) = w at k
          obtain ⟨a, b⟩ := w
          rw [List.lookup_cons, show (u == a) = false from beq_eq_false_iff_ne.mpr fun q => z (k ▸ q.symm)]
        have e3 : valG (x :: g) (some u) = valG g (some u) := by
          show (List.lookup u (x :: g)).getD 0 = _
          obtain ⟨a, b⟩ := x
          rw [List.lookup_cons, show (u == a) = false from beq_eq_false_iff_ne.mpr fun q => z q.symm]
          rfl
        rw [e2, e3]
        by_cases y : u = t
        · subst y
          by_cases m : u ∈ g.map (·.1)
          · exact ih m hu2
          · exact absurd hu2 m
        · rw [if_neg (fun w => y (by injection w))]
          by_cases m : t ∈ g.map (·.1)
          · have := ih m hu2
            rw [if_neg (fun w => y (by injection w))] at this
            exact this
          · have e4 : setG g t v = g := by
              unfold setG
              have : ∀ x ∈ g, (if x.1 = t then (x.1, v) else x) = x := fun x hx => if_neg fun (w : x.1 = t) => m (w ▸ List.mem_map.mpr ⟨x, hx, rfl⟩)
              rw [List.map_congr_left this, List.map_id']
            rw [e4]
            rfl
end Wnd

/-! numbers near given ones; a drawn case -/
namespace Wnd
open PySem PySem.Spec PyProof.Rows L2
section
variable {P : Program} {w : World} {K : PySem.W.Frag} {mg : Str → Option Value} {base : Heap}
/-- within a lock on d -/
theorem But.lock {p d : Addr} {H H' : Hp} {u : HO} {od : Obj} (hd : H d = some u) (nd : d ≠ p) (b : But p (L2.upd H d (.frz od u)) H') : But p H (L2.upd H' d u) := fun x o hx nx => by
  by_cases e : x = d
  · subst e
    rw [upd_same, ← hd, hx]
  · rw [upd_ne e]
    exact b _ _ (by rw [upd_ne e]; exact hx) nx
theorem DGet.z {H : Hp} {a : Addr} {kvs : List (Key × V)} {od : Obj} {k : Key} (e : H a = some (.frz od (.dK kvs))) : DGet H a (kV k) (valV kvs k) := .inl ⟨kvs, k, .inr ⟨od, e⟩, rfl, rfl⟩
/-- [(nym, ..) for nym in ..]: the j-th number has R j; any walk -/
theorem lc_pairsW {J : It} {G : Hp → Prop} {Y : Nat → Hp → V → Hp → Prop} {p c D : Addr} {n0 m : Nat} {ts : List Str} {H1 : Hp} {gT : TG} {tt : TT} {te : TE} {vs : List Nat} {σ : L2.St} {Qd : Hp → Prop} (wk : Walk J ts.length G Y) (R : Nat → Int → Prop) (hD : H1 D = none) (hP : PenAt H1 p c n0) (hz : ts.length < 1000)
    (hG : ∀ Hc, But p H1 Hc → G Hc) (hY : ∀ j Hc x H', j < ts.length → Y j Hc x H' → H' = Hc ∧ (∀ h : j < ts.length, x = .str ts[j]))
    (hs : ∀ (j : Nat) (hj : j < ts.length) (Hc : Hp) (Nx : Hp → Prop), But p H1 Hc → PenAt Hc p c (n0 + m * j) →
      (∀ (v : Int) (H' : Hp), R j v → But p Hc H' → PenAt H' p c (n0 + m * (j + 1)) → ∀ T, H' T = none → ∃ acc, (upd H' T (.tup [.str ts[j], .int v])) D = some (.lst acc) ∧ acc.length < sizeLine ∧ Nx (upd (upd H' T (.tup [.str ts[j], .int v])) D (.lst (acc ++ [.ref T])))) →
      gT (.str ts[j]) (wipe σ vs) Hc fun σ2 H2 => wipe σ2 vs = wipe σ vs ∧ tt σ2 H2 fun b H3 => if b = true then te σ2 H3 fun y H4 => ∃ acc, H4 D = some (.lst acc) ∧ acc.length < sizeLine ∧ Nx (upd H4 D (.lst (acc ++ [y]))) else Nx H3)
    (hd : ∀ (Hc : Hp) (ps : List Addr) (g : List (Str × Int)), g.map (·.1) = ts → (∀ (j : Nat) (h : j < g.length), R j g[j].2) → Paired (fun u x => Hc u = some (.tup [.str x.1, .int x.2])) ps g → Hc D = some (.lst (ps.map V.ref)) → But p H1 Hc → PenAt Hc p c (n0 + m * ts.length) → Qd Hc) :
    ∃ W : Nat → Nat → Hp → Prop, (∃ m, W 0 m (upd H1 D (.lst []))) ∧ ∀ i m H, W i m H →
      (J.stop i H ∧ Qd H) ∨ (J.go i H ∧ ∃ Nx : Hp → Prop, (∀ H', Nx H' → ∃ m', m' < m ∧ W (i + 1) m' H') ∧ ∀ x H', J.yld i H x H' → gT x (wipe σ vs) H' fun σ2 H2 => wipe σ2 vs = wipe σ vs ∧ tt σ2 H2 fun b H3 =>
        if b = true then te σ2 H3 fun y H4 => ∃ acc, H4 D = some (.lst acc) ∧ acc.length < sizeLine ∧ Nx (upd H4 D (.lst (acc ++ [y]))) else Nx H3) := by
  obtain ⟨nDp, nDc⟩ := hP.out hD
  have big : sizeLine > 100000 := by decide
  refine lc_it wk (fun j Hc => ∃ (ps : List Addr) (g : List (Str × Int)), g.map (·.1) = ts.take j ∧ (∀ (i : Nat) (h : i < g.length), R i g[i].2) ∧ Paired (fun u x => Hc u = some (.tup [.str x.1, .int x.2])) ps g ∧ Hc D = some (.lst (ps.map V.ref)) ∧ But p H1 Hc ∧ PenAt Hc p c (n0 + m * j))
    ⟨[], [], rfl, fun _ h => absurd h (Nat.not_lt_zero _), .nil, upd_same, But.new hD, hP.same (same_new hD)⟩ (fun j Hc _ ⟨_, _, _, _, _, _, b, _⟩ => hG _ b) ?_ ?_
  · rintro j x Hc H' hj ⟨ps, g, hg, hb, hp, h2, b, hPc⟩ hy
    obtain ⟨rfl, hx⟩ := hY _ _ _ _ hj hy
    have hx := hx hj
    subst hx
    have ht : ts[j]? = some ts[j] := List.getElem?_eq_getElem hj
    have hgl : g.length = j := by
      have h2 : (g.map (·.1)).length = (ts.take j).length := by rw [hg]
      rw [List.length_map, List.length_take] at h2
      omega
    have hpl : ps.length = j := by
      have h1 := hp.length
      omega
    refine hs j hj H' (fun Hx => ∃ (ps : List Addr) (g : List (Str × Int)), g.map (·.1) = ts.take (j + 1) ∧ (∀ (i : Nat) (h : i < g.length), R i g[i].2) ∧ Paired (fun u x => Hx u = some (.tup [.str x.1, .int x.2])) ps g ∧ Hx D = some (.lst (ps.map V.ref)) ∧ But p H1 Hx ∧ PenAt Hx p c (n0 + m * (j + 1))) b hPc
      (fun v X hv bX PX T hT => ?_)
    have h2' := bX _ _ h2 nDp
    have nDT : D ≠ T := ne_of_none h2' hT
    obtain ⟨nTp, nTc⟩ := PX.out hT
    refine ⟨ps.map V.ref, by rw [upd_ne nDT]; exact h2', by rw [List.length_map]; omega, ps ++ [T], g ++ [(ts[j], v)], ?_, ?_, ?_, ?_, ?_, ?_⟩
    · rw [List.map_append, hg, List.take_add_one, ht]
      rfl
    · intro i hi
      rw [List.length_append, List.length_singleton] at hi
      by_cases z : i < g.length
      · rw [List.getElem_append_left z]
        exact hb i z
      · have : i = j := by omega
        subst this
        rw [List.getElem_append_right (by omega)]
        simpa [hgl] using hv
    · refine Paired.snoc (Paired.mono (fun u x hu => ?_) hp) ?_
      · have hu3 := bX _ _ hu (hPc.ne_of hu fun xs z => nomatch z)
        rw [upd_ne (ne_of hu3 h2' fun z => nomatch z), upd_ne (ne_of_none hu3 hT)]
        exact hu3
      · rw [upd_ne nDT.symm]
        exact upd_same
    · rw [upd_same, List.map_append]
      rfl
    · intro z o hz nz
      rw [upd_ne (ne_of_none hz hD), upd_ne (ne_of_none (bX _ _ (b _ _ hz nz) nz) hT)]
      exact bX _ _ (b _ _ hz nz) nz
    · exact (PX.same (same_new hT)).upd nDp nDc
  · rintro Hc ⟨ps, g, hg, hb, hp, h2, b, hPc⟩
    rw [List.take_length] at hg
    exact hd Hc ps g hg hb hp h2 b hPc
/-- as lc_pairsW, whatever is walked: the j-th item is iv j -/
theorem lc_pairsX {J : It} {G : Hp → Prop} {Y : Nat → Hp → V → Hp → Prop} {p c D : Addr} {n0 m : Nat} {ts : List Str} {H1 : Hp} {gT : TG} {tt : TT} {te : TE} {vs : List Nat} {σ : L2.St} {Qd : Hp → Prop} (iv : Nat → V) (wk : Walk J ts.length G Y) (R : Nat → Int → Prop) (hD : H1 D = none) (hP : PenAt H1 p c n0) (hz : ts.length < 1000)
    (hG : ∀ Hc, But p H1 Hc → G Hc) (hY : ∀ j Hc x H', j < ts.length → Y j Hc x H' → H' = Hc ∧ x = iv j)
    (hs : ∀ (j : Nat) (hj : j < ts.length) (Hc : Hp) (Nx : Hp → Prop), But p H1 Hc → PenAt Hc p c (n0 + m * j) →
      (∀ (v : Int) (H' : Hp), R j v → But p Hc H' → PenAt H' p c (n0 + m * (j + 1)) → ∀ T, H' T = none → ∃ acc, (upd H' T (.tup [.str ts[j], .int v])) D = some (.lst acc) ∧ acc.length < sizeLine ∧ Nx (upd (upd H' T (.tup [.str ts[j], .int v])) D (.lst (acc ++ [.ref T])))) →
      gT (iv j) (wipe σ vs) Hc fun σ2 H2 => wipe σ2 vs = wipe σ vs ∧ tt σ2 H2 fun b H3 => if b = true then te σ2 H3 fun y H4 => ∃ acc, H4 D = some (.lst acc) ∧ acc.length < sizeLine ∧ Nx (upd H4 D (.lst (acc ++ [y]))) else Nx H3)
    (hd : ∀ (Hc : Hp) (ps : List Addr) (g : List (Str × Int)), g.map (·.1) = ts → (∀ (j : Nat) (h : j < g.length), R j g[j].2) → Paired (fun u x => Hc u = some (.tup [.str x.1, .int x.2])) ps g → Hc D = some (.lst (ps.map V.ref)) → But p H1 Hc → PenAt Hc p c (n0 + m * ts.length) → Qd Hc) :
    ∃ W : Nat → Nat → Hp → Prop, (∃ m, W 0 m (upd H1 D (.lst []))) ∧ ∀ i m H, W i m H →
      (J.stop i H ∧ Qd H) ∨ (J.go i H ∧ ∃ Nx : Hp → Prop, (∀ H', Nx H' → ∃ m', m' < m ∧ W (i + 1) m' H') ∧ ∀ x H', J.yld i H x H' → gT x (wipe σ vs) H' fun σ2 H2 => wipe σ2 vs = wipe σ vs ∧ tt σ2 H2 fun b H3 =>
        if b = true then te σ2 H3 fun y H4 => ∃ acc, H4 D = some (.lst acc) ∧ acc.length < sizeLine ∧ Nx (upd H4 D (.lst (acc ++ [y]))) else Nx H3) := by
  obtain ⟨nDp, nDc⟩ := hP.out hD
  have big : sizeLine > 100000 := by decide
  refine lc_it wk (fun j Hc => ∃ (ps : List Addr) (g : List (Str × Int)), g.map (·.1) = ts.take j ∧ (∀ (i : Nat) (h : i < g.length), R i g[i].2) ∧ Paired (fun u x => Hc u = some (.tup [.str x.1, .int x.2])) ps g ∧ Hc D = some (.lst (ps.map V.ref)) ∧ But p H1 Hc ∧ PenAt Hc p c (n0 + m * j))
    ⟨[], [], rfl, fun _ h => absurd h (Nat.not_lt_zero _), .nil, upd_same, But.new hD, hP.same (same_new hD)⟩ (fun j Hc _ ⟨_, _, _, _, _, _, b, _⟩ => hG _ b) ?_ ?_
  · rintro j x Hc H' hj ⟨ps, g, hg, hb, hp, h2, b, hPc⟩ hy
    obtain ⟨rfl, hx⟩ := hY _ _ _ _ hj hy
    subst hx
    have ht : ts[j]? = some ts[j] := List.getElem?_eq_getElem hj
    have hgl : g.length = j := by
      have h2 : (g.map (·.1)).length = (ts.take j).length := by rw [hg]
      rw [List.length_map, List.length_take] at h2
      omega
    have hpl : ps.length = j := by
      have h1 := hp.length
      omega
    refine hs j hj H' (fun Hx => ∃ (ps : List Addr) (g : List (Str × Int)), g.map (·.1) = ts.take (j + 1) ∧ (∀ (i : Nat) (h : i < g.length), R i g[i].2) ∧ Paired (fun u x => Hx u = some (.tup [.str x.1, .int x.2])) ps g ∧ Hx D = some (.lst (ps.map V.ref)) ∧ But p H1 Hx ∧ PenAt Hx p c (n0 + m * (j + 1))) b hPc
      (fun v X hv bX PX T hT => ?_)
    have h2' := bX _ _ h2 nDp
    have nDT : D ≠ T := ne_of_none h2' hT
    obtain ⟨nTp, nTc⟩ := PX.out hT
    refine ⟨ps.map V.ref, by rw [upd_ne nDT]; exact h2', by rw [List.length_map]; omega, ps ++ [T], g ++ [(ts[j], v)], ?_, ?_, ?_, ?_, ?_, ?_⟩
    · rw [List.map_append, hg, List.take_add_one, ht]
      rfl
    · intro i hi
      rw [List.length_append, List.length_singleton] at hi
      by_cases z : i < g.length
      · rw [List.getElem_append_left z]
        exact hb i z
      · have : i = j := by omega
        subst this
        rw [List.getElem_append_right (by omega)]
        simpa [hgl] using hv
    · refine Paired.snoc (Paired.mono (fun u x hu => ?_) hp) ?_
      · have hu3 := bX _ _ hu (hPc.ne_of hu fun xs z => nomatch z)
        rw [upd_ne (ne_of hu3 h2' fun z => nomatch z), upd_ne (ne_of_none hu3 hT)]
        exact hu3
      · rw [upd_ne nDT.symm]
        exact upd_same
    · rw [upd_same, List.map_append]
      rfl
    · intro z o hz nz
      rw [upd_ne (ne_of_none hz hD), upd_ne (ne_of_none (bX _ _ (b _ _ hz nz) nz) hT)]
      exact bX _ _ (b _ _ hz nz) nz
    · exact (PX.same (same_new hT)).upd nDp nDc
  · rintro Hc ⟨ps, g, hg, hb, hp, h2, b, hPc⟩
    rw [List.take_length] at hg
    exact hd Hc ps g hg hb hp h2 b hPc
def spNear : Sp := fun vs H Q _ => ∃ (p c d : Addr) (n : Nat) (g : List (Str × Int)), vs = [.ref p, .ref d] ∧ PenAt H p c n ∧ n ≤ 900000 ∧ H d = some (.dK (goalKV g)) ∧ (g.map (·.1)).Nodup ∧ g.length < 1000 ∧
  ∀ r H' n' (g' : List (Str × Int)), But p H H' → H r = none → H' r = some (.dK (goalKV g')) → g'.map (·.1) = g.map (·.1) → (∀ (j : Nat) (h : j < g.length) (h' : j < g'.length), g[j].2 - 3 ≤ g'[j].2 ∧ g'[j].2 ≤ g[j].2 + 4) → PenAt H' p c n' → n' ≤ n + g.length → Q (.ref r) H'
end
end Wnd

/-! Windowsteps: != of two lists whose items are equal dicts. -/
namespace PySem.SeqAt
open AutoSeq1 (wpAny_loadPart')
open MeetsSeq MeetsSeq2 MeetsSeq3 SeqRoads2
section
variable {prog : Program} {w : World}
theorem wnd_ne_loopIn (l b : Addr) (items items2 : Array Value) (n n2 : Nat) (dd dd2 : Option Addr) (sl sl2 : Array (Option Value)) (hsz : items.size = items2.size) (e : Nat → Bool) (k : Nat) :
    ∀ i : Nat, items.size - i = k → MeetsIn prog w (Builtin.«list.__eq__.loop» ⟨[.ref l, .ref b, rawInt i, rawInt 3], []⟩)
      (fun A R s => s.heap.get? l = some { cls := .type "list", dict := dd, data := .seq items n, slots := sl } ∧ s.heap.get? b = some { cls := .type "list", dict := dd2, data := .seq items2 n2, slots := sl2 } ∧
        (∀ j (h1 : j < items.size) (h2 : j < items2.size), EqP prog w A.in1 s items[j] items2[j] (e j)) ∧
        R (.ok (.ret (.bool (!((List.range items.size).drop i).all e)))) s) := by
  induction k with
  | zero =>
    intro i hk A R s h
    obtain ⟨hp, g, d, tk, os⟩ := s; obtain ⟨hl, hb, he, h⟩ := h
    wp_walk using wpAny_loadPart' hl, wpAny_loadPart' hb
    have hi1 : items[((i : Nat) : Int).toNat]? = none := by simp; omega
    have hi2 : items2[((i : Nat) : Int).toNat]? = none := by simp; omega
    have hd : (List.range items.size).drop i = [] := by simp; omega
    rw [hd] at h
    rw [hi1, hi2]
    wp_walk using wpAny_loadPart' hl, wpAny_loadPart' hb
    show R (.ok (.ret (.bool (items.size != items2.size)))) _
    rw [hsz]
    simpa using h
  | succ k ih =>
    intro i hk A R s h
    obtain ⟨hp, g, d, tk, os⟩ := s; obtain ⟨hl, hb, he, h⟩ := h
    wp_walk using wpAny_loadPart' hl, wpAny_loadPart' hb
    have hlt : i < items.size := by omega
    have hlt2 : i < items2.size := by omega
    have hi1 : items[((i : Nat) : Int).toNat]? = some items[i] := by simp [hlt]
    have hi2 : items2[((i : Nat) : Int).toNat]? = some items2[i] := by simp [hlt2]
    have hd : (List.range items.size).drop i = i :: (List.range items.size).drop (i + 1) := by simp [List.drop_eq_getElem_cons, hlt]
    have hc : ((i : Int) + 1) = ((i + 1 : Nat) : Int) := by push_cast; rfl
    rw [hd, List.all_cons] at h
    rw [hi1, hi2]
    refine wpAny_bind (he i hlt hlt2 _ _ ?_)
    cases hb' : e i with
    | true =>
      rw [hb'] at h
      wp_walk
      rw [hc]
      exact ⟨plainId_quiet plain_eq_loop _, codeAny_builtin entry_eq_loop (by
        rw [Around.under_plainId plain_eq_loop _]
        exact ih (i + 1) (by omega) A R _ ⟨hl, hb, he, by simpa using h⟩)⟩
    | false =>
      rw [hb'] at h
      wp_walk using wpAny_loadPart' hl, wpAny_loadPart' hb
      rw [hi1, hi2]
      wp_walk
      simpa using h
theorem wnd_list_neIn (l b : Addr) (items items2 : Array Value) (n n2 : Nat) (dd dd2 : Option Addr) (sl sl2 : Array (Option Value)) (hsz : items.size = items2.size) (e : Nat → Bool) :
    MeetsIn prog w (Builtin.«list.__ne__» ⟨[.ref l, .ref b], []⟩)
      (fun A R s => s.heap.get? l = some { cls := .type "list", dict := dd, data := .seq items n, slots := sl } ∧ s.heap.get? b = some { cls := .type "list", dict := dd2, data := .seq items2 n2, slots := sl2 } ∧
        (∀ j (h1 : j < items.size) (h2 : j < items2.size), EqP prog w A.in1 s items[j] items2[j] (e j)) ∧
        R (.ok (.ret (.bool (!(List.range items.size).all e)))) s) := by
  intro A R s h
  obtain ⟨hp, g, d, tk, os⟩ := s; obtain ⟨hl, hb, he, h⟩ := h
  have f3 := AutoSeq1.sub_list_list
  have hne : ¬ (items.size != items2.size) = true := by simp [hsz]
  wp_walk using wpAny_loadPart' hl, wpAny_loadPart' hb
  exact ⟨plainId_quiet plain_eq_loop _, codeAny_builtin entry_eq_loop (by
    rw [Around.under_plainId plain_eq_loop _]
    exact wnd_ne_loopIn l b items items2 n n2 dd dd2 sl sl2 hsz e _ 0 rfl A R _ ⟨hl, hb, he, by simpa using h⟩)⟩
theorem wnd_rcNeP {A : Around} {s : Shared} {l b : Addr} {items items2 : Array Value} {e : Nat → Bool} (hl : s.heap.IsList l items) (hb : s.heap.IsList b items2) (hsz : items.size = items2.size) (hu : A.units < cLine)
    (he : ∀ j (h1 : j < items.size) (h2 : j < items2.size), EqP prog w A.in1 s items[j] items2[j] (e j)) (E Q : Value → Shared → Prop) (h : Q (.bool (!(List.range items.size).all e)) s) : wpAny (model prog w) A (richCompare .NotEq (.ref l) (.ref b)) Q E s := by
  obtain ⟨⟨cls, dd, data, sl⟩, ho, hc, n, hd⟩ := id hl
  obtain ⟨⟨cls2, dd2, data2, sl2⟩, ho2, hc2, n2, hd2⟩ := id hb
  simp only at hc hd hc2 hd2
  subst hc hd hc2 hd2
  have ta : s.TypeIs (.ref l) "list" := ⟨_, ho, rfl⟩
  have tb : s.TypeIs (.ref b) "list" := ⟨_, ho2, rfl⟩
  exact wpAny_richCompare_same_room (op := .NotEq) ta tb F.slot_list_ne (call_meetsIn F.slot_list_ne ta F.entry_list_ne (F.args_list_ne_2 _ _) (wnd_list_neIn l b items items2 n n2 dd dd2 sl sl2 hsz e)
    ⟨ho, ho2, he, show Value.bool (!(List.range items.size).all e) ≠ Value.notImplemented ∧ Q (.bool (!(List.range items.size).all e)) s from ⟨(fun x => nomatch x), h⟩⟩) hu
end
end PySem.SeqAt
namespace Wnd
open PySem PySem.Spec PyProof.Rows L2
variable {X : Cx}
def rNeV (K : PySem.W.Frag) : R2 := fun x y H Q => ∃ n, n ≤ 60 ∧ (∃ a b xs ys, x = .ref a ∧ y = .ref b ∧ SqL K H a xs ∧ SqL K H b ys ∧ Paired (EqV K H n) xs ys) ∧ Q (.bl false) H
theorem op_neV (hu : X.A.units + 64 < cLine) : OpR X (compareOp .NotEq) (rNeV X.K) := by
  intro pins s σ H x y v u Q I rx ry h
  obtain ⟨n, hn, ⟨a, b, xs, ys, rfl, rfl, ha, hb, hp⟩, q⟩ := h
  cases (show v = Value.ref a from rx)
  cases (show u = Value.ref b from ry)
  obtain ⟨us, r1, p1, _⟩ := I.list ha
  obtain ⟨ws, r2, p2, _⟩ := I.list hb
  have hsz : us.toArray.size = ws.toArray.size := by
    rw [List.size_toArray, List.size_toArray, ← r1.length, ← r2.length]
    exact Paired.length hp
  refine SeqAt.wnd_rcNeP (A := X.A) (e := fun _ => true) p1.isList p2.isList hsz (by omega) (fun j h1 h2 => ?_) _ _ ?_
  · have k := items_run (eqV_run I n X.A.in1 (by show X.A.units + 1 + n < cLine; omega)) hp r1 r2 j (by simpa using h1) (by simpa using h2)
    simpa using k
  · rw [show ((List.range us.toArray.size).all fun _ => true) = true from List.all_eq_true.mpr fun _ _ => rfl]
    exact ⟨.bl false, H, I, rfl, q⟩
end Wnd

/-! A list comprehension whose new list is told not to lie where the modules are kept. Statements and proofs follow the library's lc_core, pe_lc, ps_setLc; only that fact is added. -/
namespace Wnd
open PySem PySem.Spec PyProof.Rows L2
section
variable {X : Cx}
def tLcN (wi : TI) (g : TG) (tt : TT) (te : TE) (vs : List Nat) : TE := fun σ H Q => wi σ H fun J H1 => ∀ D, H1 D = none → D ≠ sysModules → ∃ W : Nat → Nat → Hp → Prop, (∃ m, W 0 m (upd H1 D (.lst []))) ∧ ∀ i m H, W i m H →
  (J.stop i H ∧ Q (.ref D) H) ∨ (J.go i H ∧ ∃ Nx : Hp → Prop, (∀ H', Nx H' → ∃ m', m' < m ∧ W (i + 1) m' H') ∧ ∀ x H', J.yld i H x H' → g x (wipe σ vs) H' fun σ2 H2 => wipe σ2 vs = wipe σ vs ∧ tt σ2 H2 fun b H3 =>
    if b = true then te σ2 H3 fun y H4 => ∃ acc, H4 D = some (.lst acc) ∧ acc.length < sizeLine ∧ Nx (upd H4 D (.lst (acc ++ [y]))) else Nx H3)
theorem lc_coreN {pins : List (Addr × Obj)} {s : Shared} {σ : L2.St} {H : Hp} {Q : VK} {elt tg iter : Expr} {ifs : List Expr} {scope : Scope} {own : List (Str × Nat)} {pos pos' : Pos} {wi : TI} {g : TG} {tt : TT} {te : TE} {use : Option (Value → Sem Unit)} {Qf : Value → Shared → Prop}
    (hc : X.calm = true) (hN : X.N.Nodup) (I : Inv X pins σ H s) (hi : PI X tg iter wi) (ok : BlkOk X.N X.env.scope scope own)
    (hg : ∀ (s : Shared) (H : Hp) (C : Addr) (cl : List (Str × Addr)) (fp : List Addr), PG (X.blk s H scope (compEnvC scope cl C X.env) fp) tg g) (ht : ∀ (s : Shared) (H : Hp) (C : Addr) (cl : List (Str × Addr)) (fp : List Addr), PTs (X.blk s H scope (compEnvC scope cl C X.env) fp) ifs tt)
    (he : ∀ (s : Shared) (H : Hp) (C : Addr) (cl : List (Str × Addr)) (fp : List Addr), PE (X.blk s H scope (compEnvC scope cl C X.env) fp) elt te) (hs : ∀ x, foldedSetIterable iter X.env x = pure x)
    (h : tLcN wi g tt te (own.map (·.2)) σ H Q)
    (hRR : ∀ D C s' m H', Inv X pins σ H' s' → Q (.ref D) H' → s'.heap.Ns C m → FpOk X pins H' C → compPost (model X.prog X.w) X.A X.xe use Qf (.ref D) C (.ok .next) s') :
    wpAny (model X.prog X.w) X.A (comprehension (.ListComp elt [⟨tg, iter, ifs, 0⟩] scope pos) scope X.env pos' (newList []) false (eval iter X.env) use) Qf X.xe s := by
  have hfree : ∀ y ∈ scope.names, y.2 = .free → ∃ c, X.env.cells.lookup y.1 = some c := fun y hy e => by
    rcases ok.free y hy e with k | k
    · exact I.ok.has _ (.inl k)
    · exact I.ok.has _ (.inr k)
  refine wpAny_comprehension_free (use := use) rfl hs (closure_ok hfree) ok.kind (fun y hy e => by rw [ok.uniq y hy, e])
    (thn (hi.run pins s σ H _ I h) fun xv s1 hx => thn hx fun itv s2 h2 => ?_)
  obtain ⟨it, fp, tn, J, H2, e, I2, T, st2, f2, q⟩ := h2
  subst e
  refine wpAny_newObj_type (newEnv_comp ?_) (by show 0 ≤ sizeLine; decide)
  generalize hD : s2.heap.objs.size = D
  have hDn : H2 D = none := I2.hok.fresh (Nat.le_of_eq hD)
  obtain ⟨W, ⟨m0, w0⟩, turn⟩ := q D hDn (by rw [← hD]; exact Nat.ne_of_gt I2.big)
  -- the new list
  generalize hs3 : ({ s2 with heap := s2.heap.push { cls := .type "list", data := .seq ([] : List Value).toArray } } : Shared) = s3
  have I3 : Inv X pins σ (upd H2 D (.lst [])) s3 := by
    rw [← hs3]
    refine I2.laid (t' := s2.toks) (fun b o e => Heap.get?_push_of_some _ e) (Nat.le_of_eq hD) ⟨Nat.zero_le _, [], 0, .nil, ?_⟩
    rw [← hD]
    exact Heap.get?_push_size _ rfl
  have h3 : s3.heap = s2.heap.push { cls := .type "list", data := .seq ([] : List Value).toArray } := by rw [← hs3]
  have sz : ∀ b ∈ fp, b < s2.heap.objs.size := fun b hb => by
    obtain ⟨o, e, _⟩ := T.obj _ _ st2 b hb
    exact Heap.lt_size e
  have f3 : ∀ b ∈ fp, FpOk X pins (upd H2 D (.lst [])) b ∧ b < s3.heap.objs.size := fun b hb => by
    have hlt := sz b hb
    refine ⟨⟨?_, (f2 b hb).2⟩, by rw [h3, Heap.size_push]; exact Nat.lt_succ_of_lt hlt⟩
    rw [upd_ne (by rw [← hD]; exact Nat.ne_of_lt hlt)]
    exact (f2 b hb).1
  have st3 : tn 0 s3.heap := T.keep _ _ _ st2 fun b _ o e => by rw [h3]; exact Heap.get?_push_of_some _ e
  have I4 := block_start I3 ok hN f3
  have pg := hg s3 (upd H2 D (.lst [])) s3.heap.objs.size (cellsFrom (s3.heap.objs.size + 1) scope.names (cloFrom X.env.cells scope.names [])) fp
  have pt := ht s3 (upd H2 D (.lst [])) s3.heap.objs.size (cellsFrom (s3.heap.objs.size + 1) scope.names (cloFrom X.env.cells scope.names [])) fp
  have pe := he s3 (upd H2 D (.lst [])) s3.heap.objs.size (cellsFrom (s3.heap.objs.size + 1) scope.names (cloFrom X.env.cells scope.names [])) fp
  show codeAny _ _ (.compStart (.ListComp elt [⟨tg, iter, ifs, 0⟩] scope pos) 0 (.ref it) (.ref D) (compEnvC scope (cellsFrom (s3.heap.objs.size + 1) scope.names (cloFrom X.env.cells scope.names [])) s3.heap.objs.size X.env)) (compPost (model X.prog X.w) X.A X.xe use Qf (.ref D) s3.heap.objs.size) { s3 with heap := pushCells (s3.heap.push { cls := .type "dict", data := .dict #[] }) scope.names }
  have nfp : ∀ b ∈ fp, (upd H2 D (.lst [])) b = none := fun b hb => (f3 b hb).1.1
  generalize hce : compEnvC scope (cellsFrom (s3.heap.objs.size + 1) scope.names (cloFrom X.env.cells scope.names [])) s3.heap.objs.size X.env = ce at I4 pg pt pe ⊢
  have cL : ce.locals = s3.heap.objs.size := by subst hce; rfl
  generalize hH3 : upd H2 D (.lst []) = H3 at I3 I4 pg pt pe w0 nfp f3
  generalize hs4 : ({ s3 with heap := pushCells (s3.heap.push { cls := .type "dict", data := .dict #[] }) scope.names } : Shared) = s4 at I4 ⊢
  have st4 : tn 0 s4.heap := T.keep _ _ _ st3 fun b _ o e => by rw [← hs4]; exact pushCells_keeps _ _ _ _ (Heap.get?_push_of_some _ e)
  have stat : ∀ {σ' : L2.St} {H' : Hp} {s' : Shared}, Inv (X.blk s3 H3 scope ce fp) [] σ' H' s' → (∀ b ∈ fp, H' b = none) → ∀ b ∈ fp, FpOk (X.blk s3 H3 scope ce fp) [] H' b := fun {σ' H' s'} I' hn b hb =>
    ⟨hn b hb, (I'.ok.exf b hb).1, I'.ok.exfs b hb, .inl hb, fun x c e => (I'.ok.exf b hb).2 x c e, fun p hp => absurd (show p ∈ ([] : List (Addr × Obj)) ++ [] from hp) (by simp)⟩
  have loop : codeAny (model X.prog X.w) X.A (.compLoop (.ListComp elt [⟨tg, iter, ifs, 0⟩] scope pos) 0 (.ref it) (.ref D) ce) (compPost (model X.prog X.w) X.A X.xe use Qf (.ref D) s3.heap.objs.size) s4 := by
    refine compLoop_any (fun n s' => ∃ i H', Inv (X.blk s3 H3 scope ce fp) [] (wipe σ (own.map (·.2))) H' s' ∧ tn i s'.heap ∧ (∀ b ∈ fp, H' b = none) ∧ W i n H') ?_ m0 ⟨0, H3, I4, st4, nfp, w0⟩
    rintro n s5 ⟨i, H5, I5, st5, n5, w5⟩
    rcases turn i n H5 w5 with ⟨stop, qq⟩ | ⟨go, Nx, hNx, step⟩
    · have td := T.done (X.blk s3 H3 scope ce fp) rfl rfl rfl hc i [] s5 _ H5 (fun _ _ => False) I5 (stat I5 n5) st5 stop
      refine thnF td fun r s6 ⟨hr, I6⟩ => ?_
      subst hr
      -- back in the def's context
      have I7 : Inv X pins σ H5 s6 := I3.call' (ch := fp) I6.os I6.base I6.hok I6.bare fun b hb => ⟨(f3 b hb).1.2.2.2.1, (f3 b hb).1.2.1, (f3 b hb).1.2.2.2.2.1, (f3 b hb).1.2.2.2.2.2⟩
      have nC : H5 s3.heap.objs.size = none := by
        have z : H5 ce.locals = none := I6.free
        rw [cL] at z
        exact z
      obtain ⟨m, hn, _⟩ := I6.loc
      have hn : s6.heap.Ns ce.locals m := hn
      rw [cL] at hn
      exact hRR D s3.heap.objs.size s6 m H5 I7 qq hn (I3.fpOk (Nat.le_refl _) nC)
    · have ti := T.item (X.blk s3 H3 scope ce fp) rfl rfl rfl hc i [] s5 _ H5 (fun _ _ => False) I5 (stat I5 n5) st5 go
      refine thnF ti fun r s6 ⟨u, hr, h6⟩ => ?_
      subst hr
      refine thnF h6 fun _ s7 ⟨x, H7, I7, r7, y7, st7, n7⟩ => ?_
      have I7' := I7.pinned (stat I7 n7) (T.obj _ _ st7)
      refine thnF (pg.run _ s7 _ H7 x u _ I7' r7 (step x H7 y7)) fun _ s8 ⟨σ8, H8, I8, hw8, q8⟩ => ?_
      refine thnF (pt.run _ s8 σ8 H8 _ I8 q8) fun b s9 ⟨H9, I9, q9⟩ => ?_
      -- the turn's end
      have fin : ∀ {s' : Shared} {H' : Hp}, Inv (X.blk s3 H3 scope ce fp) ([] ++ pinsAt fp s7.heap) σ8 H' s' → Nx H' → ∃ m, m < n ∧ ∃ i H', Inv (X.blk s3 H3 scope ce fp) [] (wipe σ (own.map (·.2))) H' s' ∧ tn i s'.heap ∧ (∀ b ∈ fp, H' b = none) ∧ W i m H' := fun {s' H'} I' nx => by
        obtain ⟨m', hm, w'⟩ := hNx H' nx
        have pin' : ∀ b ∈ fp, ∀ o, s7.heap.get? b = some o → s'.heap.get? b = some o ∧ H' b = none := fun b hb o e =>
          let z := I'.pin (b, o) (List.mem_append_right _ (List.mem_append_right _ (mem_pinsAt hb e)))
          ⟨z.1, z.2.1⟩
        have hl : (wipe σ (own.map (·.2))).length = σ8.length := by rw [← hw8, wipe_length]
        refine ⟨m', hm, i + 1, H', (I'.unpinned (pins := [])).weak hl (fun j v e => ?_), T.keep _ _ _ st7 fun b hb o e => (pin' b hb o e).1, fun b hb => ?_, w'⟩
        · rw [← hw8] at e
          exact (wipe_some e).1
        · obtain ⟨o, e, _⟩ := T.obj _ _ st7 b hb
          exact (pin' b hb o e).2
      cases b with
      | false =>
        simp only [Bool.false_eq_true, if_false] at q9 ⊢
        exact fin I9 q9
      | true =>
        simp only [if_true] at q9 ⊢
        refine thnF (pe.run _ s9 σ8 H9 _ I9 q9) fun z s10 ⟨yv, H10, I10, r10, acc, hD10, hz10, nx⟩ => ?_
        exact app_ok (X := X.blk s3 H3 scope ce fp) I10 hD10 hz10 r10 fun s11 I11 => fin I11 nx
  exact codeAny_compStart_list loop (T.self X.A 0 _ _ _ st4 loop)
theorem pe_lcN {elt tg iter : Expr} {ifs : List Expr} {scope : Scope} {own : List (Str × Nat)} {pos : Pos} {wi : TI} {g : TG} {tt : TT} {te : TE} (hc : X.calm = true) (hN : X.N.Nodup) (hi : PI X tg iter wi) (ok : BlkOk X.N X.env.scope scope own)
    (hg : ∀ (s : Shared) (H : Hp) (C : Addr) (cl : List (Str × Addr)) (fp : List Addr), PG (X.blk s H scope (compEnvC scope cl C X.env) fp) tg g) (ht : ∀ (s : Shared) (H : Hp) (C : Addr) (cl : List (Str × Addr)) (fp : List Addr), PTs (X.blk s H scope (compEnvC scope cl C X.env) fp) ifs tt)
    (he : ∀ (s : Shared) (H : Hp) (C : Addr) (cl : List (Str × Addr)) (fp : List Addr), PE (X.blk s H scope (compEnvC scope cl C X.env) fp) elt te) (hs : ∀ x, foldedSetIterable iter X.env x = pure x := by intro _; rfl) :
    PE X (.ListComp elt [⟨tg, iter, ifs, 0⟩] scope pos) (tLcN wi g tt te (own.map (·.2))) := by
  refine ⟨fun pins s σ H Q I h => ?_⟩
  rw [eval_ListComp]
  refine lc_coreN hc hN I hi ok hg ht he hs h fun D C s' m H' I' q hn f => ⟨m, hn, fun h'' sb => ?_⟩
  obtain ⟨f0, f1, f2, f3, f4, f5⟩ := f
  exact ⟨.ref D, H', I'.turned (t' := s'.toks) (fun b o hb e => (sb.2 b hb).trans e) f0 f1 f3 f4 f5, rfl, q⟩
theorem ps_setLcN {i : Nat} {y : Str} {py : Pos} {elt tg iter : Expr} {ifs : List Expr} {scope : Scope} {own : List (Str × Nat)} {pos spos : Pos} {wi : TI} {g : TG} {tt : TT} {te : TE} (hc : X.calm = true) (hN : X.N.Nodup) (hy : X.N[i]? = some y) (hyl : X.env.scope.names.lookup y = some .local)
    (hsw : swapsWith (.ListComp elt [⟨tg, iter, ifs, 0⟩] scope pos) (some (.Name y py)) spos.line X.env = pure true) (hi : PI X tg iter wi) (ok : BlkOk X.N X.env.scope scope own)
    (hg : ∀ (s : Shared) (H : Hp) (C : Addr) (cl : List (Str × Addr)) (fp : List Addr), PG (X.blk s H scope (compEnvC scope cl C X.env) fp) tg g) (ht : ∀ (s : Shared) (H : Hp) (C : Addr) (cl : List (Str × Addr)) (fp : List Addr), PTs (X.blk s H scope (compEnvC scope cl C X.env) fp) ifs tt)
    (he : ∀ (s : Shared) (H : Hp) (C : Addr) (cl : List (Str × Addr)) (fp : List Addr), PE (X.blk s H scope (compEnvC scope cl C X.env) fp) elt te) (hs : ∀ x, foldedSetIterable iter X.env x = pure x := by intro _; rfl) :
    PS X (.Assign [.Name y py] (.ListComp elt [⟨tg, iter, ifs, 0⟩] scope pos) spos) (tAsg (tLcN wi g tt te (own.map (·.2))) (gName i)) := by
  refine ⟨fun pins s σ H D I h => ?_⟩
  rw [exec_Assign_Name_used _ _ _ _ hsw]
  refine wpAny_bind (wpAny_standAt (wpAny_bind ?_))
  show wpAny _ X.A (do let _ ← comprehension (.ListComp elt [⟨tg, iter, ifs, 0⟩] scope pos) scope X.env (firstIterPos [⟨tg, iter, ifs, 0⟩] pos) (newList []) false (eval iter X.env) (some (assign (.Name y py) X.env))) _ _ s
  have h : tLcN wi g tt te (own.map (·.2)) σ H (fun x H1 => gName i x σ H1 D.nx) := h
  refine wpAny_bind (thn (lc_coreN (Qf := fun _ s' => SP X pins D .next s') hc hN I hi ok hg ht he hs h fun L C s' m H' I' q hn f => ?_) fun _ s' hq => wpAny_pure (wpAny_pure hq))
  show wpAny _ _ (assign (.Name y py) X.env (.ref L)) _ _ _
  refine wpAny_assign_Name (store_ok2 (v := V.ref L) I' hN hy (.inl hyl) rfl (fun s2 I2 ⟨a, sb, ha⟩ => ?_) (.inr hyl))
  obtain ⟨f0, f1, f2, f3, f4, f5⟩ := f
  have haC : C ≠ a := by
    rcases ha with z | z
    · rw [z]; exact f1
    · exact fun e => f4 y a z e.symm
  refine ⟨m, hn.sameBut sb haC, fun h3 sb3 => ?_⟩
  exact ⟨_, H', I2.turned (t' := s2.toks) (fun b o hb e => (sb3.2 b hb).trans e) f0 f1 f3 f4 f5, q⟩section
variable {e : Expr} {te : TE} {p pos apos cpos : Pos}
/-- list(d.items()), the new list told not to lie where the modules are kept; it follows the library's pe_listItems -/
def tListItemsN (te : TE) : TE := fun σ H Q => te σ H fun x H1 => ∃ (d : Addr) (kvs : List (Key × V)), x = .ref d ∧ H1 d = some (.dK kvs) ∧
  ∀ (H' : Hp) (p : Addr) (ts : List Addr), (∀ b o, H1 b = some o → H' b = some o) → H1 p = none → p ≠ sysModules → (∀ t ∈ ts, H1 t = none) → p ∉ ts → H' p = some (.lst (ts.map V.ref)) → Paired (fun (t : Addr) (q : Key × V) => H' t = some (.tup [kV q.1, q.2])) ts kvs → Q (.ref p) H'
open LiI in
/-- list(e.items()) -/
theorem pe_listItemsN (hc : X.calm = true) (he : PE X e te) (hg : Gl X "list") (hm : X.mg "list" = none) (hv : bootBuiltins "list" = some (.type "list")) (hbase : attributeBase e "items" X.env (eval e X.env) = eval e X.env := by rfl) (hline : (apos.endLine == cpos.line) = true := by rfl)
    (hs : starEach [.Call (.Attribute e "items" apos) [] [] cpos] X.env = (false, eval (.Call (.Attribute e "items" apos) [] [] cpos) X.env) :: starEach [] X.env := by rfl) :
    PE X (.Call (.Name "list" p) [.Call (.Attribute e "items" apos) [] [] cpos] [] pos) (tListItemsN te) := by
  refine ⟨fun pins s σ H Q I hq => ?_⟩
  refine wpAny_Call_Name_kw (ld_blt I hg hm hv ?_)
  refine PyProof.Rows.callWith_type1 ?_ hs rfl
  rw [hs]
  show wpAny _ _ (spliced ((false, eval (.Call (.Attribute e "items" apos) [] [] cpos) X.env) :: backTo pos (starEach [] X.env))) _ _ s
  refine Calls.spliced_cons ?_
  refine wpAny_Call_method (T := "dict") (id := "dict.items") hbase rfl hline F.plainAttrs_dict F.slot_dict_items F.type_dict_items (thn (he.run pins s σ H _ I hq) fun u s1 ⟨x, H1, I1, rx, d, kvs, ex, hd, q⟩ => ?_)
  subst ex
  obtain rfl : u = Value.ref d := rx
  obtain ⟨hz, hs0, vs, kv, hdo⟩ := I1.hok d _ hd
  obtain ⟨ep, hat⟩ := hdo.dictAt
  have lk : kvs.length = vs.length := Paired.length kv
  have I2 : Inv X pins σ H1 { s1 with heap := s1.heap.push { cls := .type "dict_items", data := .fields #[.ref d] } } := I1.kept (t' := s1.toks) fun b ob q => Heap.get?_push_of_some _ q
  refine ⟨hdo.typeIs, hdo.mapOf.noDict, ?_⟩
  show wpAny _ _ (callWith cpos (.builtin "dict.items") [.ref d] [] []) _ X.xe s1
  refine method_meetsIn F.slot_dict_items F.entry_dict_items rfl (PySem.evalArgs_none ⟨rfl, hdo.typeIs, F.args_dict_items_1 _, _, meets_dict_items (mixKind X.prog X.w) d hs0, ⟨vs, hdo⟩, ?_⟩)
  refine Calls.spliced_nil ?_
  refine PySem.W.kdx_call (knd := mixKind X.prog X.w) (kvs := vs) (ep := ep) (I1.ok.hd hc) ⟨_, Heap.get?_push_size _ rfl, rfl, rfl⟩ (hat.push _) (by omega) fun h' tk acc c as hk hS hl hG hacc => ?_
  obtain ⟨H', k1, k2, k3, k4, k5, k6, J⟩ := items_laid (tk := tk) I2 hz kv hk hS hl hG hacc
  exact ⟨.ref _, H', J, rfl, q H' _ as k1 k2 (Nat.ne_of_gt I2.big) k3 k4 k5 k6⟩
end
end
end Wnd

/-! dicts made name by name -/
namespace Wnd
open PySem PySem.Spec PyProof.Rows L2
theorem iteTe {b : Bool} {p q : Prop} (h : b = true) (x : p) : if b = true then p else q := by
  rw [h]
  exact x
theorem iteFe {b : Bool} {p q : Prop} (h : b = false) (x : q) : if b = true then p else q := by
  rw [h]
  exact x
theorem pi_listK {X : Cx} {tg e : Expr} {te : TE} (K : PySem.W.Frag) (he : PE X e te) (h : X.K = K := by rfl) : PI X tg e (iList K te) := by
  subst h
  exact pi_list he
theorem tYes_mk {σ : L2.St} {H : Hp} {Q : Bool → Hp → Prop} (h : Q true H) : tYes σ H Q := h
def mapG (F : Str → Int) (ns : List Str) : List (Str × Int) := ns.map fun t => (t, F t)
theorem mapG_keys (F : Str → Int) (ns : List Str) : (mapG F ns).map (·.1) = ns := by
  unfold mapG
  rw [List.map_map]
  exact List.map_id' ns
theorem put_fresh {g : List (Str × Int)} {t : Str} {v : Int} (h : t ∉ g.map (·.1)) : putK (goalKV g) (Sum.inr t : Key) (V.int v) = goalKV (g ++ [(t, v)]) := by
  unfold putK
  have z : ¬ ((goalKV g).any fun kv => decide (kv.1 = (Sum.inr t : Key))) = true := fun z => by
    obtain ⟨y, hy, e⟩ := List.any_eq_true.mp z
    obtain ⟨x, hx, rfl⟩ := List.mem_map.mp hy
    have e : (Sum.inr x.1 : Key) = Sum.inr t := of_decide_eq_true e
    injection e with e
    exact h (e ▸ List.mem_map.mpr ⟨x, hx, rfl⟩)
  rw [if_neg z]
  unfold goalKV
  rw [List.map_append]
  rfl
/-- {t: F t for t in names} -/
theorem dc_goal {K : PySem.W.Frag} {l D : Addr} {ns : List Str} (F : Str → Int) {H1 : Hp} {gT : TG} {tt : TT} {tk tv : TE} {vs : List Nat} {σ : L2.St} {Qd : Hp → Prop} (hl : H1 l = some (.lst (ns.map V.str))) (nn : ns.Nodup) (hz : ns.length < 1000) (hD : H1 D = none)
    (hs : ∀ (i : Nat) (hi : i < ns.length) (Hc : Hp) (Nx : Hp → Prop), Same H1 Hc → (∀ H', Same Hc H' → ∃ kvs k, V.str ns[i] = kV k ∧ H' D = some (.dK kvs) ∧ kvs.length < sizeLine ∧ Nx (upd H' D (.dK (putK kvs k (V.int (F ns[i])))))) →
      gT (V.str ns[i]) (wipe σ vs) Hc fun σ2 H2 => wipe σ2 vs = wipe σ vs ∧ tt σ2 H2 fun b H3 => if b = true then tk σ2 H3 fun y H4 => tv σ2 H4 fun z H5 => ∃ kvs k, y = kV k ∧ H5 D = some (.dK kvs) ∧ kvs.length < sizeLine ∧ Nx (upd H5 D (.dK (putK kvs k z))) else Nx H3)
    (hd : ∀ Hc, Same H1 Hc → Hc D = some (.dK (goalKV (mapG F ns))) → Qd Hc) :
    ∃ W : Nat → Nat → Hp → Prop, (∃ m, W 0 m (upd H1 D (.dK []))) ∧ ∀ i m H, W i m H →
      ((Itl K l).stop i H ∧ Qd H) ∨ ((Itl K l).go i H ∧ ∃ Nx : Hp → Prop, (∀ H', Nx H' → ∃ m', m' < m ∧ W (i + 1) m' H') ∧ ∀ x H', (Itl K l).yld i H x H' → gT x (wipe σ vs) H' fun σ2 H2 => wipe σ2 vs = wipe σ vs ∧ tt σ2 H2 fun b H3 =>
        if b = true then tk σ2 H3 fun y H4 => tv σ2 H4 fun z H5 => ∃ kvs k, y = kV k ∧ H5 D = some (.dK kvs) ∧ kvs.length < sizeLine ∧ Nx (upd H5 D (.dK (putK kvs k z))) else Nx H3) := by
  have big : sizeLine > 100000 := by decide
  refine dc_it (walk_list (xs := ns.map V.str)) (fun i Hc => Same H1 Hc ∧ Hc D = some (.dK (goalKV (mapG F (ns.take i))))) ⟨same_new hD, upd_same⟩ (fun i Hc _ h => SqL.of (h.1 _ _ hl)) ?_ ?_
  · rintro i v Hc H' hi ⟨sc, hd⟩ ⟨rfl, hv⟩
    have hi' : i < ns.length := by rwa [List.length_map] at hi
    rw [List.getElem?_map, List.getElem?_eq_getElem hi'] at hv
    cases hv
    refine hs i hi' H' (fun H => Same H1 H ∧ H D = some (.dK (goalKV (mapG F (ns.take (i + 1)))))) sc fun H'' s'' => ⟨goalKV (mapG F (ns.take i)), Sum.inr ns[i], rfl, s'' _ _ hd, ?_, ?_, ?_⟩
    · unfold goalKV mapG
      rw [List.length_map, List.length_map, List.length_take]
      omega
    · intro b o hb
      rw [upd_ne (ne_of_none hb hD)]
      exact s'' _ _ (sc _ _ hb)
    · have ne : ns[i] ∉ (mapG F (ns.take i)).map (·.1) := by
        rw [mapG_keys]
        intro m
        obtain ⟨j, hj, e⟩ := List.getElem_of_mem m
        rw [List.length_take] at hj
        rw [List.getElem_take] at e
        have := (List.getElem_inj (h₀ := by omega) (h₁ := hi') nn).mp e
        omega
      rw [put_fresh ne, upd_same]
      congr 3
      rw [List.take_add_one, List.getElem?_eq_getElem hi']
      unfold mapG
      rw [List.map_append]
      rfl
  · rintro Hc ⟨sc, hd'⟩
    rw [List.length_map, List.take_length] at hd'
    exact hd Hc sc hd'
/-- [(t, F t) for t in names] -/
theorem lc_mapG {K : PySem.W.Frag} {l D : Addr} {ns : List Str} (F : Str → Int) {H1 : Hp} {gT : TG} {tt : TT} {te : TE} {vs : List Nat} {σ : L2.St} {Qd : Hp → Prop} (hl : H1 l = some (.lst (ns.map V.str))) (hz : ns.length < 1000) (hD : H1 D = none)
    (hs : ∀ (i : Nat) (hi : i < ns.length) (Hc : Hp) (Nx : Hp → Prop), Same H1 Hc → (∀ H', Same Hc H' → ∀ T, H' T = none → ∃ acc, (upd H' T (.tup [.str ns[i], .int (F ns[i])])) D = some (.lst acc) ∧ acc.length < sizeLine ∧ Nx (upd (upd H' T (.tup [.str ns[i], .int (F ns[i])])) D (.lst (acc ++ [.ref T])))) →
      gT (V.str ns[i]) (wipe σ vs) Hc fun σ2 H2 => wipe σ2 vs = wipe σ vs ∧ tt σ2 H2 fun b H3 => if b = true then te σ2 H3 fun y H4 => ∃ acc, H4 D = some (.lst acc) ∧ acc.length < sizeLine ∧ Nx (upd H4 D (.lst (acc ++ [y]))) else Nx H3)
    (hd : ∀ Hc ps, Same H1 Hc → Hc D = some (.lst (ps.map V.ref)) → Paired (fun u x => Hc u = some (.tup [.str x.1, .int x.2])) ps (mapG F ns) → Qd Hc) :
    ∃ W : Nat → Nat → Hp → Prop, (∃ m, W 0 m (upd H1 D (.lst []))) ∧ ∀ i m H, W i m H →
      ((Itl K l).stop i H ∧ Qd H) ∨ ((Itl K l).go i H ∧ ∃ Nx : Hp → Prop, (∀ H', Nx H' → ∃ m', m' < m ∧ W (i + 1) m' H') ∧ ∀ x H', (Itl K l).yld i H x H' → gT x (wipe σ vs) H' fun σ2 H2 => wipe σ2 vs = wipe σ vs ∧ tt σ2 H2 fun b H3 =>
        if b = true then te σ2 H3 fun y H4 => ∃ acc, H4 D = some (.lst acc) ∧ acc.length < sizeLine ∧ Nx (upd H4 D (.lst (acc ++ [y]))) else Nx H3) := by
  have big : sizeLine > 100000 := by decide
  refine lc_it (walk_list (xs := ns.map V.str)) (fun i Hc => ∃ ps, Same H1 Hc ∧ Hc D = some (.lst (ps.map V.ref)) ∧ Paired (fun u x => Hc u = some (.tup [.str x.1, .int x.2])) ps (mapG F (ns.take i))) ⟨[], same_new hD, upd_same, .nil⟩ (fun i Hc _ ⟨_, s, _⟩ => SqL.of (s _ _ hl)) ?_ ?_
  · rintro i v Hc H' hi ⟨ps, sc, hd, hp⟩ ⟨rfl, hv⟩
    have hi' : i < ns.length := by rwa [List.length_map] at hi
    rw [List.getElem?_map, List.getElem?_eq_getElem hi'] at hv
    cases hv
    have hpl : ps.length = i := by
      have := hp.length
      unfold mapG at this
      rw [List.length_map, List.length_take] at this
      omega
    refine hs i hi' H' (fun H => ∃ ps, Same H1 H ∧ H D = some (.lst (ps.map V.ref)) ∧ Paired (fun u x => H u = some (.tup [.str x.1, .int x.2])) ps (mapG F (ns.take (i + 1)))) sc fun H'' s'' T nT => ?_
    have h2 := s'' _ _ hd
    have nDT : D ≠ T := ne_of_none h2 nT
    refine ⟨ps.map V.ref, by rw [upd_ne nDT]; exact h2, by rw [List.length_map]; omega, ps ++ [T], fun b o hb => ?_, by rw [upd_same, List.map_append]; rfl, ?_⟩
    · rw [upd_ne (ne_of_none hb hD), upd_ne (ne_of_none (s'' _ _ (sc _ _ hb)) nT)]
      exact s'' _ _ (sc _ _ hb)
    · have em : mapG F (ns.take (i + 1)) = mapG F (ns.take i) ++ [(ns[i], F ns[i])] := by
        rw [List.take_add_one, List.getElem?_eq_getElem hi']
        unfold mapG
        rw [List.map_append]
        rfl
      rw [em]
      refine Paired.snoc (Paired.mono (fun u x hu => ?_) hp) ?_
      · have hu2 := s'' _ _ hu
        rw [upd_ne (ne_of hu2 h2 fun z => nomatch z), upd_ne (ne_of_none hu2 nT)]
        exact hu2
      · rw [upd_ne nDT.symm]
        exact upd_same
  · rintro Hc ⟨ps, sc, hd', hp⟩
    rw [List.length_map, List.take_length] at hp
    exact hd Hc ps sc hd' hp
structure NumAt (H : Hp) (ns : List Str) (d : Addr) (g : List (Str × Int)) : Prop where
  at_ : H d = some (.dK (goalKV g))
  ok : NumsOk ns g
theorem NumAt.same {H H' : Hp} {ns : List Str} {d : Addr} {g : List (Str × Int)} (h : NumAt H ns d g) (s : Same H H') : NumAt H' ns d g := ⟨s _ _ h.at_, h.ok⟩
theorem NumAt.get {H : Hp} {ns : List Str} {d : Addr} {g : List (Str × Int)} (h : NumAt H ns d g) {t : Str} (m : t ∈ ns) : DGet H d (V.str t) (some (.int (valG g (some t)))) := by
  have := DGet.k (k := Sum.inr t) h.at_
  rwa [goal_val (h.ok.1.mem_iff.mpr m)] at this
/-- numbers of these names -/
structure DictAt (H : Hp) (ts : List Str) (d : Addr) (g : List (Str × Int)) : Prop where
  at_ : H d = some (.dK (goalKV g))
  keys : (g.map (·.1)).Perm ts
  bnd : ∀ x ∈ g, -99999 ≤ x.2 ∧ x.2 ≤ 99999
theorem DictAt.same {H H' : Hp} {ts : List Str} {d : Addr} {g : List (Str × Int)} (h : DictAt H ts d g) (s : Same H H') : DictAt H' ts d g := ⟨s _ _ h.at_, h.keys, h.bnd⟩
theorem DictAt.but {H H' : Hp} {p : Addr} {ts : List Str} {d : Addr} {g : List (Str × Int)} (h : DictAt H ts d g) (b : But p H H') (hp : ∃ ys, H p = some (.lst ys)) : DictAt H' ts d g := by
  obtain ⟨ys, hp⟩ := hp
  exact ⟨b _ _ h.at_ (ne_of h.at_ hp fun z => nomatch z), h.keys, h.bnd⟩
theorem DictAt.num {H : Hp} {ts : List Str} {d : Addr} {g : List (Str × Int)} (h : DictAt H ts d g) : NumAt H (sortN ts) d g := ⟨h.at_, h.keys.trans (sortN_perm ts).symm, h.bnd⟩
theorem DictAt.nodup {H : Hp} {ts : List Str} {d : Addr} {g : List (Str × Int)} (h : DictAt H ts d g) (n : ts.Nodup) : (g.map (·.1)).Nodup := h.keys.nodup_iff.mpr n
theorem DictAt.len {H : Hp} {ts : List Str} {d : Addr} {g : List (Str × Int)} (h : DictAt H ts d g) : g.length = ts.length := by
  have := h.keys.length_eq
  rw [List.length_map] at this
  exact this
/-- a dict made name by name, held against numbers -/
theorem vals_same {ns : List Str} {F : Str → Int} {g : List (Str × Int)} (hk : (g.map (·.1)).Perm ns) (h : ∀ t ∈ ns, F t = valG g (some t)) : (goalKV (mapG F ns)).length = (goalKV g).length ∧ ∀ p ∈ goalKV (mapG F ns), valV (goalKV g) p.1 = some p.2 ∧ flatB p.2 = true := by
  refine ⟨?_, fun p hp => ?_⟩
  · unfold goalKV mapG
    rw [List.length_map, List.length_map, List.length_map]
    have := hk.length_eq
    rw [List.length_map] at this
    exact this.symm
  · unfold goalKV mapG at hp
    rw [List.map_map] at hp
    obtain ⟨t, ht, rfl⟩ := List.mem_map.mp hp
    refine ⟨?_, rfl⟩
    show valV (goalKV g) (Sum.inr t) = some (V.int (F t))
    rw [goal_val (hk.mem_iff.mpr ht), h t ht]
end Wnd

/-! fixed settings, pairs of prices; the class Task -/
namespace Wnd
open PySem PySem.Spec PyProof.Rows L2
abbrev s_Prices_is_fixed : Stmt := inClass (top 47) 5
theorem sc_Prices_is_fixed : FnScope ["self", "name"] ["self", "name"] (defScope s_Prices_is_fixed) := ⟨rfl, rfl, rfl, by decide +kernel, rfl, by decide +kernel, by decide +kernel⟩
abbrev s_Task___init : Stmt := inClass (top 48) 0
theorem sc_Task___init : FnScope ["self", "system", "numbers", "prices", "name"] ["self", "system", "numbers", "prices"] (defScope s_Task___init) := ⟨rfl, rfl, rfl, by decide +kernel, rfl, by decide +kernel, by decide +kernel⟩
abbrev s_Task_system : Stmt := inClass (top 48) 1
theorem sc_Task_system : FnScope ["self"] ["self"] (defScope s_Task_system) := ⟨rfl, rfl, rfl, by decide +kernel, rfl, by decide +kernel, by decide +kernel⟩
abbrev s_Task_numbers : Stmt := inClass (top 48) 2
theorem sc_Task_numbers : FnScope ["self"] ["self"] (defScope s_Task_numbers) := ⟨rfl, rfl, rfl, by decide +kernel, rfl, by decide +kernel, by decide +kernel⟩
abbrev s_Task_prices : Stmt := inClass (top 48) 3
theorem sc_Task_prices : FnScope ["self"] ["self"] (defScope s_Task_prices) := ⟨rfl, rfl, rfl, by decide +kernel, rfl, by decide +kernel, by decide +kernel⟩
theorem iteFq {A B : Prop} {b : Bool} (h : b = false) (x : B) : if b = true then A else B := by rw [h]; exact x
theorem iteTq {A B : Prop} {b : Bool} (h : b = true) (x : A) : if b = true then A else B := by rw [h]; exact x
def fixB (G : Own) (t : Str) : Bool := match valO G t with
  | some none => true
  | _ => false
def pairN (r l : Int) (G : Own) (t : Str) : Int × Int := match valO G t with
  | some (some i) => (i, i)
  | _ => (r, l)
def costC (r l : Int) (G : Own) (t : Str) (c : Int) : Int := if c = 0 then 0 else if c > 0 then c * (pairN r l G t).1 else (-c) * (pairN r l G t).2
section
variable {P : Program} {w : World} {K : PySem.W.Frag} {mg : Str → Option Value} {base : Heap}
def spFixed (C : Addr) : Sp := fun vs H Q _ => ∃ (x : Addr) (t : Str) (r l : Int) (g : Own), vs = [.ref x, .str t] ∧ PrcAt C H x r l g ∧ Q (.bl (fixB g t)) H
theorem ok_isFixed {C : Addr} {qn : Str} {f : Addr} {fd : FuncData} (F : Fun K "is_fixed" qn s_Prices_is_fixed f fd) (T : PrC K mg C) : FnOk P w K mg base CX0 1 f fd ["self", "name"] (spFixed C) := by
  refine F.ok sc_Prices_is_fixed (fun vs H Q E h => ?_) (fun cdv A outer s H vs Q E hr h => ?_)
  · obtain ⟨x, t, r, l, g, rfl, _⟩ := h
    rfl
  · obtain ⟨x, t, r, l, g, rfl, ⟨dx, ls, h1, h2, h3⟩, q⟩ := h
    have hu := hu_of hr
    refine ⟨_, (pss_one (ps_ret (pe_and (pe_cmp (pc_din hu (pv 1) (pe_fld (pv 0) rfl))) (pe_one (pe_cmpR op_isN (pe_dget hu (pe_fld (pv 0) rfl) (pv 1) (fun _ _ => rfl)) pe_non (nomark _)))))), ?_⟩
    have dg : DGet H ls (V.str t) ((valO g t).map optV) := by
      have := DGet.k (k := Sum.inr t) h2
      rwa [val_own] at this
    refine ⟨_, rfl, _, rfl, x, C, dx, _, _, rfl, h1, T.cl, T.nS, prF_single _ _ _, ls, _, rfl, dg, ?_⟩
    unfold fixB at q
    cases e : valO g t with
    | none =>
      rw [e] at q
      exact ⟨_, rfl, q⟩
    | some o =>
      rw [e] at q dg
      refine ⟨_, rfl, iteT ⟨_, rfl, x, C, dx, _, _, rfl, h1, T.cl, T.nS, prF_single _ _ _, _, rfl, ls, _, rfl, dg, rfl, ?_⟩⟩
      cases o with
      | none => exact q
      | some i => exact q
def spPair (C : Addr) : Sp := fun vs H Q _ => ∃ (x : Addr) (t : Str) (r l : Int) (g : Own), vs = [.ref x, .str t] ∧ PrcAt C H x r l g ∧ fixB g t = false ∧ ∀ T, H T = none → Q (.ref T) (upd H T (.tup [.int (pairN r l g t).1, .int (pairN r l g t).2]))
theorem pairN_ok {r l : Int} {g : Own} (h : PrV r l g) (t : Str) : Pr9 (pairN r l g t).1 ∧ Pr9 (pairN r l g t).2 := by
  unfold pairN
  cases e : valO g t with
  | none => exact ⟨h.r, h.l⟩
  | some o =>
    cases o with
    | none => exact ⟨h.r, h.l⟩
    | some i =>
      have := h.own.vals _ (val_in e) i rfl
      exact ⟨this, this⟩
def spChange (C : Addr) : Sp := fun vs H Q _ => ∃ (x : Addr) (t : Str) (c r l : Int) (g : Own), vs = [.ref x, .str t, .int c] ∧ PrcAt C H x r l g ∧ (c ≠ 0 → fixB g t = false) ∧ -1000000 ≤ c ∧ c ≤ 1000000 ∧ ∀ H', Same H H' → Q (.int (costC r l g t c)) H'
end
end Wnd

/-! tasks; prices of numbers -/
namespace Wnd
open PySem PySem.Spec PyProof.Rows L2
section
variable {P : Program} {w : World} {K : PySem.W.Frag} {mg : Str → Option Value} {base : Heap}
def taF (sx ld px : Addr) : List (Str × V) := putF "_prices" (.ref px) (putF "_numbers" (.ref ld) (putF "_system" (.ref sx) []))
theorem taF_pr (sx ld px : Addr) : (taF sx ld px).lookup ("_prices" : Str) = some (.ref px) := by
  unfold taF
  rw [lookup_putF, if_pos rfl]
theorem taF_num (sx ld px : Addr) : (taF sx ld px).lookup ("_numbers" : Str) = some (.ref ld) := by
  unfold taF
  rw [lookup_putF, if_neg (by decide +kernel), lookup_putF, if_pos rfl]
theorem taF_sys (sx ld px : Addr) : (taF sx ld px).lookup ("_system" : Str) = some (.ref sx) := by
  unfold taF
  rw [lookup_putF, if_neg (by decide +kernel), lookup_putF, if_neg (by decide +kernel), lookup_putF, if_pos rfl]
theorem taF_no {sx ld px : Addr} {m : Str} (h1 : ¬ m = "_prices") (h2 : ¬ m = "_numbers") (h3 : ¬ m = "_system") : (taF sx ld px).lookup m = none := by
  unfold taF
  rw [lookup_putF, if_neg h1, lookup_putF, if_neg h2, lookup_putF, if_neg h3]
  rfl
structure TaC (K : PySem.W.Frag) (mg : Str → Option Value) (CT : Addr) : Prop where
  cl : Cls K CT
  nS : NoAttr K CT "_system"
  nN : NoAttr K CT "_numbers"
  nP : NoAttr K CT "_prices"
  mgC : mg "Task" = some (.ref CT)
/-- numbers in the order of the names -/
def ordG (ns : List Str) (g : List (Str × Int)) : List (Str × Int) := mapG (fun t => valG g (some t)) ns
theorem ordG_ok {ns : List Str} {g : List (Str × Int)} (h : NumsOk ns g) (nodup : ns.Nodup) : NumsOk ns (ordG ns g) := by
  unfold ordG
  refine ⟨by rw [mapG_keys], fun x hx => ?_⟩
  unfold mapG at hx
  obtain ⟨t, ht, rfl⟩ := List.mem_map.mp hx
  have m : t ∈ g.map (·.1) := h.1.mem_iff.mpr ht
  obtain ⟨y, hy, e⟩ := List.mem_map.mp m
  have nd : (g.map (·.1)).Nodup := h.1.nodup_iff.mpr nodup
  have : valG g (some t) = y.2 := by
    show (g.lookup t).getD 0 = _
    have := lookup_nodup (t := y.1) (v := y.2) nd hy
    rw [← e, this]
    rfl
  show -99999 ≤ valG g (some t) ∧ valG g (some t) ≤ 99999
  rw [this]
  exact h.2 y hy
theorem lookup_map (F : Str → Int) (t : Str) : ∀ ns : List Str, t ∈ ns → (mapG F ns).lookup t = some (F t)
  | [], h => nomatch h
  | n :: ns, h => by
    unfold mapG
    rw [List.map_cons, List.lookup_cons]
    by_cases e : t = n
    · subst e
      simp
    · have : (t == n) = false := by simpa using e
      rw [this]
      rcases List.mem_cons.mp h with h | h
      · exact absurd h e
      · exact lookup_map F t ns h
theorem valG_map {F : Str → Int} {t : Str} {ns : List Str} (h : t ∈ ns) : valG (mapG F ns) (some t) = F t := by
  show ((mapG F ns).lookup t).getD 0 = _
  rw [lookup_map F t ns h]
  rfl
/-- a task stands at x: its system, its numbers, its prices -/
structure TaV (C CP : Addr) (H : Hp) (sx ld px : Addr) (ns : List Str) (L : List (Rule × Addr)) (g : List (Str × Int)) (r l : Int) (G : Own) : Prop where
  sys : SysAt C H sx ns L
  num : H ld = some (.dK (goalKV (ordG ns g)))
  ok : NumsOk ns g
  pr : PrcAt CP H px r l G
def TaskAt (C CP CT : Addr) (H : Hp) (x : Addr) (ns : List Str) (L : List (Rule × Addr)) (g : List (Str × Int)) (r l : Int) (G : Own) : Prop := ∃ dx sx ld px, H x = some (.ins CT dx (taF sx ld px)) ∧ TaV C CP H sx ld px ns L g r l G
theorem TaV.same {C CP : Addr} {H H' : Hp} {sx ld px : Addr} {ns : List Str} {L : List (Rule × Addr)} {g : List (Str × Int)} {r l : Int} {G : Own} (h : TaV C CP H sx ld px ns L g r l G) (s : Same H H') : TaV C CP H' sx ld px ns L g r l G := ⟨h.sys.same s, s _ _ h.num, h.ok, h.pr.same s⟩
theorem TaskAt.same {C CP CT : Addr} {H H' : Hp} {x : Addr} {ns : List Str} {L : List (Rule × Addr)} {g : List (Str × Int)} {r l : Int} {G : Own} (h : TaskAt C CP CT H x ns L g r l G) (s : Same H H') : TaskAt C CP CT H' x ns L g r l G := by
  obtain ⟨dx, sx, ld, px, h1, h2⟩ := h
  exact ⟨dx, sx, ld, px, s _ _ h1, h2.same s⟩
theorem TaskAt.ins {C CP CT : Addr} {H : Hp} {x : Addr} {ns : List Str} {L : List (Rule × Addr)} {g : List (Str × Int)} {r l : Int} {G : Own} (h : TaskAt C CP CT H x ns L g r l G) : ∃ dx fs, H x = some (.ins CT dx fs) := by
  obtain ⟨dx, sx, ld, px, h1, h2⟩ := h
  exact ⟨dx, _, h1⟩
theorem sys_ok {C : Addr} {H : Hp} {x : Addr} {ns : List Str} {L : List (Rule × Addr)} (h : SysAt C H x ns L) : SysOk ns L := by
  obtain ⟨_, _, _, _, _, _, _, h⟩ := h
  exact h
theorem SysAt.wr {C CT : Addr} {X : Hp} {sx x dx : Addr} {fs : List (Str × V)} {o : HO} {ns : List Str} {L : List (Rule × Addr)} (h : SysAt C X sx ns L) (hx : X x = some (.ins CT dx fs)) (hf : fs.lookup ("_rules" : Str) = none) : SysAt C (L2.upd X x o) sx ns L := by
  obtain ⟨dy, ln, lr, h1, h2, h3, h4, h5⟩ := h
  have n1 : sx ≠ x := ne_of h1 hx fun z => by
    injection z with a b c
    rw [← c, sysF_rules] at hf
    cases hf
  refine ⟨dy, ln, lr, ?_, ?_, ?_, fun p hp => ?_, h5⟩
  · rw [upd_ne n1]; exact h1
  · rw [upd_ne (ne_of h2 hx fun z => nomatch z)]; exact h2
  · rw [upd_ne (ne_of h3 hx fun z => nomatch z)]; exact h3
  · rw [upd_ne (ne_of (h4 p hp) hx fun z => nomatch z)]; exact h4 p hp
def spTaInit (C CT : Addr) : Sp := fun vs H Q _ => ∃ (x dx sx d px : Addr) (ns : List Str) (L : List (Rule × Addr)) (g : List (Str × Int)), vs = [.ref x, .ref sx, .ref d, .ref px] ∧ H x = some (.ins CT dx []) ∧ SysAt C H sx ns L ∧ H d = some (.dK (goalKV g)) ∧ NumsOk ns g ∧
  ∀ ld H', But x H H' → H ld = none → H' x = some (.ins CT dx (taF sx ld px)) → H' ld = some (.dK (goalKV (ordG ns g))) → Q .non H'
theorem ok_taInit {C CT : Addr} {qn : Str} {f : Addr} {fd : FuncData} (F : Fun K "__init__" qn s_Task___init f fd) (T : TaC K mg CT) (PN : OkP P w K mg base C 1 "names" (spNames C)) (O_check_numbers : Ok P w K mg base 5 "check_numbers" ["system", "thing"] (spCheck C)) : FnOk P w K mg base CX0 6 f fd ["self", "system", "numbers", "prices"] (spTaInit C CT) := by
  refine F.ok sc_Task___init (fun vs H Q E h => ?_) (fun cdv A outer s H vs Q E hr h => ?_)
  · obtain ⟨x, dx, sx, d, px, ns, L, g, rfl, _⟩ := h
    rfl
  · obtain ⟨x, dx, sx, d, px, ns, L, g, rfl, hx, hs, hd, hg, q⟩ := h
    have nd := sc_Task___init.nd
    have hu := hu_of hr
    have big : sizeLine > 100000 := by decide
    refine ⟨_, (pss_cons (ps_expr (pe_own O_check_numbers (hr.mono (by decide)) (pa_cons (pv 1) (pa_cons (pv 2) pa_nil))))
      (pss_cons (ps_fld (pv 0) (pv 1) rfl)
      (pss_cons (ps_fld (pv 0) (pe_dc (own := [("name", 4)]) (g := gName 4) (tt := tYes) rfl nd (pi_list (pe_propO PN (hr.mono (by decide)) (pv 1))) (blkOk_by (own := [("name", 4)]) (N := ["self", "system", "numbers", "prices", "name"]) (sc := defScope s_Task___init) (by decide +kernel)) (fun _ _ _ _ _ => (pg_name (i := 4) nd rfl (Or.inl rfl))) (fun _ _ _ _ _ => pts_nil) (fun _ _ _ _ _ => (pv 4)) (fun _ _ _ _ _ => (pe_dget hu (pv 2) (pv 4) (fun _ _ => rfl)))) rfl)
      (pss_one (ps_fld (pv 0) (pv 3) rfl))))), ?_⟩
    refine ⟨_, rfl, _, rfl, sx, d, ns, L, g, rfl, hs, hd, hg, fun H1 s1 => ?_⟩
    refine ⟨_, rfl, _, rfl, x, CT, dx, [], rfl, s1 _ _ hx, T.cl, T.nS, by show 0 < 1000; decide, ?_⟩
    have b2 : But x H (upd H1 x (.ins CT dx (putF (Str.ofString "_system") (.ref sx) []))) := (But.of s1).trans But.upd
    have hx2 : (upd H1 x (.ins CT dx (putF (Str.ofString "_system") (.ref sx) []))) x = some (.ins CT dx (putF (Str.ofString "_system") (.ref sx) [])) := upd_same
    have hsx : SysAt C (upd H1 x (.ins CT dx (putF (Str.ofString "_system") (.ref sx) []))) sx ns L := (hs.same s1).wr (s1 _ _ hx) rfl
    generalize upd H1 x (.ins CT dx (putF (Str.ofString "_system") (.ref sx) [])) = H2 at b2 hx2 hsx ⊢
    have hd2 := b2 _ _ hd (ne_of hd hx fun z => nomatch z)
    obtain ⟨dx', fs', hi⟩ := prop_at hsx
    refine ⟨_, rfl, sx, dx', fs', rfl, hi, sx, ns, L, rfl, hsx, fun l hl => ?_⟩
    have s3 := same_new (o := .lst (ns.map V.str)) hl
    have hl3 := upd_same (H := H2) (a := l) (o := .lst (ns.map V.str))
    generalize upd H2 l (.lst (ns.map V.str)) = H3 at s3 hl3 ⊢
    refine ⟨l, rfl, ⟨_, SqL.of hl3⟩, fun D hD => ?_⟩
    have ok := sys_ok hs
    have nodup : ns.Nodup := ok.names.1
    have lN : ns.length < 64 := ok.names.2.2
    refine dc_it (walk_list (xs := ns.map V.str)) (fun i Hc => Same H3 Hc ∧ Hc D = some (.dK (goalKV (ordG (ns.take i) g)))) ⟨same_new hD, upd_same⟩ (fun i Hc _ h => SqL.of (h.1 _ _ hl3)) ?_ ?_
    · rintro i v Hc H' hi ⟨sc, hd'⟩ ⟨rfl, hv⟩
      obtain ⟨t, ht, rfl⟩ := get_map hv
      have mt := List.mem_of_getElem? ht
      have hi' : i < ns.length := by rwa [List.length_map] at hi
      have mg' : t ∈ g.map (·.1) := hg.1.mem_iff.mpr mt
      have dg1 : DGet H' d (V.str t) (some (.int (valG g (some t)))) := by
        have := DGet.k (k := Sum.inr t) (sc _ _ (s3 _ _ hd2))
        rwa [goal_val mg'] at this
      refine ⟨rfl, _, rfl, _, rfl, _, rfl, d, _, rfl, dg1, goalKV (ordG (ns.take i) g), Sum.inr t, rfl, hd', ?_, ?_, ?_⟩
      · unfold goalKV ordG mapG
        rw [List.length_map, List.length_map, List.length_take]
        omega
      · intro b o hb
        rw [upd_ne (ne_of_none hb hD)]
        exact sc _ _ hb
      · have ne : t ∉ (ordG (ns.take i) g).map (·.1) := by
          unfold ordG
          rw [mapG_keys]
          intro m
          obtain ⟨j, hj, e⟩ := List.getElem_of_mem m
          rw [List.length_take] at hj
          rw [List.getElem_take] at e
          rw [List.getElem?_eq_getElem hi'] at ht
          have := (List.getElem_inj (h₀ := by omega) (h₁ := hi') nodup).mp (e.trans (Option.some.inj ht).symm)
          omega
        rw [put_fresh ne, upd_same]
        congr 3
        rw [List.take_add_one, ht]
        unfold ordG mapG
        rw [List.map_append]
        rfl
    · rintro Hc ⟨sc, hd'⟩
      rw [List.length_map, List.take_length] at hd'
      have s23 := s3.trans sc
      have hxc := s23 _ _ hx2
      refine ⟨_, rfl, x, CT, dx, _, rfl, hxc, T.cl, T.nN, by show 1 < 1000; decide, ?_⟩
      have dxn : D ≠ x := ne_of hd' hxc fun z => nomatch z
      have hx4 : (upd Hc x (.ins CT dx (putF (Str.ofString "_numbers") (.ref D) (putF (Str.ofString "_system") (.ref sx) [])))) x = some (.ins CT dx (putF (Str.ofString "_numbers") (.ref D) (putF (Str.ofString "_system") (.ref sx) []))) := upd_same
      have hD4 : (upd Hc x (.ins CT dx (putF (Str.ofString "_numbers") (.ref D) (putF (Str.ofString "_system") (.ref sx) [])))) D = some (.dK (goalKV (ordG ns g))) := by
        rw [upd_ne dxn]
        exact hd'
      have b4 : But x H (upd Hc x (.ins CT dx (putF (Str.ofString "_numbers") (.ref D) (putF (Str.ofString "_system") (.ref sx) [])))) := (b2.trans (But.of s23)).trans But.upd
      generalize upd Hc x (.ins CT dx (putF (Str.ofString "_numbers") (.ref D) (putF (Str.ofString "_system") (.ref sx) []))) = H4 at hx4 hD4 b4 ⊢
      refine ⟨_, rfl, _, rfl, x, CT, dx, _, rfl, hx4, T.cl, T.nP, by show 2 < 1000; decide, ?_⟩
      refine q D _ (b4.trans But.upd) (b2.free dxn (s3.free hD)) upd_same ?_
      rw [upd_ne dxn]
      exact hD4
def spTaSys (C CP CT : Addr) : Sp := fun vs H Q _ => ∃ (x dx sx ld px : Addr), vs = [.ref x] ∧ H x = some (.ins CT dx (taF sx ld px)) ∧ Q (.ref sx) H
def spTaPr (C CP CT : Addr) : Sp := fun vs H Q _ => ∃ (x dx sx ld px : Addr), vs = [.ref x] ∧ H x = some (.ins CT dx (taF sx ld px)) ∧ Q (.ref px) H
def spTaNum (C CP CT : Addr) : Sp := fun vs H Q _ => ∃ (x dx sx ld px : Addr) (g : List (Str × Int)), vs = [.ref x] ∧ H x = some (.ins CT dx (taF sx ld px)) ∧ H ld = some (.dK (goalKV g)) ∧ ∀ d, H d = none → Q (.ref d) (upd H d (.dK (goalKV g)))
theorem ok_taSys {C CP CT : Addr} {qn : Str} {f : Addr} {fd : FuncData} (F : Fun K "system" qn s_Task_system f fd) (T : TaC K mg CT) : FnOk P w K mg base CX0 1 f fd ["self"] (spTaSys C CP CT) := by
  refine F.ok sc_Task_system (fun vs H Q E h => ?_) (fun cdv A outer s H vs Q E hr h => ?_)
  · obtain ⟨x, dx, sx, ld, px, rfl, _⟩ := h
    rfl
  · obtain ⟨x, dx, sx, ld, px, rfl, h1, q⟩ := h
    refine ⟨_, (pss_one (ps_ret (pe_fld (pv 0) rfl))), ?_⟩
    exact ⟨_, rfl, x, CT, dx, _, _, rfl, h1, T.cl, T.nS, taF_sys _ _ _, q⟩
theorem ok_taPr {C CP CT : Addr} {qn : Str} {f : Addr} {fd : FuncData} (F : Fun K "prices" qn s_Task_prices f fd) (T : TaC K mg CT) : FnOk P w K mg base CX0 1 f fd ["self"] (spTaPr C CP CT) := by
  refine F.ok sc_Task_prices (fun vs H Q E h => ?_) (fun cdv A outer s H vs Q E hr h => ?_)
  · obtain ⟨x, dx, sx, ld, px, rfl, _⟩ := h
    rfl
  · obtain ⟨x, dx, sx, ld, px, rfl, h1, q⟩ := h
    refine ⟨_, (pss_one (ps_ret (pe_fld (pv 0) rfl))), ?_⟩
    exact ⟨_, rfl, x, CT, dx, _, _, rfl, h1, T.cl, T.nP, taF_pr _ _ _, q⟩
theorem ok_taNum {C CP CT : Addr} {qn : Str} {f : Addr} {fd : FuncData} (F : Fun K "numbers" qn s_Task_numbers f fd) (T : TaC K mg CT) (Bd : mg "dict" = none) : FnOk P w K mg base CX0 1 f fd ["self"] (spTaNum C CP CT) := by
  refine F.ok sc_Task_numbers (fun vs H Q E h => ?_) (fun cdv A outer s H vs Q E hr h => ?_)
  · obtain ⟨x, dx, sx, ld, px, g, rfl, _⟩ := h
    rfl
  · obtain ⟨x, dx, sx, ld, px, g, rfl, h1, h2, q⟩ := h
    refine ⟨_, (pss_one (ps_ret (pe_callTy call_dictD (by rfl) Bd (by decide +kernel) (pa_cons (pe_fld (pv 0) rfl) pa_nil)))), ?_⟩
    exact ⟨_, rfl, x, CT, dx, _, _, rfl, h1, T.cl, T.nN, taF_num _ _ _, ld, _, rfl, Rd.of h2, q⟩
end
end Wnd

/-! prices of numbers -/
namespace Wnd
open PySem PySem.Spec PyProof.Rows L2
section
variable {P : Program} {w : World} {K : PySem.W.Frag} {mg : Str → Option Value} {base : Heap}
theorem take_snoc {α : Type} {xs : List α} {i : Nat} {t : α} (h : xs[i]? = some t) : xs.take (i + 1) = xs.take i ++ [t] := by
  rw [List.take_add_one, h]
  rfl
theorem filt_one {p : Str → Bool} {ns : List Str} {i : Nat} {t : Str} (h : ns[i]? = some t) : (ns.take (i + 1)).filter p = (ns.take i).filter p ++ (if p t = true then [t] else []) := by
  rw [take_snoc h, List.filter_append]
  congr 1
  by_cases e : p t = true
  · rw [if_pos e, List.filter_cons_of_pos e, List.filter_nil]
  · rw [if_neg e, List.filter_cons_of_neg e, List.filter_nil]
theorem ord_key {ns : List Str} {g : List (Str × Int)} {i : Nat} {k : Key} {v : V} (h : (goalKV (ordG ns g))[i]? = some (k, v)) : ∃ t, ns[i]? = some t ∧ k = Sum.inr t := by
  unfold goalKV ordG mapG at h
  rw [List.map_map, List.getElem?_map] at h
  obtain ⟨t, ht, e⟩ := Option.map_eq_some_iff.mp h
  injection e with e1 e2
  exact ⟨t, ht, e1.symm⟩
theorem ord_len (ns : List Str) (g : List (Str × Int)) : (goalKV (ordG ns g)).length = ns.length := by
  unfold goalKV ordG mapG
  rw [List.length_map, List.length_map]
theorem ord_mem {ns : List Str} {g : List (Str × Int)} {t : Str} (h : t ∈ ns) : t ∈ (ordG ns g).map (·.1) := by
  unfold ordG
  rw [mapG_keys]
  exact h
def brkB (G : Own) (g gn : List (Str × Int)) (t : Str) : Bool := fixB G t && !decide (valG gn (some t) = valG g (some t))
/-- the price of numbers; none if a fixed setting is changed -/
def priceO (ns : List Str) (r l : Int) (G : Own) (g gn : List (Str × Int)) : Option Int :=
  if ns.any (brkB G g gn) then none else some ((ns.map fun t => costC r l G t (valG gn (some t) - valG g (some t))).sum)
def spPriceOf (C CP CT : Addr) : Sp := fun vs H Q _ => ∃ (x d : Addr) (ns : List Str) (L : List (Rule × Addr)) (g gn : List (Str × Int)) (r l : Int) (G : Own), vs = [.ref x, .ref d] ∧ TaskAt C CP CT H x ns L g r l G ∧ H d = some (.dK (goalKV gn)) ∧ NumsOk ns gn ∧ ∀ H', Same H H' → Q (optV (priceO ns r l G g gn)) H'
theorem lookup_in {t : Str} {v : Int} : ∀ {g : List (Str × Int)}, g.lookup t = some v → (t, v) ∈ g
  | [], h => nomatch h
  | (k, u) :: g, h => by
    rw [List.lookup_cons] at h
    by_cases e : t = k
    · subst e
      simp at h
      rw [h]
      exact List.mem_cons_self
    · have : (t == k) = false := by simpa using e
      rw [this] at h
      exact List.mem_cons_of_mem _ (lookup_in h)
theorem nums_bound {ns : List Str} {g : List (Str × Int)} (h : NumsOk ns g) (t : Str) : -99999 ≤ valG g (some t) ∧ valG g (some t) ≤ 99999 := by
  show -99999 ≤ (g.lookup t).getD 0 ∧ (g.lookup t).getD 0 ≤ 99999
  cases e : g.lookup t with
  | none => exact ⟨by decide, by decide⟩
  | some v =>
    exact h.2 _ (lookup_in e)
def solB (ns : List Str) (L : List (Rule × Addr)) (r l : Int) (G : Own) (g gn : List (Str × Int)) : Bool := (priceO ns r l G g gn).isSome && (firstR gn L).isNone
def spIsSol (C CP CT : Addr) : Sp := fun vs H Q _ => ∃ (x d : Addr) (ns : List Str) (L : List (Rule × Addr)) (g gn : List (Str × Int)) (r l : Int) (G : Own), vs = [.ref x, .ref d] ∧ TaskAt C CP CT H x ns L g r l G ∧ H d = some (.dK (goalKV gn)) ∧ NumsOk ns gn ∧ ∀ H', Same H H' → Q (.bl (solB ns L r l G g gn)) H'
end
end Wnd

/-! contradictions and tightest gaps of a system -/
namespace Wnd
open PySem PySem.Spec PyProof.Rows L2
abbrev s_raised_from_0 : Stmt := top 7
theorem sc_raised_from_0 : FnScope ["things", "arcs", "totals", "last", "raised", "rounds", "thing"] ["things", "arcs"] (defScope s_raised_from_0) := ⟨rfl, rfl, rfl, by decide +kernel, rfl, by decide +kernel, by decide +kernel⟩
abbrev s_rising_ring : Stmt := top 6
theorem sc_rising_ring : FnScope ["things", "arcs", "_", "last", "raised", "thing"] ["things", "arcs"] (defScope s_rising_ring) := ⟨rfl, rfl, rfl, by decide +kernel, rfl, by decide +kernel, by decide +kernel⟩
abbrev s_contradiction : Stmt := top 29
theorem sc_contradiction : FnScope ["system", "rules", "ring", "at"] ["system"] (defScope s_contradiction) := ⟨rfl, rfl, rfl, by decide +kernel, rfl, by decide +kernel, by decide +kernel⟩
abbrev s_check_agreement : Stmt := top 31
theorem sc_check_agreement : FnScope ["system"] ["system"] (defScope s_check_agreement) := ⟨rfl, rfl, rfl, by decide +kernel, rfl, by decide +kernel, by decide +kernel⟩
abbrev s_System_has_setting : Stmt := inClass (top 39) 5
theorem sc_System_has_setting : FnScope ["self", "thing"] ["self", "thing"] (defScope s_System_has_setting) := ⟨rfl, rfl, rfl, by decide +kernel, rfl, by decide +kernel, by decide +kernel⟩
section
variable {P : Program} {w : World} {K : PySem.W.Frag} {mg : Str → Option Value} {base : Heap}
/-- the things of a system: the ground, the settings -/
def things (ns : List Str) : List Node := none :: ns.map some
theorem things_v (ns : List Str) : (things ns).map endV = V.non :: ns.map V.str := by
  unfold things
  rw [List.map_cons, List.map_map]
  rfl
theorem things_nodup {ns : List Str} (h : ns.Nodup) : (things ns).Nodup := by
  refine List.nodup_cons.mpr ⟨fun z => ?_, ?_⟩
  · obtain ⟨x, _, e⟩ := List.mem_map.mp z
    cases e
  · exact List.Pairwise.map some (fun a b hab e => hab (Option.some.inj e)) h
theorem endIn_mem {ns : List Str} {e : Node} (h : endIn ns e = true) : e ∈ things ns := by
  cases e with
  | none => exact List.mem_cons_self
  | some t =>
    obtain ⟨x, hx, e⟩ := List.any_eq_true.mp (show ns.any _ = true from h)
    refine List.mem_cons_of_mem _ (List.mem_map.mpr ⟨x, hx, ?_⟩)
    first
      | exact congrArg some (of_decide_eq_true e)
      | exact congrArg some (of_decide_eq_true e).symm
      | exact congrArg some (by simpa using e)
      | exact congrArg some (by simpa using e).symm
theorem arcs_in {ns : List Str} {rs : List (Rule × Addr)} (h : ∀ p ∈ rs, RuleOk ns p.1) : ∀ x y g, (x, y, g) ∈ arcsOf rs → x ∈ things ns ∧ y ∈ things ns := fun x y g m => by
  obtain ⟨p, hp, e⟩ := List.mem_map.mp m
  have r := h p hp
  unfold arcOf at e
  cases e
  exact ⟨endIn_mem r.low, endIn_mem r.high⟩
def spFrom0 (P : Program) (w : World) : Sp := fun vs H Q _ => ∃ (th a : Addr) (ns : List Node) (rs : List (Rule × Addr)), vs = [.ref th, .ref a] ∧ H th = some (.lst (ns.map endV)) ∧ ns.Nodup ∧ 0 < ns.length ∧ ns.length ≤ 64 ∧
  H a = some (.lst (rs.map fun p => V.ref p.2)) ∧ KeyTups H rs ∧ rs.length ≤ 2000 ∧
  ∀ t d l r H' k, Same H H' → H t = none → H d = none → H l = none → H r = none → H' t = some (.tup [.ref d, .ref l, .ref r]) → H' d = some (ndO P w d (intsV (itr (arcsOf rs) ns k).T)) → H' l = some (ndO P w l (natsV (itr (arcsOf rs) ns k).L)) → H' r = some (.lst ((itr (arcsOf rs) ns k).R.map endV)) →
    k ≤ ns.length → ((itr (arcsOf rs) ns k).R = [] ∨ k = ns.length) → Q (.ref t) H'
theorem ok_from0 {f : Addr} {fd : FuncData} (D : DefAt K mg "_raised_from_0" s_raised_from_0 ["things", "arcs"] f fd) (B : Blt2 mg) (O_raise_highs : Ok P w K mg base 1 "_raise_highs" ["arcs", "totals", "last"] (spRaise P w)) : Ok P w K mg base 2 "_raised_from_0" ["things", "arcs"] (spFrom0 P w) := by
  refine D.ok (D.fn.ok sc_raised_from_0 (fun vs H Q E h => ?_) (fun cdv A outer s H vs Q E hr h => ?_))
  · obtain ⟨th, a, ns, rs, rfl, _⟩ := h
    rfl
  · obtain ⟨th, a, ns, rs, rfl, hT, nn, h0, h64, hA, hk, hz, q⟩ := h
    have nd := sc_raised_from_0.nd
    have hu9 := hu9_of hr
    refine ⟨_, (pss_cons (ps_setDcN (i := 2) (own := [("thing", 6)]) (g := gName 6) (tt := tYes) (emp := fun D => ndO P w D []) hu9 nd_hemp rfl nd rfl rfl (sw_dict rfl rfl rfl (by decide +kernel)) (pi_list (pv 0)) (blkOk_by (own := [("thing", 6)]) (N := ["things", "arcs", "totals", "last", "raised", "rounds", "thing"]) (sc := defScope s_raised_from_0) (by decide +kernel)) (fun _ _ _ _ _ => (pg_name (i := 6) nd rfl (Or.inl rfl))) (fun _ _ _ _ _ => pts_nil) (fun _ _ _ _ _ => (pv 6)) (fun _ _ _ _ _ => pe_int))
      (pss_cons (ps_set (i := 3) nd rfl (Or.inl rfl) (pe_ndNew (P := P) (w := w)))
      (pss_cons (ps_set (i := 4) nd rfl (Or.inl rfl) (pe_callTy call_list_of (by rfl) B.list (by decide +kernel) (pa_cons (pv 0) pa_nil)))
      (pss_cons (ps_set (i := 5) nd rfl (Or.inl rfl) pe_int)
      (pss_cons (ps_while PassesOwn.never (PW.pt (pw_and (pt_truth (pv 4) (by intro _; rfl)) (pw_and1 (pt_cmpR op_lt (pv 5) (pe_callB call_len_seq (by rfl) B.len PySem.boot_len (pa_cons (pv 0) pa_nil)) (nomark _))))) (pss_cons (ps_set (i := 4) nd rfl (Or.inl rfl) (pe_own O_raise_highs (hr.mono (by decide)) (pa_cons (pv 1) (pa_cons (pv 2) (pa_cons (pv 3) pa_nil)))))
      (pss_one (ps_aug (i := 5) nd rfl (.inl rfl) pe_int ip_add))))
      (pss_one (ps_ret (pe_tup (pa_cons (pv 2) (pa_cons (pv 3) (pa_cons (pv 4) pa_nil))))))))))), ?_⟩
    refine ⟨_, rfl, th, rfl, ⟨_, SqL.of hT⟩, fun d nd0 => ?_⟩
    have big : sizeLine > 1000000 := by decide
    refine dcN_it (P := P) (w := w) (emp := fun D => ndO P w D []) (H1 := H) (D := d) (walk_list (xs := ns.map endV)) (fun i Hc => Hc = upd H d (ndO P w d (intsV ((ns.take i).map fun x => (x, (0 : Int)))))) rfl (fun i Hc _ e => ?_) ?_ ?_
    · rw [e]
      exact SqL.of (same_new nd0 _ _ hT)
    · rintro i x Hc H' hi rfl ⟨rfl, hx⟩
      rw [List.length_map] at hi
      rw [List.getElem?_map, List.getElem?_eq_getElem hi] at hx
      cases hx
      refine ⟨rfl, ?_⟩
      unfold tYes
      dsimp only
      rw [if_pos rfl]
      refine ⟨_, rfl, _, NPut.i upd_same (by rw [List.length_map, List.length_take]; omega), ?_⟩
      rw [upd_upd, pt_zero nn hi]
    rintro Hc rfl
    rw [List.length_map, List.take_length]
    have s1 := same_new (o := ndO P w d (intsV (ns.map fun x => (x, (0 : Int))))) nd0
    have hd1 : (upd H d (ndO P w d (intsV (ns.map fun x => (x, (0 : Int)))))) d = some (ndO P w d (intsV (itr (arcsOf rs) ns 0).T)) := upd_same
    generalize upd H d (ndO P w d (intsV (ns.map fun x => (x, (0 : Int))))) = H1 at s1 hd1 ⊢
    refine fun l nl => ?_
    have ndl : d ≠ l := ne_of_none hd1 nl
    have nl0 : H l = none := s1.free nl
    have s2 := s1.trans (same_new (o := ndO P w l []) nl)
    have hd2 := same_new (o := ndO P w l []) nl _ _ hd1
    have hl2 : (upd H1 l (ndO P w l [])) l = some (ndO P w l (natsV (itr (arcsOf rs) ns 0).L)) := upd_same
    generalize upd H1 l (ndO P w l []) = H2 at s2 hd2 hl2 ⊢
    clear hd1 s1 nl H1
    refine ⟨_, rfl, th, _, rfl, .inl (SqL.of (s2 _ _ hT)), fun r nr => ?_⟩
    have nr0 : H r = none := s2.free nr
    have s3 := s2.trans (same_new (o := .lst (ns.map endV)) nr)
    have hd3 := same_new (o := .lst (ns.map endV)) nr _ _ hd2
    have hl3 := same_new (o := .lst (ns.map endV)) nr _ _ hl2
    have hr3 : (upd H2 r (.lst (ns.map endV))) r = some (.lst ((itr (arcsOf rs) ns 0).R.map endV)) := upd_same
    generalize upd H2 r (.lst (ns.map endV)) = H3 at s3 hd3 hl3 hr3 ⊢
    clear s2 hd2 hl2 nr H2
    refine ⟨fun m σ Hc => ∃ (k : Nat) (r : Addr) (o : Option V), m + k = ns.length ∧ σ = [some (.ref th), some (.ref a), some (.ref d), some (.ref l), some (.ref r), some (.int (k : Nat)), o] ∧ Same H Hc ∧ H r = none ∧ Hc d = some (ndO P w d (intsV (itr (arcsOf rs) ns k).T)) ∧ Hc l = some (ndO P w l (natsV (itr (arcsOf rs) ns k).L)) ∧ Hc r = some (.lst ((itr (arcsOf rs) ns k).R.map endV)),
      ⟨ns.length, 0, r, _, rfl, rfl, s3, nr0, hd3, hl3, hr3⟩, ?_⟩
    clear hd3 hl3 hr3 s3 nr0 r H3
    rintro m σ Hc ⟨k, r, o, hm, rfl, sc, nr, hd, hl, hr⟩
    have fin : ((itr (arcsOf rs) ns k).R = [] ∨ k = ns.length) → ∀ t, Hc t = none → Q (.ref t) (upd Hc t (.tup [.ref d, .ref l, .ref r])) := fun z t nt => by
      have st := same_new (o := .tup [.ref d, .ref l, .ref r]) nt
      exact q t d l r _ k (sc.trans st) (sc.free nt) nd0 nl0 nr upd_same (st _ _ hd) (st _ _ hl) (st _ _ hr) (by omega) z
    refine ⟨_, rfl, _, .inl ⟨_, SqL.of hr, rfl⟩, ?_⟩
    cases eR : (itr (arcsOf rs) ns k).R with
    | nil =>
      refine iteF (iteF ?_)
      exact ⟨_, rfl, _, rfl, _, rfl, by show 3 ≤ sizeLine; decide, fun t nt => fin (.inl eR) t nt⟩
    | cons x r' =>
      refine iteT ?_
      refine ⟨_, rfl, _, rfl, th, _, rfl, .inl (SqL.of (sc _ _ hT)), _, _, rfl, rfl, _, rfl, ?_⟩
      refine ite2 (fun lt => ?_) (fun ge => ?_)
      · have lt : (k : Int) < ((ns.map endV).length : Nat) := of_decide_eq_true lt
        rw [List.length_map] at lt
        have lens := itr_lens (arcsOf rs) ns (z := 2000) (by rw [len_arcs]; exact hz) (rgo_lens (arcsOf rs)) k
        have k2 : 2000 * k ≤ 2000 * 64 := Nat.mul_le_mul_left _ (by omega)
        refine ⟨fun σ' H'' => ∃ r2, σ' = [some (.ref th), some (.ref a), some (.ref d), some (.ref l), some (.ref r2), some (.int ((k + 1 : Nat) : Int)), o] ∧ Same H H'' ∧ H r2 = none ∧ H'' d = some (ndO P w d (intsV (itr (arcsOf rs) ns (k + 1)).T)) ∧ H'' l = some (ndO P w l (natsV (itr (arcsOf rs) ns (k + 1)).L)) ∧ H'' r2 = some (.lst ((itr (arcsOf rs) ns (k + 1)).R.map endV)), ?_, ?_⟩
        · rintro σ' H'' ⟨r2, rfl, s4, n4, hd4, hl4, hr4⟩
          exact ⟨m - 1, by omega, k + 1, r2, o, by omega, rfl, s4, n4, hd4, hl4, hr4⟩
        · refine ⟨_, rfl, _, rfl, _, rfl, a, d, l, rs, _, _, rfl, sc _ _ hA, fun x hx => sc _ _ (hk x hx), hz, hd, hl, ndl, by omega, by omega, fun r2 H' ho nr2 hr' hd' hl' => ?_⟩
          have s4 : Same H H' := fun b o hb => ho b o (sc b o hb) fun z => by
            rcases z with z | z
            · rw [z, nd0] at hb
              cases hb
            · rw [z, nl0] at hb
              cases hb
          refine ⟨_, rfl, _, _, rfl, rfl, r2, rfl, s4, sc.free nr2, hd', hl', hr'⟩
      · have ge : ¬ (k : Int) < ((ns.map endV).length : Nat) := fun z => ge (decide_eq_true z)
        rw [List.length_map] at ge
        exact ⟨_, rfl, _, rfl, _, rfl, by show 3 ≤ sizeLine; decide, fun t nt => fin (.inr (by omega)) t nt⟩
/-- no ring rises: there is none -/
def spRing : Sp := fun vs H Q _ => ∃ (th a : Addr) (ns : List Node) (rs : List (Rule × Addr)), vs = [.ref th, .ref a] ∧ H th = some (.lst (ns.map endV)) ∧ ns.Nodup ∧ 0 < ns.length ∧ ns.length ≤ 64 ∧
  H a = some (.lst (rs.map fun p => V.ref p.2)) ∧ KeyTups H rs ∧ rs.length ≤ 2000 ∧ NoPos (arcsOf rs) ∧ (∀ x y g, (x, y, g) ∈ arcsOf rs → x ∈ ns ∧ y ∈ ns) ∧ ∀ H', Same H H' → Q .non H'
theorem ok_ring {f : Addr} {fd : FuncData} (D : DefAt K mg "rising_ring" s_rising_ring ["things", "arcs"] f fd) (O_raised_from_0 : Ok P w K mg base 2 "_raised_from_0" ["things", "arcs"] (spFrom0 P w)) : Ok P w K mg base 3 "rising_ring" ["things", "arcs"] spRing := by
  refine D.ok (D.fn.ok sc_rising_ring (fun vs H Q E h => ?_) (fun cdv A outer s H vs Q E hr h => ?_))
  · obtain ⟨th, a, ns, rs, rfl, _⟩ := h
    rfl
  · obtain ⟨th, a, ns, rs, rfl, hT, nn, h0, h64, hA, hk, hz, np, hns, q⟩ := h
    have nd := sc_rising_ring.nd
    refine ⟨_, (pss_cons (ps_asg (pe_own O_raised_from_0 (hr.mono (by decide)) (pa_cons (pv 0) (pa_cons (pv 1) pa_nil))) (pg_tup rfl (pgs_cons (pg_name (i := 2) nd rfl (Or.inl rfl)) (pgs_cons (pg_name (i := 3) nd rfl (Or.inl rfl)) (pgs_cons (pg_name (i := 4) nd rfl (Or.inl rfl)) pgs_nil)))))
      (pss_cons (ps_if (pt_not (pt_truth (pv 4) (by intro _; rfl))) (pss_one (ps_ret pe_non)) pss_nil)
      (pss_cons ps_never
      (pss_cons ps_never
      (pss_one ps_never))))), ?_⟩
    refine ⟨_, rfl, _, rfl, th, a, ns, rs, rfl, hT, nn, h0, h64, hA, hk, hz, fun t d l r H' k s1 nt nd0 nl nr ht hd hl hr' hkn hz' => ?_⟩
    have eR : (itr (arcsOf rs) ns k).R = [] := by
      rcases hz' with z | z
      · exact z
      · rw [z]
        exact itr_none np hns h0
    refine ⟨t, _, rfl, SqT.of ht, rfl, _, _, rfl, _, _, rfl, _, _, rfl, rfl, ?_⟩
    rw [eR] at hr'
    refine ⟨_, rfl, _, .inl ⟨_, SqL.of hr', rfl⟩, ?_⟩
    exact iteT (q _ s1)
/-! ### of a system whose rules agree -/
def spContra (C : Addr) : Sp := fun vs H Q _ => ∃ (x : Addr) (ns : List Str) (L : List (Rule × Addr)), vs = [.ref x] ∧ SysAt C H x ns L ∧ L.length ≤ 2000 ∧ NoPos (arcsOf L) ∧ ∀ H', Same H H' → Q .non H'
theorem ok_contra {C : Addr} {f : Addr} {fd : FuncData} (D : DefAt K mg "contradiction" s_contradiction ["system"] f fd) (PN : OkP P w K mg base C 1 "names" (spNames C)) (PR : OkP P w K mg base C 1 "rules" (spRulesP C)) (O_rising_ring : Ok P w K mg base 3 "rising_ring" ["things", "arcs"] spRing) :
    Ok P w K mg base 4 "contradiction" ["system"] (spContra C) := by
  refine D.ok (D.fn.ok sc_contradiction (fun vs H Q E h => ?_) (fun cdv A outer s H vs Q E hr h => ?_))
  · obtain ⟨x, ns, L, rfl, _⟩ := h
    rfl
  · obtain ⟨x, ns, L, rfl, hx, hz, np, q⟩ := h
    have nd := sc_contradiction.nd
    refine ⟨_, (pss_cons (ps_set (i := 1) nd rfl (Or.inr rfl) (pe_propO PR (hr.mono (by decide)) (pv 0)))
      (pss_cons (ps_set (i := 2) nd rfl (Or.inl rfl) (pe_own O_rising_ring (hr.mono (by decide)) (pa_cons (pe_lst (pa_cons pe_non (StX.pa_star (pe_propO PN (hr.mono (by decide)) (pv 0)) pa_nil))) (pa_cons (pv 1) pa_nil))))
      (pss_cons (ps_if (pt_cmpR op_isN (pv 2) pe_non (nomark _)) (pss_one (ps_ret pe_non)) pss_nil)
      (pss_one ps_never)))), ?_⟩
    obtain ⟨dx, fs, hi⟩ := prop_at hx
    have hok : SysOk ns L := by
      obtain ⟨_, _, _, _, _, _, _, h⟩ := hx
      exact h
    have hk : KeyTups H L := by
      obtain ⟨_, _, _, _, _, _, h, _⟩ := hx
      exact h
    refine ⟨_, rfl, x, dx, fs, rfl, hi, x, ns, L, rfl, hx, fun a na => ?_⟩
    have s1 := same_new (o := .lst (L.map fun p => V.ref p.2)) na
    have ha : (upd H a (.lst (L.map fun p => V.ref p.2))) a = some (.lst (L.map fun p => V.ref p.2)) := upd_same
    generalize upd H a (.lst (L.map fun p => V.ref p.2)) = H1 at s1 ha ⊢
    refine ⟨_, rfl, x, dx, fs, rfl, s1 _ _ hi, x, ns, L, rfl, hx.same s1, fun b nb => ?_⟩
    have s2 := s1.trans (same_new (o := .lst (ns.map V.str)) nb)
    have ha2 := same_new (o := .lst (ns.map V.str)) nb _ _ ha
    have hb2 : (upd H1 b (.lst (ns.map V.str))) b = some (.lst (ns.map V.str)) := upd_same
    generalize upd H1 b (.lst (ns.map V.str)) = H2 at s2 ha2 hb2 ⊢
    clear s1 ha nb
    have len := hok.names.2.2
    have big : sizeLine > 1000000 := by decide
    refine ⟨b, _, rfl, .inr (SqL.of hb2), by show (V.non :: (ns.map V.str ++ [])).length ≤ sizeLine; rw [List.append_nil, List.length_cons, List.length_map]; omega, fun c nc => ?_⟩
    have s3 := s2.trans (same_new (o := .lst (V.non :: (ns.map V.str ++ []))) nc)
    have ha3 := same_new (o := .lst (V.non :: (ns.map V.str ++ []))) nc _ _ ha2
    have hc3 : (upd H2 c (.lst (V.non :: (ns.map V.str ++ [])))) c = some (.lst ((things ns).map endV)) := by
      rw [upd_same, List.append_nil, things_v]
    generalize upd H2 c (.lst (V.non :: (ns.map V.str ++ []))) = H3 at s3 ha3 hc3 ⊢
    have tl : (things ns).length = ns.length + 1 := by unfold things; rw [List.length_cons, List.length_map]
    refine ⟨_, rfl, c, a, things ns, L, rfl, hc3, things_nodup hok.names.1, by omega, by omega, ha3, fun p hp => s3 _ _ (hk p hp), hz, np, arcs_in hok.rules, fun H' s4 => ?_⟩
    exact ⟨_, rfl, rfl, _, rfl, iteT (q _ (s3.trans s4))⟩
theorem ok_agree {C : Addr} {f : Addr} {fd : FuncData} (D : DefAt K mg "check_agreement" s_check_agreement ["system"] f fd) (O_contradiction : Ok P w K mg base 4 "contradiction" ["system"] (spContra C)) : Ok P w K mg base 5 "check_agreement" ["system"] (spContra C) := by
  refine D.ok (D.fn.ok sc_check_agreement (fun vs H Q E h => ?_) (fun cdv A outer s H vs Q E hr h => ?_))
  · obtain ⟨x, ns, L, rfl, _⟩ := h
    rfl
  · obtain ⟨x, ns, L, rfl, hx, hz, np, q⟩ := h
    refine ⟨_, (pss_one (ps_if (pt_cmpR op_notN (pe_own O_contradiction (hr.mono (by decide)) (pa_cons (pv 0) pa_nil)) pe_non (nomark _)) (pss_one ps_never) pss_nil)), ?_⟩
    exact ⟨_, rfl, x, ns, L, rfl, hx, hz, np, fun H' s1 => ⟨rfl, _, rfl, iteF (q _ s1)⟩⟩
/-! ### settings and the ground -/
def spSetting (C : Addr) : Sp := fun vs H Q _ => ∃ (x : Addr) (ns : List Str) (L : List (Rule × Addr)) (t : Str), vs = [.ref x, .str t] ∧ SysAt C H x ns L ∧ Q (.bl (decide (t ∈ ns))) H
theorem ok_setting {C : Addr} {qn : Str} {f : Addr} {fd : FuncData} (F : Fun K "has_setting" qn s_System_has_setting f fd) (T : SysC K mg C) : FnOk P w K mg base CX0 1 f fd ["self", "thing"] (spSetting C) := by
  refine F.ok sc_System_has_setting (fun vs H Q E h => ?_) (fun cdv A outer s H vs Q E hr h => ?_)
  · obtain ⟨x, ns, L, t, rfl, _⟩ := h
    rfl
  · obtain ⟨x, ns, L, t, rfl, ⟨dx, ln, lr, h1, h2, h3, h4, h5⟩, q⟩ := h
    refine ⟨_, (pss_one (ps_ret (pe_cmpR op_in_seq (pv 1) (pe_fld (pv 0) rfl) rfl))), ?_⟩
    refine ⟨_, rfl, _, rfl, x, C, dx, _, _, rfl, h1, T.cl, T.nN, sysF_names _ _, ln, _, rfl, .inl (SqL.of h2), rfl, by rw [List.all_map]; exact List.all_eq_true.mpr fun _ _ => rfl, ?_⟩
    have e : inV (V.str t) (ns.map V.str) = decide (t ∈ ns) := by
      rw [show (decide (t ∈ ns)) = endIn ns (some t) from ?_]
      · have := end_in ns (some t)
        rw [← this]
        rfl
      · rw [Bool.eq_iff_iff]
        unfold endIn
        rw [decide_eq_true_iff, List.any_eq_true]
        exact ⟨fun h => ⟨t, h, by simp⟩, fun ⟨y, hy, e⟩ => by
          have : y = t := by simpa using e
          rw [← this]
          exact hy⟩
    rw [e]
    exact q
end
end Wnd

/-! the things that no solution moves; the room between two things -/
namespace Wnd
open PySem PySem.Spec PyProof.Rows L2
abbrev s_Task_anchors : Stmt := inClass (top 48) 4
theorem sc_Task_anchors : FnScope ["self", "name"] ["self"] (defScope s_Task_anchors) := ⟨rfl, rfl, rfl, by decide +kernel, rfl, by decide +kernel, by decide +kernel⟩
abbrev s_room : Stmt := top 36
theorem sc_room : FnScope ["task", "low", "high", "numbers"] ["task", "low", "high"] (defScope s_room) := ⟨rfl, rfl, rfl, by decide +kernel, rfl, by decide +kernel, by decide +kernel⟩
section
variable {P : Program} {w : World} {K : PySem.W.Frag} {mg : Str → Option Value} {base : Heap}
/-- a field, in a block: the class's frame said -/
theorem pe_fldK {X : Cx} (K : PySem.W.Frag) {e : Expr} {f : Str} {pos : Pos} {ta : TE} (he : PE X e ta) (hb : attributeBase e f X.env (eval e X.env) = eval e X.env := by rfl) (hK : X.K = K := by rfl) : PE X (.Attribute e f pos) (tFld K ta f) := by
  subst hK
  exact pe_fld he hb
/-- a method called with nothing -/
theorem pe_methM0 {X : Cx} {C : Addr} {k : Nat} {m : Str} {sp : Sp} {o : Expr} {ta : TE} {apos pos : Pos} {pl : Sem Bool} (O : OkM X.prog X.w X.K X.mg X.base C k m sp) (hr : Room k X.A) (he : PE X o ta) (_ha : PA X [] tNil)
    (ht : eval (.Call (.Attribute o m apos) [] [] pos) X.env = (do
      let ov ← eval o X.env
      standAt apos.atName
      let (f, first) ← holding [ov] (getMethod ov m pl)
      callWith pos f first (backTo pos (starEach [] X.env)) (backToKw pos (keywordEach [] X.env))) := by rfl) :
    PE X (.Call (.Attribute o m apos) [] [] pos) (tMeth C m sp [] E0 ta tNil) := by
  obtain ⟨g, fd, ps, c, hm, hb, F⟩ := O.ex
  exact pe_meth0 he c hm F hr hb .nil pass0 ht
/-- the ground and the fixed settings -/
def firmN (G : Own) (ns : List Str) : List Node := none :: (ns.filter (fixB G)).map some
theorem firm_endV (G : Own) (ns : List Str) : (firmN G ns).map endV = V.non :: (ns.filter (fixB G)).map V.str := by
  unfold firmN
  rw [List.map_cons, List.map_map]
  rfl
/-- prices whose single ones may be locked -/
def PrcRd (C : Addr) (H : Hp) (x : Addr) (r l : Int) (g : Own) : Prop := ∃ dx ls, H x = some (.ins C dx (prF r l ls)) ∧ Rd H ls (.dK (ownKV g)) ∧ PrV r l g
theorem PrcRd.same {C : Addr} {H H' : Hp} {x : Addr} {r l : Int} {g : Own} (h : PrcRd C H x r l g) (s : Same H H') : PrcRd C H' x r l g := by
  obtain ⟨dx, ls, h1, h2, h3⟩ := h
  refine ⟨dx, ls, s _ _ h1, ?_, h3⟩
  rcases h2 with h2 | ⟨o, h2⟩
  · exact .inl (s _ _ h2)
  · exact .inr ⟨o, s _ _ h2⟩
theorem PrcAt.lock {C : Addr} {H : Hp} {x d : Addr} {r l : Int} {g : Own} {kvs : List (Key × V)} {lk : Obj} (h : PrcAt C H x r l g) (hd : H d = some (.dK kvs)) : PrcRd C (L2.upd H d (.frz lk (.dK kvs))) x r l g := by
  obtain ⟨dx, ls, h1, h2, h3⟩ := h
  refine ⟨dx, ls, by rw [upd_ne (ne_of h1 hd fun z => nomatch z)]; exact h1, ?_, h3⟩
  by_cases e : ls = d
  · subst e
    rw [h2] at hd
    cases hd
    exact .inr ⟨lk, upd_same⟩
  · exact .inl (by rw [upd_ne e]; exact h2)
def spFixedZ (C : Addr) : Sp := fun vs H Q _ => ∃ (x : Addr) (t : Str) (r l : Int) (g : Own), vs = [.ref x, .str t] ∧ PrcRd C H x r l g ∧ Q (.bl (fixB g t)) H
theorem ok_isFixedZ {C : Addr} {qn : Str} {f : Addr} {fd : FuncData} (F : Fun K "is_fixed" qn s_Prices_is_fixed f fd) (T : PrC K mg C) : FnOk P w K mg base CX0 1 f fd ["self", "name"] (spFixedZ C) := by
  refine F.ok sc_Prices_is_fixed (fun vs H Q E h => ?_) (fun cdv A outer s H vs Q E hr h => ?_)
  · obtain ⟨x, t, r, l, g, rfl, _⟩ := h
    rfl
  · obtain ⟨x, t, r, l, g, rfl, ⟨dx, ls, h1, h2, h3⟩, q⟩ := h
    have hu := hu_of hr
    refine ⟨_, (pss_one (ps_ret (pe_and (pe_cmp (pc_din hu (pv 1) (pe_fld (pv 0) rfl))) (pe_one (pe_cmpR op_isN (pe_dget hu (pe_fld (pv 0) rfl) (pv 1) (fun _ _ => rfl)) pe_non (nomark _)))))), ?_⟩
    have dg : DGet H ls (V.str t) ((valO g t).map optV) := by
      have : DGet H ls (kV (Sum.inr t)) (valV (ownKV g) (Sum.inr t)) := .inl ⟨_, _, h2, rfl, rfl⟩
      rwa [val_own] at this
    refine ⟨_, rfl, _, rfl, x, C, dx, _, _, rfl, h1, T.cl, T.nS, prF_single _ _ _, ls, _, rfl, dg, ?_⟩
    unfold fixB at q
    cases e : valO g t with
    | none =>
      rw [e] at q
      exact ⟨_, rfl, q⟩
    | some o =>
      rw [e] at q dg
      refine ⟨_, rfl, iteT ⟨_, rfl, x, C, dx, _, _, rfl, h1, T.cl, T.nS, prF_single _ _ _, _, rfl, ls, _, rfl, dg, rfl, ?_⟩⟩
      cases o with
      | none => exact q
      | some i => exact q
def spAnch (C CP CT : Addr) : Sp := fun vs H Q _ => ∃ (x : Addr) (ns : List Str) (L : List (Rule × Addr)) (g : List (Str × Int)) (r l : Int) (G : Own), vs = [.ref x] ∧ TaskAt C CP CT H x ns L g r l G ∧ ∀ a H', Same H H' → H a = none → H' a = some (.lst ((firmN G ns).map endV)) → Q (.ref a) H'
theorem ok_anch {C CP CT : Addr} {qn : Str} {f : Addr} {fd : FuncData} (F : Fun K "anchors" qn s_Task_anchors f fd) (T : TaC K mg CT) (OF : OkM P w K mg base CP 1 "is_fixed" (spFixedZ CP)) : FnOk P w K mg base CX0 2 f fd ["self"] (spAnch C CP CT) := by
  refine F.ok sc_Task_anchors (fun vs H Q E h => ?_) (fun cdv A outer s H vs Q E hr h => ?_)
  · obtain ⟨x, ns, L, g, r, l, G, rfl, _⟩ := h
    rfl
  · obtain ⟨x, ns, L, g, r, l, G, rfl, hT, q⟩ := h
    have nd := sc_Task_anchors.nd
    have hu := hu_of hr
    have big : sizeLine > 100000 := by decide
    refine ⟨_, (pss_one (ps_ret (pe_lst (pa_cons pe_non (StX.pa_star (pe_lock (pe_lc (own := [("name", 1)]) (g := gName 1) (by rfl) nd (pi_keys (pe_fld (pv 0) rfl)) (blkOk_by (own := [("name", 1)]) (N := ["self", "name"]) (sc := defScope s_Task_anchors) (by decide +kernel)) (fun _ _ _ _ _ => (pg_name (i := 1) nd rfl (Or.inl rfl))) (fun _ _ _ _ _ => (pts_one (pt_val (pe_methM OF (hr.mono (by decide)) (pe_fldK K (pv 0)) (pa_cons (pv 1) pa_nil))))) (fun _ _ _ _ _ => (pv 1)))) pa_nil))))), ?_⟩
    obtain ⟨dx, sx, ld, px, hx, tv⟩ := hT
    refine ⟨ld, _, tv.num, True.intro, fun lk => ?_⟩
    have hf : (upd H ld (.frz lk (.dK (goalKV (ordG ns g))))) ld = some (.frz lk (.dK (goalKV (ordG ns g)))) := upd_same
    have prf := tv.pr.lock (lk := lk) tv.num
    have hxf : (upd H ld (.frz lk (.dK (goalKV (ordG ns g))))) x = some (.ins CT dx (taF sx ld px)) := by
      rw [upd_ne (ne_of hx tv.num fun z => nomatch z)]
      exact hx
    have back : ∀ X, Same (upd H ld (.frz lk (.dK (goalKV (ordG ns g))))) X → Same H (upd X ld (.dK (goalKV (ordG ns g)))) := fun X s b u hb => by
      by_cases e : b = ld
      · rw [e, upd_same, ← tv.num, ← e, hb]
      · rw [upd_ne e]
        exact s _ _ (by rw [upd_ne e]; exact hb)
    have freeH : ∀ z, (upd H ld (.frz lk (.dK (goalKV (ordG ns g))))) z = none → H z = none := fun z hz => by
      by_cases e : z = ld
      · rw [e, hf] at hz
        cases hz
      · rwa [upd_ne e] at hz
    obtain ⟨H1, eH1⟩ : ∃ H1, upd H ld (.frz lk (.dK (goalKV (ordG ns g)))) = H1 := ⟨_, rfl⟩
    rw [eH1] at hf prf hxf back freeH ⊢
    have lN := (sys_ok tv.sys).names.2.2
    refine ⟨_, rfl, x, CT, dx, _, _, rfl, hxf, T.cl, T.nN, taF_num _ _ _, ld, lk, rfl, .inl ⟨_, hf, fun D hD => ?_⟩⟩
    refine lc_acc (ord_len ns g ▸ walk_keys) hD (fun i => ((ns.take i).filter (fixB G)).map V.str) rfl (by omega) (fun i => by
      rw [List.length_map]
      exact Nat.le_trans (List.length_filter_le _ _) (List.length_take_le _ _)) (fun X sX => sX _ _ hf) ?_ ?_
    · rintro i y X X' R Lk hi sX ⟨rfl, k, v, hk, rfl⟩ hR hL
      obtain ⟨t, ht, rfl⟩ := ord_key hk
      have ef := filt_one (p := fixB G) ht
      refine ⟨rfl, ?_⟩
      obtain ⟨dp, lp, hp, hp2, hp3⟩ := prf.same sX
      refine ⟨_, rfl, x, CT, dx, _, _, rfl, sX _ _ hxf, T.cl, T.nP, taF_pr _ _ _, ?_⟩
      refine ⟨px, dp, _, rfl, hp, prF_no (by decide) (by decide) (by decide), _, rfl, px, t, r, l, G, rfl, ⟨dp, lp, hp, hp2, hp3⟩, ?_⟩
      refine ⟨_, rfl, ?_⟩
      cases e : fixB G t with
      | false =>
        rw [e, if_neg (by decide), List.append_nil] at ef
        refine iteF (hL _ (by rw [ef]) (Same.refl _))
      | true =>
        rw [e, if_pos rfl] at ef
        refine iteT ⟨_, rfl, hR _ _ ?_ (Same.refl _)⟩
        rw [ef, List.map_append]
        rfl
    · intro X sX hDX
      rw [List.take_length] at hDX
      have sB := back X sX
      have nDl : D ≠ ld := fun z => by
        rw [z, hf] at hD
        cases hD
      refine ⟨sX _ _ hf, ?_⟩
      have hD2 : (upd X ld (.dK (goalKV (ordG ns g)))) D = some (.lst ((ns.filter (fixB G)).map V.str)) := by
        rw [upd_ne nDl]
        exact hDX
      generalize upd X ld (.dK (goalKV (ordG ns g))) = X2 at sB hD2 ⊢
      refine ⟨D, _, rfl, .inr (SqL.of hD2), ?_, fun a na => q a _ (sB.trans (same_new na)) (sB.free na) (by rw [upd_same, firm_endV, List.append_nil])⟩
      rw [List.length_cons, List.append_nil, List.length_map]
      have := List.length_filter_le (fixB G) ns
      omega
theorem ord_val {ns : List Str} {g : List (Str × Int)} {u : Node} (h : u ∈ things ns) : valG (ordG ns g) u = valG g u := by
  rcases List.mem_cons.mp h with rfl | h
  · rfl
  · obtain ⟨t, ht, rfl⟩ := List.mem_map.mp h
    exact valG_map (F := fun t => valG g (some t)) ht
theorem things_key {ns : List Str} {g : List (Str × Int)} {u : Node} (h : u ∈ things ns) : ∀ t, u = some t → t ∈ (ordG ns g).map (·.1) := by
  rintro t rfl
  rcases List.mem_cons.mp h with z | h
  · cases z
  · obtain ⟨t', ht, e⟩ := List.mem_map.mp h
    cases e
    exact ord_mem ht
def spRoom (C CP CT : Addr) : Sp := fun vs H Q _ => ∃ (x : Addr) (u v : Node) (ns : List Str) (L : List (Rule × Addr)) (g : List (Str × Int)) (r l : Int) (G : Own), vs = [.ref x, endV u, endV v] ∧ TaskAt C CP CT H x ns L g r l G ∧ u ∈ things ns ∧ v ∈ things ns ∧ ∀ H', Same H H' → Q (.int (valG g v - valG g u)) H'
theorem ok_room {C CP CT : Addr} {f : Addr} {fd : FuncData} (D : DefAt K mg "_room" s_room ["task", "low", "high"] f fd) (TN : OkP P w K mg base CT 1 "numbers" (spTaNum C CP CT)) (O_number_of : Ok P w K mg base 1 "number_of" ["thing", "numbers"] spNumOf) : Ok P w K mg base 3 "_room" ["task", "low", "high"] (spRoom C CP CT) := by
  refine D.ok (D.fn.ok sc_room (fun vs H Q E h => ?_) (fun cdv A outer s H vs Q E hr h => ?_))
  · obtain ⟨x, u, v, ns, L, g, r, l, G, rfl, _⟩ := h
    rfl
  · obtain ⟨x, u, v, ns, L, g, r, l, G, rfl, ⟨dx, sx, ld, px, hx, tv⟩, hu, hv, q⟩ := h
    have nd := sc_room.nd
    refine ⟨_, (pss_cons (ps_set (i := 3) nd rfl (Or.inl rfl) (pe_propO TN (hr.mono (by decide)) (pv 0)))
      (pss_one (ps_ret (pe_op op_sub (pe_own O_number_of (hr.mono (by decide)) (pa_cons (pv 2) (pa_cons (pv 3) pa_nil))) (pe_own O_number_of (hr.mono (by decide)) (pa_cons (pv 1) (pa_cons (pv 3) pa_nil))))))), ?_⟩
    refine ⟨_, rfl, x, dx, _, rfl, hx, x, dx, sx, ld, px, ordG ns g, rfl, hx, tv.num, fun nd1 nnd1 => ?_⟩
    have s1 := same_new (o := .dK (goalKV (ordG ns g))) nnd1
    have h1 : (upd H nd1 (.dK (goalKV (ordG ns g)))) nd1 = some (.dK (goalKV (ordG ns g))) := upd_same
    generalize upd H nd1 (.dK (goalKV (ordG ns g))) = H1 at s1 h1 ⊢
    refine ⟨_, rfl, _, rfl, nd1, ordG ns g, v, rfl, h1, things_key hv, ?_⟩
    refine ⟨_, rfl, _, rfl, nd1, ordG ns g, u, rfl, h1, things_key hu, ?_⟩
    rw [ord_val hu, ord_val hv]
    exact ⟨_, _, rfl, rfl, q _ s1⟩
end
end Wnd

/-! Windowsteps: when totals still rise in the last round, the last arcs hold a ring, and its total is above 0. -/
namespace Wnd
section
variable {ν : Type} [DecidableEq ν]
theorem asks_back {T : List (ν × Int)} {c : ν} {z : Int} {a : Arc ν} (grow : ∀ y, lk T c = some y → y ≤ z) (hn : a.1 ≠ c) (h : asks (pt T c z) a = true) : asks T a = true := by
  unfold asks at h ⊢
  rw [lk_pt_ne hn] at h
  cases hx : lk T a.1 with
  | none => rw [hx] at h; cases h
  | some x =>
    rw [hx] at h
    dsimp only at h ⊢
    by_cases e : a.2.1 = c
    · rw [e, lk_pt_same] at h
      have h := of_decide_eq_true h
      rw [e]
      cases hy : lk T c with
      | none => rfl
      | some y =>
        have := grow y hy
        exact decide_eq_true (by omega)
    · rw [lk_pt_ne e] at h
      exact h
/-- ρ, τ: the round and the time of the last raise -/
structure RI (A : List (Arc ν)) (S : R3 ν) (ρ τ : ν → Nat) (k i t : Nat) : Prop where
  has : ∀ v, 0 < ρ v → ∃ j, lk S.L v = some j
  ptr : ∀ (v : ν) (j : Nat), lk S.L v = some j → ∃ b g xb xv, A[j]? = some (b, v, g) ∧ lk S.T b = some xb ∧ lk S.T v = some xv ∧ xv ≤ xb + g ∧ (xv = xb + g → τ b < τ v) ∧ ρ v ≤ ρ b + 1
  time : ∀ v, τ v ≤ t
  le : ∀ v, ρ v ≤ k
  ex1 : ∀ (j : Nat) (a : Arc ν), j < i → A[j]? = some a → asks S.T a = true → k ≤ ρ a.1
  ex2 : ∀ (j : Nat) (a : Arc ν), A[j]? = some a → asks S.T a = true → k ≤ ρ a.1 + 1
  rk : ∀ v ∈ S.R, ρ v = k
theorem RI.step {A : List (Arc ν)} (ne : ∀ b c g, (b, c, g) ∈ A → b ≠ c) {S : R3 ν} {ρ τ : ν → Nat} {k i t : Nat} {a : Arc ν} (hi : A[i]? = some a) (h : RI A S ρ τ k i t) : ∃ ρ' τ', RI A (rstep S i a) ρ' τ' k (i + 1) (t + 1) := by
  obtain ⟨b, c, g⟩ := a
  by_cases ha : asks S.T (b, c, g) = true
  · have hbc : b ≠ c := ne b c g (List.mem_of_getElem? hi)
    have k2 := h.ex2 i _ hi ha
    have k2 : k ≤ ρ b + 1 := k2
    rw [show rstep S i (b, c, g) = raised S i (b, c, g) from if_pos ha]
    have ha' := ha
    unfold asks at ha'
    cases hx : lk S.T b with
    | none => rw [show lk S.T (b, c, g).1 = none from hx] at ha'; cases ha'
    | some x =>
      rw [show lk S.T (b, c, g).1 = some x from hx] at ha'
      have ha' : (match lk S.T c with | none => true | some y => decide (y < x + g)) = true := ha'
      have lt : ∀ y, lk S.T c = some y → y < x + g := fun y hy => by
        rw [hy] at ha'
        exact of_decide_eq_true ha'
      have eT : (raised S i (b, c, g)).T = pt S.T c (x + g) := by
        show pt S.T c ((lk S.T b).getD 0 + g) = _
        rw [hx]
        rfl
      have eL : (raised S i (b, c, g)).L = pt S.L c i := rfl
      have eR : (raised S i (b, c, g)).R = S.R ++ [c] := rfl
      refine ⟨fun v => if v = c then k else ρ v, fun v => if v = c then t + 1 else τ v, ?_⟩
      constructor
      · intro v hv
        rw [eL]
        by_cases e : v = c
        · rw [e]
          exact ⟨i, lk_pt_same⟩
        · rw [lk_pt_ne e]
          rw [if_neg e] at hv
          exact h.has v hv
      · intro v j hj
        rw [eL] at hj
        rw [eT]
        by_cases e : v = c
        · subst e
          rw [lk_pt_same] at hj
          cases hj
          refine ⟨b, g, x, x + g, hi, by rw [lk_pt_ne hbc]; exact hx, lk_pt_same, Int.le_refl _, fun _ => ?_, ?_⟩
          · rw [if_neg hbc, if_pos rfl]
            have := h.time b
            omega
          · rw [if_neg hbc, if_pos rfl]
            exact k2
        · rw [lk_pt_ne e] at hj
          obtain ⟨b', g', xb, xv, h1, h2, h3, h4, h5, h6⟩ := h.ptr v j hj
          by_cases e2 : b' = c
          · subst e2
            have l2 := lt xb h2
            have l3 := h.le b'
            refine ⟨b', g', x + g, xv, h1, lk_pt_same, by rw [lk_pt_ne e]; exact h3, by omega, fun z => by omega, ?_⟩
            rw [if_neg e, if_pos rfl]
            omega
          · refine ⟨b', g', xb, xv, h1, by rw [lk_pt_ne e2]; exact h2, by rw [lk_pt_ne e]; exact h3, h4, fun z => ?_, ?_⟩
            · rw [if_neg e, if_neg e2]
              exact h5 z
            · rw [if_neg e, if_neg e2]
              exact h6
      · intro v
        have := h.time v
        show (if v = c then t + 1 else τ v) ≤ t + 1
        split <;> omega
      · intro v
        have := h.le v
        show (if v = c then k else ρ v) ≤ k
        split <;> omega
      · intro j a hj hA hs
        rw [eT] at hs
        show k ≤ if a.1 = c then k else ρ a.1
        by_cases e : a.1 = c
        · rw [if_pos e]
          exact Nat.le_refl _
        · rw [if_neg e]
          by_cases ej : j < i
          · exact h.ex1 j a ej hA (asks_back (fun y hy => Int.le_of_lt (lt y hy)) e hs)
          · have : j = i := by omega
            subst this
            rw [hi] at hA
            cases hA
            exfalso
            unfold asks at hs
            rw [show lk (pt S.T c (x + g)) (b, c, g).1 = some x by rw [lk_pt_ne hbc]; exact hx] at hs
            have hs : (match lk (pt S.T c (x + g)) c with | none => true | some y => decide (y < x + g)) = true := hs
            rw [lk_pt_same] at hs
            have hs := of_decide_eq_true hs
            omega
      · intro j a hA hs
        rw [eT] at hs
        show k ≤ (if a.1 = c then k else ρ a.1) + 1
        by_cases e : a.1 = c
        · rw [if_pos e]
          omega
        · rw [if_neg e]
          exact h.ex2 j a hA (asks_back (fun y hy => Int.le_of_lt (lt y hy)) e hs)
      · intro v hv
        rw [eR] at hv
        show (if v = c then k else ρ v) = k
        by_cases e : v = c
        · rw [if_pos e]
        · rw [if_neg e]
          rcases List.mem_append.mp hv with hv | hv
          · exact h.rk v hv
          · exact (e (List.mem_singleton.mp hv)).elim
  · rw [show rstep S i (b, c, g) = S from if_neg ha]
    refine ⟨ρ, τ, h.has, h.ptr, fun v => Nat.le_succ_of_le (h.time v), h.le, fun j a hj hA hs => ?_, h.ex2, h.rk⟩
    by_cases ej : j < i
    · exact h.ex1 j a ej hA hs
    · have : j = i := by omega
      subst this
      rw [hi] at hA
      cases hA
      exact (ha hs).elim
theorem RI.rgo {A : List (Arc ν)} (ne : ∀ b c g, (b, c, g) ∈ A → b ≠ c) {k : Nat} : ∀ (B : List (Arc ν)) (i t : Nat) (S : R3 ν) (ρ τ : ν → Nat), (∀ j, j < B.length → B[j]? = A[i + j]?) → RI A S ρ τ k i t → ∃ ρ' τ' t', RI A (Wnd.rgo B i S) ρ' τ' k (i + B.length) t'
  | [], i, t, S, ρ, τ, _, h => ⟨ρ, τ, t, h⟩
  | b :: r, i, t, S, ρ, τ, m, h => by
    have hi : A[i]? = some b := (m 0 (by rw [List.length_cons]; omega)).symm
    obtain ⟨ρ1, τ1, h1⟩ := h.step ne hi
    obtain ⟨ρ2, τ2, t2, h2⟩ := RI.rgo ne r (i + 1) (t + 1) (Wnd.rstep S i b) ρ1 τ1 (fun j hj => by
      have := m (j + 1) (by rw [List.length_cons]; omega)
      rw [show i + 1 + j = i + (j + 1) by omega]
      exact this) h1
    rw [List.length_cons, show i + (r.length + 1) = i + 1 + r.length by omega]
    exact ⟨ρ2, τ2, t2, h2⟩
theorem RI.itr {A : List (Arc ν)} (ne : ∀ b c g, (b, c, g) ∈ A → b ≠ c) (ns : List ν) : ∀ k, ∃ ρ τ t, RI A (Wnd.itr A ns (k + 1)) ρ τ (k + 1) A.length t := fun k => by
  have from_ : ∀ k ρ τ t, RI A ⟨(Wnd.itr A ns k).T, (Wnd.itr A ns k).L, []⟩ ρ τ (k + 1) 0 t → ∃ ρ τ t, RI A (Wnd.itr A ns (k + 1)) ρ τ (k + 1) A.length t := fun k ρ τ t h => by
    obtain ⟨ρ', τ', t', h'⟩ := RI.rgo ne A 0 t _ ρ τ (fun j _ => by rw [Nat.zero_add]) h
    rw [Nat.zero_add] at h'
    exact ⟨ρ', τ', t', h'⟩
  induction k with
  | zero =>
    refine from_ 0 (fun _ => 0) (fun _ => 0) 0 ⟨fun v h => absurd h (Nat.lt_irrefl 0), fun v j h => ?_, fun _ => Nat.le_refl _, fun _ => Nat.zero_le _, fun j a h => absurd h (Nat.not_lt_zero _), fun j a _ _ => Nat.le_refl _, fun v h => by cases h⟩
    cases h
  | succ k ih =>
    obtain ⟨ρ, τ, t, h⟩ := ih
    refine from_ (k + 1) ρ τ t ⟨h.has, h.ptr, h.time, fun v => Nat.le_succ_of_le (h.le v), fun j a z => absurd z (Nat.not_lt_zero _), fun j a hA hs => ?_, fun v z => by cases z⟩
    have hj : j < A.length := (List.getElem?_eq_some_iff.mp hA).1
    exact Nat.succ_le_succ (h.ex1 j a hj hA hs)
/-! ### following the last arcs -/
def lastOf (L : List (ν × Nat)) (v : ν) : Nat := (lk L v).getD 0
def nx (A : List (Arc ν)) (L : List (ν × Nat)) (v : ν) : ν := match A[lastOf L v]? with
  | some a => a.1
  | none => v
def it (A : List (Arc ν)) (L : List (ν × Nat)) : Nat → ν → ν
  | 0, v => v
  | m + 1, v => it A L m (nx A L v)
def tl (A : List (Arc ν)) (L : List (ν × Nat)) : Nat → ν → List Nat
  | 0, _ => []
  | m + 1, v => lastOf L v :: tl A L m (nx A L v)
theorem it_succ (A : List (Arc ν)) (L : List (ν × Nat)) : ∀ m v, it A L (m + 1) v = nx A L (it A L m v)
  | 0, v => rfl
  | m + 1, v => it_succ A L m (nx A L v)
theorem it_add (A : List (Arc ν)) (L : List (ν × Nat)) : ∀ a b v, it A L (a + b) v = it A L a (it A L b v)
  | a, 0, v => rfl
  | a, b + 1, v => by
    show it A L (a + b + 1) v = it A L a (it A L b (nx A L v))
    exact it_add A L a b (nx A L v)
theorem tl_succ (A : List (Arc ν)) (L : List (ν × Nat)) : ∀ m v, tl A L (m + 1) v = tl A L m v ++ [lastOf L (it A L m v)]
  | 0, v => rfl
  | m + 1, v => by
    show lastOf L v :: tl A L (m + 1) (nx A L v) = _
    rw [tl_succ A L m (nx A L v)]
    rfl
theorem tl_len (A : List (Arc ν)) (L : List (ν × Nat)) : ∀ m v, (tl A L m v).length = m
  | 0, v => rfl
  | m + 1, v => by
    show (tl A L m (nx A L v)).length + 1 = m + 1
    rw [tl_len A L m]
/-- along arcs of L, from u to v -/
inductive Pth (A : List (Arc ν)) (L : List (ν × Nat)) : ν → ν → List Nat → Prop where
  | nil (u : ν) : Pth A L u u []
  | snoc {u v b : ν} {g : Int} {i : Nat} {ps : List Nat} : lk L v = some i → A[i]? = some (b, v, g) → Pth A L u b ps → Pth A L u v (ps ++ [i])
theorem Pth.of_nil {A : List (Arc ν)} {L : List (ν × Nat)} {u v : ν} {ps : List Nat} (p : Pth A L u v ps) (e : ps = []) : u = v := by
  cases p with
  | nil => rfl
  | snoc _ _ _ => simp at e
/-- from where there is a last arc it is one of this end -/
def Good (A : List (Arc ν)) (L : List (ν × Nat)) (v : ν) : Prop := ∃ i b g, lk L v = some i ∧ A[i]? = some (b, v, g)
theorem Good.nx {A : List (Arc ν)} {L : List (ν × Nat)} {v : ν} (h : Good A L v) : ∃ g, lk L v = some (lastOf L v) ∧ A[lastOf L v]? = some (nx A L v, v, g) := by
  obtain ⟨i, b, g, h1, h2⟩ := h
  have e : lastOf L v = i := by
    unfold lastOf
    rw [h1]
    rfl
  refine ⟨g, by rw [e]; exact h1, ?_⟩
  unfold Wnd.nx
  rw [e, h2]
theorem pth_tl {A : List (Arc ν)} {L : List (ν × Nat)} : ∀ (m : Nat) (v : ν), (∀ j, j < m → Good A L (it A L j v)) → Pth A L (it A L m v) v (tl A L m v).reverse
  | 0, v, _ => .nil v
  | m + 1, v, h => by
    obtain ⟨g, h1, h2⟩ := (h 0 (Nat.succ_pos _)).nx
    have h2 : A[lastOf L v]? = some (nx A L v, v, g) := h2
    have h1 : lk L v = some (lastOf L v) := h1
    show Pth A L (it A L m (nx A L v)) v (lastOf L v :: tl A L m (nx A L v)).reverse
    rw [List.reverse_cons]
    exact .snoc h1 h2 (pth_tl m (nx A L v) fun j hj => h (j + 1) (Nat.succ_lt_succ hj))
theorem RI.sum {A : List (Arc ν)} {S : R3 ν} {ρ τ : ν → Nat} {k i t : Nat} (h : RI A S ρ τ k i t) {u v : ν} {ps : List Nat} (p : Pth A S.L u v ps) : ∀ xu xv, lk S.T u = some xu → lk S.T v = some xv → xv ≤ xu + gapsAt A ps ∧ (xv = xu + gapsAt A ps → ps ≠ [] → τ u < τ v) := by
  induction p with
  | nil =>
    intro xu xv h1 h2
    rw [h1] at h2
    cases h2
    exact ⟨by show xu ≤ xu + 0; omega, fun _ z => (z rfl).elim⟩
  | @snoc v b g i ps h1 h2 p ih =>
    intro xu xv e1 e2
    obtain ⟨b', g', xb, xv', k1, k2, k3, k4, k5, k6⟩ := h.ptr v i h1
    rw [h2] at k1
    cases k1
    rw [e2] at k3
    cases k3
    obtain ⟨i1, i2⟩ := ih xu xb e1 k2
    have eg : gapAt A i = g := by
      unfold gapAt
      rw [h2]
    rw [gapsAt_snoc, eg]
    refine ⟨by omega, fun z _ => ?_⟩
    have t1 := k5 (by omega)
    by_cases en : ps = []
    · rw [p.of_nil en]
      exact t1
    · exact Nat.lt_trans (i2 (by omega) en) t1
theorem RI.ring {A : List (Arc ν)} {S : R3 ν} {ρ τ : ν → Nat} {k i t : Nat} (h : RI A S ρ τ k i t) {v : ν} {ps : List Nat} (p : Pth A S.L v v ps) (n : ps ≠ []) : 0 < gapsAt A ps := by
  have hv : ∃ x, lk S.T v = some x := by
    cases p with
    | nil => exact (n rfl).elim
    | snoc h1 h2 p =>
      obtain ⟨_, _, _, xv, _, _, k3, _⟩ := h.ptr v _ h1
      exact ⟨xv, k3⟩
  obtain ⟨x, hx⟩ := hv
  obtain ⟨h1, h2⟩ := h.sum p x x hx hx
  by_cases e : x = x + gapsAt A ps
  · exact absurd (h2 e n) (Nat.lt_irrefl _)
  · omega
theorem least_of {p : Nat → Prop} : ∀ n, p n → ∃ m, p m ∧ m ≤ n ∧ ∀ k, k < m → ¬ p k := fun n => by
  induction n using Nat.strongRecOn with
  | _ n ih =>
    intro h
    by_cases e : ∃ k, k < n ∧ p k
    · obtain ⟨k, hk, hp⟩ := e
      obtain ⟨m, h1, h2, h3⟩ := ih k hk hp
      exact ⟨m, h1, by omega, h3⟩
    · exact ⟨n, h, Nat.le_refl _, fun k hk hp => e ⟨k, hk, hp⟩⟩
/-- behind as many last arcs as there are nodes there is a ring -/
theorem ring_at {A : List (Arc ν)} (ne : ∀ b c g, (b, c, g) ∈ A → b ≠ c) {ns : List ν} (hA : ∀ a b g, (a, b, g) ∈ A → a ∈ ns ∧ b ∈ ns) {x : ν} {r : List ν} (h0 : 0 < ns.length) (hR : (itr A ns ns.length).R = x :: r) :
    (∀ j, j < ns.length → Good A (itr A ns ns.length).L (it A (itr A ns ns.length).L j x)) ∧ ∃ m, 0 < m ∧ m ≤ ns.length ∧ it A (itr A ns ns.length).L m (it A (itr A ns ns.length).L ns.length x) = it A (itr A ns ns.length).L ns.length x ∧
      (∀ k, 0 < k → k < m → it A (itr A ns ns.length).L k (it A (itr A ns ns.length).L ns.length x) ≠ it A (itr A ns ns.length).L ns.length x) ∧ (∀ j, Good A (itr A ns ns.length).L (it A (itr A ns ns.length).L j (it A (itr A ns ns.length).L ns.length x))) ∧
      Pth A (itr A ns ns.length).L (it A (itr A ns ns.length).L ns.length x) (it A (itr A ns ns.length).L ns.length x) (tl A (itr A ns ns.length).L m (it A (itr A ns ns.length).L ns.length x)).reverse ∧ 0 < gapsAt A (tl A (itr A ns ns.length).L m (it A (itr A ns ns.length).L ns.length x)).reverse := by
  obtain ⟨n, hn⟩ : ∃ n, ns.length = n + 1 := ⟨ns.length - 1, by omega⟩
  obtain ⟨ρ, τ, t, I⟩ := RI.itr ne ns n
  rw [← hn] at I
  generalize itr A ns ns.length = S at I hR ⊢
  have good : ∀ v, 0 < ρ v → Good A S.L v := fun v hv => by
    obtain ⟨j, hj⟩ := I.has v hv
    obtain ⟨b, g, _, _, h1, _⟩ := I.ptr v j hj
    exact ⟨j, b, g, hj, h1⟩
  have down : ∀ j, j ≤ ns.length → ns.length ≤ ρ (it A S.L j x) + j := fun j => by
    induction j with
    | zero =>
      intro _
      have := I.rk x (by rw [hR]; exact List.mem_cons_self)
      show ns.length ≤ ρ x + 0
      omega
    | succ j ih =>
      intro hj
      have h1 := ih (by omega)
      have hv : 0 < ρ (it A S.L j x) := by omega
      obtain ⟨i, hi⟩ := I.has _ hv
      obtain ⟨b, g, _, _, k1, _, _, _, _, k6⟩ := I.ptr _ i hi
      obtain ⟨g', q1, q2⟩ := (good _ hv).nx
      rw [hi] at q1
      have q1 := Option.some.inj q1
      rw [← q1, k1] at q2
      have q3 : b = nx A S.L (it A S.L j x) := by
        have := Option.some.inj q2
        exact congrArg (·.1) this
      rw [it_succ, ← q3]
      omega
  have goodx : ∀ j, j < ns.length → Good A S.L (it A S.L j x) := fun j hj => good _ (by have := down j (by omega); omega)
  have inn : ∀ j, j ≤ ns.length → it A S.L j x ∈ ns := fun j hj => by
    cases j with
    | zero =>
      obtain ⟨i, b, g, _, h2⟩ := goodx 0 h0
      exact (hA _ _ _ (List.mem_of_getElem? h2)).2
    | succ j =>
      obtain ⟨g, _, h2⟩ := (goodx j hj).nx
      rw [it_succ]
      exact (hA _ _ _ (List.mem_of_getElem? h2)).1
  refine ⟨goodx, ?_⟩
  -- two of them are the same
  have dup : ∃ i j, i < j ∧ j ≤ ns.length ∧ it A S.L i x = it A S.L j x := by
    have hnd : ¬ ((List.range (ns.length + 1)).map fun j => it A S.L j x).Nodup := fun z => by
      have := nodup_len (vs := ns) z (fun y hy => by
        obtain ⟨j, hj, rfl⟩ := List.mem_map.mp hy
        exact inn j (by have := List.mem_range.mp hj; omega))
      rw [List.length_map, List.length_range] at this
      omega
    obtain ⟨xs, a, ys, zs, e⟩ := not_nodup hnd
    have len := congrArg List.length e
    simp only [List.length_map, List.length_range, List.length_append, List.length_cons] at len
    have e1 : ((List.range (ns.length + 1)).map fun j => it A S.L j x)[xs.length]? = some a := by
      rw [e, List.getElem?_append_right (Nat.le_refl _), Nat.sub_self]
      rfl
    have e2 : ((List.range (ns.length + 1)).map fun j => it A S.L j x)[xs.length + 1 + ys.length]? = some a := by
      rw [e, List.getElem?_append_right (by omega), show xs.length + 1 + ys.length - xs.length = ys.length + 1 by omega, List.getElem?_cons_succ, List.getElem?_append_right (Nat.le_refl _), Nat.sub_self]
      rfl
    rw [List.getElem?_map, List.getElem?_range (by omega)] at e1 e2
    have e1 := Option.some.inj e1
    have e2 := Option.some.inj e2
    exact ⟨xs.length, xs.length + 1 + ys.length, by omega, by omega, e1.trans e2.symm⟩
  obtain ⟨i, j, hij, hj, e⟩ := dup
  have back : ∀ q, ∃ q', q' < j ∧ it A S.L q x = it A S.L q' x := fun q => by
    induction q using Nat.strongRecOn with
    | _ q ih =>
      by_cases hq : q < j
      · exact ⟨q, hq, rfl⟩
      · obtain ⟨q', h1, h2⟩ := ih (q - j + i) (by omega)
        refine ⟨q', h1, ?_⟩
        rw [← h2, show q = q - j + j by omega, it_add, ← e, ← it_add]
        congr 1
        omega
  have per : it A S.L (j - i) (it A S.L ns.length x) = it A S.L ns.length x := by
    rw [← it_add, show j - i + ns.length = (ns.length - i) + j by omega, it_add, ← e, ← it_add]
    congr 1
    omega
  have goody : ∀ q, Good A S.L (it A S.L q (it A S.L ns.length x)) := fun q => by
    rw [← it_add]
    obtain ⟨q', h1, h2⟩ := back (q + ns.length)
    rw [h2]
    exact goodx q' (by omega)
  generalize it A S.L ns.length x = y at per goody ⊢
  obtain ⟨m, h1, h2, h3⟩ := least_of (p := fun m => 0 < m ∧ it A S.L m y = y) (j - i) ⟨by omega, per⟩
  have pp : Pth A S.L y y (tl A S.L m y).reverse := by
    have := pth_tl (A := A) (L := S.L) m y fun j _ => goody j
    rw [h1.2] at this
    exact this
  refine ⟨m, h1.1, by omega, h1.2, fun k k0 km z => h3 k km ⟨k0, z⟩, goody, pp, I.ring pp fun z => ?_⟩
  have := congrArg List.length z
  rw [List.length_reverse, tl_len] at this
  have := h1.1
  simp at *
  omega
/-- nothing raised: no ring rises -/
theorem itr_keeps {A : List (Arc ν)} {ns : List ν} (hA : ∀ a b g, (a, b, g) ∈ A → a ∈ ns ∧ b ∈ ns) {k : Nat} (hR : (itr A ns (k + 1)).R = []) : NoPos A := by
  obtain ⟨e1, e2⟩ := rgo_none A 0 ⟨(itr A ns k).T, (itr A ns k).L, []⟩ rfl hR
  have c : Closed A (itr A ns k).T := closed_of e2
  have all : ∀ v ∈ ns, ∃ x, lk (itr A ns k).T v = some x := fun v hv => by
    have z : ∀ k, Grows (itr A ns 0).T (itr A ns k).T := fun k => by
      induction k with
      | zero => exact Grows.refl _
      | succ k ih => exact ih.trans (rgo_grows A 0 ⟨(itr A ns k).T, (itr A ns k).L, []⟩)
    obtain ⟨y, h, _⟩ := z k v 0 (lk_zero_of hv)
    exact ⟨y, h⟩
  refine Keeps.noPos (φ := fun v => (lk (itr A ns k).T v).getD 0) fun a b g m => ?_
  obtain ⟨h1, h2⟩ := hA a b g m
  obtain ⟨x, hx⟩ := all a h1
  obtain ⟨y, hy, le⟩ := c _ m x hx
  have hy : lk (itr A ns k).T b = some y := hy
  show (lk (itr A ns k).T a).getD 0 + g ≤ (lk (itr A ns k).T b).getD 0
  rw [hx, hy]
  exact le
theorem Pth.wk {A : List (Arc ν)} {L : List (ν × Nat)} {u v : ν} {ps : List Nat} (p : Pth A L u v ps) : Wk A u v ps.length (gapsAt A ps) := by
  induction p with
  | nil => exact .zero _
  | @snoc v b g i ps h1 h2 p ih =>
    have e : gapAt A i = g := by
      unfold gapAt
      rw [h2]
    rw [gapsAt_snoc, e, List.length_append]
    exact ih.trans (Wk.arc (List.mem_of_getElem? h2))
end
end Wnd

/-! a ring that rises, found; contradictions of any system -/
namespace Wnd
open PySem PySem.Spec PyProof.Rows L2
abbrev s_ring_to : Stmt := top 8
theorem sc_ring_to : FnScope ["arcs", "last", "thing", "ring"] ["arcs", "last", "thing"] (defScope s_ring_to) := ⟨rfl, rfl, rfl, by decide +kernel, rfl, by decide +kernel, by decide +kernel⟩
section
variable {P : Program} {w : World} {K : PySem.W.Frag} {mg : Str → Option Value} {base : Heap}
/-- arcs that follow one another from u to v -/
def Lnk : Node → List (Arc Node) → Node → Prop
  | u, [], v => u = v
  | u, a :: r, v => a.1 = u ∧ Lnk a.2.1 r v
theorem Lnk.snoc {v b : Node} {g : Int} : ∀ {as : List (Arc Node)} {u : Node}, Lnk u as b → Lnk u (as ++ [(b, v, g)]) v
  | [], u, h => ⟨h.symm, rfl⟩
  | a :: r, u, h => ⟨h.1, Lnk.snoc h.2⟩
theorem Pth.rules {rs : List (Rule × Addr)} {L : List (Node × Nat)} {u v : Node} {ps : List Nat} (w : Pth (arcsOf rs) L u v ps) : ∃ ch : List (Rule × Addr), ch.length = ps.length ∧ (∀ k, k < ps.length → ∃ i p, ps[k]? = some i ∧ rs[i]? = some p ∧ ch[k]? = some p) ∧ (∀ p ∈ ch, p ∈ rs) ∧
    Lnk u (ch.map fun p => arcOf p.1) v ∧ (ch.map fun p => p.1.gap).sum = gapsAt (arcsOf rs) ps := by
  induction w with
  | nil => exact ⟨[], rfl, fun k hk => absurd hk (Nat.not_lt_zero _), (fun _ h => nomatch h), rfl, rfl⟩
  | @snoc v b g i ps h1 h2 w ih =>
    obtain ⟨ch, e, ix, m, lk', sm⟩ := ih
    obtain ⟨p, hp, ea⟩ : ∃ p, rs[i]? = some p ∧ arcOf p.1 = (b, v, g) := by
      unfold arcsOf at h2
      rw [List.getElem?_map] at h2
      cases hr : rs[i]? with
      | none => rw [hr] at h2; cases h2
      | some p =>
        rw [hr] at h2
        exact ⟨p, rfl, Option.some.inj h2⟩
    refine ⟨ch ++ [p], by rw [List.length_append, List.length_append, e]; rfl, fun k hk => ?_, fun q hq => ?_, ?_, ?_⟩
    · rw [List.length_append, List.length_singleton] at hk
      by_cases hl : k < ps.length
      · obtain ⟨j, q, a1, a2, a3⟩ := ix k hl
        exact ⟨j, q, by rw [List.getElem?_append_left hl]; exact a1, a2, by rw [List.getElem?_append_left (by omega)]; exact a3⟩
      · have : k = ps.length := by omega
        subst this
        refine ⟨i, p, ?_, hp, ?_⟩
        · rw [List.getElem?_append_right (Nat.le_refl _), Nat.sub_self]
          rfl
        · rw [← e, List.getElem?_append_right (Nat.le_refl _), Nat.sub_self]
          rfl
    · rcases List.mem_append.mp hq with hq | hq
      · exact m q hq
      · rw [List.mem_singleton.mp hq]
        exact List.mem_of_getElem? hp
    · rw [List.map_append, List.map_singleton, ea]
      exact lk'.snoc
    · have eg : gapAt (arcsOf rs) i = g := by
        unfold gapAt
        rw [h2]
      have ep : p.1.gap = g := by
        unfold arcOf at ea
        exact congrArg (fun z => z.2.2) ea
      rw [List.map_append, List.sum_append, sm, gapsAt_snoc, eg]
      show _ + (p.1.gap + 0) = _
      omega
theorem NGet.jj {P : Program} {w : World} {H : Hp} {a : Addr} {T : List (Node × Nat)} {k : Node} {o : Option Nat} (e : H a = some (ndO P w a (natsV T))) (h : lk T k = o) : NGet P w H a (endV k) (o.map fun n : Nat => V.int (n : Int)) := by
  rw [← h, ← lk_nats]
  exact NGet.n e
theorem scal_ends (a b : Node) : scal (endV a) (endV b) = true := by
  cases a <;> cases b <;> rfl
theorem Good.rule {rs : List (Rule × Addr)} {L : List (Node × Nat)} {v : Node} (h : Good (arcsOf rs) L v) : ∃ y, rs[lastOf L v]? = some y ∧ y ∈ rs ∧ y.1.low = Wnd.nx (arcsOf rs) L v ∧ lk L v = some (lastOf L v) := by
  obtain ⟨g, h1, h2⟩ := h.nx
  unfold arcsOf at h2
  rw [List.getElem?_map] at h2
  cases hr : rs[lastOf L v]? with
  | none => rw [hr] at h2; cases h2
  | some p =>
    rw [hr] at h2
    have h3 := Option.some.inj h2
    refine ⟨p, rfl, List.mem_of_getElem? hr, ?_, h1⟩
    unfold arcOf at h3
    exact congrArg (fun z => z.1) h3
def spRingTo (P : Program) (w : World) : Sp := fun vs H Q _ => ∃ (a l : Addr) (v : Node) (rs : List (Rule × Addr)) (L : List (Node × Nat)) (m : Nat), vs = [.ref a, .ref l, endV v] ∧ H a = some (.lst (rs.map fun p => V.ref p.2)) ∧ KeyTups H rs ∧ H l = some (ndO P w l (natsV L)) ∧
  0 < m ∧ m ≤ 1000 ∧ it (arcsOf rs) L m v = v ∧ (∀ k, 0 < k → k < m → it (arcsOf rs) L k v ≠ v) ∧ (∀ j, Good (arcsOf rs) L (it (arcsOf rs) L j v)) ∧
  ∀ r H', Same H H' → H r = none → H' r = some (.lst ((tl (arcsOf rs) L m v).reverse.map fun i : Nat => V.int (i : Int))) → Q (.ref r) H'
theorem ok_ringTo {f : Addr} {fd : FuncData} (D : DefAt K mg "_ring_to" s_ring_to ["arcs", "last", "thing"] f fd) : Ok P w K mg base 1 "_ring_to" ["arcs", "last", "thing"] (spRingTo P w) := by
  refine D.ok (D.fn.ok sc_ring_to (fun vs H Q E h => ?_) (fun cdv A outer s H vs Q E hr h => ?_))
  · obtain ⟨a, l, v, rs, L, m, rfl, _⟩ := h
    rfl
  · obtain ⟨a, l, v, rs, L, m, rfl, hA, hk, hl, m0, mz, per, least, good, q⟩ := h
    have nd := sc_ring_to.nd
    have hu9 := hu9_of hr
    have big : sizeLine > 1000000 := by decide
    refine ⟨_, (pss_cons (ps_set (i := 3) nd rfl (Or.inl rfl) (pe_lst (pa_cons (pe_ix (ix_nd (P := P) (w := w) hu9) (pv 1) (pv 2) (fun _ _ => rfl)) pa_nil)))
      (pss_cons (ps_while PassesOwn.never (pt_cmpR op_ne (pe_ix ix_tup (pe_ix ix_list (pv 0) (pe_ix ix_list (pv 3) (pe_un un_neg pe_int) (fun _ _ => rfl)) (fun _ _ => rfl)) pe_int (fun _ _ => rfl)) (pv 2) (nomark _)) (pss_one (ps_expr (pe_bm PySem.F.plainAttrs_list PySem.F.slot_list_append PySem.F.type_list_append mt_append (pv 3) (pa_cons (pe_ix (ix_nd (P := P) (w := w) hu9) (pv 1) (pe_ix ix_tup (pe_ix ix_list (pv 0) (pe_ix ix_list (pv 3) (pe_un un_neg pe_int) (fun _ _ => rfl)) (fun _ _ => rfl)) pe_int (fun _ _ => rfl)) (fun _ _ => rfl)) pa_nil)))))
      (pss_one (ps_ret (pe_revL (pv 3)))))), ?_⟩
    obtain ⟨y0, hy0, my0, lo0, lk0⟩ := (good 0).rule
    have lk0 : lk L v = some (lastOf L v) := lk0
    refine ⟨_, rfl, _, rfl, l, _, rfl, NGet.jj hl lk0, by show 1 ≤ sizeLine; decide, fun r nr => ?_⟩
    have s1 := same_new (o := .lst [V.int (lastOf L v : Nat)]) nr
    have hw : (upd H r (.lst [V.int (lastOf L v : Nat)])) r = some (.lst ((tl (arcsOf rs) L 1 v).map fun i : Nat => V.int (i : Int))) := upd_same
    refine ⟨fun k σ Hc => ∃ t : Nat, k + t + 1 = m ∧ σ = [some (.ref a), some (.ref l), some (endV v), some (.ref r)] ∧ Hc r = some (.lst ((tl (arcsOf rs) L (t + 1) v).map fun i : Nat => V.int (i : Int))) ∧ Same H Hc,
      ⟨m - 1, 0, by omega, rfl, hw, s1⟩, ?_⟩
    rintro k σ Hc ⟨t, ht, rfl, hw, sc⟩
    obtain ⟨y, hy, my, lo, lkv⟩ := (good t).rule
    have e1 : (tl (arcsOf rs) L (t + 1) v).map (fun i : Nat => V.int (i : Int)) = (tl (arcsOf rs) L t v).map (fun i : Nat => V.int (i : Int)) ++ [V.int (lastOf L (it (arcsOf rs) L t v) : Nat)] := by
      rw [tl_succ, List.map_append]
      rfl
    have ll : (tl (arcsOf rs) L (t + 1) v).length = t + 1 := tl_len _ _ _ _
    have lo : y.1.low = it (arcsOf rs) L (t + 1) v := by rw [it_succ]; exact lo
    refine ⟨_, rfl, _, rfl, _, rfl, ?_⟩
    refine ⟨r, _, -1, .int (lastOf L (it (arcsOf rs) L t v) : Nat), rfl, rfl, SqL.of hw, by rw [e1]; exact L2.atI_last _ _, ?_⟩
    refine ⟨a, _, (lastOf L (it (arcsOf rs) L t v) : Nat), .ref y.2, rfl, rfl, SqL.of (sc _ _ hA), atI_nat (by rw [List.getElem?_map, hy]; rfl), ?_⟩
    refine ⟨y.2, _, 0, endV y.1.low, rfl, rfl, SqT.of (sc _ _ (hk y my)), atI_nat (j := 0) rfl, ?_⟩
    refine ⟨_, rfl, scal_ends _ _, _, rfl, ?_⟩
    rw [lo]
    by_cases ez : it (arcsOf rs) L (t + 1) v = v
    · rw [ez, show (!decide (endV v = endV v)) = false from by rw [decide_eq_true rfl]; rfl]
      refine iteF ?_
      have em : t + 1 = m := by
        by_cases z : t + 1 = m
        · exact z
        · exact absurd ez (least (t + 1) (by omega) (by omega))
      refine ⟨_, rfl, r, _, rfl, SqL.of hw, fun r2 nr2 => ?_⟩
      refine q r2 _ (sc.trans (same_new nr2)) (sc.free nr2) ?_
      rw [upd_same, ← em, List.map_reverse]
    · rw [show (!decide (endV (it (arcsOf rs) L (t + 1) v) = endV v)) = true from by rw [decide_eq_false fun z => ez (endV_inj z)]; rfl]
      refine iteT ?_
      obtain ⟨y', hy', my', lo', lkv'⟩ := (good (t + 1)).rule
      have hm : t + 1 < m := by
        by_cases z : t + 1 = m
        · rw [z] at ez
          exact absurd per ez
        · omega
      refine ⟨fun σ' H' => σ' = [some (.ref a), some (.ref l), some (endV v), some (.ref r)] ∧ H' r = some (.lst ((tl (arcsOf rs) L (t + 2) v).map fun i : Nat => V.int (i : Int))) ∧ Same H H', ?_, ?_⟩
      · rintro σ' H' ⟨rfl, g1, g2⟩
        exact ⟨k - 1, by omega, t + 1, by omega, rfl, g1, g2⟩
      refine ⟨_, rfl, .inl ⟨rfl, _, SqL.of hw⟩, _, rfl, _, rfl, _, rfl, ?_⟩
      refine ⟨1, rfl, r, _, -1, .int (lastOf L (it (arcsOf rs) L t v) : Nat), rfl, rfl, SqL.of hw, by rw [e1]; exact L2.atI_last _ _, ?_⟩
      refine ⟨a, _, (lastOf L (it (arcsOf rs) L t v) : Nat), .ref y.2, rfl, rfl, SqL.of (sc _ _ hA), atI_nat (by rw [List.getElem?_map, hy]; rfl), ?_⟩
      refine ⟨y.2, _, 0, endV y.1.low, rfl, rfl, SqT.of (sc _ _ (hk y my)), atI_nat (j := 0) rfl, ?_⟩
      rw [lo]
      refine ⟨l, _, rfl, NGet.jj (sc _ _ hl) lkv', ?_⟩
      refine ⟨r, _, _, rfl, rfl, hw, by rw [List.length_map, ll]; omega, ?_⟩
      refine ⟨rfl, ?_, fun b o hb => ?_⟩
      · rw [upd_same, tl_succ _ _ (t + 1), List.map_append]
        rfl
      · rw [upd_ne (ne_of_none hb nr)]
        exact sc _ _ hb
end
end Wnd

/-! contradictions of any system -/
namespace Wnd
open PySem PySem.Spec PyProof.Rows L2
section
variable {P : Program} {w : World} {K : PySem.W.Frag} {mg : Str → Option Value} {base : Heap}
def spRingF : Sp := fun vs H Q _ => ∃ (th a : Addr) (ns : List Node) (rs : List (Rule × Addr)), vs = [.ref th, .ref a] ∧ H th = some (.lst (ns.map endV)) ∧ ns.Nodup ∧ 0 < ns.length ∧ ns.length ≤ 64 ∧
  H a = some (.lst (rs.map fun p => V.ref p.2)) ∧ KeyTups H rs ∧ rs.length ≤ 2000 ∧ (∀ b c g, (b, c, g) ∈ arcsOf rs → b ≠ c) ∧ (∀ x y g, (x, y, g) ∈ arcsOf rs → x ∈ ns ∧ y ∈ ns) ∧ (∀ H', Same H H' → NoPos (arcsOf rs) → Q .non H') ∧
  ∀ r ps L v H', Same H H' → H r = none → H' r = some (.lst (ps.map fun i : Nat => V.int (i : Int))) → Pth (arcsOf rs) L v v ps → 0 < ps.length → ps.length ≤ ns.length → 0 < gapsAt (arcsOf rs) ps → Q (.ref r) H'
theorem ok_ringF {f : Addr} {fd : FuncData} (D : DefAt K mg "rising_ring" s_rising_ring ["things", "arcs"] f fd) (O_raised_from_0 : Ok P w K mg base 2 "_raised_from_0" ["things", "arcs"] (spFrom0 P w)) (O_ring_to : Ok P w K mg base 1 "_ring_to" ["arcs", "last", "thing"] (spRingTo P w)) : Ok P w K mg base 3 "rising_ring" ["things", "arcs"] spRingF := by
  refine D.ok (D.fn.ok sc_rising_ring (fun vs H Q E h => ?_) (fun cdv A outer s H vs Q E hr h => ?_))
  · obtain ⟨th, a, ns, rs, rfl, _⟩ := h
    rfl
  · obtain ⟨th, a, ns, rs, rfl, hT, nn, h0, h64, hA, hk, hz, ne, hns, qn, qs⟩ := h
    have nd := sc_rising_ring.nd
    have hu9 := hu9_of hr
    refine ⟨_, (pss_cons (ps_asg (pe_own O_raised_from_0 (hr.mono (by decide)) (pa_cons (pv 0) (pa_cons (pv 1) pa_nil))) (pg_tup rfl (pgs_cons (pg_name (i := 2) nd rfl (Or.inl rfl)) (pgs_cons (pg_name (i := 3) nd rfl (Or.inl rfl)) (pgs_cons (pg_name (i := 4) nd rfl (Or.inl rfl)) pgs_nil)))))
      (pss_cons (ps_if (pt_not (pt_truth (pv 4) (by intro _; rfl))) (pss_one (ps_ret pe_non)) pss_nil)
      (pss_cons (ps_set (i := 5) nd rfl (Or.inl rfl) (pe_ix ix_list (pv 4) pe_int (fun _ _ => rfl)))
      (pss_cons (ps_for PassesOwn.never rfl (pi_list (pv 0)) (pg_name (i := 2) nd rfl (Or.inl rfl)) (pss_one (ps_set (i := 5) nd rfl (Or.inl rfl) (pe_ix ix_tup (pe_ix ix_list (pv 1) (pe_ix (ix_nd (P := P) (w := w) hu9) (pv 3) (pv 5) (fun _ _ => rfl)) (fun _ _ => rfl)) pe_int (fun _ _ => rfl)))))
      (pss_one (ps_ret (pe_own O_ring_to (hr.mono (by decide)) (pa_cons (pv 1) (pa_cons (pv 3) (pa_cons (pv 5) pa_nil)))))))))), ?_⟩
    refine ⟨_, rfl, _, rfl, th, a, ns, rs, rfl, hT, nn, h0, h64, hA, hk, hz, fun t d l r H' k s1 nt nd0 nl nr ht hd hl hr' hkn hz' => ?_⟩
    refine ⟨t, _, rfl, SqT.of ht, rfl, _, _, rfl, _, _, rfl, _, _, rfl, rfl, ?_⟩
    refine ⟨_, rfl, _, .inl ⟨_, SqL.of hr', rfl⟩, ?_⟩
    cases eR : (itr (arcsOf rs) ns k).R with
    | nil =>
      have np : NoPos (arcsOf rs) := by
        cases k with
        | zero =>
          have : ns = [] := eR
          rw [this] at h0
          exact absurd h0 (Nat.lt_irrefl 0)
        | succ k => exact itr_keeps hns eR
      exact iteT (qn _ s1 np)
    | cons x r' =>
      refine iteF ?_
      have ek : k = ns.length := by
        rcases hz' with z | z
        · rw [z] at eR
          cases eR
        · exact z
      subst ek
      rw [eR] at hr'
      obtain ⟨good, m, m0, mz, per, least, goody, pth, tot⟩ := ring_at ne hns h0 eR
      generalize (itr (arcsOf rs) ns ns.length).L = LL at good per least goody pth tot hl
      refine ⟨_, rfl, r, _, 0, endV x, rfl, rfl, SqL.of hr', atI_nat (j := 0) rfl, ?_⟩
      refine ⟨_, rfl, th, rfl, ⟨_, SqL.of (s1 _ _ hT)⟩, ?_⟩
      refine for_it (walk_list (xs := ns.map endV)) (fun i σ Hc => ∃ o2 : Option V, σ = [some (.ref th), some (.ref a), o2, some (.ref l), some (.ref r), some (endV (it (arcsOf rs) LL i x))] ∧ Hc = H')
        ⟨_, rfl, rfl⟩ (fun i σ Hc _ h => by
          obtain ⟨_, _, rfl⟩ := h
          exact SqL.of (s1 _ _ hT)) ?_ ?_
      · rintro i y σ Hz Hc hi ⟨o2, rfl, rfl⟩ ⟨rfl, hy⟩
        have hi : i < ns.length := by rwa [List.length_map] at hi
        obtain ⟨y, hy, my, lo, lkv⟩ := (good i hi).rule
        refine ⟨_, rfl, _, rfl, _, rfl, l, _, rfl, NGet.jj hl lkv, ?_⟩
        refine ⟨a, _, (lastOf LL (it (arcsOf rs) LL i x) : Nat), .ref y.2, rfl, rfl, SqL.of (s1 _ _ hA), atI_nat (by rw [List.getElem?_map, hy]; rfl), ?_⟩
        refine ⟨y.2, _, 0, endV y.1.low, rfl, rfl, SqT.of (s1 _ _ (hk y my)), atI_nat (j := 0) rfl, ?_⟩
        rw [lo, ← it_succ]
        exact ⟨_, rfl, rfl⟩
      · rintro σ Hc ⟨o2, rfl, rfl⟩
        rw [List.length_map]
        refine ⟨_, rfl, _, rfl, _, rfl, a, l, it (arcsOf rs) LL ns.length x, rs, LL, m, rfl, s1 _ _ hA, fun p hp => s1 _ _ (hk p hp), hl, m0, by omega, per, least, goody, fun r2 H2 s2 nr2 hr2 => ?_⟩
        exact qs r2 _ LL _ H2 (s1.trans s2) (s1.free nr2) hr2 pth (by rw [List.length_reverse, tl_len]; exact m0) (by rw [List.length_reverse, tl_len]; exact mz) tot
def spContraF (C : Addr) : Sp := fun vs H Q _ => ∃ (x : Addr) (ns : List Str) (L : List (Rule × Addr)), vs = [.ref x] ∧ SysAt C H x ns L ∧ L.length ≤ 2000 ∧ (∀ H', Same H H' → NoPos (arcsOf L) → Q .non H') ∧
  ∀ (r : Addr) (ch : List (Rule × Addr)) (u : Node) (H' : Hp), Same H H' → H r = none → H' r = some (.lst (ch.map fun p => V.ref p.2)) → (∀ p ∈ ch, p ∈ L) → Lnk u (ch.map fun p => arcOf p.1) u → 0 < ch.length → ch.length ≤ 64 → 0 < (ch.map fun p => p.1.gap).sum → ¬ NoPos (arcsOf L) → Q (.ref r) H'
theorem ok_contraF {C : Addr} {f : Addr} {fd : FuncData} (D : DefAt K mg "contradiction" s_contradiction ["system"] f fd) (PN : OkP P w K mg base C 1 "names" (spNames C)) (PR : OkP P w K mg base C 1 "rules" (spRulesP C)) (O_rising_ring : Ok P w K mg base 3 "rising_ring" ["things", "arcs"] spRingF) :
    Ok P w K mg base 4 "contradiction" ["system"] (spContraF C) := by
  refine D.ok (D.fn.ok sc_contradiction (fun vs H Q E h => ?_) (fun cdv A outer s H vs Q E hr h => ?_))
  · obtain ⟨x, ns, L, rfl, _⟩ := h
    rfl
  · obtain ⟨x, ns, L, rfl, hx, hz, qn, qs⟩ := h
    have nd := sc_contradiction.nd
    refine ⟨_, (pss_cons (ps_set (i := 1) nd rfl (Or.inr rfl) (pe_propO PR (hr.mono (by decide)) (pv 0)))
      (pss_cons (ps_set (i := 2) nd rfl (Or.inl rfl) (pe_own O_rising_ring (hr.mono (by decide)) (pa_cons (pe_lst (pa_cons pe_non (StX.pa_star (pe_propO PN (hr.mono (by decide)) (pv 0)) pa_nil))) (pa_cons (pv 1) pa_nil))))
      (pss_cons (ps_if (pt_cmpR op_isN (pv 2) pe_non (nomark _)) (pss_one (ps_ret pe_non)) pss_nil)
      (pss_one (ps_ret (pe_lc (own := [("at", 3)]) (g := gName 3) (tt := tYes) (by rfl) nd (pi_list (pv 2)) (blkOk_by (own := [("at", 3)]) (N := ["system", "rules", "ring", "at"]) (sc := defScope s_contradiction) (by decide +kernel)) (fun _ _ _ _ _ => (pg_name (i := 3) nd rfl (Or.inl rfl))) (fun _ _ _ _ _ => pts_nil) (fun _ _ _ _ _ => (pe_ix (ix_listK K) (pv 1) (pv 3) (fun _ _ => rfl))))))))), ?_⟩
    obtain ⟨dx, fs, hi⟩ := prop_at hx
    have hok : SysOk ns L := by
      obtain ⟨_, _, _, _, _, _, _, h⟩ := hx
      exact h
    have hk : KeyTups H L := by
      obtain ⟨_, _, _, _, _, _, h, _⟩ := hx
      exact h
    refine ⟨_, rfl, x, dx, fs, rfl, hi, x, ns, L, rfl, hx, fun a na => ?_⟩
    have s1 := same_new (o := .lst (L.map fun p => V.ref p.2)) na
    have ha : (upd H a (.lst (L.map fun p => V.ref p.2))) a = some (.lst (L.map fun p => V.ref p.2)) := upd_same
    generalize upd H a (.lst (L.map fun p => V.ref p.2)) = H1 at s1 ha ⊢
    refine ⟨_, rfl, x, dx, fs, rfl, s1 _ _ hi, x, ns, L, rfl, hx.same s1, fun b nb => ?_⟩
    have s2 := s1.trans (same_new (o := .lst (ns.map V.str)) nb)
    have ha2 := same_new (o := .lst (ns.map V.str)) nb _ _ ha
    have hb2 : (upd H1 b (.lst (ns.map V.str))) b = some (.lst (ns.map V.str)) := upd_same
    generalize upd H1 b (.lst (ns.map V.str)) = H2 at s2 ha2 hb2 ⊢
    clear s1 ha nb
    have len := hok.names.2.2
    have big : sizeLine > 1000000 := by decide
    refine ⟨b, _, rfl, .inr (SqL.of hb2), by show (V.non :: (ns.map V.str ++ [])).length ≤ sizeLine; rw [List.append_nil, List.length_cons, List.length_map]; omega, fun c nc => ?_⟩
    have s3 := s2.trans (same_new (o := .lst (V.non :: (ns.map V.str ++ []))) nc)
    have ha3 := same_new (o := .lst (V.non :: (ns.map V.str ++ []))) nc _ _ ha2
    have hc3 : (upd H2 c (.lst (V.non :: (ns.map V.str ++ [])))) c = some (.lst ((things ns).map endV)) := by
      rw [upd_same, List.append_nil, things_v]
    generalize upd H2 c (.lst (V.non :: (ns.map V.str ++ []))) = H3 at s3 ha3 hc3 ⊢
    have tl : (things ns).length = ns.length + 1 := by unfold things; rw [List.length_cons, List.length_map]
    have ne : ∀ b c g, (b, c, g) ∈ arcsOf L → b ≠ c := fun b c g m => by
      obtain ⟨p, hp, e⟩ := List.mem_map.mp m
      have r := (hok.rules p hp).ne
      unfold arcOf at e
      cases e
      exact r
    refine ⟨_, rfl, c, a, things ns, L, rfl, hc3, things_nodup hok.names.1, by omega, by omega, ha3, fun p hp => s3 _ _ (hk p hp), hz, ne, arcs_in hok.rules, fun H' s4 np => ?_, fun r ps LL v H' s4 nr hr4 pth p0 pz tot => ?_⟩
    · exact ⟨_, rfl, rfl, _, rfl, iteT (qn _ (s3.trans s4) np)⟩
    · refine ⟨_, rfl, rfl, _, rfl, iteF ?_⟩
      obtain ⟨ch, lc, ix, mem, lks, sm⟩ := pth.rules
      refine ⟨_, rfl, r, rfl, ⟨_, SqL.of hr4⟩, fun D hD => ?_⟩
      have np : ¬ NoPos (arcsOf L) := fun z => by
        have := z _ _ _ pth.wk
        omega
      refine lc_map (walk_list (xs := ps.map fun i : Nat => V.int (i : Int))) hD (ch.map fun p => V.ref p.2) (by rw [List.length_map, List.length_map, lc]) (by rw [List.length_map]; omega) (fun X sx => SqL.of (sx _ _ hr4)) ?_ ?_
      · rintro k y Y Y' hk' R Lk b ⟨rfl, hy⟩ hR
        have hk' : k < ps.length := by
          have := hk'
          rw [List.length_map] at this
          omega
        obtain ⟨i, p, a1, a2, a3⟩ := ix k hk'
        rw [List.getElem?_map, a1] at hy
        cases hy
        have e0 : (ch.map fun p => V.ref p.2)[k]'(by rw [List.length_map]; omega) = V.ref p.2 := by
          rw [List.getElem_map]
          have := (List.getElem?_eq_some_iff.mp a3).2
          rw [this]
        rw [e0] at hR
        refine ⟨rfl, ?_⟩
        unfold tYes
        dsimp only
        rw [if_pos rfl]
        refine ⟨_, rfl, _, rfl, a, _, (i : Int), .ref p.2, rfl, rfl, SqL.of (b _ _ (s4 _ _ ha3)), atI_nat (by rw [List.getElem?_map, a2]; rfl), ?_⟩
        exact hR _ (Same.refl _)
      · intro Hd sd' hDd
        exact qs D ch v Hd ((s3.trans s4).trans sd') ((s3.trans s4).free hD) hDd mem lks (by omega) (by omega) (by rw [sm]; exact tot) np
end
end Wnd

namespace Wnd
open PySem PySem.Spec PyProof.Rows L2
abbrev s_System_has_rule : Stmt := inClass (top 39) 6
theorem sc_System_has_rule : FnScope ["self", "thing"] ["self", "thing"] (defScope s_System_has_rule) := ⟨rfl, rfl, rfl, by decide +kernel, rfl, by decide +kernel, by decide +kernel⟩
section
variable {P : Program} {w : World} {K : PySem.W.Frag} {mg : Str → Option Value} {base : Heap}
/-! ### has_rule -/
def HasQ (K : PySem.W.Frag) (H : Hp) (y : V) (L : List (Rule × Addr)) (b : Bool) : Prop := (RulQ K H y false ∧ b = false) ∨ (∃ (q : Addr) (r : Rule), y = .ref q ∧ H q = some (.tup (ruleV r)) ∧ RulQ K H y true ∧ ROk r ∧ b = decide (r ∈ L.map (·.1)))
def spHas (K : PySem.W.Frag) (C : Addr) : Sp := fun vs H Q _ => ∃ (x : Addr) (y : V) (ns : List Str) (L : List (Rule × Addr)) (b : Bool), vs = [.ref x, y] ∧ SysAt C H x ns L ∧ HasQ K H y L b ∧ ∀ H', Same H H' → Q (.bl b) H'
theorem any_rules (r : Rule) : ∀ L : List (Rule × Addr), ((L.map fun p => ruleD p.1).any fun z => PyData.eqv z (ruleD r)) = decide (r ∈ L.map (·.1))
  | [] => by simp
  | x :: L => by
    rw [List.map_cons, List.any_cons, any_rules r L, eqv_rule, List.map_cons, Bool.eq_iff_iff]
    simp only [Bool.or_eq_true, decide_eq_true_eq, List.mem_cons]
    exact ⟨fun h => h.elim (fun e => .inl e.symm) .inr, fun h => h.elim (fun e => .inl e.symm) .inr⟩
theorem ok_has {C : Addr} {qn : Str} {f : Addr} {fd : FuncData} (F : Fun K "has_rule" qn s_System_has_rule f fd) (T : SysC K mg C) (O_is_rule : OkS P w K mg base C 3 "is_rule" ["thing"] (spIsRule K)) : FnOk P w K mg base CX0 4 f fd ["self", "thing"] (spHas K C) := by
  have C_System := T.mgC
  refine F.ok sc_System_has_rule (fun vs H Q E h => ?_) (fun cdv A outer s H vs Q E hr h => ?_)
  · obtain ⟨x, y, ns, L, b, rfl, _⟩ := h
    rfl
  · obtain ⟨x, y, ns, L, b, rfl, hx, hy, q⟩ := h
    refine ⟨_, (pss_one (ps_ret (pe_and (pe_statO O_is_rule C_System (hr.mono (by decide)) (pa_cons (pv 1) pa_nil)) (pe_one (pe_cmpR (op_inD (hu65 hr)) (pv 1) (pe_fld (pv 0) rfl) rfl))))), ?_⟩
    rcases hy with ⟨hf, rfl⟩ | ⟨t, r, rfl, ht, hf, rk, rfl⟩
    · exact ⟨rfl, _, rfl, y, false, rfl, hf, fun H' s => ⟨false, rfl, q H' s⟩⟩
    · refine ⟨rfl, _, rfl, .ref t, true, rfl, hf, fun H1 s => ⟨true, rfl, ?_⟩⟩
      obtain ⟨dx, ln, lr, h1, h2, h3, h4, h5⟩ := hx.same s
      refine ⟨_, rfl, _, rfl, x, C, dx, _, _, rfl, h1, T.cl, T.nR, sysF_rules _ _, ?_⟩
      refine ⟨_, _, dp_rule (r, t) (s _ _ ht), .lst (SqL.of h3) (dp_rules h4), shaped_rule' r rk, shaped_rules L (fun p hp => (h5.rules p hp).rok h5.names), ?_⟩
      rw [any_rules]
      exact q _ s

end
end Wnd

/-! lists of rules: chains, rings, judged by the program -/
namespace Wnd
open PySem PySem.Spec PyProof.Rows L2
abbrev s_is_chain : Stmt := top 2
theorem sc_is_chain : FnScope ["system", "thing", "before", "after", "rule"] ["system", "thing"] (defScope s_is_chain) := ⟨rfl, rfl, rfl, by decide +kernel, rfl, by decide +kernel, by decide +kernel⟩
abbrev s_total_of : Stmt := top 3
theorem sc_total_of : FnScope ["chain", "rule"] ["chain"] (defScope s_total_of) := ⟨rfl, rfl, rfl, by decide +kernel, rfl, by decide +kernel, by decide +kernel⟩
section
variable {P : Program} {w : World} {K : PySem.W.Frag} {mg : Str → Option Value} {base : Heap}
/-- rules that follow one another -/
def linkB (rs : List Rule) : Bool := (rs.zip rs.tail).all fun p => decide (p.1.high = p.2.low)
def memB (L rs : List Rule) : Bool := rs.all fun r => decide (r ∈ L)
def chainB (L rs : List Rule) : Bool := !rs.isEmpty && memB L rs && linkB rs
def gapSum (rs : List Rule) : Int := (rs.map fun r => r.gap).sum
def ringB (L rs : List Rule) : Bool := chainB L rs && decide (rs.head?.map (·.low) = rs.getLast?.map (·.high)) && decide (0 < gapSum rs)
theorem cut_tl (xs : List V) : cutV xs (some 1) none = xs.tail := by
  unfold cutV
  rw [HT.sIx_none, show HT.sIx xs.length 0 (some 1) = min 1 xs.length from HT.sIx_nat _ _ 1]
  cases xs with
  | nil => rfl
  | cons a r => simp
/-- a list of rules -/
structure RulesAt (H : Hp) (r : Addr) (ch : List (Rule × Addr)) : Prop where
  at_ : H r = some (.lst (ch.map fun p => V.ref p.2))
  keys : KeyTups H ch
  len : ch.length ≤ 100000
  ok : ∃ ts, NamesOk ts ∧ ∀ p ∈ ch, RuleOk ts p.1
theorem RulesAt.same {H H' : Hp} {r : Addr} {ch : List (Rule × Addr)} (h : RulesAt H r ch) (s : Same H H') : RulesAt H' r ch := ⟨s _ _ h.at_, fun p hp => s _ _ (h.keys p hp), h.len, h.ok⟩
theorem ends_dec (a b : Node) : decide (endV a = endV b) = decide (a = b) := by
  rw [Bool.eq_iff_iff, decide_eq_true_iff, decide_eq_true_iff]
  exact ⟨endV_inj, fun e => by rw [e]⟩
theorem zip_get {ch : List (Rule × Addr)} {i : Nat} {x y : V} (h1 : (ch.map fun p => V.ref p.2)[i]? = some x) (h2 : ((ch.map fun p => V.ref p.2).tail)[i]? = some y) : ∃ p q, ch[i]? = some p ∧ ch[i + 1]? = some q ∧ x = .ref p.2 ∧ y = .ref q.2 ∧ (((ch.map (·.1)).zip (ch.map (·.1)).tail).map fun z => decide (z.1.high = z.2.low))[i]? = some (decide (p.1.high = q.1.low)) := by
  rw [List.getElem?_map] at h1
  rw [List.getElem?_tail, List.getElem?_map] at h2
  cases e1 : ch[i]? with
  | none => rw [e1] at h1; cases h1
  | some p =>
    cases e2 : ch[i + 1]? with
    | none => rw [e2] at h2; cases h2
    | some q =>
      rw [e1] at h1
      rw [e2] at h2
      cases h1
      cases h2
      refine ⟨p, q, rfl, rfl, rfl, rfl, ?_⟩
      rw [List.getElem?_map, show ((ch.map (·.1)).zip (ch.map (·.1)).tail)[i]? = some (p.1, q.1) from List.getElem?_zip_eq_some.mpr ⟨by rw [List.getElem?_map, e1]; rfl, by rw [List.getElem?_tail, List.getElem?_map, e2]; rfl⟩]
      rfl
def spIsChain (C : Addr) : Sp := fun vs H Q _ => ∃ (x r : Addr) (ns : List Str) (L ch : List (Rule × Addr)), vs = [.ref x, .ref r] ∧ SysAt C H x ns L ∧ RulesAt H r ch ∧ ∀ H', Same H H' → Q (.bl (chainB (L.map (·.1)) (ch.map (·.1)))) H'
theorem ok_isChain {C : Addr} {f : Addr} {fd : FuncData} (D : DefAt K mg "is_chain" s_is_chain ["system", "thing"] f fd) (B : Blt2 mg) (Bz : mg "zip" = none) (OH : OkM P w K mg base C 4 "has_rule" (spHas K C)) : Ok P w K mg base 5 "is_chain" ["system", "thing"] (spIsChain C) := by
  refine D.ok (D.fn.ok sc_is_chain (fun vs H Q E h => ?_) (fun cdv A outer s H vs Q E hr h => ?_))
  · obtain ⟨x, r, ns, L, ch, rfl, _⟩ := h
    rfl
  · obtain ⟨x, r, ns, L, ch, rfl, hx, hR, q⟩ := h
    have nd := sc_is_chain.nd
    have hu9 := hu9_of hr
    have big : sizeLine > 1000000 := by decide
    refine ⟨_, (pss_cons (ps_if (PW.pt (pw_or (pt_not (pt_val (pe_callB call_isi (by rfl) B.isinstance (by decide +kernel) (pa_cons (pv 1) (pa_cons (pe_bltn (v := .ty "list") (by rfl) B.list (by decide +kernel) rfl) pa_nil))))) (pw_or1 (pt_not (pt_truth (pv 1) (by intro _; rfl)))))) (pss_one (ps_ret pe_bl)) pss_nil)
      (pss_cons (ps_if (pt_not (pt_val (pe_callB (cr_all rfl) (by rfl) B.all (by decide +kernel) (pa_cons (pe_lc (own := [("rule", 4)]) (g := gName 4) (tt := tYes) (by rfl) nd (pi_list (pv 1)) (blkOk_by (own := [("rule", 4)]) (N := ["system", "thing", "before", "after", "rule"]) (sc := defScope s_is_chain) (by decide +kernel)) (fun _ _ _ _ _ => (pg_name (i := 4) nd rfl (Or.inl rfl))) (fun _ _ _ _ _ => pts_nil) (fun _ _ _ _ _ => (pe_methM OH (hr.mono (by decide)) (pv 0) (pa_cons (pv 4) pa_nil)))) pa_nil)))) (pss_one (ps_ret pe_bl)) pss_nil)
      (pss_one (ps_ret (pe_callB (cr_all rfl) (by rfl) B.all (by decide +kernel) (pa_cons (pe_lc (own := [("before", 2), ("after", 3)]) (g := gTup K 2 (gCons (gName 2) (gCons (gName 3) (gNil)))) (tt := tYes) (by rfl) nd (pi_zip (by rfl) Bz (pa_cons (pv 1) (pa_cons (pe_slice sl_list (pv 1) (po_some pe_int) po_none) pa_nil))) (blkOk_by (own := [("before", 2), ("after", 3)]) (N := ["system", "thing", "before", "after", "rule"]) (sc := defScope s_is_chain) (by decide +kernel)) (fun _ _ _ _ _ => (pg_tupK K 2 rfl (pgs_cons (pg_name (i := 2) nd rfl (Or.inl rfl)) (pgs_cons (pg_name (i := 3) nd rfl (Or.inl rfl)) pgs_nil)))) (fun _ _ _ _ _ => pts_nil) (fun _ _ _ _ _ => (pe_cmpR op_eq (pe_ix (ix_tupK K) (pv 2) pe_int (fun _ _ => rfl)) (pe_ix (ix_tupK K) (pv 3) pe_int (fun _ _ => rfl)) (nomark _)))) pa_nil)))))), ?_⟩
    obtain ⟨ts, N, rok⟩ := hR.ok
    refine ⟨_, rfl, _, _, _, _, true, rfl, .ty _, .base (.lst hR.at_), kit_ty (by decide +kernel), true, rfl, ?_⟩
    refine iteF ⟨_, rfl, _, .inl ⟨_, SqL.of hR.at_, rfl⟩, ?_⟩
    cases ec : ch with
    | nil =>
      refine iteT ?_
      rw [ec] at q
      exact q _ (Same.refl _)
    | cons c0 cr =>
      refine iteF ?_
      have c1 : chainB (L.map (·.1)) (ch.map (·.1)) = (memB (L.map (·.1)) (ch.map (·.1)) && linkB (ch.map (·.1))) := by
        rw [ec]
        rfl
      rw [c1] at q
      refine ⟨_, rfl, r, rfl, ⟨_, SqL.of hR.at_⟩, fun D hD => ?_⟩
      refine lc_map (walk_list (xs := ch.map fun p => V.ref p.2)) hD ((ch.map fun p => decide (p.1 ∈ L.map (·.1))).map V.bl) (by rw [List.length_map, List.length_map, List.length_map]) (by rw [List.length_map]; have := hR.len; omega) (fun X sx => SqL.of (sx _ _ hR.at_)) ?_ ?_
      · rintro i y Y Y' hi R Lk s1 ⟨rfl, hy⟩ hRR
        have hi' : i < ch.length := by rwa [List.length_map, List.length_map] at hi
        rw [List.getElem?_map, List.getElem?_eq_getElem hi'] at hy
        cases hy
        have e0 : ((ch.map fun p => decide (p.1 ∈ L.map (·.1))).map V.bl)[i] = V.bl (decide (ch[i].1 ∈ L.map (·.1))) := by rw [List.getElem_map, List.getElem_map]
        rw [e0] at hRR
        have hm := List.getElem_mem hi'
        generalize ch[i] = z at hm hRR ⊢
        refine ⟨rfl, ?_⟩
        unfold tYes
        dsimp only
        rw [if_pos rfl]
        have hx' := hx.same s1
        have hF : ∃ dx ln lr, Y' x = some (.ins C dx (sysF ln lr)) := by
          obtain ⟨dx, ln, lr, h1, _⟩ := hx'
          exact ⟨dx, ln, lr, h1⟩
        obtain ⟨dx, ln, lr, h1⟩ := hF
        have hz := s1 _ _ (hR.keys z hm)
        refine ⟨_, rfl, x, dx, sysF ln lr, rfl, h1, sysF_no (by decide) (by decide), ?_⟩
        exact ⟨_, rfl, x, .ref z.2, ns, L, decide (z.1 ∈ L.map (·.1)), rfl, hx', .inr ⟨z.2, z.1, rfl, hz, (rok z hm).rulQ N hz, (rok z hm).rok N, rfl⟩, fun H4 s4 => hRR _ s4⟩
      intro H1 s1 hD1
      refine ⟨D, _, rfl, SqL.of hD1, _, rfl, ?_⟩
      have em : (ch.map fun p => decide (p.1 ∈ L.map (·.1))).all id = memB (L.map (·.1)) (ch.map (·.1)) := by
        unfold memB
        rw [List.all_map, List.all_map]
        rfl
      rw [em]
      cases e2 : memB (L.map (·.1)) (ch.map (·.1)) with
      | false =>
        rw [e2] at q
        exact iteT (q _ s1)
      | true =>
        rw [e2] at q
        refine iteF ?_
        have hr1 := s1 _ _ hR.at_
        refine ⟨_, rfl, _, rfl, 1, rfl, r, _, rfl, SqL.of hr1, fun sl nsl => ?_⟩
        rw [cut_tl]
        have s2 := s1.trans (same_new (o := .lst (ch.map fun p => V.ref p.2).tail) nsl)
        have hsl : (upd H1 sl (.lst (ch.map fun p => V.ref p.2).tail)) sl = some (.lst (ch.map fun p => V.ref p.2).tail) := upd_same
        generalize upd H1 sl (.lst (ch.map fun p => V.ref p.2).tail) = H2 at s2 hsl ⊢
        have lz : min (ch.map fun p => V.ref p.2).length (ch.map fun p => V.ref p.2).tail.length = ((ch.map (·.1)).zip (ch.map (·.1)).tail).length := by
          rw [List.length_zip, List.length_tail, List.length_tail, List.length_map, List.length_map]
        have lz2 : ((ch.map (·.1)).zip (ch.map (·.1)).tail).length ≤ ch.length := by
          rw [List.length_zip, List.length_map]
          omega
        refine ⟨r, sl, _, _, rfl, SqL.of (s2 _ _ hR.at_), SqL.of hsl, fun D2 hD2 => ?_⟩
        refine lc_map (walk_zip (xs := ch.map fun p => V.ref p.2) (ys := (ch.map fun p => V.ref p.2).tail) rfl) hD2 ((((ch.map (·.1)).zip (ch.map (·.1)).tail).map fun z => decide (z.1.high = z.2.low)).map V.bl) (by rw [List.length_map, List.length_map, lz]) (by rw [lz]; have := hR.len; omega) (fun X sx => ⟨SqL.of (sx _ _ (s2 _ _ hR.at_)), SqL.of (sx _ _ hsl)⟩) ?_ ?_
        · rintro i y Y Y' hi R Lk s3 ⟨T, v1, v2, rfl, nT, rfl, h1, h2⟩ hRR
          obtain ⟨p, q', g1, g2, rfl, rfl, g3⟩ := zip_get h1 h2
          have e0 : ((((ch.map (·.1)).zip (ch.map (·.1)).tail).map fun z => decide (z.1.high = z.2.low)).map V.bl)[i] = V.bl (decide (p.1.high = q'.1.low)) := by
            have : ((((ch.map (·.1)).zip (ch.map (·.1)).tail).map fun z => decide (z.1.high = z.2.low)).map V.bl)[i]? = some (V.bl (decide (p.1.high = q'.1.low))) := by
              rw [List.getElem?_map, g3]
              rfl
            rw [List.getElem?_eq_getElem hi] at this
            exact Option.some.inj this
          rw [e0] at hRR
          have st := same_new (o := .tup [V.ref p.2, V.ref q'.2]) nT
          have mp := List.mem_of_getElem? g1
          have mq := List.mem_of_getElem? g2
          refine ⟨T, _, rfl, SqT.of upd_same, rfl, _, _, rfl, _, _, rfl, rfl, rfl, ?_⟩
          unfold tYes
          dsimp only
          rw [if_pos rfl]
          refine ⟨_, rfl, p.2, _, 1, endV p.1.high, rfl, rfl, SqT.of (st _ _ (s3 _ _ (s2 _ _ (hR.keys p mp)))), atI_nat (j := 1) rfl, ?_⟩
          refine ⟨_, rfl, q'.2, _, 0, endV q'.1.low, rfl, rfl, SqT.of (st _ _ (s3 _ _ (s2 _ _ (hR.keys q' mq)))), atI_nat (j := 0) rfl, ?_⟩
          refine ⟨scal_ends _ _, ?_⟩
          rw [ends_dec]
          exact hRR _ st
        intro H3 s3 hD3
        refine ⟨D2, _, rfl, SqL.of hD3, ?_⟩
        have em2 : (((ch.map (·.1)).zip (ch.map (·.1)).tail).map fun z => decide (z.1.high = z.2.low)).all id = linkB (ch.map (·.1)) := by
          unfold linkB
          rw [List.all_map]
          rfl
        rw [em2]
        exact q _ (s2.trans s3)
def spTotal : Sp := fun vs H Q _ => ∃ (r : Addr) (ch : List (Rule × Addr)), vs = [.ref r] ∧ RulesAt H r ch ∧ ∀ H', Same H H' → Q (.int (gapSum (ch.map (·.1)))) H'
theorem ok_total {f : Addr} {fd : FuncData} (D : DefAt K mg "total_of" s_total_of ["chain"] f fd) (B : Blt3 mg) : Ok P w K mg base 1 "total_of" ["chain"] spTotal := by
  refine D.ok (D.fn.ok sc_total_of (fun vs H Q E h => ?_) (fun cdv A outer s H vs Q E hr h => ?_))
  · obtain ⟨r, ch, rfl, _⟩ := h
    rfl
  · obtain ⟨r, ch, rfl, hR, q⟩ := h
    have nd := sc_total_of.nd
    have big : sizeLine > 1000000 := by decide
    refine ⟨_, (pss_one (ps_ret (pe_callB (cr_sum rfl) (by rfl) B.sum (by decide +kernel) (pa_cons (pe_lc (own := [("rule", 1)]) (g := gName 1) (tt := tYes) (by rfl) nd (pi_list (pv 0)) (blkOk_by (own := [("rule", 1)]) (N := ["chain", "rule"]) (sc := defScope s_total_of) (by decide +kernel)) (fun _ _ _ _ _ => (pg_name (i := 1) nd rfl (Or.inl rfl))) (fun _ _ _ _ _ => pts_nil) (fun _ _ _ _ _ => (pe_ix (ix_tupK K) (pv 1) pe_int (fun _ _ => rfl)))) pa_nil)))), ?_⟩
    refine ⟨_, rfl, r, rfl, ⟨_, SqL.of hR.at_⟩, fun D hD => ?_⟩
    refine lc_map (walk_list (xs := ch.map fun p => V.ref p.2)) hD (ch.map fun p => V.int p.1.gap) (by rw [List.length_map, List.length_map]) (by rw [List.length_map]; have := hR.len; omega) (fun X sx => SqL.of (sx _ _ hR.at_)) ?_ ?_
    · rintro j z Y Y' hj' R Lk b ⟨rfl, hz'⟩ hRR
      have hj' : j < ch.length := by rwa [List.length_map] at hj'
      rw [List.getElem?_map, List.getElem?_eq_getElem hj'] at hz'
      cases hz'
      have e0 : (ch.map fun p => V.int p.1.gap)[j]'(by rw [List.length_map]; exact hj') = V.int ch[j].1.gap := by rw [List.getElem_map]
      rw [e0] at hRR
      have mz := List.getElem_mem hj'
      generalize ch[j] = z at mz hRR ⊢
      refine ⟨rfl, ?_⟩
      unfold tYes
      dsimp only
      rw [if_pos rfl]
      refine ⟨_, rfl, z.2, _, 2, .int z.1.gap, rfl, rfl, SqT.of (b _ _ (hR.keys z mz)), atI_nat (j := 2) rfl, ?_⟩
      exact hRR _ (Same.refl _)
    intro Hd sd hDd
    refine ⟨D, ch.map fun p => p.1.gap, rfl, SqL.of (by rw [List.map_map]; exact hDd), ?_⟩
    have e : (ch.map fun p => p.1.gap).sum = gapSum (ch.map (·.1)) := by
      unfold gapSum
      rw [List.map_map]
      rfl
    rw [e]
    exact q _ sd
end
end Wnd

/-! is_bind, of lists of rules -/
namespace Wnd
open PySem PySem.Spec PyProof.Rows L2
abbrev s_is_bind : Stmt := top 35
theorem sc_is_bind : FnScope ["task", "thing", "low", "high", "anchors"] ["task", "thing"] (defScope s_is_bind) := ⟨rfl, rfl, rfl, by decide +kernel, rfl, by decide +kernel, by decide +kernel⟩
section
variable {P : Program} {w : World} {K : PySem.W.Frag} {mg : Str → Option Value} {base : Heap}
def endsB (F : List Node) (g : List (Str × Int)) (a b : Node) (z : Int) : Bool := !decide (a = b) && (decide (a ∈ F) && (decide (b ∈ F) && decide (z > valG g b - valG g a)))
/-- whether a list of rules is a bind between firm things -/
def bindB (Ls : List Rule) (F : List Node) (g : List (Str × Int)) (ch : List Rule) : Bool := chainB Ls ch && match ch.head?, ch.getLast? with
  | some a, some b => endsB F g a.low b.high (gapSum ch)
  | _, _ => false
theorem headR {ch : List (Rule × Addr)} (h : ch ≠ []) : ∃ c0, ch[0]? = some c0 ∧ (ch.map (·.1)).head? = some c0.1 := by
  cases ch with
  | nil => exact absurd rfl h
  | cons a r => exact ⟨a, rfl, rfl⟩
theorem lastR {ch : List (Rule × Addr)} (h : ch ≠ []) : ∃ cl init, ch = init ++ [cl] ∧ (ch.map (·.1)).getLast? = some cl.1 := by
  obtain ⟨init, cl, rfl⟩ : ∃ ys b, ch = ys ++ [b] := ⟨ch.dropLast, ch.getLast h, (List.dropLast_concat_getLast h).symm⟩
  exact ⟨cl, init, rfl, by rw [List.map_append]; simp⟩
theorem firm_things {G : Own} {ns : List Str} {u : Node} (h : u ∈ firmN G ns) : u ∈ things ns := by
  rcases List.mem_cons.mp h with rfl | h
  · exact List.mem_cons_self
  · obtain ⟨t, ht, rfl⟩ := List.mem_map.mp h
    exact List.mem_cons_of_mem _ (List.mem_map.mpr ⟨t, (List.mem_filter.mp ht).1, rfl⟩)
theorem eq_ends (a b : Node) : eqV (endV a) (endV b) = decide (a = b) := by
  cases a with
  | none => cases b <;> rfl
  | some s =>
    cases b with
    | none => rfl
    | some t =>
      show (s == t) = decide (some s = some t)
      rw [Bool.eq_iff_iff, beq_iff_eq, decide_eq_true_iff]
      exact ⟨fun z => by rw [z], fun z => Option.some.inj z⟩
theorem flat_ends (F : List Node) : (F.map endV).all flatV = true := by
  rw [List.all_map, List.all_eq_true]
  intro u _
  cases u <;> rfl
theorem in_ends (u : Node) (F : List Node) : inV (endV u) (F.map endV) = decide (u ∈ F) := by
  unfold inV
  rw [Bool.eq_iff_iff, List.any_eq_true, decide_eq_true_iff]
  constructor
  · rintro ⟨y, hy, e⟩
    obtain ⟨v, hv, rfl⟩ := List.mem_map.mp hy
    rw [eq_ends, decide_eq_true_iff] at e
    exact e ▸ hv
  · intro h
    exact ⟨endV u, List.mem_map.mpr ⟨u, h, rfl⟩, by rw [eq_ends, decide_eq_true rfl]⟩
theorem flat_end (u : Node) : flatV (endV u) = true := by cases u <;> rfl
def spIsBind (C CP CT : Addr) : Sp := fun vs H Q _ => ∃ (x c : Addr) (ns : List Str) (L ch : List (Rule × Addr)) (g : List (Str × Int)) (r l : Int) (G : Own), vs = [.ref x, .ref c] ∧ TaskAt C CP CT H x ns L g r l G ∧ RulesAt H c ch ∧ ∀ H', Same H H' → Q (.bl (bindB (L.map (·.1)) (firmN G ns) g (ch.map (·.1)))) H'
theorem ok_isBind {C CP CT : Addr} {f : Addr} {fd : FuncData} (D : DefAt K mg "is_bind" s_is_bind ["task", "thing"] f fd) (TS : OkP P w K mg base CT 1 "system" (spTaSys C CP CT)) (O_is_chain : Ok P w K mg base 5 "is_chain" ["system", "thing"] (spIsChain C)) (O_total_of : Ok P w K mg base 1 "total_of" ["chain"] spTotal)
    (OA : OkM P w K mg base CT 2 "anchors" (spAnch C CP CT)) (O_room : Ok P w K mg base 3 "_room" ["task", "low", "high"] (spRoom C CP CT)) : Ok P w K mg base 6 "is_bind" ["task", "thing"] (spIsBind C CP CT) := by
  refine D.ok (D.fn.ok sc_is_bind (fun vs H Q E h => ?_) (fun cdv A outer s H vs Q E hr h => ?_))
  · obtain ⟨x, c, ns, L, ch, g, r, l, G, rfl, _⟩ := h
    rfl
  · obtain ⟨x, r', ns, L, ch, g, r, l, G, rfl, hT, hR, q⟩ := h
    have nd := sc_is_bind.nd
    refine ⟨_, (pss_cons (ps_if (pt_not (pt_val (pe_own O_is_chain (hr.mono (by decide)) (pa_cons (pe_propO TS (hr.mono (by decide)) (pv 0)) (pa_cons (pv 1) pa_nil))))) (pss_one (ps_ret pe_bl)) pss_nil)
      (pss_cons (ps_par (i := 2) (j := 3) rfl nd rfl rfl (by decide) rfl rfl (pa_cons (pe_ix ix_tup (pe_ix ix_list (pv 1) pe_int (fun _ _ => rfl)) pe_int (fun _ _ => rfl)) (pa_cons (pe_ix ix_tup (pe_ix ix_list (pv 1) (pe_un un_neg pe_int) (fun _ _ => rfl)) pe_int (fun _ _ => rfl)) pa_nil)) (by rfl))
      (pss_cons (ps_set (i := 4) nd rfl (Or.inl rfl) (pe_methM0 OA (hr.mono (by decide)) (pv 0) pa_nil))
      (pss_cons (ps_if (PW.pt (pw_or (pt_cmpR op_eq (pv 2) (pv 3) (nomark _)) (pw_or (pt_cmpR op_notIn_seq (pv 2) (pv 4) rfl) (pw_or1 (pt_cmpR op_notIn_seq (pv 3) (pv 4) rfl))))) (pss_one (ps_ret pe_bl)) pss_nil)
      (pss_one (ps_ret (pe_cmpR op_gt (pe_own O_total_of (hr.mono (by decide)) (pa_cons (pv 1) pa_nil)) (pe_own O_room (hr.mono (by decide)) (pa_cons (pv 0) (pa_cons (pv 2) (pa_cons (pv 3) pa_nil)))) (nomark _)))))))), ?_⟩
    obtain ⟨dx, sx, ld, px, hx, tv⟩ := id hT
    refine ⟨_, rfl, x, dx, _, rfl, hx, x, dx, sx, ld, px, rfl, hx, _, rfl, sx, r', ns, L, ch, rfl, tv.sys, hR, fun H1 s1 => ⟨_, rfl, ?_⟩⟩
    cases ec : chainB (L.map (·.1)) (ch.map (·.1)) with
    | false =>
      have : bindB (L.map (·.1)) (firmN G ns) g (ch.map (·.1)) = false := by
        unfold bindB
        rw [ec]
        rfl
      rw [this] at q
      exact iteT (q _ s1)
    | true =>
      refine iteF ?_
      have hne : ch ≠ [] := fun z => by
        rw [z] at ec
        cases ec
      obtain ⟨c0, h0, e0⟩ := headR hne
      obtain ⟨cl, init, el, e1⟩ := lastR hne
      have er : bindB (L.map (·.1)) (firmN G ns) g (ch.map (·.1)) = endsB (firmN G ns) g c0.1.low cl.1.high (gapSum (ch.map (·.1))) := by
        unfold bindB
        rw [ec, e0, e1]
        rfl
      rw [er] at q
      have m0 := List.mem_of_getElem? h0
      have ml : cl ∈ ch := by rw [el]; simp
      have hr1 := s1 _ _ hR.at_
      refine ⟨_, rfl, r', _, 0, .ref c0.2, rfl, rfl, SqL.of hr1, atI_nat (j := 0) (by rw [List.getElem?_map, h0]; rfl), ?_⟩
      refine ⟨c0.2, _, 0, endV c0.1.low, rfl, rfl, SqT.of (s1 _ _ (hR.keys c0 m0)), atI_nat (j := 0) rfl, ?_⟩
      refine ⟨_, rfl, 1, rfl, r', _, -1, .ref cl.2, rfl, rfl, SqL.of hr1, by rw [el, List.map_append]; exact L2.atI_last _ _, ?_⟩
      refine ⟨cl.2, _, 1, endV cl.1.high, rfl, rfl, SqT.of (s1 _ _ (hR.keys cl ml)), atI_nat (j := 1) rfl, ?_⟩
      refine ⟨_, _, rfl, ?_⟩
      generalize c0.1.low = u at q
      generalize cl.1.high = v at q
      refine ⟨_, rfl, x, dx, _, rfl, s1 _ _ hx, taF_no (by decide) (by decide) (by decide), x, ns, L, g, r, l, G, rfl, hT.same s1, fun a H2 s2 na ha => ?_⟩
      have s12 := s1.trans s2
      unfold endsB at q
      refine ⟨_, rfl, _, rfl, scal_ends u v, _, rfl, ?_⟩
      rw [ends_dec]
      cases eu : decide (u = v) with
      | true =>
        rw [eu] at q
        exact iteT (iteT (q _ s12))
      | false =>
        rw [eu, Bool.not_false, Bool.true_and] at q
        refine iteF ?_
        refine ⟨_, rfl, _, rfl, a, _, rfl, .inl (SqL.of ha), flat_end u, flat_ends _, _, rfl, ?_⟩
        rw [if_pos rfl, in_ends]
        cases mu : decide (u ∈ firmN G ns) with
        | false =>
          rw [mu, Bool.false_and] at q
          exact iteT (q _ s12)
        | true =>
          rw [mu, Bool.true_and] at q
          refine iteF ?_
          refine ⟨_, rfl, _, rfl, a, _, rfl, .inl (SqL.of ha), flat_end v, flat_ends _, _, rfl, ?_⟩
          rw [if_pos rfl, in_ends]
          cases mv : decide (v ∈ firmN G ns) with
          | false =>
            rw [mv, Bool.false_and] at q
            exact iteT (q _ s12)
          | true =>
            rw [mv, Bool.true_and] at q
            refine iteF ?_
            refine ⟨_, rfl, r', ch, rfl, hR.same s12, fun H3 s3 => ?_⟩
            refine ⟨_, rfl, _, rfl, _, rfl, x, u, v, ns, L, g, r, l, G, rfl, hT.same (s12.trans s3), firm_things (of_decide_eq_true mu), firm_things (of_decide_eq_true mv), fun H4 s4 => ?_⟩
            exact ⟨_, _, rfl, rfl, q _ ((s12.trans s3).trans s4)⟩
end
end Wnd

/-! Windowsteps: dict([(key, value) ..]), the keys tuples of one form. -/
namespace Wnd
open PySem PySem.Spec PyProof.Rows L2
section
variable {κ : Type} [DecidableEq κ]
/-- a pair: its address, the key, the key's own tuple, the value -/
abbrev PrT (κ : Type) := Addr × κ × Addr × V
def PrAt (τ : TK κ) (H : Hp) (x : PrT κ) : Prop := H x.1 = some (.tup [.ref x.2.2.1, x.2.2.2]) ∧ H x.2.2.1 = some (.tup (τ.kv x.2.1))
def putTs {β : Type} (ps L : List (κ × Addr × β)) : List (κ × Addr × β) := ps.foldl (fun L p => ptT L p.1 p.2.1 p.2.2) L
theorem putTs_len {β : Type} : ∀ ps L : List (κ × Addr × β), (putTs ps L).length ≤ L.length + ps.length
  | [], L => Nat.le_refl _
  | p :: r, L => by
    have h1 := putTs_len r (ptT L p.1 p.2.1 p.2.2)
    have h2 := ptT_len (L := L) (k := p.1) (q := p.2.1) (v := p.2.2)
    show (putTs r (ptT L p.1 p.2.1 p.2.2)).length ≤ _
    rw [List.length_cons]
    omega
theorem putTs_nodup {β : Type} : ∀ ps L : List (κ × Addr × β), (L.map (·.1)).Nodup → ((putTs ps L).map (·.1)).Nodup
  | [], _, h => h
  | p :: r, L, h => putTs_nodup r _ (ptT_nodup h)
theorem putTs_keys {τ : TK κ} {H : Hp} : ∀ ps L : List (κ × Addr × V), KeysT τ H ps → KeysT τ H L → KeysT τ H (putTs ps L)
  | [], _, _, h => h
  | p :: r, L, k, h => putTs_keys r _ (fun z hz => k z (List.mem_cons_of_mem _ hz)) (h.put (k p List.mem_cons_self))
theorem tks_puts {τ : TK κ} : ∀ {ps : List (κ × Addr × V)} {xs : List (NestedKey × Addr × Value)} {L : List (κ × Addr × V)} {ys : List (NestedKey × Addr × Value)}, TKs τ ps xs → TKs τ L ys → TKs τ (putTs ps L) (storedAllH ys xs) := by
  intro ps xs L ys r
  induction r generalizing L ys with
  | nil => exact fun h => h
  | @cons p q ps qs h t ih =>
    intro r0
    obtain ⟨h1, h2, h3⟩ := h
    refine ih (L := ptT L p.1 p.2.1 p.2.2) (ys := storedH ys q.1 q.2.1 q.2.2) ?_
    rw [← h1, ← h2]
    exact tks_put r0 p.1 h3
def rDictTd (τ : TK κ) (P : Program) (w : World) (K : PySem.W.Frag) : List V → Hp → VK → Prop := fun vs H Q => ∃ (a : Addr) (L : List (PrT κ)), vs = [.ref a] ∧ SqL K H a (L.map fun x => V.ref x.1) ∧ (∀ x ∈ L, PrAt τ H x) ∧ L.length < 1000000 ∧
  ∀ p, H p = none → Q (.ref p) (upd H p (tdO τ P w p (putTs (L.map (·.2)) [])))
theorem refs_prs : ∀ {L : List (PrT κ)} {us : List Value}, Vals (L.map fun x => V.ref x.1) us → us = L.map fun x => Value.ref x.1
  | [], _, r => by
    cases r
    rfl
  | x :: L, _, r => by
    cases r with
    | cons h t =>
      cases h
      rw [refs_prs t]
      rfl
theorem paired_at {α β : Type} {F : α → β → Prop} : ∀ {l : List α} {m : List β}, Paired F l m → ∀ (i : Nat) (x : α), l[i]? = some x → ∃ y, m[i]? = some y ∧ F x y
  | _, _, .nil, i, x, e => by simp at e
  | _, _, .cons h t, 0, x, e => by
    cases e
    exact ⟨_, rfl, h⟩
  | _, _, .cons h t, i + 1, x, e => paired_at t i x e
section
variable {X : Cx}
theorem cr_dictTd (τ : TK κ) {k : Nat} {P : Program} {w : World} (hr : Room k X.A) (calm : X.calm = true) (hP : X.prog = P := by rfl) (hw : X.w = w := by rfl) : CallR X (.type "dict") (rDictTd τ P w X.K) := by
  subst hP hw
  intro pins s σ H xs us Q I rx h
  obtain ⟨a, L, rfl, hs, hp, sz, q⟩ := h
  obtain ⟨u, rfl, ru⟩ := rx.one
  cases ru
  obtain ⟨its, rel, pl, hz⟩ := I.list hs
  have ei := refs_prs rel
  subst ei
  -- the pairs' values
  obtain ⟨zs, hzs⟩ : ∃ zs : List (Addr × κ × Addr × Value), Paired (fun (x : PrT κ) (z : Addr × κ × Addr × Value) => x.1 = z.1 ∧ x.2.1 = z.2.1 ∧ x.2.2.1 = z.2.2.1 ∧ RelV x.2.2.2 z.2.2.2 ∧ s.heap.IsTuple z.1 #[Value.ref z.2.2.1, z.2.2.2]) L zs := by
    clear rel pl hz hs q sz
    induction L with
    | nil => exact ⟨[], .nil⟩
    | cons x L ih =>
      obtain ⟨zs, r⟩ := ih fun y hy => hp y (List.mem_cons_of_mem _ hy)
      obtain ⟨o, its, n, q1, q2, q3, rel'⟩ := tup_at I.hok (hp x List.mem_cons_self).1
      obtain ⟨v, ea, rv⟩ : ∃ v, its = #[Value.ref x.2.2.1, v] ∧ RelV x.2.2.2 v := by
        cases hl : its.toList with
        | nil => rw [hl] at rel'; cases rel'
        | cons u t =>
          rw [hl] at rel'
          cases rel' with
          | cons r1 t1 =>
            cases r1
            cases t1 with
            | @cons _ v _ _ r2 t2 =>
              cases t2
              exact ⟨v, Array.toList_inj.mp hl, r2⟩
      subst ea
      exact ⟨(x.1, x.2.1, x.2.2.1, v) :: zs, .cons ⟨rfl, rfl, rfl, rv, o, q1, q2, n, q3⟩ r⟩
  have len : L.length = zs.length := Paired.length hzs
  have tk : TKs τ (L.map (·.2)) (zs.map fun z => (τ.kk z.2.1, z.2.2.1, z.2.2.2)) := by
    clear len rel pl hz hs q sz hp
    induction hzs with
    | nil => exact .nil
    | cons h t ih =>
      obtain ⟨h1, h2, h3, h4, h5⟩ := h
      exact .cons ⟨congrArg τ.kk h2, h3, h4⟩ ih
  have e1 : (L.map fun x => Value.ref x.1) = zs.map fun z => Value.ref z.1 := by
    clear len rel pl hz hs q sz hp tk
    induction hzs with
    | nil => rfl
    | cons h t ih =>
      obtain ⟨h1, _⟩ := h
      rw [List.map_cons, List.map_cons, ih, h1]
  have kt : ∀ z ∈ zs, H z.2.2.1 = some (.tup (τ.kv z.2.1)) := by
    clear len rel pl hz hs q sz tk e1
    induction hzs with
    | nil => intro z hz; exact nomatch hz
    | cons h t ih =>
      obtain ⟨h1, h2, h3, h4, h5⟩ := h
      intro z hz
      rcases List.mem_cons.mp hz with rfl | hz
      · rw [← h2, ← h3]
        exact (hp _ List.mem_cons_self).2
      · exact ih (fun y hy => hp y (List.mem_cons_of_mem _ hy)) z hz
  have at_ : ∀ z ∈ zs, s.heap.IsTuple z.1 #[Value.ref z.2.2.1, z.2.2.2] := by
    clear len rel pl hz hs q sz tk e1 kt hp
    induction hzs with
    | nil => intro z hz; exact nomatch hz
    | cons h t ih =>
      obtain ⟨h1, h2, h3, h4, h5⟩ := h
      intro z hz
      rcases List.mem_cons.mp hz with rfl | hz
      · exact h5
      · exact ih z hz
  rw [e1] at pl
  have ok : PlainSeq "list" s.heap a (zs.map fun z => Value.ref z.1).toArray ∧ PairItems s.heap (zs.map fun z => Value.ref z.1).toArray (fun j => (zs.map (·.1)).getD j 0) (zs.map fun z => (Value.ref z.2.2.1, z.2.2.2)) := by
    refine ⟨pl, by simp, fun j k v hj => ?_⟩
    rw [List.getElem?_map] at hj
    cases hx : zs[j]? with
    | none =>
      rw [hx] at hj
      cases hj
    | some z =>
      rw [hx] at hj
      have e := Option.some.inj hj
      have e3 : Value.ref z.2.2.1 = k := congrArg Prod.fst e
      have e4 : z.2.2.2 = v := congrArg Prod.snd e
      subst e3 e4
      have g : (zs.map (·.1)).getD j 0 = z.1 := by
        rw [List.getD_eq_getElem?_getD, List.getElem?_map, hx]
        rfl
      refine ⟨?_, .inl ?_⟩
      · show (zs.map fun z => Value.ref z.1).toArray[j]? = _
        rw [List.getElem?_toArray, List.getElem?_map, hx]
        exact congrArg (fun y => some (Value.ref y)) g.symm
      · show s.heap.IsTuple ((zs.map (·.1)).getD j 0) _
        rw [g]
        exact at_ z (List.mem_of_getElem? hx)
  have PA := PairArg.list (prog := X.prog) (w := X.w) a (zs.map fun z => Value.ref z.1).toArray (fun j => (zs.map (·.1)).getD j 0) (zs.map fun z => (Value.ref z.2.2.1, z.2.2.2))
  refine call_dict_pairsH (knd := nestedKind X.prog X.w) (ps := zs.map fun z => (τ.kk z.2.1, z.2.2.1, z.2.2.2)) PA (I.ok.hd calm) (by have := hr.un; show X.A.units + 1 + 1 + 8 < _; omega) ok ?_ ?_ ?_ ?_
  · refine ⟨by rw [List.length_map, List.length_map], fun i key v hr' => ?_⟩
    have hr2 : (zs.map fun z => (Value.ref z.2.2.1, z.2.2.2))[i]? = some (key, v) := hr'
    rw [List.getElem?_map] at hr2
    cases hx : zs[i]? with
    | none =>
      rw [hx] at hr2
      cases hr2
    | some z =>
      rw [hx] at hr2
      have e := Option.some.inj hr2
      have e3 : Value.ref z.2.2.1 = key := congrArg Prod.fst e
      have e4 : z.2.2.2 = v := congrArg Prod.snd e
      subst e3 e4
      refine ⟨τ.kk z.2.1, z.2.2.1, ?_, rfl⟩
      rw [List.getElem?_map, hx]
      rfl
  · intro h' hk x hx
    obtain ⟨z, hz', rfl⟩ := List.mem_map.mp hx
    have r0 := τ.is I.hok (kt z hz')
    exact (nestedKind_stays (prog := X.prog) (w := X.w)).stays (h := s.heap) (fun b o vs n e d => hk b o (Nat.ne_of_lt (Heap.lt_size e)) (List.not_mem_nil) e) r0
  · rw [List.length_map, sizeLine_eq]
    omega
  · intro h' tk' D kp
    have big : (s.heap.objs.size == sysModules) = false := beq_eq_false_iff_ne.mpr (Nat.ne_of_gt I.big)
    have l2 := putTs_len (L.map (·.2)) ([] : List (κ × Addr × V))
    rw [List.length_map, List.length_nil] at l2
    obtain ⟨o, es, ep, c1, c2, c3, c4, _, _⟩ := D
    have R : TdAt τ X.prog X.w h' s.heap.objs.size (putTs (L.map (·.2)) []) := ⟨big, by rw [sizeLine_eq]; omega, ⟨_, tks_puts tk .nil, o, es, ep, c1, c2, c3, c4⟩, putTs_nodup _ _ List.nodup_nil⟩
    exact ⟨.ref _, _, I.laid (t' := tk') (fun b u e => kp b u (List.not_mem_nil) e) (Nat.le_refl _) (tdO_ok R), rfl, q _ (I.hok.fresh (Nat.le_refl _))⟩
end
end
end Wnd

/-! the law's own table of the greatest totals of all pairs -/
namespace Wnd
open PySem PySem.Spec PyProof.Rows L2
abbrev s_law_far : Stmt := top 59
theorem sc_law_far : FnScope ["_law_nyms_here", "_law_gaps_here", "_law_things", "_law_far_here", "_law_first", "_law_second", "_law_gap", "_law_middle", "_law_way", "_law_thing", "_law_one"] ["_law_nyms_here", "_law_gaps_here"] (defScope s_law_far) := ⟨rfl, rfl, rfl, by decide +kernel, rfl, by decide +kernel, by decide +kernel⟩
section
variable {P : Program} {w : World} {K : PySem.W.Frag} {mg : Str → Option Value} {base : Heap}
abbrev LF := List ((Node × Node) × Addr × Int)
def vF (L : LF) : List ((Node × Node) × Addr × V) := L.map fun p => (p.1, p.2.1, V.int p.2.2)
theorem lk_vF (L : LF) (k : Node × Node) : lk (bare (vF L)) k = (lk (bare L) k).map V.int := by
  rw [← lk_val V.int k (bare L)]
  unfold bare vF
  rw [List.map_map, List.map_map]
  rfl
theorem pt_vF (L : LF) (k : Node × Node) (q : Addr) (x : Int) : ptT (vF L) k q (V.int x) = vF (ptT L k q x) := by
  unfold ptT vF
  have e : ((L.map fun p => (p.1, p.2.1, V.int p.2.2)).any fun p => decide (p.1 = k)) = L.any fun p => decide (p.1 = k) := by
    rw [List.any_map]
    rfl
  rw [e]
  split
  · rw [List.map_map, List.map_map]
    refine List.map_congr_left fun p _ => ?_
    show (if p.1 = k then (p.1, p.2.1, V.int x) else (p.1, p.2.1, V.int p.2.2)) = (fun p : (Node × Node) × Addr × Int => (p.1, p.2.1, V.int p.2.2)) (if p.1 = k then (p.1, p.2.1, x) else p)
    by_cases h : p.1 = k
    · rw [if_pos h, if_pos h]
    · rw [if_neg h, if_neg h]
  · rw [List.map_append]
    rfl
theorem NGet.p {P : Program} {w : World} {H : Hp} {a b : Addr} {L : LF} {k : Node × Node} {o : Option Int} (e : H a = some (tdO pairT P w a (vF L))) (kt : KeysT pairT H (vF L)) (hb : H b = some (.tup (pairV k))) (h : lk (bare L) k = o) : NGet P w H a (.ref b) (o.map V.int) := by
  rw [← h, ← lk_vF]
  exact NGet.t e kt hb
theorem NPut.p {P : Program} {w : World} {H : Hp} {a b : Addr} {L : LF} {k : Node × Node} {x : Int} (e : H a = some (tdO pairT P w a (vF L))) (kt : KeysT pairT H (vF L)) (hb : H b = some (.tup (pairV k))) (hl : L.length < sizeLine) :
    NPut P w H a (.ref b) (.int x) (L2.upd H a (tdO pairT P w a (vF (ptT L k b x)))) := by
  rw [← pt_vF]
  exact NPut.t e kt hb (by unfold vF; rw [List.length_map]; exact hl)
def KeysIn (ts : List Node) (L : LF) : Prop := (L.map (·.1)).Nodup ∧ ∀ p ∈ L, p.1.1 ∈ ts ∧ p.1.2 ∈ ts
theorem KeysIn.len {ts : List Node} {L : LF} (h : KeysIn ts L) (hz : ts.length ≤ 65) : L.length ≤ 4225 := by
  have h1 := nodup_len (l := L.map (·.1)) (vs := ts.flatMap fun a => ts.map fun b => (a, b)) h.1 fun x hx => by
    obtain ⟨p, hp, rfl⟩ := List.mem_map.mp hx
    exact List.mem_flatMap.mpr ⟨_, (h.2 p hp).1, List.mem_map.mpr ⟨_, (h.2 p hp).2, rfl⟩⟩
  rw [List.length_map, List.length_flatMap] at h1
  have h2 : (ts.map fun a => (ts.map fun b => (a, b)).length).sum = ts.length * ts.length := by
    rw [show (ts.map fun a => (ts.map fun b => (a, b)).length) = ts.map fun _ => ts.length from List.map_congr_left fun _ _ => List.length_map _]
    rw [List.map_const', List.sum_replicate_nat]
  rw [h2] at h1
  exact Nat.le_trans h1 (Nat.mul_le_mul hz hz)
/-- the table stands at d: all it holds are walks' totals -/
structure FI (P : Program) (w : World) (A : List (Arc Node)) (ts : List Node) (d : Addr) (L : LF) (H : Hp) : Prop where
  obj : H d = some (tdO pairT P w d (vF L))
  keys : KeysT pairT H (vF L)
  inn : KeysIn ts L
  snd : SoundF A (bare L)
  diag : ∀ v ∈ ts, ∃ x, lk (bare L) (v, v) = some x ∧ 0 ≤ x
theorem FI.same {A : List (Arc Node)} {ts : List Node} {d : Addr} {L : LF} {H H' : Hp} (f : FI P w A ts d L H) (s : Same H H') : FI P w A ts d L H' := ⟨s _ _ f.obj, f.keys.same fun b xs h => s b _ h, f.inn, f.snd, f.diag⟩
theorem FI.put {A : List (Arc Node)} {ts : List Node} {d q : Addr} {L : LF} {H : Hp} {a b : Node} {v : Int} {n : Nat} (f : FI P w A ts d L H) (hq : H q = some (.tup (pairV (a, b)))) (ha : a ∈ ts) (hb : b ∈ ts) (wk : Wk A a b n v) (le : ∀ y, lk (bare L) (a, b) = some y → y ≤ v) :
    FI P w A ts d (ptT L (a, b) q v) (L2.upd H d (tdO pairT P w d (vF (ptT L (a, b) q v)))) ∧ Grows (bare L) (bare (ptT L (a, b) q v)) ∧ lk (bare (ptT L (a, b) q v)) (a, b) = some v := by
  have e : ∀ k, lk (bare (ptT L (a, b) q v)) k = if k = (a, b) then some v else lk (bare L) k := fun k => by rw [bare_ptT, lk_pt]
  have g : Grows (bare L) (bare (ptT L (a, b) q v)) := fun k x hx => by
    rw [e]
    by_cases h : k = (a, b)
    · rw [if_pos h]
      exact ⟨v, rfl, le x (h ▸ hx)⟩
    · rw [if_neg h]
      exact ⟨x, hx, Int.le_refl _⟩
  refine ⟨⟨upd_same, ?_, ⟨ptT_nodup f.inn.1, fun p hp => ?_⟩, fun x y z hz => ?_, fun u hu => ?_⟩, g, by rw [e, if_pos rfl]⟩
  · have k1 : KeysT pairT H (vF (ptT L (a, b) q v)) := by
      rw [← pt_vF]
      exact f.keys.put hq
    refine fun p hp => ?_
    have h := k1 p hp
    rw [upd_ne (ne_of h f.obj fun z => nomatch z)]
    exact h
  · have hp' : p.1 ∈ (ptT L (a, b) q v).map (·.1) := List.mem_map.mpr ⟨p, hp, rfl⟩
    have h1 : (ptT L (a, b) q v).map (·.1) = (bare (ptT L (a, b) q v)).map (·.1) := by unfold bare; rw [List.map_map]; rfl
    rw [h1, bare_ptT] at hp'
    rcases pt_keys hp' with h | h
    · have h2 : (bare L).map (·.1) = L.map (·.1) := by unfold bare; rw [List.map_map]; rfl
      rw [h2] at h
      obtain ⟨r, hr, e2⟩ := List.mem_map.mp h
      rw [← e2]
      exact f.inn.2 r hr
    · rw [h]
      exact ⟨ha, hb⟩
  · rw [e] at hz
    by_cases h : (x, y) = (a, b)
    · rw [if_pos h] at hz
      cases hz
      cases h
      exact ⟨n, wk⟩
    · rw [if_neg h] at hz
      exact f.snd x y z hz
  · obtain ⟨x, h1, h2⟩ := f.diag u hu
    obtain ⟨y, h3, h4⟩ := g _ _ h1
    exact ⟨y, h3, by omega⟩
/-- no thing lies above itself -/
def ZeroF (F : List ((Node × Node) × Int)) : Prop := ∀ t x, lk F (t, t) = some x → x ≤ 0
theorem ZeroF.back {F F' : List ((Node × Node) × Int)} (z : ZeroF F') (g : Grows F F') : ZeroF F := fun t x h => by
  obtain ⟨y, h1, h2⟩ := g _ _ h
  have := z t y h1
  omega
structure FarOk (A : List (Arc Node)) (ts : List Node) (L : LF) : Prop where
  inn : KeysIn ts L
  snd : SoundF A (bare L)
  diag : ∀ v ∈ ts, ∃ x, lk (bare L) (v, v) = some x ∧ 0 ≤ x
  compl : ZeroF (bare L) → ComplF A (fun i => i ∈ ts) (bare L)
theorem putTs_fresh {κ : Type} [DecidableEq κ] {β : Type} : ∀ ps L : List (κ × Addr × β), ((L ++ ps).map (·.1)).Nodup → putTs ps L = L ++ ps
  | [], L, _ => (List.append_nil L).symm
  | p :: r, L, h => by
    have e : ptT L p.1 p.2.1 p.2.2 = L ++ [p] := by
      unfold ptT
      rw [if_neg]
      intro z
      obtain ⟨y, hy, e⟩ := List.any_eq_true.mp z
      have e := of_decide_eq_true e
      rw [List.map_append, List.map_cons] at h
      exact (List.nodup_append.mp h).2.2 _ (List.mem_map.mpr ⟨y, hy, rfl⟩) _ List.mem_cons_self e
    show putTs r (ptT L p.1 p.2.1 p.2.2) = _
    rw [e, putTs_fresh r (L ++ [p]) (by rw [List.append_assoc]; exact h), List.append_assoc]
    rfl
/-- the first table: each thing lies 0 above itself -/
theorem first_far {A : List (Arc Node)} {ts : List Node} (nn : ts.Nodup) {L : LF} (e : bare L = ts.map fun t => ((t, t), (0 : Int))) : KeysIn ts L ∧ SoundF A (bare L) ∧ ∀ v ∈ ts, ∃ x, lk (bare L) (v, v) = some x ∧ 0 ≤ x := by
  have k1 : L.map (·.1) = ts.map fun t => (t, t) := by
    have : L.map (·.1) = (bare L).map (·.1) := by unfold bare; rw [List.map_map]; rfl
    rw [this, e, List.map_map]
    rfl
  refine ⟨⟨?_, fun p hp => ?_⟩, fun a b x h => ?_, fun v hv => ?_⟩
  · rw [k1]
    exact List.Pairwise.map (fun t => (t, t)) (fun a b hab z => hab (congrArg Prod.fst z)) nn
  · have : p.1 ∈ L.map (·.1) := List.mem_map.mpr ⟨p, hp, rfl⟩
    rw [k1] at this
    obtain ⟨t, ht, e2⟩ := List.mem_map.mp this
    rw [← e2]
    exact ⟨ht, ht⟩
  · rw [e] at h
    have h1 := lk_key h
    rw [List.map_map] at h1
    obtain ⟨t, ht, e2⟩ := List.mem_map.mp h1
    have ea : a = t := (congrArg Prod.fst e2).symm
    have eb : b = t := (congrArg Prod.snd e2).symm
    rw [ea, eb] at h ⊢
    have hx : x = 0 := by
      clear e k1 h1 ht nn e2 ea eb
      induction ts with
      | nil => cases h
      | cons u r ih =>
        rw [List.map_cons, lk_cons] at h
        by_cases c : (u, u) = (t, t)
        · rw [if_pos c] at h
          exact (Option.some.inj h).symm
        · rw [if_neg c] at h
          exact ih h
    subst hx
    exact ⟨0, .zero t⟩
  · rw [e]
    refine ⟨0, ?_, Int.le_refl _⟩
    clear e k1 nn
    induction ts with
    | nil => cases hv
    | cons u r ih =>
      rw [List.map_cons, lk_cons]
      by_cases c : (u, u) = (v, v)
      · rw [if_pos c]
      · rw [if_neg c]
        exact ih ((List.mem_cons.mp hv).resolve_left fun z => c (by rw [z]))
theorem getD_int (o : Option Int) (m : Int) : (o.map V.int).getD (V.int m) = V.int (o.getD m) := by
  cases o <;> rfl
/-- the greater one of a number and of what is there -/
theorem max_of (o : Option Int) (m : Int) : m ≤ (if o.getD m > m then o.getD m else m) ∧ (∀ y, o = some y → y ≤ if o.getD m > m then o.getD m else m) ∧ ((if o.getD m > m then o.getD m else m) = m ∨ o = some (if o.getD m > m then o.getD m else m)) := by
  cases o with
  | none =>
    refine ⟨?_, (fun y h => nomatch h), .inl ?_⟩
    · show m ≤ if m > m then m else m
      split <;> omega
    · show (if m > m then m else m) = m
      split <;> rfl
  | some z =>
    refine ⟨?_, fun y h => ?_, ?_⟩
    · show m ≤ if z > m then z else m
      split <;> omega
    · cases h
      show z ≤ if z > m then z else m
      split <;> omega
    · show (if z > m then z else m) = m ∨ some z = some (if z > m then z else m)
      split
      · exact .inr rfl
      · exact .inl rfl
def spFar (P : Program) (w : World) : Sp := fun vs H Q _ => ∃ (a b : Addr) (ns : List Str) (rs : List (Rule × Addr)), vs = [.ref a, .ref b] ∧ H a = some (.lst (ns.map V.str)) ∧ ns.Nodup ∧ ns.length < 64 ∧ H b = some (.lst (rs.map fun p => V.ref p.2)) ∧ KeyTups H rs ∧ rs.length ≤ 2000 ∧
  (∀ x y g, (x, y, g) ∈ arcsOf rs → x ∈ things ns ∧ y ∈ things ns) ∧
  ∀ d H' L, Same H H' → H d = none → H' d = some (tdO pairT P w d (vF L)) → KeysT pairT H' (vF L) → FarOk (arcsOf rs) (things ns) L → Q (.ref d) H'
theorem ok_far {f : Addr} {fd : FuncData} (D : DefAt K mg "_law_far" s_law_far ["_law_nyms_here", "_law_gaps_here"] f fd) (B : Blt2 mg) : Ok P w K mg base 1 "_law_far" ["_law_nyms_here", "_law_gaps_here"] (spFar P w) := by
  refine D.ok (D.fn.ok sc_law_far (fun vs H Q E h => ?_) (fun cdv A outer s H vs Q E hr h => ?_))
  · obtain ⟨a, b, ns, rs, rfl, _⟩ := h
    rfl
  · obtain ⟨a, b, ns, rs, rfl, hA, nn, h64, hB, hk, hz, hin, q⟩ := h
    have nd := sc_law_far.nd
    have hu9 := hu9_of hr
    have big : sizeLine > 1000000 := by decide
    refine ⟨_, (pss_cons (ps_set (i := 2) nd rfl (Or.inl rfl) (pe_op op_cat (pe_lst (pa_cons pe_non pa_nil)) (pe_callTy call_list_of (by rfl) B.list (by decide +kernel) (pa_cons (pv 0) pa_nil))))
      (pss_cons (ps_set (i := 3) nd rfl (Or.inr rfl) (pe_callTy (cr_dictTd (P := P) (w := w) pairT hr rfl) (by rfl) B.dict (by decide +kernel) (pa_cons (pe_lc (own := [("_law_thing", 9)]) (g := gName 9) (tt := tYes) (by rfl) nd (pi_list (pv 2)) (blkOk_by (own := [("_law_thing", 9)]) (N := ["_law_nyms_here", "_law_gaps_here", "_law_things", "_law_far_here", "_law_first", "_law_second", "_law_gap", "_law_middle", "_law_way", "_law_thing", "_law_one"]) (sc := defScope s_law_far) (by decide +kernel)) (fun _ _ _ _ _ => (pg_name (i := 9) nd rfl (Or.inl rfl))) (fun _ _ _ _ _ => pts_nil) (fun _ _ _ _ _ => (pe_tup (pa_cons (pe_tup (pa_cons (pv 9) (pa_cons (pv 9) pa_nil))) (pa_cons pe_int pa_nil))))) pa_nil)))
      (pss_cons (ps_for PassesOwn.never rfl (pi_list (pv 1)) (pg_tup rfl (pgs_cons (pg_name (i := 4) nd rfl (Or.inl rfl)) (pgs_cons (pg_name (i := 5) nd rfl (Or.inl rfl)) (pgs_cons (pg_name (i := 6) nd rfl (Or.inl rfl)) pgs_nil)))) (pss_one (ps_asg (pe_callB (call_max2 rfl) (by rfl) B.max (by decide +kernel) (pa_cons (pv 6) (pa_cons (pe_nget2 (P := P) (w := w) hu9 (pv 3) (pe_tup (pa_cons (pv 4) (pa_cons (pv 5) pa_nil))) (pv 6) ⟨rfl, rfl, rfl, rfl⟩) pa_nil))) (pg_sub (pv 3) (pe_tup (pa_cons (pv 4) (pa_cons (pv 5) pa_nil))) (set_nd (P := P) (w := w) hu9)))))
      (pss_cons (ps_for PassesOwn.never rfl (pi_list (pv 2)) (pg_name (i := 7) nd rfl (Or.inr rfl)) (pss_one (ps_for PassesOwn.never rfl (pi_list (pe_lc (own := [("_law_one", 10)]) (g := gName 10) (by rfl) nd (pi_list (pv 2)) (blkOk_by (own := [("_law_one", 10)]) (N := ["_law_nyms_here", "_law_gaps_here", "_law_things", "_law_far_here", "_law_first", "_law_second", "_law_gap", "_law_middle", "_law_way", "_law_thing", "_law_one"]) (sc := defScope s_law_far) (by decide +kernel)) (fun _ _ _ _ _ => (pg_name (i := 10) nd rfl (Or.inl rfl))) (fun _ _ _ _ _ => (pts_one (pt_cmpR (op_inNd (P := P) (w := w) hu9) (pe_tup (pa_cons (pv 10) (pa_cons (pv 7) pa_nil))) (pv 3) rfl))) (fun _ _ _ _ _ => (pv 10)))) (pg_name (i := 4) nd rfl (Or.inl rfl)) (pss_one (ps_for PassesOwn.never rfl (pi_list (pe_lc (own := [("_law_one", 10)]) (g := gName 10) (by rfl) nd (pi_list (pv 2)) (blkOk_by (own := [("_law_one", 10)]) (N := ["_law_nyms_here", "_law_gaps_here", "_law_things", "_law_far_here", "_law_first", "_law_second", "_law_gap", "_law_middle", "_law_way", "_law_thing", "_law_one"]) (sc := defScope s_law_far) (by decide +kernel)) (fun _ _ _ _ _ => (pg_name (i := 10) nd rfl (Or.inl rfl))) (fun _ _ _ _ _ => (pts_one (pt_cmpR (op_inNd (P := P) (w := w) hu9) (pe_tup (pa_cons (pv 7) (pa_cons (pv 10) pa_nil))) (pv 3) rfl))) (fun _ _ _ _ _ => (pv 10)))) (pg_name (i := 5) nd rfl (Or.inl rfl)) (pss_cons (ps_set (i := 8) nd rfl (Or.inl rfl) (pe_op op_add (pe_ix (ix_nd (P := P) (w := w) hu9) (pv 3) (pe_tup (pa_cons (pv 4) (pa_cons (pv 7) pa_nil))) (fun _ _ => rfl)) (pe_ix (ix_nd (P := P) (w := w) hu9) (pv 3) (pe_tup (pa_cons (pv 7) (pa_cons (pv 5) pa_nil))) (fun _ _ => rfl))))
      (pss_one (ps_asg (pe_callB (call_max2 rfl) (by rfl) B.max (by decide +kernel) (pa_cons (pv 8) (pa_cons (pe_nget2 (P := P) (w := w) hu9 (pv 3) (pe_tup (pa_cons (pv 4) (pa_cons (pv 5) pa_nil))) (pv 8) ⟨rfl, rfl, rfl, rfl⟩) pa_nil))) (pg_sub (pv 3) (pe_tup (pa_cons (pv 4) (pa_cons (pv 5) pa_nil))) (set_nd (P := P) (w := w) hu9))))))))))
      (pss_one (ps_ret (pv 3))))))), ?_⟩
    -- things
    refine ⟨by show 1 ≤ sizeLine; decide, fun l1 hl1 => ?_⟩
    have s1 := same_new (o := .lst [V.non]) hl1
    have g1 : (upd H l1 (.lst [V.non])) l1 = some (.lst [V.non]) := upd_same
    generalize upd H l1 (.lst [V.non]) = H1 at s1 g1 ⊢
    refine ⟨_, rfl, a, _, rfl, .inl (SqL.of (s1 _ _ hA)), fun l2 hl2 => ?_⟩
    have s2 := s1.trans (same_new (o := .lst (ns.map V.str)) hl2)
    replace g1 := same_new (o := .lst (ns.map V.str)) hl2 _ _ g1
    have g2 : (upd H1 l2 (.lst (ns.map V.str))) l2 = some (.lst (ns.map V.str)) := upd_same
    generalize upd H1 l2 (.lst (ns.map V.str)) = H2 at s2 g1 g2 ⊢
    refine ⟨l1, l2, _, _, rfl, rfl, g1, g2, by rw [List.length_map]; show 1 + ns.length ≤ sizeLine; omega, fun th nth => ?_⟩
    have nth0 := s2.free nth
    have s3 := s2.trans (same_new (o := .lst ([V.non] ++ ns.map V.str)) nth)
    have g3 : (upd H2 th (.lst ([V.non] ++ ns.map V.str))) th = some (.lst ((things ns).map endV)) := by
      rw [upd_same, things_v]
      rfl
    generalize upd H2 th (.lst ([V.non] ++ ns.map V.str)) = H3 at s3 g3 ⊢
    clear s1 g1 hl1 s2 g2 hl2 nth l1 l2 H1 H2
    have tn := things_nodup nn
    have tl : (things ns).length = ns.length + 1 := by unfold things; rw [List.length_cons, List.length_map]
    generalize hts : things ns = ts at g3 tn tl hin q
    -- the first table
    refine ⟨_, rfl, th, rfl, ⟨_, SqL.of g3⟩, fun D hD => ?_⟩
    refine lc_it (walk_list (xs := ts.map endV)) (fun i Hc => ∃ Lp : List (PrT (Node × Node)), Hc D = some (.lst (Lp.map fun x => V.ref x.1)) ∧ Same H3 Hc ∧ (∀ x ∈ Lp, PrAt pairT Hc x) ∧ Lp.map (fun x => (x.2.1, x.2.2.2)) = (ts.take i).map fun t => ((t, t), V.int 0))
      ⟨[], upd_same, same_new hD, (fun _ h => nomatch h), rfl⟩ (fun i Hc _ p => by
        obtain ⟨_, _, s, _⟩ := p
        exact SqL.of (s _ _ g3)) ?_ ?_
    · rintro i x Hc H' hi ⟨Lp, hDc, sc, pa, e⟩ ⟨rfl, hx⟩
      rw [List.length_map] at hi
      rw [List.getElem?_map, List.getElem?_eq_getElem hi] at hx
      cases hx
      refine ⟨rfl, ?_⟩
      unfold tYes
      dsimp only
      rw [if_pos rfl]
      refine ⟨_, rfl, _, rfl, by show 2 ≤ sizeLine; decide, fun t1 n1 => ?_⟩
      have u1 := same_new (o := .tup [endV ts[i], endV ts[i]]) n1
      have h1 : (upd H' t1 (.tup [endV ts[i], endV ts[i]])) t1 = some (.tup (pairV (ts[i], ts[i]))) := upd_same
      generalize upd H' t1 (.tup [endV ts[i], endV ts[i]]) = Ha at u1 h1 ⊢
      refine ⟨by show 2 ≤ sizeLine; decide, fun t2 n2 => ?_⟩
      have u2 := u1.trans (same_new (o := .tup [V.ref t1, V.int 0]) n2)
      replace h1 := same_new (o := .tup [V.ref t1, V.int 0]) n2 _ _ h1
      have h2 : (upd Ha t2 (.tup [V.ref t1, V.int 0])) t2 = some (.tup [V.ref t1, V.int 0]) := upd_same
      generalize upd Ha t2 (.tup [V.ref t1, V.int 0]) = Hb at u2 h1 h2 ⊢
      have hDb := u2 _ _ hDc
      have ll : Lp.length = i := by
        have := congrArg List.length e
        rw [List.length_map, List.length_map, List.length_take] at this
        omega
      refine ⟨_, hDb, by rw [List.length_map]; omega, Lp ++ [(t2, (ts[i], ts[i]), t1, V.int 0)], ?_, ?_, ?_, ?_⟩
      · rw [upd_same, List.map_append]
        rfl
      · intro b' o hb
        rw [upd_ne (ne_of_none hb hD)]
        exact u2 _ _ (sc _ _ hb)
      · intro y hy
        have nD : ∀ {t xs}, Hb t = some (.tup xs) → t ≠ D := fun h => ne_of h hDb fun z => nomatch z
        rcases List.mem_append.mp hy with hy | hy
        · obtain ⟨k1, k2⟩ := pa y hy
          have k1 := u2 _ _ k1
          have k2 := u2 _ _ k2
          exact ⟨by rw [upd_ne (nD k1)]; exact k1, by rw [upd_ne (nD k2)]; exact k2⟩
        · rw [List.mem_singleton.mp hy]
          exact ⟨by show (upd _ D _) t2 = _; rw [upd_ne (nD h2)]; exact h2, by show (upd _ D _) t1 = _; rw [upd_ne (nD h1)]; exact h1⟩
      · rw [List.map_append, e, List.take_add_one, List.getElem?_eq_getElem hi, List.map_append]
        rfl
    rintro Hc ⟨Lp, hDc, sc, pa, e⟩
    rw [List.length_map, List.take_length] at e
    have ll : Lp.length = ts.length := by
      have := congrArg List.length e
      rwa [List.length_map, List.length_map] at this
    refine ⟨D, Lp, rfl, SqL.of hDc, pa, by omega, fun d hd => ?_⟩
    have nd0 : H d = none := s3.free (sc.free hd)
    obtain ⟨L0, hL0⟩ : ∃ L0 : LF, L0 = Lp.map fun x => (x.2.1, x.2.2.1, 0) := ⟨_, rfl⟩
    have eb : bare L0 = ts.map fun t => ((t, t), (0 : Int)) := by
      rw [hL0]
      unfold bare
      rw [List.map_map]
      have := congrArg (List.map fun p : (Node × Node) × V => (p.1, (0 : Int))) e
      rw [List.map_map, List.map_map] at this
      exact this
    have ev : Lp.map (·.2) = vF L0 := by
      rw [hL0]
      unfold vF
      rw [List.map_map]
      refine List.map_congr_left fun x hx => ?_
      have : x.2.2.2 = V.int 0 := by
        have h1 : (x.2.1, x.2.2.2) ∈ Lp.map fun x => (x.2.1, x.2.2.2) := List.mem_map.mpr ⟨x, hx, rfl⟩
        rw [e] at h1
        obtain ⟨t, _, e3⟩ := List.mem_map.mp h1
        exact (congrArg Prod.snd e3).symm
      show x.2 = (x.2.1, x.2.2.1, V.int 0)
      rw [← this]
    obtain ⟨ki, so, di⟩ := first_far (A := arcsOf rs) tn eb
    have ep : putTs (Lp.map (·.2)) [] = vF L0 := by
      rw [ev]
      have := putTs_fresh (vF L0) [] (by
        rw [List.nil_append]
        have : (vF L0).map (·.1) = L0.map (·.1) := by unfold vF; rw [List.map_map]; rfl
        rw [this]
        exact ki.1)
      rw [this, List.nil_append]
    rw [ep]
    have sd : Same H3 (upd Hc d (tdO pairT P w d (vF L0))) := sc.trans (same_new hd)
    have f0 : FI P w (arcsOf rs) ts d L0 (upd Hc d (tdO pairT P w d (vF L0))) := ⟨upd_same, fun p hp => by
      rw [← ev] at hp
      obtain ⟨x, hx, rfl⟩ := List.mem_map.mp hp
      have h := (pa x hx).2
      rw [upd_ne (ne_of_none h hd)]
      exact h, ki, so, di⟩
    generalize upd Hc d (tdO pairT P w d (vF L0)) = H4 at sd f0 ⊢
    have s4 := s3.trans sd
    have g4 := sd _ _ g3
    clear ep ev eb hL0 ki so di hd ll e pa sc hDc hD sd g3 s3 Lp Hc H3 D
    refine ⟨_, rfl, b, rfl, ⟨_, SqL.of (s4 _ _ hB)⟩, ?_⟩
    refine for_it (walk_list (xs := rs.map fun p => V.ref p.2)) (fun i σ Hc => ∃ (L : LF) (o4 o5 o6 o7 o8 o9 o10 : Option V), σ = [some (.ref a), some (.ref b), some (.ref th), some (.ref d), o4, o5, o6, o7, o8, o9, o10] ∧ Same H Hc ∧ Hc th = some (.lst (ts.map endV)) ∧ FI P w (arcsOf rs) ts d L Hc ∧
      ∀ r ∈ (arcsOf rs).take i, ∃ x, lk (bare L) (r.1, r.2.1) = some x ∧ r.2.2 ≤ x) ⟨L0, _, _, _, _, _, _, _, rfl, s4, g4, f0, fun r hr => nomatch (show r ∈ ([] : List (Arc Node)) from hr)⟩ (fun i σ Hc _ p => by
        obtain ⟨_, _, _, _, _, _, _, _, _, s, _⟩ := p
        exact SqL.of (s _ _ hB)) ?_ ?_
    · rintro i x σ Hc H' hi ⟨L, o4, o5, o6, o7, o8, o9, o10, rfl, sc, gc, fi, done⟩ ⟨rfl, hx⟩
      rw [List.length_map] at hi
      rw [List.getElem?_map, List.getElem?_eq_getElem hi] at hx
      cases hx
      have mi : rs[i] ∈ rs := List.getElem_mem hi
      have ma : arcOf rs[i].1 ∈ arcsOf rs := List.mem_map.mpr ⟨_, mi, rfl⟩
      obtain ⟨ilo, ihi⟩ := hin _ _ _ ma
      refine ⟨rs[i].2, _, rfl, SqT.of (sc _ _ (hk _ mi)), rfl, _, _, rfl, _, _, rfl, _, _, rfl, rfl, ?_⟩
      refine ⟨_, rfl, _, rfl, d, rfl, .t fi.obj, _, rfl, _, rfl, by show 2 ≤ sizeLine; decide, fun t1 n1 => ?_⟩
      have u1 := same_new (o := .tup [endV rs[i].1.low, endV rs[i].1.high]) n1
      have h1 : (upd H' t1 (.tup [endV rs[i].1.low, endV rs[i].1.high])) t1 = some (.tup (pairV (rs[i].1.low, rs[i].1.high))) := upd_same
      generalize upd H' t1 (.tup [endV rs[i].1.low, endV rs[i].1.high]) = Ha at u1 h1 ⊢
      have fa := fi.same u1
      refine ⟨_, rfl, _, NGet.p fa.obj fa.keys h1 rfl, rs[i].1.gap, (lk (bare L) (rs[i].1.low, rs[i].1.high)).getD rs[i].1.gap, by rw [getD_int], ?_⟩
      obtain ⟨m1, m2, m3⟩ := max_of (lk (bare L) (rs[i].1.low, rs[i].1.high)) rs[i].1.gap
      generalize (if (lk (bare L) (rs[i].1.low, rs[i].1.high)).getD rs[i].1.gap > rs[i].1.gap then (lk (bare L) (rs[i].1.low, rs[i].1.high)).getD rs[i].1.gap else rs[i].1.gap) = v at m1 m2 m3 ⊢
      refine ⟨_, rfl, _, rfl, _, rfl, by show 2 ≤ sizeLine; decide, fun t2 n2 => ?_⟩
      have u2 := same_new (o := .tup [endV rs[i].1.low, endV rs[i].1.high]) n2
      have h2 : (upd Ha t2 (.tup [endV rs[i].1.low, endV rs[i].1.high])) t2 = some (.tup (pairV (rs[i].1.low, rs[i].1.high))) := upd_same
      generalize upd Ha t2 (.tup [endV rs[i].1.low, endV rs[i].1.high]) = Hb at u2 h2 ⊢
      have fb := fa.same u2
      obtain ⟨n, wk⟩ : ∃ n, Wk (arcsOf rs) rs[i].1.low rs[i].1.high n v := by
        rcases m3 with e | e
        · rw [e]
          exact ⟨1, Wk.arc ma⟩
        · exact fb.snd _ _ _ e
      obtain ⟨f1, f2, f3⟩ := fb.put h2 ilo ihi wk m2
      refine ⟨d, _, rfl, NPut.p fb.obj fb.keys h2 (by have := fb.inn.len (by omega); omega), ?_⟩
      refine ⟨_, _, _, _, _, _, _, _, rfl, ?_, ?_, f1, fun r hr' => ?_⟩
      · intro c o hc
        rw [upd_ne (ne_of_none hc nd0)]
        exact u2 _ _ (u1 _ _ (sc _ _ hc))
      · have g' := u2 _ _ (u1 _ _ gc)
        rw [upd_ne (ne_of g' fb.obj fun z => nomatch z)]
        exact g'
      · rw [take_arcs hi] at hr'
        rcases List.mem_append.mp hr' with hr' | hr'
        · obtain ⟨x, e1, e2⟩ := done r hr'
          obtain ⟨y, e3, e4⟩ := f2 _ _ e1
          exact ⟨y, e3, by omega⟩
        · rw [List.mem_singleton.mp hr']
          exact ⟨v, f3, m1⟩
    rintro σ Hc ⟨L, o4, o5, o6, o7, o8, o9, o10, rfl, sc, gc, fi, done⟩
    rw [List.length_map, show rs.length = (arcsOf rs).length from (len_arcs rs).symm, List.take_length] at done
    clear g4 s4 f0 H4 L0
    have c0 : ComplF (arcsOf rs) (fun t => t ∈ ts.take 0) (bare L) := fun x y is t hi wn => by
      cases is with
      | nil =>
        cases wn with
        | cons m wn =>
          cases wn
          obtain ⟨z, e1, e2⟩ := done _ m
          exact ⟨z, e1, Int.le_trans (Int.le_of_eq (Int.add_zero _)) e2⟩
      | cons u r => exact nomatch (hi u List.mem_cons_self)
    -- the middles
    refine ⟨_, rfl, th, rfl, ⟨_, SqL.of gc⟩, ?_⟩
    refine for_it (walk_list (xs := ts.map endV)) (fun i σ Hc => ∃ (L : LF) (o4 o5 o6 o7 o8 o9 o10 : Option V), σ = [some (.ref a), some (.ref b), some (.ref th), some (.ref d), o4, o5, o6, o7, o8, o9, o10] ∧ Same H Hc ∧ Hc th = some (.lst (ts.map endV)) ∧ FI P w (arcsOf rs) ts d L Hc ∧
      (ZeroF (bare L) → ComplF (arcsOf rs) (fun t => t ∈ ts.take i) (bare L))) ⟨L, _, _, _, _, _, _, _, rfl, sc, gc, fi, fun _ => c0⟩ (fun i σ Hc _ p => by
        obtain ⟨_, _, _, _, _, _, _, _, _, _, g, _⟩ := p
        exact SqL.of g) ?_ ?_
    · clear c0 done fi gc sc o4 o5 o6 o7 o8 o9 o10 L Hc
      rintro i x σ Hc H' hi ⟨L, o4, o5, o6, o7, o8, o9, o10, rfl, sc, gc, fi, cm⟩ ⟨rfl, hx⟩
      rw [List.length_map] at hi
      rw [List.getElem?_map, List.getElem?_eq_getElem hi] at hx
      cases hx
      have hm : ts[i] ∈ ts := List.getElem_mem hi
      have em : ts.take (i + 1) = ts.take i ++ [ts[i]] := by
        rw [List.take_add_one, List.getElem?_eq_getElem hi]
        rfl
      generalize ts[i] = m at hm em ⊢
      -- the first ones
      refine ⟨_, rfl, th, rfl, ⟨_, SqL.of gc⟩, fun D1 hD1 => ?_⟩
      refine lc_acc (walk_list (xs := ts.map endV)) hD1 (fun j => ((ts.take j).filter fun t => (lk (bare L) (t, m)).isSome).map endV) rfl (by rw [List.length_map]; omega) (fun j => by
        rw [List.length_map]
        have := List.length_filter_le (fun t => (lk (bare L) (t, m)).isSome) (ts.take j)
        rw [List.length_take] at this
        omega) (fun X sx => SqL.of (sx _ _ gc)) ?_ ?_
      · rintro j x H2 H3 R Lb hj s2 ⟨rfl, hx⟩ hR hL
        rw [List.length_map] at hj
        rw [List.getElem?_map, List.getElem?_eq_getElem hj] at hx
        cases hx
        have ft : ((ts.take (j + 1)).filter fun t => (lk (bare L) (t, m)).isSome).map endV = ((ts.take j).filter fun t => (lk (bare L) (t, m)).isSome).map endV ++ ([ts[j]].filter fun t => (lk (bare L) (t, m)).isSome).map endV := by
          rw [List.take_add_one, List.getElem?_eq_getElem hj, List.filter_append, List.map_append]
          rfl
        have f2 := fi.same s2
        generalize ts[j] = y at ft ⊢
        refine ⟨rfl, _, rfl, _, rfl, by show 2 ≤ sizeLine; decide, fun t1 n1 => ?_⟩
        have u1 := same_new (o := .tup [endV y, endV m]) n1
        have h1 : (upd H3 t1 (.tup [endV y, endV m])) t1 = some (.tup (pairV (y, m))) := upd_same
        generalize upd H3 t1 (.tup [endV y, endV m]) = Ha at u1 h1 ⊢
        have fa := f2.same u1
        refine ⟨_, rfl, d, _, rfl, NGet.p fa.obj fa.keys h1 rfl, _, rfl, ?_⟩
        rw [Option.isSome_map]
        cases e : (lk (bare L) (y, m)).isSome with
        | false =>
          refine iteF (hL _ ?_ u1)
          rw [ft, List.filter_cons, e]
          simp
        | true =>
          refine iteT ⟨_, rfl, hR _ _ ?_ u1⟩
          rw [ft, List.filter_cons, e]
          simp
      intro H2 s2 hD2
      rw [List.length_map, List.take_length] at hD2
      obtain ⟨fs, hfs⟩ : ∃ fs, ts.filter (fun t => (lk (bare L) (t, m)).isSome) = fs := ⟨_, rfl⟩
      have memF : ∀ t, t ∈ fs ↔ t ∈ ts ∧ (lk (bare L) (t, m)).isSome = true := fun t => by rw [← hfs, List.mem_filter]
      rw [hfs] at hD2
      have lenF : fs.length ≤ 65 := by
        have := List.length_filter_le (fun t => (lk (bare L) (t, m)).isSome) ts
        rw [hfs] at this
        omega
      clear hfs
      have s2' := sc.trans s2
      have g2 := s2 _ _ gc
      have f2 := fi.same s2
      have nD1 : H D1 = none := sc.free hD1
      refine ⟨D1, rfl, ⟨_, SqL.of hD2⟩, ?_⟩
      refine for_it (walk_list (xs := fs.map endV)) (fun j σ He => ∃ (L' : LF) (o4 o5 o6 o8 o9 o10 : Option V), σ = [some (.ref a), some (.ref b), some (.ref th), some (.ref d), o4, o5, o6, some (endV m), o8, o9, o10] ∧ Same H He ∧ He th = some (.lst (ts.map endV)) ∧ He D1 = some (.lst (fs.map endV)) ∧
        FI P w (arcsOf rs) ts d L' He ∧ Grows (bare L) (bare L') ∧ ∀ u ∈ fs.take j, ∀ v x y, lk (bare L) (u, m) = some x → lk (bare L) (m, v) = some y → ∃ z, lk (bare L') (u, v) = some z ∧ x + y ≤ z)
        ⟨L, _, _, _, _, _, _, rfl, s2', g2, hD2, f2, Grows.refl _, fun u hu => nomatch (show u ∈ ([] : List Node) from hu)⟩ (fun j σ He _ p => by
          obtain ⟨_, _, _, _, _, _, _, _, _, _, g, _⟩ := p
          exact SqL.of g) ?_ ?_
      · clear s2 hD2 s2' g2 f2 gc sc fi hD1 H2 H'
        rintro j x σ He H' hj ⟨L', o4, o5, o6, o8, o9, o10, rfl, sc, gc, gD, fi, gr, done⟩ ⟨rfl, hx⟩
        rw [List.length_map] at hj
        rw [List.getElem?_map, List.getElem?_eq_getElem hj] at hx
        cases hx
        have ej : fs.take (j + 1) = fs.take j ++ [fs[j]] := by
          rw [List.take_add_one, List.getElem?_eq_getElem hj]
          rfl
        obtain ⟨hu, hum⟩ := (memF _).mp (List.getElem_mem hj)
        generalize fs[j] = u at ej hu hum ⊢
        -- the second ones
        refine ⟨_, rfl, th, rfl, ⟨_, SqL.of gc⟩, fun D2 hD2 => ?_⟩
        refine lc_acc (walk_list (xs := ts.map endV)) hD2 (fun j => ((ts.take j).filter fun t => (lk (bare L') (m, t)).isSome).map endV) rfl (by rw [List.length_map]; omega) (fun j => by
          rw [List.length_map]
          have := List.length_filter_le (fun t => (lk (bare L') (m, t)).isSome) (ts.take j)
          rw [List.length_take] at this
          omega) (fun X sx => SqL.of (sx _ _ gc)) ?_ ?_
        · rintro l x H2 H3 R Lb hl s2 ⟨rfl, hx⟩ hR hL
          rw [List.length_map] at hl
          rw [List.getElem?_map, List.getElem?_eq_getElem hl] at hx
          cases hx
          have ft : ((ts.take (l + 1)).filter fun t => (lk (bare L') (m, t)).isSome).map endV = ((ts.take l).filter fun t => (lk (bare L') (m, t)).isSome).map endV ++ ([ts[l]].filter fun t => (lk (bare L') (m, t)).isSome).map endV := by
            rw [List.take_add_one, List.getElem?_eq_getElem hl, List.filter_append, List.map_append]
            rfl
          have f2 := fi.same s2
          generalize ts[l] = y at ft ⊢
          refine ⟨rfl, _, rfl, _, rfl, by show 2 ≤ sizeLine; decide, fun t1 n1 => ?_⟩
          have u1 := same_new (o := .tup [endV m, endV y]) n1
          have h1 : (upd H3 t1 (.tup [endV m, endV y])) t1 = some (.tup (pairV (m, y))) := upd_same
          generalize upd H3 t1 (.tup [endV m, endV y]) = Ha at u1 h1 ⊢
          have fa := f2.same u1
          refine ⟨_, rfl, d, _, rfl, NGet.p fa.obj fa.keys h1 rfl, _, rfl, ?_⟩
          rw [Option.isSome_map]
          cases e : (lk (bare L') (m, y)).isSome with
          | false =>
            refine iteF (hL _ ?_ u1)
            rw [ft, List.filter_cons, e]
            simp
          | true =>
            refine iteT ⟨_, rfl, hR _ _ ?_ u1⟩
            rw [ft, List.filter_cons, e]
            simp
        intro H2 s2 gS
        rw [List.length_map, List.take_length] at gS
        obtain ⟨ss, hss⟩ : ∃ ss, ts.filter (fun t => (lk (bare L') (m, t)).isSome) = ss := ⟨_, rfl⟩
        have memS : ∀ t, t ∈ ss ↔ t ∈ ts ∧ (lk (bare L') (m, t)).isSome = true := fun t => by rw [← hss, List.mem_filter]
        rw [hss] at gS
        have lenS : ss.length ≤ 65 := by
          have := List.length_filter_le (fun t => (lk (bare L') (m, t)).isSome) ts
          rw [hss] at this
          omega
        clear hss
        have nD2 : H D2 = none := sc.free hD2
        refine ⟨D2, rfl, ⟨_, SqL.of gS⟩, ?_⟩
        refine for_it (walk_list (xs := ss.map endV)) (fun l σ Hg => ∃ (L2 : LF) (o5 o6 o8 o9 o10 : Option V), σ = [some (.ref a), some (.ref b), some (.ref th), some (.ref d), some (endV u), o5, o6, some (endV m), o8, o9, o10] ∧ Same H Hg ∧ Hg th = some (.lst (ts.map endV)) ∧ Hg D1 = some (.lst (fs.map endV)) ∧ Hg D2 = some (.lst (ss.map endV)) ∧
          FI P w (arcsOf rs) ts d L2 Hg ∧ Grows (bare L') (bare L2) ∧ ∀ v ∈ ss.take l, ∀ x y, lk (bare L) (u, m) = some x → lk (bare L) (m, v) = some y → ∃ z, lk (bare L2) (u, v) = some z ∧ x + y ≤ z)
          ⟨L', _, _, _, _, _, rfl, sc.trans s2, s2 _ _ gc, s2 _ _ gD, gS, fi.same s2, Grows.refl _, fun v hv => nomatch (show v ∈ ([] : List Node) from hv)⟩ (fun l σ Hg _ p => by
            obtain ⟨_, _, _, _, _, _, _, _, _, _, g, _⟩ := p
            exact SqL.of g) ?_ ?_
        · rintro l x σ Hg H3 hl ⟨L2, o5, o6, o8, o9, o10, rfl, sg, gg, gD', gS', fg, g2, dn⟩ ⟨rfl, hx⟩
          rw [List.length_map] at hl
          rw [List.getElem?_map, List.getElem?_eq_getElem hl] at hx
          cases hx
          have el : ss.take (l + 1) = ss.take l ++ [ss[l]] := by
            rw [List.take_add_one, List.getElem?_eq_getElem hl]
            rfl
          obtain ⟨hv, hmv⟩ := (memS _).mp (List.getElem_mem hl)
          generalize ss[l] = v at el hv hmv ⊢
          obtain ⟨x0, hx0⟩ := Option.isSome_iff_exists.mp hum
          obtain ⟨x1, hx1, le1⟩ := gr _ _ hx0
          obtain ⟨x2, hx2, le2⟩ := g2 _ _ hx1
          obtain ⟨y1, hy1⟩ := Option.isSome_iff_exists.mp hmv
          obtain ⟨y2, hy2, le3⟩ := g2 _ _ hy1
          -- way
          refine ⟨_, rfl, _, rfl, _, rfl, by show 2 ≤ sizeLine; decide, fun t1 n1 => ?_⟩
          have u1 := same_new (o := .tup [endV u, endV m]) n1
          have h1 : (upd H3 t1 (.tup [endV u, endV m])) t1 = some (.tup (pairV (u, m))) := upd_same
          generalize upd H3 t1 (.tup [endV u, endV m]) = Ha at u1 h1 ⊢
          have fa := fg.same u1
          refine ⟨d, _, rfl, NGet.p fa.obj fa.keys h1 hx2, ?_⟩
          refine ⟨_, rfl, _, rfl, _, rfl, by show 2 ≤ sizeLine; decide, fun t2 n2 => ?_⟩
          have u2 := u1.trans (same_new (o := .tup [endV m, endV v]) n2)
          have h2 : (upd Ha t2 (.tup [endV m, endV v])) t2 = some (.tup (pairV (m, v))) := upd_same
          generalize upd Ha t2 (.tup [endV m, endV v]) = Hb at u2 h2 ⊢
          have fb := fg.same u2
          refine ⟨d, _, rfl, NGet.p fb.obj fb.keys h2 hy2, _, _, rfl, rfl, ?_⟩
          -- far[first, second] = max(way, ..)
          refine ⟨_, rfl, _, rfl, d, rfl, .t fb.obj, _, rfl, _, rfl, by show 2 ≤ sizeLine; decide, fun t3 n3 => ?_⟩
          have u3 := u2.trans (same_new (o := .tup [endV u, endV v]) n3)
          have h3 : (upd Hb t3 (.tup [endV u, endV v])) t3 = some (.tup (pairV (u, v))) := upd_same
          generalize upd Hb t3 (.tup [endV u, endV v]) = Hd at u3 h3 ⊢
          have fd' := fg.same u3
          refine ⟨_, rfl, _, NGet.p fd'.obj fd'.keys h3 rfl, x2 + y2, (lk (bare L2) (u, v)).getD (x2 + y2), by rw [getD_int], ?_⟩
          obtain ⟨m1, m2, m3⟩ := max_of (lk (bare L2) (u, v)) (x2 + y2)
          generalize (if (lk (bare L2) (u, v)).getD (x2 + y2) > x2 + y2 then (lk (bare L2) (u, v)).getD (x2 + y2) else x2 + y2) = z at m1 m2 m3 ⊢
          refine ⟨_, rfl, _, rfl, _, rfl, by show 2 ≤ sizeLine; decide, fun t4 n4 => ?_⟩
          have u4 := u3.trans (same_new (o := .tup [endV u, endV v]) n4)
          have h4 : (upd Hd t4 (.tup [endV u, endV v])) t4 = some (.tup (pairV (u, v))) := upd_same
          generalize upd Hd t4 (.tup [endV u, endV v]) = Hf at u4 h4 ⊢
          have ff := fg.same u4
          obtain ⟨n, wk⟩ : ∃ n, Wk (arcsOf rs) u v n z := by
            rcases m3 with e | e
            · rw [e]
              obtain ⟨n1', w1⟩ := ff.snd _ _ _ hx2
              obtain ⟨n2', w2⟩ := ff.snd _ _ _ hy2
              exact ⟨_, w1.trans w2⟩
            · exact ff.snd _ _ _ e
          obtain ⟨f1, f2, f3⟩ := ff.put h4 hu hv wk m2
          refine ⟨d, _, rfl, NPut.p ff.obj ff.keys h4 (by have := ff.inn.len (by omega); omega), ?_⟩
          have keep : ∀ {t : Addr} {xs : List V}, H3 t = some (.lst xs) → (upd Hf d (tdO pairT P w d (vF (ptT L2 (u, v) t4 z)))) t = some (.lst xs) := fun h => by
            have g' := u4 _ _ h
            rw [upd_ne (ne_of g' ff.obj fun z => nomatch z)]
            exact g'
          refine ⟨_, _, _, _, _, _, rfl, ?_, keep gg, keep gD', keep gS', f1, g2.trans f2, fun r hr' x y hxu hmy => ?_⟩
          · intro c o hc
            rw [upd_ne (ne_of_none hc nd0)]
            exact u4 _ _ (sg _ _ hc)
          · rw [el] at hr'
            rcases List.mem_append.mp hr' with hr' | hr'
            · obtain ⟨z', e1, e2⟩ := dn r hr' x y hxu hmy
              obtain ⟨z2, e3, e4⟩ := f2 _ _ e1
              exact ⟨z2, e3, by omega⟩
            · rw [List.mem_singleton.mp hr'] at hmy ⊢
              rw [hx0] at hxu
              cases hxu
              obtain ⟨y0, e1, e2⟩ := gr _ _ hmy
              rw [hy1] at e1
              cases e1
              exact ⟨z, f3, by omega⟩
        · rintro σ Hg ⟨L2, o5, o6, o8, o9, o10, rfl, sg, gg, gD', gS', fg, g2, dn⟩
          rw [List.length_map, List.take_length] at dn
          refine ⟨L2, _, _, _, _, _, _, rfl, sg, gg, gD', fg, gr.trans g2, fun r hr' v x y hxu hmy => ?_⟩
          rw [ej] at hr'
          rcases List.mem_append.mp hr' with hr' | hr'
          · obtain ⟨z', e1, e2⟩ := done r hr' v x y hxu hmy
            obtain ⟨z2, e3, e4⟩ := g2 _ _ e1
            exact ⟨z2, e3, by omega⟩
          · rw [List.mem_singleton.mp hr'] at hxu ⊢
            obtain ⟨y0, e1, e2⟩ := gr _ _ hmy
            refine dn v ((memS v).mpr ⟨?_, by rw [e1]; rfl⟩) x y hxu hmy
            have hk1 := lk_key e1
            have : (bare L').map (·.1) = L'.map (·.1) := by unfold bare; rw [List.map_map]; rfl
            rw [this] at hk1
            obtain ⟨p, hp, e3⟩ := List.mem_map.mp hk1
            have := (fi.inn.2 p hp).2
            rw [e3] at this
            exact this
      · rintro σ He ⟨L', o4, o5, o6, o8, o9, o10, rfl, sc', gc', gD, fi', gr, done⟩
        rw [List.length_map, List.take_length] at done
        refine ⟨L', _, _, _, _, _, _, _, rfl, sc', gc', fi', fun z => ?_⟩
        have c1 := compl_mid (cm (z.back gr)) (fun x hx => (z.back gr) m x hx) gr (fun u v x y hxu hmy => by
          refine done u ((memF u).mpr ⟨?_, by rw [hxu]; rfl⟩) v x y hxu hmy
          have hk1 := lk_key hxu
          have : (bare L).map (·.1) = L.map (·.1) := by unfold bare; rw [List.map_map]; rfl
          rw [this] at hk1
          obtain ⟨p, hp, e3⟩ := List.mem_map.mp hk1
          have := (fi.inn.2 p hp).1
          rw [e3] at this
          exact this)
        intro x y is t hi' wn
        refine c1 x y is t (fun i' h' => ?_) wn
        have := hi' i' h'
        rw [em] at this
        rcases List.mem_append.mp this with h | h
        · exact .inl h
        · exact .inr (List.mem_singleton.mp h)
    · rintro σ Hc ⟨L, o4, o5, o6, o7, o8, o9, o10, rfl, sc, gc, fi, cm⟩
      rw [List.length_map, List.take_length] at cm
      exact ⟨_, rfl, q d Hc L sc nd0 fi.obj fi.keys ⟨fi.inn, fi.snd, fi.diag, cm⟩⟩
end
end Wnd

/-! greatest totals in a system and in what it was made of -/
namespace Wnd
open PySem PySem.Spec PyProof.Rows L2
section
variable {P : Program} {w : World} {K : PySem.W.Frag} {mg : Str → Option Value} {base : Heap}
theorem Wn.sub {A B : List (Arc Node)} (h : ∀ a ∈ A, a ∈ B) : ∀ {ns : List Node} {t : Int}, Wn A ns t → Wn B ns t
  | _, _, .one a => .one a
  | _, _, .cons m k => .cons (h _ m) (Wn.sub h k)
theorem Wk.sub {A B : List (Arc Node)} (h : ∀ a ∈ A, a ∈ B) {u v : Node} {n : Nat} {t : Int} (k : Wk A u v n t) : Wk B u v n t := by
  rcases k with k | ⟨is, e, k⟩
  · exact .inl k
  · exact .inr ⟨is, e, k.sub h⟩
theorem Most.sub {A B : List (Arc Node)} (h : ∀ a, a ∈ A ↔ a ∈ B) {u v : Node} {o : Option Int} (m : Most A u v o) : Most B u v o := by
  cases o with
  | none => exact fun n t k => m n t (k.sub fun a ha => (h a).mpr ha)
  | some x =>
    obtain ⟨⟨n, k⟩, le⟩ := m
    exact ⟨⟨n, k.sub fun a ha => (h a).mp ha⟩, fun n t k => le n t (k.sub fun a ha => (h a).mpr ha)⟩
theorem NoPos.sub {A B : List (Arc Node)} (h : ∀ a ∈ A, a ∈ B) (np : NoPos B) : NoPos A := fun a n t k => np a n t (k.sub h)
/-- arcs of the rules that a system keeps -/
theorem arcs_canon {rs L : List (Rule × Addr)} (e : L.map (·.1) = canon (rs.map (·.1))) : ∀ a, a ∈ arcsOf rs ↔ a ∈ arcsOf L := fun a => by
  have key : ∀ X : List (Rule × Addr), a ∈ arcsOf X ↔ a ∈ (X.map (·.1)).map arcOf := fun X => by
    unfold arcsOf
    rw [List.map_map]
    rfl
  rw [key, key, e]
  constructor
  · intro h
    obtain ⟨r, hr, e2⟩ := List.mem_map.mp h
    exact List.mem_map.mpr ⟨r, (canon_mem _ r).mpr hr, e2⟩
  · intro h
    obtain ⟨r, hr, e2⟩ := List.mem_map.mp h
    exact List.mem_map.mpr ⟨r, (canon_mem _ r).mp hr, e2⟩
theorem things_perm {a b : List Str} (p : a.Perm b) {e : Node} (h : e ∈ things a) : e ∈ things b := by
  rcases List.mem_cons.mp h with h | h
  · rw [h]
    exact List.mem_cons_self
  · obtain ⟨t, ht, e2⟩ := List.mem_map.mp h
    exact List.mem_cons_of_mem _ (List.mem_map.mpr ⟨t, p.mem_iff.mp ht, e2⟩)
/-- the table holds the greatest totals -/
theorem FarOk.most {rs : List (Rule × Addr)} {ns : List Str} {L : LF} (f : FarOk (arcsOf rs) (things ns) L) (np : NoPos (arcsOf rs)) (hin : ∀ x y g, (x, y, g) ∈ arcsOf rs → x ∈ things ns ∧ y ∈ things ns) {u v : Node} (hu : u ∈ things ns) : Most (arcsOf rs) u v (lk (bare L) (u, v)) := by
  refine most_far hin np f.snd (f.compl fun t x h => ?_) f.diag hu
  obtain ⟨n, k⟩ := f.snd _ _ _ h
  exact np _ _ _ k
theorem getD_opt (o : Option Int) : (o.map V.int).getD V.non = optV o := by
  cases o <;> rfl
theorem Wk.small {A : List (Arc Node)} {G : Int} (hg : ∀ a b g, (a, b, g) ∈ A → -G ≤ g ∧ g ≤ G) {u : Node} : ∀ {n : Nat} {v : Node} {t : Int}, Wk A u v n t → -(G * n) ≤ t ∧ t ≤ G * n
  | 0, v, t, h => by
    rcases h with ⟨_, _, rfl⟩ | ⟨is, e, _⟩
    · simp
    · cases e
  | n + 1, v, t, h => by
    obtain ⟨b, g, s, h1, m, rfl⟩ := h.last
    obtain ⟨k1, k2⟩ := Wk.small hg h1
    obtain ⟨k3, k4⟩ := hg _ _ _ m
    have e : G * ((n + 1 : Nat) : Int) = G * (n : Int) + G := by rw [Int.natCast_add, Int.mul_add]; simp
    rw [e]
    omega
/-- greatest totals are small numbers -/
theorem Most.small {rs : List (Rule × Addr)} {ts : List Str} (hro : ∀ p ∈ rs, RuleOk ts p.1) (l : ts.length < 64) (np : NoPos (arcsOf rs)) {u v : Node} {x : Int} (m : Most (arcsOf rs) u v (some x)) : x.natAbs < 10 ^ 12 := by
  obtain ⟨⟨n, k⟩, le⟩ := m
  have tl : (things ts).length = ts.length + 1 := by unfold things; rw [List.length_cons, List.length_map]
  have hg : ∀ a b g, (a, b, g) ∈ arcsOf rs → -999 ≤ g ∧ g ≤ 999 := fun a b g m => by
    obtain ⟨p, hp, e⟩ := List.mem_map.mp m
    have := hro p hp
    unfold arcOf at e
    cases e
    exact ⟨this.ge, this.le⟩
  by_cases hu : u ∈ things ts
  · obtain ⟨n', t', h1, h2, h3⟩ := np.short (arcs_in hro) hu k
    have h4 := le _ _ h2
    obtain ⟨h5, h6⟩ := Wk.small hg h2
    have : (999 : Int) * (n' : Int) ≤ 999 * 64 := Int.mul_le_mul_of_nonneg_left (by omega) (by decide)
    omega
  · rcases k with ⟨_, _, rfl⟩ | ⟨is, rfl, w⟩
    · decide
    · exfalso
      cases is with
      | nil =>
        cases w with
        | cons m _ => exact hu (arcs_in hro _ _ _ m).1
      | cons i r =>
        cases w with
        | cons m _ => exact hu (arcs_in hro _ _ _ m).1
theorem pen_lst {H : Hp} {p c : Addr} {n : Nat} (h : PenAt H p c n) : ∃ ys, H p = some (.lst ys) := by
  obtain ⟨cs, i, z, _, _, _, hp⟩ := h
  exact ⟨_, hp⟩
theorem Most.small' {rs : List (Rule × Addr)} {ts : List Str} {u v : Node} {o : Option Int} (m : Most (arcsOf rs) u v o) (hro : ∀ p ∈ rs, RuleOk ts p.1) (l : ts.length < 64) (np : NoPos (arcsOf rs)) {x : Int} (e : o = some x) : x.natAbs < 10 ^ 12 := by
  subst e
  exact m.small hro l np
theorem idx_at {α : Type} [BEq α] [LawfulBEq α] : ∀ {l : List α} {k : Nat} (nd : l.Nodup) (hk : k < l.length), l.idxOf l[k] = k
  | x :: l, 0, _, _ => by simp [List.idxOf_cons]
  | x :: l, k + 1, nd, hk => by
    have h2 : k < l.length := by simpa using hk
    have ne : x ≠ l[k] := fun e => (List.nodup_cons.mp nd).1 (e ▸ List.getElem_mem h2)
    have ih := idx_at (List.nodup_cons.mp nd).2 h2
    show (x :: l).idxOf l[k] = k + 1
    rw [List.idxOf_cons, show (x == l[k]) = false from beq_eq_false_iff_ne.mpr ne, ih]
    rfl
theorem cut_mem {xs : List V} {lo hi : Option Int} {y : V} (h : y ∈ cutV xs lo hi) : y ∈ xs := List.mem_of_mem_drop (List.mem_of_mem_take h)
end
end Wnd

/-! tightest gaps of a system -/
namespace Wnd
open PySem PySem.Spec PyProof.Rows L2
abbrev s_check_things : Stmt := top 32
theorem sc_check_things : FnScope ["system", "things", "thing"] ["system", "things"] (defScope s_check_things) := ⟨rfl, rfl, rfl, by decide +kernel, rfl, by decide +kernel, by decide +kernel⟩
section
variable {P : Program} {w : World} {K : PySem.W.Frag} {mg : Str → Option Value} {base : Heap}
def spThingsT (C : Addr) : Sp := fun vs H Q _ => ∃ (x t : Addr) (ns : List Str) (L : List (Rule × Addr)) (us : List Node), vs = [.ref x, .ref t] ∧ SysAt C H x ns L ∧ H t = some (.tup (us.map endV)) ∧ (∀ u ∈ us, u ∈ things ns) ∧ us.length ≤ 100 ∧ ∀ H', Same H H' → Q .non H'
/-- as it is called: the system, then the things -/
def spThings (C : Addr) : Sp := fun vs H Q _ => ∃ (x : Addr) (ns : List Str) (L : List (Rule × Addr)) (us : List Node), vs = V.ref x :: us.map endV ∧ SysAt C H x ns L ∧ (∀ u ∈ us, u ∈ things ns) ∧ us.length ≤ 100 ∧ ∀ H', Same H H' → Q .non H'
theorem ok_things {C : Addr} {qn : Str} {f : Addr} {oc : Value} {od an : Option Addr} {kV dc pm cd ct : Value} {sl : Array (Option Value)} (lk : K.lookup f = some ⟨oc, od, .func (PySem.W.fnOf "_check_things" qn (defArgs s_check_things) (defBody s_check_things) (defScope s_check_things) .none kV dc pm an cd ct), sl⟩)
    (hcd : PySem.W.codeIn K cd qn = true) (B : Blt2 mg) (OS : OkM P w K mg base C 1 "has_setting" (spSetting C))
    (hb : ∀ us rest : List Value, us.length = 1 → bindArgs (PySem.W.fnOf "_check_things" qn (defArgs s_check_things) (defBody s_check_things) (defScope s_check_things) .none kV dc pm an cd ct) ⟨us ++ rest, []⟩ = (newTuple rest >>= fun t => pure ((["system"] : List Str).zip us ++ [(("things" : Str), t)]))) :
    FnR P w K mg base CX0 3 f (spThings C) := by
  have base_ := StX.fn_star (P := P) (w := w) (K := K) (mg := mg) (base := base) (k := 2) (CX := CX0) (ps := ["system"]) (sp := spThingsT C) lk hcd sc_check_things StX.cxUp_none hb (fun A outer s H vs Q E hr h => ?_)
  · refine base_.imp fun vs H Q E h => ?_
    obtain ⟨x, ns, L, us, rfl, hx, hu, hz, q⟩ := h
    have big : sizeLine > 100000 := by decide
    refine ⟨[.ref x], us.map endV, rfl, rfl, by rw [List.length_map]; omega, fun t ht => ?_⟩
    have s := same_new (o := .tup (us.map endV)) ht
    exact ⟨x, t, ns, L, us, rfl, hx.same s, upd_same, hu, hz, fun H' s' => q H' (s.trans s')⟩
  · obtain ⟨x, t, ns, L, us, rfl, hx, ht, hu, hz, q⟩ := h
    have nd := sc_check_things.nd
    have big : sizeLine > 100000 := by decide
    refine ⟨_, (pss_one (ps_if (pt_not (pt_val (pe_callB (cr_all rfl) (by rfl) B.all (by decide +kernel) (pa_cons (pe_lc (own := [("thing", 2)]) (g := gName 2) (tt := tYes) (by rfl) nd (pi_tup (pv 1)) (blkOk_by (own := [("thing", 2)]) (N := ["system", "things", "thing"]) (sc := defScope s_check_things) (by decide +kernel)) (fun _ _ _ _ _ => (pg_name (i := 2) nd rfl (Or.inl rfl))) (fun _ _ _ _ _ => pts_nil) (fun _ _ _ _ _ => (pe_or (pe_cmpR op_isN (pv 2) pe_non (nomark _)) (pe_one (pe_methM OS (hr.mono (by decide)) (pv 0) (pa_cons (pv 2) pa_nil)))))) pa_nil)))) (pss_one ps_never) pss_nil)), ?_⟩
    refine ⟨_, rfl, t, rfl, ⟨_, SqT.of ht⟩, fun D hD => ?_⟩
    refine lc_map (walk_tup (xs := us.map endV)) hD (us.map fun _ => V.bl true) (by rw [List.length_map, List.length_map]) (by rw [List.length_map]; omega) (fun X sx => SqT.of (sx _ _ ht)) ?_ ?_
    · rintro i y H2 H' hi R Lk s1 ⟨rfl, hy⟩ hR
      have hR := hR _ (Same.refl _)
      have hi' : i < us.length := by rwa [List.length_map] at hi
      rw [List.getElem?_map, List.getElem?_eq_getElem hi'] at hy
      cases hy
      have e0 : (us.map fun _ => V.bl true)[i]'(by rw [List.length_map]; exact hi') = V.bl true := by rw [List.getElem_map]
      have hm := hu _ (List.getElem_mem hi')
      generalize us[i] = y at hm
      refine ⟨rfl, ?_⟩
      unfold tYes
      dsimp only
      rw [if_pos rfl]
      cases y with
      | none =>
        refine ⟨_, rfl, rfl, _, rfl, ?_⟩
        rw [e0] at hR
        exact hR
      | some z =>
        refine ⟨_, rfl, rfl, _, rfl, ?_⟩
        have hx' := hx.same s1
        have hF : ∃ dx ln lr, H' x = some (.ins C dx (sysF ln lr)) := by
          obtain ⟨dx, ln, lr, h1, _⟩ := hx'
          exact ⟨dx, ln, lr, h1⟩
        obtain ⟨dx, ln, lr, h1⟩ := hF
        have hin : z ∈ ns := by
          rcases List.mem_cons.mp hm with e | e
          · cases e
          · obtain ⟨y, hy, e⟩ := List.mem_map.mp e
            cases e
            exact hy
        refine ⟨_, rfl, x, dx, sysF ln lr, rfl, h1, sysF_no (by decide) (by decide), ?_⟩
        refine ⟨_, rfl, x, ns, L, z, rfl, hx', ?_⟩
        rw [decide_eq_true hin]
        rw [e0] at hR
        exact hR
    · intro H2 s2 h2
      refine ⟨D, us.map fun _ => true, rfl, SqL.of (by rw [List.map_map]; exact h2), _, rfl, ?_⟩
      rw [show (us.map fun _ => true).all id = true from by rw [List.all_map]; exact List.all_eq_true.mpr fun _ _ => rfl]
      exact iteF (q _ s2)
def spTight (C : Addr) : Sp := fun vs H Q _ => ∃ (x : Addr) (ns : List Str) (L : List (Rule × Addr)) (u v : Node), vs = [.ref x, endV u, endV v] ∧ SysAt C H x ns L ∧ L.length ≤ 2000 ∧ NoPos (arcsOf L) ∧ u ∈ things ns ∧ v ∈ things ns ∧
  ∀ o H', Same H H' → Most (arcsOf L) u v o → Q (optV o) H'
end
end Wnd

/-! chains -/
namespace Wnd
open PySem PySem.Spec PyProof.Rows L2
abbrev s_way_to : Stmt := top 5
theorem sc_way_to : FnScope ["arcs", "last", "end", "way"] ["arcs", "last", "end"] (defScope s_way_to) := ⟨rfl, rfl, rfl, by decide +kernel, rfl, by decide +kernel, by decide +kernel⟩
abbrev s_chain : Stmt := top 30
theorem sc_chain : FnScope ["system", "low", "high", "rules", "totals", "last", "at"] ["system", "low", "high"] (defScope s_chain) := ⟨rfl, rfl, rfl, by decide +kernel, rfl, by decide +kernel, by decide +kernel⟩
section
variable {ν : Type} [DecidableEq ν]
theorem Way.unique {A : List (Arc ν)} {L : List (ν × Nat)} {u v : ν} {ps qs : List Nat} (w : Way A L u v ps) (w' : Way A L u v qs) : ps = qs := by
  induction w generalizing qs with
  | base h =>
    cases w' with
    | base _ => rfl
    | step h1 _ _ => rw [h] at h1; cases h1
  | @step v b g i ps h1 h2 w ih =>
    cases w' with
    | base h => rw [h] at h1; cases h1
    | @step _ b' g' i' qs' h1' h2' w'' =>
      rw [h1] at h1'
      cases h1'
      rw [h2] at h2'
      cases h2'
      rw [ih w'']
theorem Way.short {A : List (Arc ν)} {L : List (ν × Nat)} {ns : List ν} (hin : ∀ x y g, (x, y, g) ∈ A → x ∈ ns ∧ y ∈ ns) {u v : ν} {ps : List Nat} (w : Way A L u v ps) : ps.length ≤ ns.length := by
  have key : ∃ vs : List ν, vs.length = ps.length ∧ vs.Nodup ∧ ∀ x ∈ vs, x ∈ ns ∧ ∃ qs, Way A L u x qs ∧ qs.length ≤ ps.length := by
    induction w with
    | base h => exact ⟨[], rfl, List.nodup_nil, fun _ h => nomatch h⟩
    | @step v b g i ps h1 h2 w ih =>
      obtain ⟨vs, e, nd, h⟩ := ih
      refine ⟨v :: vs, by rw [List.length_cons, List.length_append, List.length_singleton, e], List.nodup_cons.mpr ⟨fun hv => ?_, nd⟩, fun x hx => ?_⟩
      · obtain ⟨_, qs, wq, le⟩ := h v hv
        have := (Way.step h1 h2 w).unique wq
        rw [← this, List.length_append, List.length_singleton] at le
        omega
      · rcases List.mem_cons.mp hx with rfl | hx
        · exact ⟨(hin _ _ _ (List.mem_of_getElem? h2)).2, ps ++ [i], .step h1 h2 w, Nat.le_refl _⟩
        · obtain ⟨m, qs, wq, le⟩ := h x hx
          exact ⟨m, qs, wq, by rw [List.length_append, List.length_singleton]; omega⟩
  obtain ⟨vs, e, nd, h⟩ := key
  rw [← e]
  exact nodup_len nd fun x hx => (h x hx).1
/-- arcs that follow one another from u to v -/
def Links : ν → List (Arc ν) → ν → Prop
  | u, [], v => u = v
  | u, a :: r, v => a.1 = u ∧ Links a.2.1 r v
theorem Links.snoc {v b : ν} {g : Int} : ∀ {as : List (Arc ν)} {u : ν}, Links u as b → Links u (as ++ [(b, v, g)]) v
  | [], u, h => ⟨h.symm, rfl⟩
  | a :: r, u, h => ⟨h.1, Links.snoc h.2⟩
end
section
variable {P : Program} {w : World} {K : PySem.W.Frag} {mg : Str → Option Value} {base : Heap}
theorem Way.rules {rs : List (Rule × Addr)} {L : List (Node × Nat)} {u v : Node} {ps : List Nat} (w : Way (arcsOf rs) L u v ps) : ∃ ch : List (Rule × Addr), ch.length = ps.length ∧ (∀ k, k < ps.length → ∃ i p, ps[k]? = some i ∧ rs[i]? = some p ∧ ch[k]? = some p) ∧ (∀ p ∈ ch, p ∈ rs) ∧
    Links u (ch.map fun p => arcOf p.1) v ∧ (ch.map fun p => p.1.gap).sum = gapsAt (arcsOf rs) ps := by
  induction w with
  | base h => exact ⟨[], rfl, fun k hk => absurd hk (Nat.not_lt_zero _), (fun _ h => nomatch h), rfl, rfl⟩
  | @step v b g i ps h1 h2 w ih =>
    obtain ⟨ch, e, ix, m, lk', sm⟩ := ih
    obtain ⟨p, hp, ea⟩ : ∃ p, rs[i]? = some p ∧ arcOf p.1 = (b, v, g) := by
      unfold arcsOf at h2
      rw [List.getElem?_map] at h2
      cases hr : rs[i]? with
      | none => rw [hr] at h2; cases h2
      | some p =>
        rw [hr] at h2
        exact ⟨p, rfl, Option.some.inj h2⟩
    refine ⟨ch ++ [p], by rw [List.length_append, List.length_append, e]; rfl, fun k hk => ?_, fun q hq => ?_, ?_, ?_⟩
    · rw [List.length_append, List.length_singleton] at hk
      by_cases hl : k < ps.length
      · obtain ⟨j, q, a1, a2, a3⟩ := ix k hl
        exact ⟨j, q, by rw [List.getElem?_append_left hl]; exact a1, a2, by rw [List.getElem?_append_left (by omega)]; exact a3⟩
      · have : k = ps.length := by omega
        subst this
        refine ⟨i, p, ?_, hp, ?_⟩
        · rw [List.getElem?_append_right (Nat.le_refl _), Nat.sub_self]
          rfl
        · rw [← e, List.getElem?_append_right (Nat.le_refl _), Nat.sub_self]
          rfl
    · rcases List.mem_append.mp hq with hq | hq
      · exact m q hq
      · rw [List.mem_singleton.mp hq]
        exact List.mem_of_getElem? hp
    · rw [List.map_append, List.map_singleton, ea]
      exact lk'.snoc
    · have eg : gapAt (arcsOf rs) i = g := by
        unfold gapAt
        rw [h2]
      have ep : p.1.gap = g := by
        unfold arcOf at ea
        exact congrArg (fun z => z.2.2) ea
      rw [List.map_append, List.sum_append, sm, gapsAt_snoc, eg]
      show _ + (p.1.gap + 0) = _
      omega
theorem NGet.j {P : Program} {w : World} {H : Hp} {a : Addr} {T : List (Node × Nat)} {k : Node} {o : Option Nat} (e : H a = some (ndO P w a (natsV T))) (h : lk T k = o) : NGet P w H a (endV k) (o.map fun n : Nat => V.int (n : Int)) := by
  rw [← h, ← lk_nats]
  exact NGet.n e
def spWay (P : Program) (w : World) : Sp := fun vs H Q _ => ∃ (a l : Addr) (u v : Node) (rs : List (Rule × Addr)) (L : List (Node × Nat)) (ps : List Nat), vs = [.ref a, .ref l, endV v] ∧ H a = some (.lst (rs.map fun p => V.ref p.2)) ∧ KeyTups H rs ∧ H l = some (ndO P w l (natsV L)) ∧
  Way (arcsOf rs) L u v ps ∧ ps.length ≤ 1000 ∧ ∀ r H', Same H H' → H r = none → H' r = some (.lst (ps.map fun i : Nat => V.int (i : Int))) → Q (.ref r) H'
theorem ok_way {f : Addr} {fd : FuncData} (D : DefAt K mg "way_to" s_way_to ["arcs", "last", "end"] f fd) : Ok P w K mg base 1 "way_to" ["arcs", "last", "end"] (spWay P w) := by
  refine D.ok (D.fn.ok sc_way_to (fun vs H Q E h => ?_) (fun cdv A outer s H vs Q E hr h => ?_))
  · obtain ⟨a, l, u, v, rs, L, ps, rfl, _⟩ := h
    rfl
  · obtain ⟨a, l, u, v, rs, L, ps, rfl, hA, hk, hl, way, hz, q⟩ := h
    have nd := sc_way_to.nd
    have hu9 := hu9_of hr
    have big : sizeLine > 1000000 := by decide
    refine ⟨_, (pss_cons (ps_set (i := 3) nd rfl (Or.inl rfl) (pe_lst pa_nil))
      (pss_cons (ps_while PassesOwn.never (pt_cmpR (op_inNd (P := P) (w := w) hu9) (pv 2) (pv 1) rfl) (pss_cons (ps_expr (pe_bm PySem.F.plainAttrs_list PySem.F.slot_list_append PySem.F.type_list_append mt_append (pv 3) (pa_cons (pe_ix (ix_nd (P := P) (w := w) hu9) (pv 1) (pv 2) (fun _ _ => rfl)) pa_nil)))
      (pss_one (ps_set (i := 2) nd rfl (Or.inl rfl) (pe_ix ix_tup (pe_ix ix_list (pv 0) (pe_ix (ix_nd (P := P) (w := w) hu9) (pv 1) (pv 2) (fun _ _ => rfl)) (fun _ _ => rfl)) pe_int (fun _ _ => rfl))))))
      (pss_one (ps_ret (pe_revL (pv 3)))))), ?_⟩
    refine ⟨by show 0 ≤ sizeLine; decide, fun wy nwy => ?_⟩
    have s1 := same_new (o := .lst []) nwy
    have hw : (upd H wy (.lst [])) wy = some (.lst []) := upd_same
    refine ⟨fun m σ Hc => ∃ (v' : Node) (ps1 js : List Nat), m = ps1.length ∧ σ = [some (.ref a), some (.ref l), some (endV v'), some (.ref wy)] ∧ Way (arcsOf rs) L u v' ps1 ∧ ps1 ++ js = ps ∧ Hc wy = some (.lst (js.reverse.map fun i : Nat => V.int (i : Int))) ∧ Same H Hc,
      ⟨ps.length, v, ps, [], rfl, rfl, way, List.append_nil _, hw, s1⟩, ?_⟩
    clear hw s1 way
    rintro m σ Hc ⟨v', ps1, js, rfl, rfl, way, ep, hw, sc⟩
    cases way with
    | base hn =>
      refine ⟨_, rfl, _, rfl, l, none, rfl, NGet.j (sc _ _ hl) hn, _, rfl, iteF ?_⟩
      refine ⟨_, rfl, wy, _, rfl, SqL.of hw, fun r nr => ?_⟩
      have ej : js = ps := ep
      refine q r _ (sc.trans (same_new nr)) (sc.free nr) ?_
      rw [upd_same, ← ej, List.map_reverse, List.reverse_reverse]
    | @step _ b g i ps2 h1 h2 way =>
      refine ⟨_, rfl, _, rfl, l, some _, rfl, NGet.j (sc _ _ hl) h1, _, rfl, iteT ?_⟩
      obtain ⟨y, hy, ea⟩ : ∃ y, rs[i]? = some y ∧ arcOf y.1 = (b, v', g) := by
        unfold arcsOf at h2
        rw [List.getElem?_map] at h2
        cases hr : rs[i]? with
        | none => rw [hr] at h2; cases h2
        | some p =>
          rw [hr] at h2
          exact ⟨p, rfl, Option.some.inj h2⟩
      have eb : y.1.low = b := by
        unfold arcOf at ea
        exact congrArg (fun z => z.1) ea
      have lj : js.length ≤ ps.length := by
        rw [← ep, List.length_append]
        omega
      refine ⟨fun σ' H' => σ' = [some (.ref a), some (.ref l), some (endV b), some (.ref wy)] ∧ H' wy = some (.lst ((i :: js).reverse.map fun i : Nat => V.int (i : Int))) ∧ Same H H', ?_, ?_⟩
      · rintro σ' H' ⟨rfl, g1, g2⟩
        exact ⟨ps2.length, by rw [List.length_append, List.length_singleton]; omega, b, ps2, i :: js, rfl, rfl, way, by rw [← ep, List.append_assoc]; rfl, g1, g2⟩
      refine ⟨_, rfl, .inl ⟨rfl, _, SqL.of hw⟩, _, rfl, _, rfl, l, _, rfl, NGet.j (sc _ _ hl) h1, ?_⟩
      refine ⟨wy, _, _, rfl, rfl, hw, by rw [List.length_map, List.length_reverse]; omega, ?_⟩
      have s2 : Same H (upd Hc wy (.lst ((js.reverse.map fun i : Nat => V.int (i : Int)) ++ [V.int (i : Int)]))) := fun b o hb => by
        rw [upd_ne (ne_of_none hb nwy)]
        exact sc _ _ hb
      have hw2 : (upd Hc wy (.lst ((js.reverse.map fun i : Nat => V.int (i : Int)) ++ [V.int (i : Int)]))) wy = some (.lst ((i :: js).reverse.map fun i : Nat => V.int (i : Int))) := by
        rw [upd_same, List.reverse_cons, List.map_append]
        rfl
      generalize upd Hc wy (.lst ((js.reverse.map fun i : Nat => V.int (i : Int)) ++ [V.int (i : Int)])) = H2 at s2 hw2 ⊢
      refine ⟨_, rfl, _, rfl, _, rfl, l, _, rfl, NGet.j (s2 _ _ hl) h1, ?_⟩
      refine ⟨a, _, (i : Int), .ref y.2, rfl, rfl, SqL.of (s2 _ _ hA), atI_nat (by rw [List.getElem?_map, hy]; rfl), ?_⟩
      refine ⟨y.2, _, 0, endV b, rfl, rfl, SqT.of (s2 _ _ (hk y (List.mem_of_getElem? hy))), by rw [← eb]; exact atI_nat (j := 0) rfl, ?_⟩
      exact ⟨rfl, hw2, s2⟩
def spChain (C : Addr) : Sp := fun vs H Q _ => ∃ (x : Addr) (ns : List Str) (L : List (Rule × Addr)) (u v : Node), vs = [.ref x, endV u, endV v] ∧ SysAt C H x ns L ∧ L.length ≤ 2000 ∧ NoPos (arcsOf L) ∧ u ∈ things ns ∧ v ∈ things ns ∧
  (∀ H', Same H H' → Most (arcsOf L) u v none → Q .non H') ∧
  ∀ r ch z H', Same H H' → H r = none → H' r = some (.lst (ch.map fun p => V.ref p.2)) → (∀ p ∈ ch, p ∈ L) → Links u (ch.map fun p => arcOf p.1) v → (u = v → ch = []) → ch.length ≤ 1000 → Most (arcsOf L) u v (some z) → (ch.map fun p => p.1.gap).sum = z → Q (.ref r) H'
theorem ok_chain {C : Addr} {f : Addr} {fd : FuncData} (D : DefAt K mg "chain" s_chain ["system", "low", "high"] f fd) (PR : OkP P w K mg base C 1 "rules" (spRulesP C)) (O_check_things : OkV P w K mg base 3 "_check_things" (spThings C)) (O_check_agreement : Ok P w K mg base 5 "check_agreement" ["system"] (spContra C))
    (O_greatest_totals : Ok P w K mg base 2 "greatest_totals" ["arcs", "start"] (spGreat P w)) (O_way_to : Ok P w K mg base 1 "way_to" ["arcs", "last", "end"] (spWay P w)) : Ok P w K mg base 6 "chain" ["system", "low", "high"] (spChain C) := by
  refine D.ok (D.fn.ok sc_chain (fun vs H Q E h => ?_) (fun cdv A outer s H vs Q E hr h => ?_))
  · obtain ⟨x, ns, L, u, v, rfl, _⟩ := h
    rfl
  · obtain ⟨x, ns, L, u, v, rfl, hx, hz, np, hu, hv, qn, qs⟩ := h
    have nd := sc_chain.nd
    have hu9 := hu9_of hr
    refine ⟨_, (pss_cons (ps_expr (pe_ownV O_check_things (hr.mono (by decide)) (pa_cons (pv 0) (pa_cons (pv 1) (pa_cons (pv 2) pa_nil)))))
      (pss_cons (ps_expr (pe_own O_check_agreement (hr.mono (by decide)) (pa_cons (pv 0) pa_nil)))
      (pss_cons (ps_set (i := 3) nd rfl (Or.inr rfl) (pe_propO PR (hr.mono (by decide)) (pv 0)))
      (pss_cons (ps_asg (pe_own O_greatest_totals (hr.mono (by decide)) (pa_cons (pv 3) (pa_cons (pv 1) pa_nil))) (pg_tup rfl (pgs_cons (pg_name (i := 4) nd rfl (Or.inl rfl)) (pgs_cons (pg_name (i := 5) nd rfl (Or.inl rfl)) pgs_nil))))
      (pss_cons (ps_if (pt_cmpR (op_notInNd (P := P) (w := w) hu9) (pv 2) (pv 4) rfl) (pss_one (ps_ret pe_non)) pss_nil)
      (pss_one (ps_ret (pe_lc (own := [("at", 6)]) (g := gName 6) (tt := tYes) (by rfl) nd (pi_list (pe_own O_way_to (hr.mono (by decide)) (pa_cons (pv 3) (pa_cons (pv 5) (pa_cons (pv 2) pa_nil))))) (blkOk_by (own := [("at", 6)]) (N := ["system", "low", "high", "rules", "totals", "last", "at"]) (sc := defScope s_chain) (by decide +kernel)) (fun _ _ _ _ _ => (pg_name (i := 6) nd rfl (Or.inl rfl))) (fun _ _ _ _ _ => pts_nil) (fun _ _ _ _ _ => (pe_ix (ix_listK K) (pv 3) (pv 6) (fun _ _ => rfl))))))))))), ?_⟩
    refine ⟨_, rfl, _, rfl, _, rfl, x, ns, L, [u, v], rfl, hx, fun y hy => ?_, by show 2 ≤ 100; decide, fun H1 s1 => ?_⟩
    · rcases List.mem_cons.mp hy with rfl | hy
      · exact hu
      · rw [List.mem_singleton.mp hy]
        exact hv
    refine ⟨_, rfl, x, ns, L, rfl, hx.same s1, hz, np, fun H2 s2 => ?_⟩
    have s12 := s1.trans s2
    have hx2 := hx.same s12
    obtain ⟨dx, fs, hi⟩ := prop_at hx2
    have hok : SysOk ns L := by
      obtain ⟨_, _, _, _, _, _, _, h⟩ := hx
      exact h
    have hk : KeyTups H2 L := by
      obtain ⟨_, _, _, _, _, _, h, _⟩ := hx2
      exact h
    refine ⟨_, rfl, x, dx, fs, rfl, hi, x, ns, L, rfl, hx2, fun a na => ?_⟩
    have s3 := s12.trans (same_new (o := .lst (L.map fun p => V.ref p.2)) na)
    have hk3 : KeyTups (upd H2 a (.lst (L.map fun p => V.ref p.2))) L := fun p hp => same_new na _ _ (hk p hp)
    have ha : (upd H2 a (.lst (L.map fun p => V.ref p.2))) a = some (.lst (L.map fun p => V.ref p.2)) := upd_same
    generalize upd H2 a (.lst (L.map fun p => V.ref p.2)) = H3 at s3 hk3 ha ⊢
    have tl : (things ns).length = ns.length + 1 := by unfold things; rw [List.length_cons, List.length_map]
    have len := hok.names.2.2
    refine ⟨_, rfl, _, rfl, a, u, L, things ns, rfl, ha, hk3, hz, np, arcs_in hok.rules, hu, by omega, fun t d l H4 T Λ s4 nt nd0 nl ht hd hl sd cl gr pr => ?_⟩
    have m := most_of np sd cl gr v
    have s34 := s3.trans s4
    refine ⟨t, _, rfl, SqT.of ht, rfl, _, _, rfl, _, _, rfl, rfl, ?_⟩
    cases e : lk T v with
    | none =>
      rw [e] at m
      refine ⟨_, rfl, _, rfl, d, none, rfl, NGet.i hd e, _, rfl, iteT ?_⟩
      exact qn _ s34 m
    | some z =>
      rw [e] at m
      refine ⟨_, rfl, _, rfl, d, some _, rfl, NGet.i hd e, _, rfl, iteF ?_⟩
      obtain ⟨ps, way⟩ := pr.way v z e
      have tot := pr.total cl way
      have short := way.short (arcs_in hok.rules)
      have big : sizeLine > 1000000 := by decide
      refine ⟨_, rfl, _, rfl, _, rfl, a, l, u, v, L, Λ, ps, rfl, s4 _ _ ha, (fun p hp => s4 _ _ (hk3 p hp)), hl, way, by omega, fun r H5 s5 nr hr5 => ?_⟩
      obtain ⟨ch, lc, ix, mem, lks, sm⟩ := way.rules
      have s45 := s4.trans s5
      refine ⟨r, rfl, ⟨_, SqL.of hr5⟩, fun D hD => ?_⟩
      refine lc_map (walk_list (xs := ps.map fun i : Nat => V.int (i : Int))) hD (ch.map fun p => V.ref p.2) (by rw [List.length_map, List.length_map, lc]) (by rw [List.length_map]; omega) (fun X sx => SqL.of (sx _ _ hr5)) ?_ ?_
      · rintro k y Y Y' hk' R Lk b ⟨rfl, hy⟩ hR
        have hk' : k < ps.length := by
          have := hk'
          rw [List.length_map] at this
          omega
        obtain ⟨i, p, a1, a2, a3⟩ := ix k hk'
        rw [List.getElem?_map, a1] at hy
        cases hy
        have e0 : (ch.map fun p => V.ref p.2)[k]'(by rw [List.length_map]; omega) = V.ref p.2 := by
          rw [List.getElem_map]
          have := (List.getElem?_eq_some_iff.mp a3).2
          rw [this]
        rw [e0] at hR
        refine ⟨rfl, ?_⟩
        unfold tYes
        dsimp only
        rw [if_pos rfl]
        refine ⟨_, rfl, _, rfl, a, _, (i : Int), .ref p.2, rfl, rfl, SqL.of (b _ _ (s45 _ _ ha)), atI_nat (by rw [List.getElem?_map, a2]; rfl), ?_⟩
        exact hR _ (Same.refl _)
      · intro Hd sd' hDd
        refine qs D ch z Hd ((s34.trans s5).trans sd') ((s34.trans s5).free hD) hDd mem lks (fun euv => ?_) (by omega) m ?_
        · subst euv
          have := way.unique (.base pr.none_)
          subst this
          exact List.eq_nil_of_length_eq_zero lc
        · rw [sm]
          rw [tot] at e
          exact Option.some.inj e
end
end Wnd

/-! bind, of a system that agrees -/
namespace Wnd
open PySem PySem.Spec PyProof.Rows L2
abbrev s_bind : Stmt := top 34
theorem sc_bind : FnScope ["task", "system", "rules", "anchors", "low", "totals", "_", "high"] ["task"] (defScope s_bind) := ⟨rfl, rfl, rfl, by decide +kernel, rfl, by decide +kernel, by decide +kernel⟩
section
variable {P : Program} {w : World} {K : PySem.W.Frag} {mg : Str → Option Value} {base : Heap}
def spBind (C CP CT : Addr) : Sp := fun vs H Q _ => ∃ (x : Addr) (ns : List Str) (L : List (Rule × Addr)) (g : List (Str × Int)) (r l : Int) (G : Own), vs = [.ref x] ∧ TaskAt C CP CT H x ns L g r l G ∧ L.length ≤ 2000 ∧ NoPos (arcsOf L) ∧
  (∀ H', Same H H' → (∀ u ∈ firmN G ns, ∀ v ∈ firmN G ns, ∀ z, Most (arcsOf L) u v (some z) → z ≤ valG g v - valG g u) → Q .non H') ∧
  ∀ (c : Addr) (ch : List (Rule × Addr)) (H' : Hp) (u v : Node) (z : Int), Same H H' → H c = none → H' c = some (.lst (ch.map fun p => V.ref p.2)) → (∀ p ∈ ch, p ∈ L) → Links u (ch.map fun p => arcOf p.1) v → ch.length ≤ 1000 → u ∈ firmN G ns → v ∈ firmN G ns → u ≠ v → Most (arcsOf L) u v (some z) → (ch.map fun p => p.1.gap).sum = z → valG g v - valG g u < z → Q (.ref c) H'
set_option maxHeartbeats 4000000 in
theorem ok_bind {C CP CT : Addr} {f : Addr} {fd : FuncData} (D : DefAt K mg "bind" s_bind ["task"] f fd) (TS : OkP P w K mg base CT 1 "system" (spTaSys C CP CT)) (PR : OkP P w K mg base C 1 "rules" (spRulesP C)) (O_check_agreement : Ok P w K mg base 5 "check_agreement" ["system"] (spContra C))
    (O_greatest_totals : Ok P w K mg base 2 "greatest_totals" ["arcs", "start"] (spGreat P w)) (O_chain : Ok P w K mg base 6 "chain" ["system", "low", "high"] (spChain C)) (OA : OkM P w K mg base CT 2 "anchors" (spAnch C CP CT)) (O_room : Ok P w K mg base 3 "_room" ["task", "low", "high"] (spRoom C CP CT)) : Ok P w K mg base 7 "bind" ["task"] (spBind C CP CT) := by
  refine D.ok (D.fn.ok sc_bind (fun vs H Q E h => ?_) (fun cdv A outer s H vs Q E hr h => ?_))
  · obtain ⟨x, ns, L, g, r, l, G, rfl, _⟩ := h
    rfl
  · obtain ⟨x, ns, L, g, r, l, G, rfl, hT, hz, np, qn, qb⟩ := h
    have nd := sc_bind.nd
    have hu9 := hu9_of hr
    refine ⟨_, (pss_cons (ps_set (i := 1) nd rfl (Or.inl rfl) (pe_propO TS (hr.mono (by decide)) (pv 0)))
      (pss_cons (ps_expr (pe_own O_check_agreement (hr.mono (by decide)) (pa_cons (pv 1) pa_nil)))
      (pss_cons (ps_set (i := 2) nd rfl (Or.inl rfl) (pe_propO PR (hr.mono (by decide)) (pv 1)))
      (pss_cons (ps_set (i := 3) nd rfl (Or.inl rfl) (pe_methM0 OA (hr.mono (by decide)) (pv 0) pa_nil))
      (pss_cons (ps_for PassesOwn.never rfl (pi_list (pv 3)) (pg_name (i := 4) nd rfl (Or.inl rfl)) (pss_cons (ps_asg (pe_own O_greatest_totals (hr.mono (by decide)) (pa_cons (pv 2) (pa_cons (pv 4) pa_nil))) (pg_tup rfl (pgs_cons (pg_name (i := 5) nd rfl (Or.inl rfl)) (pgs_cons (pg_name (i := 6) nd rfl (Or.inl rfl)) pgs_nil))))
      (pss_one (ps_for PassesOwn.never rfl (pi_list (pv 3)) (pg_name (i := 7) nd rfl (Or.inl rfl)) (pss_one (ps_if (PW.pt (pw_and (pt_cmpR (op_inNd (P := P) (w := w) hu9) (pv 7) (pv 5) rfl) (pw_and1 (pt_cmpR op_gt (pe_ix (ix_nd (P := P) (w := w) hu9) (pv 5) (pv 7) (fun _ _ => rfl)) (pe_own O_room (hr.mono (by decide)) (pa_cons (pv 0) (pa_cons (pv 4) (pa_cons (pv 7) pa_nil)))) (nomark _))))) (pss_one (ps_ret (pe_own O_chain (hr.mono (by decide)) (pa_cons (pv 1) (pa_cons (pv 4) (pa_cons (pv 7) pa_nil)))))) pss_nil))))))
      (pss_one (ps_ret pe_non))))))), ?_⟩
    obtain ⟨dx, sx, ld, px, hx, tv⟩ := id hT
    have hok := sys_ok tv.sys
    have tl : (things ns).length = ns.length + 1 := by unfold things; rw [List.length_cons, List.length_map]
    have len := hok.names.2.2
    refine ⟨_, rfl, x, dx, _, rfl, hx, x, dx, sx, ld, px, rfl, hx, ?_⟩
    refine ⟨_, rfl, sx, ns, L, rfl, tv.sys, hz, np, fun H1 s1 => ?_⟩
    have S1 := tv.sys.same s1
    obtain ⟨dx1, fs1, hi1⟩ := prop_at S1
    refine ⟨_, rfl, sx, dx1, fs1, rfl, hi1, sx, ns, L, rfl, S1, fun lr nlr => ?_⟩
    have u2 := same_new (o := .lst (L.map fun p => V.ref p.2)) nlr
    have hlr : (upd H1 lr (.lst (L.map fun p => V.ref p.2))) lr = some (.lst (L.map fun p => V.ref p.2)) := upd_same
    have s2 := s1.trans u2
    generalize upd H1 lr (.lst (L.map fun p => V.ref p.2)) = H2 at u2 hlr s2 ⊢
    refine ⟨_, rfl, x, dx, _, rfl, s2 _ _ hx, taF_no (by decide) (by decide) (by decide), x, ns, L, g, r, l, G, rfl, hT.same s2, fun a H3 s3 na ha => ?_⟩
    have s13 := s2.trans s3
    have hlr3 := s3 _ _ hlr
    clear s1 u2 hlr s2 S1 hi1 nlr
    refine ⟨_, rfl, a, rfl, ⟨_, SqL.of ha⟩, ?_⟩
    refine for_it (walk_list (xs := (firmN G ns).map endV)) (fun k σ X => ∃ (o4 o5 o6 o7 : Option V), σ = [some (.ref x), some (.ref sx), some (.ref lr), some (.ref a), o4, o5, o6, o7] ∧ Same H3 X ∧ ∀ (j : Nat) (u : Node), j < k → (firmN G ns)[j]? = some u → ∀ v ∈ firmN G ns, ∀ z, Most (arcsOf L) u v (some z) → z ≤ valG g v - valG g u)
      ⟨_, _, _, _, rfl, Same.refl _, fun j u h => absurd h (Nat.not_lt_zero _)⟩ (fun k σ X _ h => by
        obtain ⟨_, _, _, _, _, s, _⟩ := h
        exact SqL.of (s _ _ ha)) ?_ ?_
    · rintro k v0 σ Hz X hk ⟨o4, o5, o6, o7, rfl, sX, done⟩ ⟨rfl, hv⟩
      obtain ⟨u, hu, rfl⟩ := get_map hv
      have fu : u ∈ firmN G ns := List.mem_of_getElem? hu
      have mu := firm_things fu
      have sHX := s13.trans sX
      have kt : KeyTups X L := by
        obtain ⟨_, _, _, _, _, _, h, _⟩ := tv.sys.same sHX
        exact h
      refine ⟨_, rfl, _, rfl, lr, u, L, things ns, rfl, sX _ _ hlr3, kt, hz, np, arcs_in hok.rules, mu, by omega, fun t d lst X1 T Λ s4 nt nd0 nl ht hd hl sd cl gr pr => ?_⟩
      refine ⟨t, _, rfl, SqT.of ht, rfl, _, _, rfl, _, _, rfl, rfl, ?_⟩
      have m := fun v => most_of np sd cl gr v
      have sX1 := sX.trans s4
      clear cl gr pr sd kt nt nd0 nl ht hl
      refine ⟨_, rfl, a, rfl, ⟨_, SqL.of (sX1 _ _ ha)⟩, ?_⟩
      refine for_it (walk_list (xs := (firmN G ns).map endV)) (fun j σ Y => ∃ (o7 : Option V), σ = [some (.ref x), some (.ref sx), some (.ref lr), some (.ref a), some (endV u), some (.ref d), some (.ref lst), o7] ∧ Same X1 Y ∧ ∀ (i : Nat) (v : Node), i < j → (firmN G ns)[i]? = some v → ∀ z, Most (arcsOf L) u v (some z) → z ≤ valG g v - valG g u)
        ⟨_, rfl, Same.refl _, fun i v h => absurd h (Nat.not_lt_zero _)⟩ (fun j σ Y _ h => by
          obtain ⟨_, _, s, _⟩ := h
          exact SqL.of (s _ _ (sX1 _ _ ha))) ?_ ?_
      · rintro j v1 σ Hy Y hj ⟨o7, rfl, sY, dn⟩ ⟨rfl, hv1⟩
        obtain ⟨v, hvv, rfl⟩ := get_map hv1
        have fv : v ∈ firmN G ns := List.mem_of_getElem? hvv
        have mv := firm_things fv
        have sHY := s13.trans (sX1.trans sY)
        have hdY := sY _ _ hd
        have go : (∀ z, lk T v = some z → z ≤ valG g v - valG g u) → ∃ (o7 : Option V), [some (V.ref x), some (.ref sx), some (.ref lr), some (.ref a), some (endV u), some (.ref d), some (.ref lst), some (endV v)] = [some (V.ref x), some (.ref sx), some (.ref lr), some (.ref a), some (endV u), some (.ref d), some (.ref lst), o7] ∧ Same X1 Y ∧ ∀ (i : Nat) (v : Node), i < j + 1 → (firmN G ns)[i]? = some v → ∀ z, Most (arcsOf L) u v (some z) → z ≤ valG g v - valG g u := fun h => ⟨_, rfl, sY, fun i v' hi hv' z hm => by
          by_cases e : i = j
          · subst e
            rw [hvv] at hv'
            cases hv'
            exact h z ((m v).one hm)
          · exact dn i v' (by omega) hv' z hm⟩
        refine ⟨_, rfl, _, rfl, d, _, rfl, NGet.i (k := v) hdY rfl, _, rfl, ?_⟩
        have mm := m v
        cases e : lk T v with
        | none =>
          refine iteF ?_
          exact iteF (go fun z h => by rw [e] at h; cases h)
        | some z =>
          rw [e] at mm
          refine iteT ?_
          refine ⟨_, rfl, _, rfl, d, .int z, rfl, NGet.i (k := v) (o := some z) hdY e, ?_⟩
          refine ⟨_, rfl, _, rfl, _, rfl, x, u, v, ns, L, g, r, l, G, rfl, hT.same sHY, mu, mv, fun Y2 s5 => ?_⟩
          refine ⟨_, _, rfl, rfl, _, rfl, ?_⟩
          by_cases big : z > valG g v - valG g u
          case neg => exact iteFe (decide_eq_false big) (by
            obtain ⟨o7', e1, e2, e3⟩ := go fun z' h => by
              rw [e] at h
              cases h
              omega
            exact ⟨o7', e1, e2.trans s5, e3⟩)
          refine iteTe (decide_eq_true big) ?_
          have ne : u ≠ v := fun z' => by
            subst z'
            obtain ⟨⟨n, wk⟩, _⟩ := mm
            have := np _ _ _ wk
            omega
          have sHY2 := sHY.trans s5
          refine ⟨_, rfl, _, rfl, _, rfl, sx, ns, L, u, v, rfl, tv.sys.same sHY2, hz, np, mu, mv, fun H' s' no => ?_, fun c ch z' H' s' nc hc inL lk' _ lch mo su => ?_⟩
          · have := Most.one no mm
            cases this
          · have := Most.one mo mm
            cases this
            exact qb c ch H' u v z (sHY2.trans s') (sHY2.free nc) hc inL lk' lch fu fv ne mm su (by omega)
      · rintro σ Y ⟨o7, rfl, sY, dn⟩
        refine ⟨_, _, _, _, rfl, sX1.trans sY, fun j u' hj hu' v2 hv2 z hm => ?_⟩
        by_cases e : j = k
        · subst e
          rw [hu] at hu'
          cases hu'
          obtain ⟨i, hi⟩ := List.getElem?_of_mem hv2
          exact dn i v2 (by rw [List.length_map]; exact (List.getElem?_eq_some_iff.mp hi).1) hi z hm
        · exact done j u' (by omega) hu' v2 hv2 z hm
    · rintro σ X ⟨o4, o5, o6, o7, rfl, sX, done⟩
      refine qn _ (s13.trans sX) fun u hu v hv z hm => ?_
      obtain ⟨i, hi⟩ := List.getElem?_of_mem hu
      exact done i u (by rw [List.length_map]; exact (List.getElem?_eq_some_iff.mp hi).1) hi v hv z hm
end
end Wnd

/-! xs[::2] -/
namespace Wnd
open PySem PySem.Spec PyProof.Rows L2
theorem vals_picked {xs : List V} {its : List Value} (r : Vals xs its) : ∀ is : List Nat, Vals (is.filterMap (xs[·]?)) (is.filterMap (its.toArray[·]?))
  | [] => .nil
  | i :: is => by
    have ih := vals_picked r is
    rw [List.filterMap_cons, List.filterMap_cons]
    have hl := r.length
    by_cases h : i < xs.length
    · have e1 : xs[i]? = some xs[i] := List.getElem?_eq_getElem h
      obtain ⟨w, ew, rw'⟩ := r.get e1
      have e2 : its.toArray[i]? = some w := by simpa using ew
      rw [e1, e2]
      exact .cons rw' ih
    · have e1 : xs[i]? = none := List.getElem?_eq_none (by omega)
      have e2 : its.toArray[i]? = none := by simp; omega
      rw [e1, e2]
      exact ih
/-- a part of a list, its items picked by their places -/
def tStep2 (K : PySem.W.Frag) (te : TE) : TE := fun σ H Q => te σ H fun x H1 => ∃ a xs, x = .ref a ∧ SqL K H1 a xs ∧ ∀ ys p, (∀ y ∈ ys, y ∈ xs) → ys.length ≤ xs.length → H1 p = none → Q (.ref p) (upd H1 p (.lst ys))
theorem pe_step2 {X : Cx} {e : Expr} {te : TE} {k : Nat} {p2 p3 pos : Pos} (he : PE X e te) : PE X (.Subscript e (.Slice none none (some (.Constant (.int 2) k p2)) p3) pos) (tStep2 X.K te) := by
  refine ⟨fun pins s σ H Q I h => ?_⟩
  refine Subscript_ (thn (he.run pins s σ H _ I h) fun v s1 ⟨x, H1, I1, r1, q1⟩ => ?_)
  obtain ⟨a, xs, ex, hx, q⟩ := q1
  subst ex
  cases r1
  have hst : PO X (some (.Constant (.int 2) k p2)) (tPart (tC (.int 2))) := po_some pe_int
  refine wpAny_Slice (thn (po_none.run pins s1 σ H1 (fun o H2 => o = none ∧ H2 = H1) I1 ⟨rfl, rfl⟩) fun vl s2 ⟨l, H2, I2, pl, el, e2⟩ => ?_)
  subst el e2
  refine thn (po_none.run pins s2 σ H2 (fun o H3 => o = none ∧ H3 = H2) I2 ⟨rfl, rfl⟩) fun vu s3 ⟨u, H3, I3, pu, eu, e3⟩ => ?_
  subst eu e3
  refine thn (hst.run pins s3 σ H3 (fun o H4 => o = some 2 ∧ H4 = H3) I3 ⟨2, rfl, rfl, rfl⟩) fun vs s4 ⟨o, H4, I4, ps, eo, e4⟩ => ?_
  subst eo e4
  have I5 : Inv X pins σ H4 { s4 with heap := s4.heap.push { cls := .type "slice", data := .fields #[vl, vu, vs] } } := I4.kept (t' := s4.toks) fun b ob q => Heap.get?_push_of_some _ q
  obtain ⟨its, r, ht, hz⟩ := I5.list hx
  have hlen := r.length
  show wpAny (model X.prog X.w) X.A (subscriptTail e (.Slice none none (some (.Constant (.int 2) k p2)) p3) (.ref a) (.ref s4.heap.objs.size)) (EP X pins σ Q) X.xe { s4 with heap := s4.heap.push { cls := .type "slice", data := .fields #[vl, vu, vs] } }
  refine tail_any (ops := [.ref a, .ref s4.heap.objs.size]) ht.isList.typeIs (PySem.slot_list_getitem.lookup) ?_ (by with_unfolding_all rfl)
  refine wpAny_getItem_list_slice ht.isList (Heap.IsSliceOf.new _ vl vu vs) pl pu ps (by decide) ?_ (by rw [List.size_toArray]; omega)
  obtain ⟨is, his⟩ : ∃ is, sliceRange (sliceBounds none none (some 2) its.toArray.size).1 (sliceBounds none none (some 2) its.toArray.size).2.1 (sliceBounds none none (some 2) its.toArray.size).2.2 = is := ⟨_, rfl⟩
  have lis : is.length ≤ xs.length := by
    rw [← his]
    refine sliceRange_length_le _ _ _ _ (fun _ => ⟨?_, ?_⟩) fun h => absurd (show (2 : Int) > 0 by decide) h
    · show (0 : Int) ≤ 0
      exact Int.le_refl _
    · show ((its.toArray.size : Nat) : Int) ≤ (xs.length : Nat)
      rw [List.size_toArray]
      omega
  have ep : slicePick its.toArray none none (some 2) = (is.filterMap (its.toArray[·]?)).toArray := by
    unfold slicePick
    rw [his]
  rw [ep]
  have rv := vals_picked r is
  have mem : ∀ y ∈ is.filterMap (xs[·]?), y ∈ xs := fun y hy => by
    obtain ⟨i, _, e⟩ := List.mem_filterMap.mp hy
    exact List.mem_of_getElem? e
  have len : (is.filterMap (xs[·]?)).length ≤ xs.length := Nat.le_trans (List.length_filterMap_le _ _) lis
  refine ⟨.ref _, _, I5.laid (t' := s4.toks) (o := .lst (is.filterMap (xs[·]?))) (fun b ob q => Heap.get?_push_of_some _ q) (Nat.le_refl _) ?_, rfl, q _ _ mem len (I5.hok.fresh (Nat.le_refl _))⟩
  exact ⟨by omega, _, 0, rv, Heap.get?_push_size _ rfl⟩
end Wnd

/-! prices drawn by the law, and made -/
namespace Wnd
open PySem PySem.Spec PyProof.Rows L2
abbrev s_law_deal : Stmt := top 61
theorem sc_law_deal : FnScope ["_law_pen_here", "_law_nyms_here", "_law_found", "_law_own", "_law_one", "_law_road", "_law_turn"] ["_law_pen_here", "_law_nyms_here"] (defScope s_law_deal) := ⟨rfl, rfl, rfl, by decide +kernel, rfl, by decide +kernel, by decide +kernel⟩
abbrev s_law_prices : Stmt := top 62
theorem sc_law_prices : FnScope ["_law_deal_here", "_law_found", "_law_one"] ["_law_deal_here"] (defScope s_law_prices) := ⟨rfl, rfl, rfl, by decide +kernel, rfl, by decide +kernel, by decide +kernel⟩
abbrev s_law_there : Stmt := top 64
theorem sc_law_there : FnScope ["_law_model_here"] ["_law_model_here"] (defScope s_law_there) := ⟨rfl, rfl, rfl, by decide +kernel, rfl, by decide +kernel, by decide +kernel⟩
theorem pickV {xs : List V} {d : Int} (h0 : 0 ≤ d) (h1 : d < xs.length) : ∃ w, w ∈ xs ∧ atI xs d = some w := by
  obtain ⟨k, rfl⟩ := Int.eq_ofNat_of_zero_le h0
  have hk : k < xs.length := by omega
  exact ⟨xs[k], List.getElem_mem hk, atI_nat (List.getElem?_eq_getElem hk)⟩
section
variable {P : Program} {w : World} {K : PySem.W.Frag} {mg : Str → Option Value} {base : Heap}
/-- a deal of the law lies at T -/
structure DealAt (H : Hp) (T d : Addr) (r l : Int) (G : Own) : Prop where
  t : H T = some (.tup [.int r, .int l, .ref d])
  d : H d = some (.dK (ownKV G))
  r : Pr9 r
  l : Pr9 l
  ok : OwnOk G
  len : G.length ≤ 30
theorem DealAt.same {H H' : Hp} {T d : Addr} {r l : Int} {G : Own} (h : DealAt H T d r l G) (s : Same H H') : DealAt H' T d r l G := ⟨s _ _ h.t, s _ _ h.d, h.r, h.l, h.ok, h.len⟩
def spDeal : Sp := fun vs H Q _ => ∃ (p c an : Addr) (n : Nat) (ts : List Str), vs = [.ref p, .ref an] ∧ PenAt H p c n ∧ n ≤ 600000 ∧ H an = some (.lst (ts.map V.str)) ∧ (∀ t ∈ ts, nameB t = true) ∧ ts.length ≤ 25 ∧
  ∀ T d r l G H' n', But p H H' → H T = none → H d = none → DealAt H' T d r l G → G.length ≤ 26 → PenAt H' p c n' → n' ≤ n + 60 → Q (.ref T) H'
theorem ok_deal {f : Addr} {fd : FuncData} (D : DefAt K mg "_law_deal" s_law_deal ["_law_pen_here", "_law_nyms_here"] f fd) (B : Blt mg) (O_law_draw : Ok P w K mg base 2 "_law_draw" ["_law_pen_here", "_law_under"] spDraw) : Ok P w K mg base 3 "_law_deal" ["_law_pen_here", "_law_nyms_here"] spDeal := by
  refine D.ok (D.fn.ok sc_law_deal (fun vs H Q E h => ?_) (fun cdv A outer s H vs Q E hr h => ?_))
  · obtain ⟨p, c, an, n, ts, rfl, _⟩ := h
    rfl
  · obtain ⟨p, c, an, n, ts, rfl, hP, hn, han, nms, lts, q⟩ := h
    have nd := sc_law_deal.nd
    have hu := hu_of hr
    have big : sizeLine > 100000 := by decide
    refine ⟨_, (pss_cons (ps_setLc (i := 2) (own := [("_law_turn", 6)]) (g := gName 6) (tt := tYes) (by rfl) nd rfl rfl (sw_true rfl rfl rfl (by decide +kernel)) (pi_range1 (by rfl) B.range (pa_cons pe_int pa_nil)) (blkOk_by (own := [("_law_turn", 6)]) (N := ["_law_pen_here", "_law_nyms_here", "_law_found", "_law_own", "_law_one", "_law_road", "_law_turn"]) (sc := defScope s_law_deal) (by decide +kernel)) (fun _ _ _ _ _ => (pg_name (i := 6) nd rfl (Or.inl rfl))) (fun _ _ _ _ _ => pts_nil) (fun _ _ _ _ _ => (pe_ix (ix_listK K) (pe_lst (pa_cons pe_int (pa_cons pe_int (pa_cons pe_int (pa_cons pe_int (pa_cons pe_int (pa_cons (pe_op op_add pe_int (pe_own O_law_draw (hr.mono (by decide)) (pa_cons (pv 0) (pa_cons pe_int pa_nil)))) pa_nil))))))) (pe_own O_law_draw (hr.mono (by decide)) (pa_cons (pv 0) (pa_cons pe_int pa_nil))) (fun _ _ => rfl))))
      (pss_cons (ps_set (i := 3) nd rfl (Or.inl rfl) pe_dnewK)
      (pss_cons (ps_for PassesOwn.never rfl (pi_list (pe_op op_cat (pe_callTy call_list_of (by rfl) B.list (by decide +kernel) (pa_cons (pv 1) pa_nil)) (pe_lst (pa_cons pe_str pa_nil)))) (pg_name (i := 4) nd rfl (Or.inl rfl)) (pss_cons (ps_set (i := 5) nd rfl (Or.inl rfl) (pe_own O_law_draw (hr.mono (by decide)) (pa_cons (pv 0) (pa_cons pe_int pa_nil))))
      (pss_one (ps_if (pt_cmpR op_lt (pv 5) pe_int (nomark _)) (pss_one (ps_dput hu (pv 3) (pv 4) (pe_ix ix_list (pe_lst (pa_cons pe_non (pa_cons (pe_op op_add pe_int (pe_own O_law_draw (hr.mono (by decide)) (pa_cons (pv 0) (pa_cons pe_int pa_nil)))) pa_nil))) (pv 5) (fun _ _ => rfl)) rfl)) pss_nil))))
      (pss_one (ps_ret (pe_tup (pa_cons (pe_ix ix_list (pv 2) pe_int (fun _ _ => rfl)) (pa_cons (pe_ix ix_list (pv 2) pe_int (fun _ _ => rfl)) (pa_cons (pv 3) pa_nil))))))))), ?_⟩
    refine ⟨2, rfl, by decide, by decide, fun tw ntw => ?_⟩
    obtain ⟨twp, twc⟩ := hP.out ntw
    refine lc_it walk_range (fun k H' => ∃ vs : List Int, vs.length = k ∧ (∀ v ∈ vs, Pr9 v) ∧ H' tw = some (.lst (vs.map V.int)) ∧ But p H H' ∧ PenAt H' p c (n + 2 * k)) ⟨[], rfl, (fun _ h => nomatch h), upd_same, But.new ntw, hP.same (same_new ntw)⟩ (fun _ _ _ _ => True.intro) ?_ ?_
    · rintro k x Hc2 H' hk ⟨vs, lv, h9, htw, b, Pk⟩ ⟨rfl, rfl⟩
      have hk : k < 2 := hk
      refine ⟨rfl, ?_⟩
      refine ⟨_, rfl, p, c, _, 9, rfl, Pk, by omega, by decide, by decide, fun e H3 he0 he1 b3 P3 => ⟨_, _, rfl, rfl, by show 6 ≤ sizeLine; decide, fun l nl => ?_⟩⟩
      have b03 := b.trans b3
      have htw3 := b3 _ _ htw twp
      have u4 := same_new (o := .lst [V.int 1, V.int 1, V.int 2, V.int 5, V.int 999, V.int (1 + e)]) nl
      have lp := (P3.out nl).1
      have hl4 : (upd H3 l (.lst [V.int 1, V.int 1, V.int 2, V.int 5, V.int 999, V.int (1 + e)])) l = some (.lst ([1, 1, 2, 5, 999, 1 + e].map V.int)) := upd_same
      have P4 := P3.same u4
      have htw4 := u4 _ _ htw3
      have b04 := b03.trans (But.of u4)
      change tCall spDraw [] E0 _ _ (upd H3 l (.lst [V.int 1, V.int 1, V.int 2, V.int 5, V.int 999, V.int (1 + e)])) _
      generalize upd H3 l (.lst [V.int 1, V.int 1, V.int 2, V.int 5, V.int 999, V.int (1 + e)]) = H4 at u4 hl4 P4 htw4 b04 ⊢
      refine ⟨_, rfl, p, c, _, 6, rfl, P4, by omega, by decide, by decide, fun e2 H5 f0 f1 b5 P5 => ?_⟩
      obtain ⟨wd, hw, he⟩ := pick (xs := [1, 1, 2, 5, 999, 1 + e]) f0 f1
      have hw9 : Pr9 wd := by
        simp only [List.mem_cons, List.not_mem_nil, or_false] at hw
        unfold Pr9
        omega
      refine ⟨l, _, e2, _, rfl, rfl, SqL.of (b5 _ _ hl4 lp), he, ?_⟩
      have htw5 := b5 _ _ htw4 twp
      refine ⟨vs.map V.int, htw5, by rw [List.length_map]; omega, vs ++ [wd], by rw [List.length_append, lv]; rfl, fun v hv => ?_, by rw [upd_same, List.map_append]; rfl, fun b' o' hb n => ?_, (P5.upd twp (fun z => twc z)).le (by omega)⟩
      · rcases List.mem_append.mp hv with hv | hv
        · exact h9 v hv
        · rw [List.mem_singleton.mp hv]
          exact hw9
      · rw [upd_ne (ne_of_none hb ntw)]
        exact b5 _ _ (b04 _ _ hb n) n
    rintro H1 ⟨vs, lv, h9, htw, b1, P1⟩
    match vs, lv, h9 with
    | [r, l], _, h9 =>
    have hr9 := h9 r List.mem_cons_self
    have hl9 := h9 l (.tail _ List.mem_cons_self)
    have han1 := b1 _ _ han (hP.ne_strs han)
    refine fun d nd0 => ?_
    have dp := (P1.out nd0).1
    have ndH : H d = none := b1.free dp nd0
    have u2 := same_new (o := .dK []) nd0
    have hd2 : (upd H1 d (.dK [])) d = some (.dK (ownKV [])) := upd_same
    have P2 := P1.same u2
    have htw2 := u2 _ _ htw
    have han2 := u2 _ _ han1
    have b2 := b1.trans (But.of u2)
    have twd : tw ≠ d := ne_of_none htw nd0
    generalize upd H1 d (.dK []) = H2 at u2 hd2 P2 htw2 han2 b2 ⊢
    refine ⟨_, rfl, an, _, rfl, .inl (SqL.of han2), fun l1 nl1 => ?_⟩
    have u3 := same_new (o := .lst (ts.map V.str)) nl1
    have h13 : (upd H2 l1 (.lst (ts.map V.str))) l1 = some (.lst (ts.map V.str)) := upd_same
    have P3 := P2.same u3
    have htw3 := u3 _ _ htw2
    have hd3 := u3 _ _ hd2
    have b3 := b2.trans (But.of u3)
    generalize upd H2 l1 (.lst (ts.map V.str)) = H3 at u3 h13 P3 htw3 hd3 b3 ⊢
    refine ⟨by show 1 ≤ sizeLine; decide, fun l2 nl2 => ?_⟩
    have u4 := same_new (o := .lst [V.str "nobody"]) nl2
    have h24 : (upd H3 l2 (.lst [V.str "nobody"])) l2 = some (.lst [V.str "nobody"]) := upd_same
    have P4 := P3.same u4
    have htw4 := u4 _ _ htw3
    have hd4 := u4 _ _ hd3
    have h14 := u4 _ _ h13
    have b4 := b3.trans (But.of u4)
    generalize upd H3 l2 (.lst [V.str "nobody"]) = H4 at u4 h24 P4 htw4 hd4 h14 b4 ⊢
    refine ⟨l1, l2, _, _, rfl, rfl, h14, h24, by rw [List.length_map]; show _ + 1 ≤ _; omega, fun l3 nl3 => ?_⟩
    have u5 := same_new (o := .lst (ts.map V.str ++ [V.str "nobody"])) nl3
    have h35 : (upd H4 l3 (.lst (ts.map V.str ++ [V.str "nobody"]))) l3 = some (.lst ((ts ++ [("nobody" : Str)]).map V.str)) := by
      rw [upd_same, List.map_append]
      rfl
    have P5 := P4.same u5
    have htw5 := u5 _ _ htw4
    have hd5 := u5 _ _ hd4
    have b5 := b4.trans (But.of u5)
    have l3p := (P4.out nl3).1
    have l3d : l3 ≠ d := (ne_of_none hd4 nl3).symm
    generalize upd H4 l3 (.lst (ts.map V.str ++ [V.str "nobody"])) = H5 at u5 h35 P5 htw5 hd5 b5 ⊢
    clear u2 u3 u4 u5 h13 h14 h24 P1 P2 P3 P4 htw htw2 htw3 htw4 hd2 hd3 hd4 b1 b2 b3 b4 nl1 nl2 nl3 han1 han2 nd0
    obtain ⟨us, eus⟩ : ∃ us : List Str, ts ++ [("nobody" : Str)] = us := ⟨_, rfl⟩
    have nmu : ∀ t ∈ us, nameB t = true := fun t ht => by
      rw [← eus] at ht
      rcases List.mem_append.mp ht with ht | ht
      · exact nms t ht
      · rw [List.mem_singleton.mp ht]
        decide +kernel
    have lus : us.length ≤ 26 := by
      rw [← eus, List.length_append]
      show ts.length + 1 ≤ 26
      omega
    rw [eus] at h35
    refine ⟨l3, rfl, ⟨_, SqL.of h35⟩, ?_⟩
    refine for_it (walk_list (xs := us.map V.str)) (fun k σ Hk => ∃ (o4 o5 o6 : Option V) (g : Own), σ = [some (.ref p), some (.ref an), some (.ref tw), some (.ref d), o4, o5, o6] ∧ (∀ b o, H5 b = some o → b ≠ p → b ≠ d → Hk b = some o) ∧ Hk d = some (.dK (ownKV g)) ∧ OwnOk g ∧ g.length ≤ k ∧ PenAt Hk p c (n + 4 + 2 * k))
      ⟨_, _, _, [], rfl, (fun b o h _ _ => h), hd5, ownOk_nil, Nat.le_refl _, P5.le (by omega)⟩ (fun k σ Hk _ h => by
        obtain ⟨_, _, _, _, _, b, _⟩ := h
        exact SqL.of (b _ _ h35 l3p l3d)) ?_ ?_
    · rintro k v σ Hz Hk hk ⟨o4, o5, o6, g, rfl, bk, hdk, okg, lg, Pk⟩ ⟨rfl, hv⟩
      rw [List.length_map] at hk
      rw [List.getElem?_map, List.getElem?_eq_getElem hk] at hv
      cases hv
      have nmt := nmu _ (List.getElem_mem hk)
      generalize us[k] = t at nmt ⊢
      refine ⟨_, rfl, p, c, _, 5, rfl, Pk, by omega, by decide, by decide, fun e H6 he0 he1 b6 P6 => ?_⟩
      have dpk := (dp : d ≠ p)
      have hd6 := b6 _ _ hdk dp
      have bk6 : ∀ b o, H5 b = some o → b ≠ p → b ≠ d → H6 b = some o := fun b o h n1 n2 => b6 _ _ (bk b o h n1 n2) n1
      refine ⟨_, rfl, _, _, rfl, rfl, _, rfl, ?_⟩
      refine ite2 (fun he2 => ?_) (fun _ => ⟨_, _, _, g, rfl, bk6, hd6, okg, by omega, P6.le (by omega)⟩)
      have he2 : e < 2 := of_decide_eq_true he2
      refine ⟨_, rfl, p, c, _, 12, rfl, P6, by omega, by decide, by decide, fun e2 H7 f0 f1 b7 P7 => ⟨_, _, rfl, rfl, by show 2 ≤ sizeLine; decide, fun l4 nl4 => ?_⟩⟩
      have hd7 := b7 _ _ hd6 dp
      have u8 := same_new (o := .lst [V.non, V.int (1 + e2)]) nl4
      have hl8 : (upd H7 l4 (.lst [V.non, V.int (1 + e2)])) l4 = some (.lst [V.non, V.int (1 + e2)]) := upd_same
      have hd8 := u8 _ _ hd7
      have P8 := P7.same u8
      have bk8 : ∀ b o, H5 b = some o → b ≠ p → b ≠ d → (upd H7 l4 (.lst [V.non, V.int (1 + e2)])) b = some o := fun b o h n1 n2 => u8 _ _ (b7 _ _ (bk6 b o h n1 n2) n1)
      obtain ⟨w8, hm8, hat8⟩ := pickV (xs := [V.non, V.int (1 + e2)]) he0 he2
      obtain ⟨o, rfl, hov⟩ : ∃ o : Option Int, w8 = optV o ∧ ∀ i, o = some i → Pr9 i := by
        simp only [List.mem_cons, List.not_mem_nil, or_false] at hm8
        rcases hm8 with rfl | rfl
        · exact ⟨none, rfl, fun _ z => nomatch z⟩
        · exact ⟨some (1 + e2), rfl, fun _ z => by cases z; exact ⟨by omega, by omega⟩⟩
      refine ⟨_, rfl, l4, _, e, _, rfl, rfl, SqL.of hl8, hat8, ?_⟩
      change ∃ v, _ ∧ _
      generalize upd H7 l4 (.lst [V.non, V.int (1 + e2)]) = H8 at u8 hl8 hd8 P8 bk8 ⊢
      have lkv : (ownKV g).length ≤ 26 := by unfold ownKV; rw [List.length_map]; omega
      refine ⟨_, rfl, _, rfl, d, _, rfl, DPut.k (k := Sum.inr t) hd8 (by omega), ?_⟩
      rw [put_own]
      have lput := put_len (g := g) (t := t) (o := o)
      refine ⟨_, _, _, putO g t o, rfl, fun b o' h n1 n2 => ?_, upd_same, okg.put nmt hov, by omega, (P8.upd dp (fun z => ?_)).le (by omega)⟩
      · rw [upd_ne n2]
        exact bk8 _ _ h n1 n2
      · obtain ⟨_, _, _, _, _, hc, _⟩ := P8
        rw [← z, hd8] at hc
        cases hc
    · rintro σ Hk ⟨o4, o5, o6, g, rfl, bk, hdk, okg, lg, Pk⟩
      have lg : g.length ≤ 26 := by rw [List.length_map] at lg; omega
      have htwk := bk _ _ htw5 twp twd
      refine ⟨_, rfl, tw, _, 0, .int r, rfl, rfl, SqL.of htwk, atI_nat (j := 0) rfl, _, rfl, tw, _, 1, .int l, rfl, rfl, SqL.of htwk, atI_nat (j := 1) rfl, _, rfl, by show 3 ≤ sizeLine; decide, fun T nT => ?_⟩
      have nTp := (Pk.out nT).1
      have nTd : T ≠ d := (ne_of_none hdk nT).symm
      have sT := same_new (o := .tup [.int r, .int l, .ref d]) nT
      have TH : H T = none := by
        cases e : H T with
        | none => rfl
        | some o =>
          have := bk _ _ (b5 _ _ e nTp) nTp nTd
          rw [nT] at this
          cases this
      refine q T d r l g _ _ (fun b o hb nb => ?_) TH ndH ⟨upd_same, sT _ _ hdk, hr9, hl9, okg, by omega⟩ lg (Pk.same sT) (by rw [List.length_map]; omega)
      rw [upd_ne (ne_of_none hb TH)]
      exact bk _ _ (b5 _ _ hb nb) nb (ne_of_none hb ndH)
def spPricesL (CP : Addr) : Sp := fun vs H Q _ => ∃ (T d : Addr) (r l : Int) (G : Own), vs = [.ref T] ∧ DealAt H T d r l G ∧ ∀ y H', Same H H' → PrNew CP H H' y r l (sortO G) → Q (.ref y) H'
theorem sub_len {g G : Own} (h : (g.map (·.1)).Nodup) (hs : ∀ t ∈ g.map (·.1), t ∈ G.map (·.1)) : g.length ≤ G.length := by
  have := nodup_len h hs
  rwa [List.length_map, List.length_map] at this
theorem put_sub {g G : Own} {t : Str} {o : Option Int} (hs : ∀ t ∈ g.map (·.1), t ∈ G.map (·.1)) (ht : t ∈ G.map (·.1)) : ∀ s ∈ (putO g t o).map (·.1), s ∈ G.map (·.1) := fun s h => by
  rw [put_keys] at h
  split at h
  · exact hs s h
  · rcases List.mem_append.mp h with h | h
    · exact hs s h
    · rw [List.mem_singleton.mp h]
      exact ht
theorem own_at {G : Own} {k : Nat} (h : (G.map (·.1)).Nodup) (hk : k < G.length) : valO G (G[k]).1 = some (G[k]).2 := by
  unfold valO
  have : G.find? (fun x => decide (x.1 = (G[k]).1)) = some G[k] := by
    induction G generalizing k with
    | nil => exact absurd hk (Nat.not_lt_zero _)
    | cons x G ih =>
      rw [List.map_cons, List.nodup_cons] at h
      cases k with
      | zero => simp
      | succ k =>
        have hk' : k < G.length := by rw [List.length_cons] at hk; omega
        rw [List.getElem_cons_succ, List.find?_cons]
        have : ¬ x.1 = (G[k]).1 := fun e => h.1 (List.mem_map.mpr ⟨_, List.getElem_mem hk', e.symm⟩)
        rw [decide_eq_false this]
        exact ih h.2 hk'
  rw [this]
  rfl
theorem ok_pricesL {CP : Addr} {f : Addr} {fd : FuncData} (D : DefAt K mg "_law_prices" s_law_prices ["_law_deal_here"] f fd) (B : Blt mg) (OPr : OkPr P w K mg base CP 4) (OW : OkM P w K mg base CP 6 "with_price" (spWithPr CP)) : Ok P w K mg base 7 "_law_prices" ["_law_deal_here"] (spPricesL CP) := by
  refine D.ok (D.fn.ok sc_law_prices (fun vs H Q E h => ?_) (fun cdv A outer s H vs Q E hr h => ?_))
  · obtain ⟨T, d, r, l, G, rfl, _⟩ := h
    rfl
  · obtain ⟨T, d, r, l, G, rfl, hT, q⟩ := h
    have nd := sc_law_prices.nd
    have hu := hu_of hr
    have big : sizeLine > 100000 := by decide
    refine ⟨_, (pss_cons (ps_set (i := 1) nd rfl (Or.inl rfl) (pe_prRL OPr (hr.mono (by decide)) (pk_cons (pe_ix ix_tup (pv 0) pe_int (fun _ _ => rfl)) (pk_cons (pe_ix ix_tup (pv 0) pe_int (fun _ _ => rfl)) pk_nil))))
      (pss_cons (ps_for PassesOwn.never rfl (pi_list (pe_step2 (pe_callTy (call_listD rfl) (by rfl) B.list (by decide +kernel) (pa_cons (pe_ix ix_tup (pv 0) pe_int (fun _ _ => rfl)) pa_nil)))) (pg_name (i := 2) nd rfl (Or.inl rfl)) (pss_one (ps_set (i := 1) nd rfl (Or.inl rfl) (pe_methM OW (hr.mono (by decide)) (pv 1) (pa_cons (pv 2) (pa_cons (pe_ifExp (pt_cmpR op_isN (pe_dget hu (pe_ix ix_tup (pv 0) pe_int (fun _ _ => rfl)) (pv 2) (fun _ _ => rfl)) pe_non (nomark _)) pe_int pe_non) pa_nil))))))
      (pss_cons (ps_lock (ps_for PassesOwn.never rfl (pi_keys (pe_ix ix_tup (pv 0) pe_int (fun _ _ => rfl))) (pg_name (i := 2) nd rfl (Or.inl rfl)) (pss_one (ps_set (i := 1) nd rfl (Or.inl rfl) (pe_methM OW (hr.mono (by decide)) (pv 1) (pa_cons (pv 2) (pa_cons (pe_dget hu (pe_ix ix_tup (pv 0) pe_int (fun _ _ => rfl)) (pv 2) (fun _ _ => rfl)) pa_nil)))))))
      (pss_one (ps_ret (pv 1)))))), ?_⟩
    have tAt : ∀ X, X T = some (.tup [.int r, .int l, .ref d]) → SqT K X T [.int r, .int l, .ref d] := fun X h => SqT.of h
    refine ⟨_, rfl, T, _, 0, .int r, rfl, rfl, SqT.of hT.t, atI_nat (j := 0) rfl, _, rfl, T, _, 1, .int l, rfl, rfl, SqT.of hT.t, atI_nat (j := 1) rfl, rfl, r, l, rfl, hT.r, hT.l, fun x0 H1 s1 new1 => ?_⟩
    have T1 := hT.same s1
    refine ⟨_, rfl, T, _, 2, .ref d, rfl, rfl, SqT.of T1.t, atI_nat (j := 2) rfl, d, _, rfl, Rd.of T1.d, fun lk nlk => ?_⟩
    have s2 := s1.trans (same_new (o := .lst ((ownKV G).map fun kv => kV kv.1)) nlk)
    have hlk : (upd H1 lk (.lst ((ownKV G).map fun kv => kV kv.1))) lk = some (.lst ((ownKV G).map fun kv => kV kv.1)) := upd_same
    have new2 := new1.same (same_new (o := .lst ((ownKV G).map fun kv => kV kv.1)) nlk)
    generalize upd H1 lk (.lst ((ownKV G).map fun kv => kV kv.1)) = H2 at s2 hlk new2 ⊢
    refine ⟨lk, _, rfl, SqL.of hlk, fun ys ly mem lys nly => ?_⟩
    have s3 := s2.trans (same_new (o := .lst ys) nly)
    have hly : (upd H2 ly (.lst ys)) ly = some (.lst ys) := upd_same
    have new3 := new2.same (same_new (o := .lst ys) nly)
    generalize upd H2 ly (.lst ys) = H3 at s3 hly new3 ⊢
    clear hlk new1 new2 nlk nly s2 s1 T1
    have memk : ∀ y ∈ ys, ∃ t, y = .str t ∧ t ∈ G.map (·.1) := fun y hy => by
      obtain ⟨kv, hkv, e⟩ := List.mem_map.mp (mem y hy)
      unfold ownKV at hkv
      obtain ⟨x, hx, rfl⟩ := List.mem_map.mp hkv
      exact ⟨x.1, e.symm, List.mem_map.mpr ⟨x, hx, rfl⟩⟩
    have nmG : ∀ t ∈ G.map (·.1), nameB t = true := fun t ht => by
      obtain ⟨x, hx, rfl⟩ := List.mem_map.mp ht
      exact hT.ok.names x hx
    have lG := hT.len
    refine ⟨ly, rfl, ⟨_, SqL.of hly⟩, ?_⟩
    refine for_it (walk_list (xs := ys)) (fun k σ Hk => ∃ (o2 : Option V) (y : Addr) (g : Own), σ = [some (.ref T), some (.ref y), o2] ∧ Same H3 Hk ∧ PrNew CP H Hk y r l (sortO g) ∧ (g.map (·.1)).Nodup ∧ ∀ t ∈ g.map (·.1), t ∈ G.map (·.1))
      ⟨_, x0, [], rfl, Same.refl _, by rw [show sortO [] = [] from by simp [sortO, sortN]]; exact new3, List.nodup_nil, (fun _ h => nomatch h)⟩ (fun k σ Hk _ h => by
        obtain ⟨_, _, _, _, b, _⟩ := h
        exact SqL.of (b _ _ hly)) ?_ ?_
    · rintro k v σ Hz Hk hk ⟨o2, y, g, rfl, sk, newk, ndg, subg⟩ ⟨rfl, hv⟩
      obtain ⟨t, rfl, ht⟩ := memk v (List.mem_of_getElem? hv)
      have Tk := (hT.same s3).same sk
      obtain ⟨dx, ls, hi, hls, hpv, n1, n2⟩ := id newk
      have lg := sub_len ndg subg
      obtain ⟨o', ho'⟩ := Option.isSome_iff_exists.mp (val_mem.mpr ht)
      have dg : DGet Hk d (V.str t) (some (optV o')) := by
        have := DGet.k (k := Sum.inr t) Tk.d
        rwa [val_own, ho'] at this
      have fin : ∀ (o : Option Int), (∀ i, o = some i → Pr9 i) → spWithPr CP [.ref y, .str t, optV o] Hk (fun v H' => ∃ (o2 : Option V) (y : Addr) (g : Own), [some (.ref T), some v, some (.str t)] = [some (.ref T), some (.ref y), o2] ∧ Same H3 H' ∧ PrNew CP H H' y r l (sortO g) ∧ (g.map (·.1)).Nodup ∧ ∀ t ∈ g.map (·.1), t ∈ G.map (·.1)) E0 := fun o ho =>
        ⟨y, t, o, r, l, sortO g, rfl, newk.at_, nmG t ht, ho, by rw [sortO_len]; omega, fun y' H' s' new' => by
          rw [sortO_put ndg] at new'
          exact ⟨_, y', putO g t o, rfl, sk.trans s', new'.from_ (s3.trans sk), put_nodup ndg, put_sub subg ht⟩⟩
      refine ⟨_, rfl, y, dx, _, rfl, hi, prF_no (by decide) (by decide) (by decide), _, rfl, _, rfl, T, _, 2, .ref d, rfl, rfl, SqT.of Tk.t, atI_nat (j := 2) rfl, _, rfl, d, _, rfl, dg, rfl, _, rfl, ?_⟩
      cases o' with
      | none => exact iteT (fin (some 3) fun i z => by cases z; exact ⟨by decide, by decide⟩)
      | some i => exact iteF (fin none fun i z => nomatch z)
    · rintro σ Hk ⟨o2, y, g, rfl, sk, newk, ndg, subg⟩
      have Tk := (hT.same s3).same sk
      have sHk := s3.trans sk
      refine ⟨d, _, Tk.d, True.intro, fun od => ?_⟩
      have dT : T ≠ d := ne_of Tk.t Tk.d fun z => nomatch z
      have hf : (upd Hk d (.frz od (.dK (ownKV G)))) d = some (.frz od (.dK (ownKV G))) := upd_same
      have hTf : (upd Hk d (.frz od (.dK (ownKV G)))) T = some (.tup [.int r, .int l, .ref d]) := by
        rw [upd_ne dT]
        exact Tk.t
      have keepf : ∀ b o, H b = some o → b ≠ d → (upd Hk d (.frz od (.dK (ownKV G)))) b = some o := fun b o hb n => by
        rw [upd_ne n]
        exact sHk _ _ hb
      have newf : PrNew CP H (upd Hk d (.frz od (.dK (ownKV G)))) y r l (sortO g) := by
        obtain ⟨dx, ls, h1, h2, h3, h4, h5⟩ := newk
        exact ⟨dx, ls, by rw [upd_ne (ne_of h1 Tk.d fun z => nomatch z)]; exact h1, by rw [upd_ne (fun e => by rw [e] at h5; rw [hT.d] at h5; cases h5)]; exact h2, h3, h4, h5⟩
      obtain ⟨Hf, eHf⟩ : ∃ Hf, upd Hk d (.frz od (.dK (ownKV G))) = Hf := ⟨_, rfl⟩
      rw [eHf] at hf hTf keepf newf ⊢
      clear eHf
      refine ⟨_, rfl, T, _, 2, .ref d, rfl, rfl, SqT.of hTf, atI_nat (j := 2) rfl, d, od, rfl, .inl ⟨_, hf, ?_⟩⟩
      refine for_it walk_keys (fun k σ Hc => ∃ (o2 : Option V) (y : Addr) (g : Own), σ = [some (.ref T), some (.ref y), o2] ∧ Same Hf Hc ∧ PrNew CP H Hc y r l (sortO g) ∧ (g.map (·.1)).Nodup ∧ (∀ t ∈ g.map (·.1), t ∈ G.map (·.1)) ∧ ∀ (j : Nat) (h : j < G.length), j < k → valO g (G[j]).1 = some (G[j]).2)
        ⟨_, y, g, rfl, Same.refl _, newf, ndg, subg, fun j h z => absurd z (Nat.not_lt_zero _)⟩ (fun k σ Hc _ h => by
          obtain ⟨_, _, _, _, b, _⟩ := h
          exact b _ _ hf) ?_ ?_
      · rintro k v σ Hz Hc hk ⟨o2, y, g, rfl, sc, newc, ndg, subg, done⟩ ⟨rfl, kk, v', hk1, rfl⟩
        have hk : k < G.length := by unfold ownKV at hk; rwa [List.length_map] at hk
        unfold ownKV at hk1
        rw [List.getElem?_map, List.getElem?_eq_getElem hk] at hk1
        cases hk1
        have ht : (G[k]).1 ∈ G.map (·.1) := List.mem_map.mpr ⟨_, List.getElem_mem hk, rfl⟩
        have vt := own_at hT.ok.nodup hk
        have ov := hT.ok.vals _ (List.getElem_mem hk)
        have nmt := nmG _ ht
        obtain ⟨dx, ls, hi, hls, hpv, n1, n2⟩ := id newc
        have lg := sub_len ndg subg
        have dg : DGet Hc d (V.str (G[k]).1) (some (optV (G[k]).2)) := by
          have := DGet.z (k := Sum.inr (G[k]).1) (sc _ _ hf)
          rwa [val_own, vt] at this
        have freeH : ∀ z, Hc z = none → H z = none := fun z hz => by
          cases e : H z with
          | none => rfl
          | some o =>
            by_cases ed : z = d
            · rw [ed, sc _ _ hf] at hz
              cases hz
            · rw [sc _ _ (keepf _ _ e ed)] at hz
              cases hz
        refine ⟨_, rfl, y, dx, _, rfl, hi, prF_no (by decide) (by decide) (by decide), _, rfl, _, rfl, T, _, 2, .ref d, rfl, rfl, SqT.of (sc _ _ hTf), atI_nat (j := 2) rfl, _, rfl, d, _, rfl, dg, y, (G[k]).1, (G[k]).2, r, l, sortO g, rfl, newc.at_, nmt, ov, by rw [sortO_len]; omega, fun y' H' s' new' => ?_⟩
        rw [sortO_put ndg] at new'
        obtain ⟨dx', ls', a1, a2, a3, a4, a5⟩ := new'
        refine ⟨_, y', putO g (G[k]).1 (G[k]).2, rfl, sc.trans s', ⟨dx', ls', a1, a2, a3, freeH _ a4, freeH _ a5⟩, put_nodup ndg, put_sub subg ht, fun j hj hjk => ?_⟩
        rw [val_put]
        by_cases e : (G[j]).1 = (G[k]).1
        · rw [if_pos e]
          have := own_at hT.ok.nodup hj
          rw [e, vt] at this
          exact this
        · rw [if_neg e]
          refine done j hj ?_
          have : j ≠ k := fun z => e (by subst z; rfl)
          omega
      · rintro σ Hc ⟨o2, y, g, rfl, sc, newc, ndg, subg, done⟩
        have ldk : (ownKV G).length = G.length := by unfold ownKV; rw [List.length_map]
        refine ⟨sc _ _ hf, _, rfl, ?_⟩
        have perm : (g.map (·.1)).Perm (G.map (·.1)) := (List.perm_ext_iff_of_nodup ndg hT.ok.nodup).mpr fun t => ⟨subg t, fun ht => by
          obtain ⟨x, hx, rfl⟩ := List.mem_map.mp ht
          obtain ⟨j, hj, e⟩ := List.getElem_of_mem hx
          have := done j hj (by omega)
          rw [e] at this
          exact val_mem.mp (by rw [this]; rfl)⟩
        have eS : sortO g = sortO G := sortO_ext perm fun t => by
          by_cases ht : t ∈ G.map (·.1)
          · obtain ⟨x, hx, rfl⟩ := List.mem_map.mp ht
            obtain ⟨j, hj, e⟩ := List.getElem_of_mem hx
            have h1 := done j hj (by omega)
            have h2 := own_at hT.ok.nodup hj
            rw [e] at h1 h2
            rw [h1, h2]
          · have h1 : valO G t = none := by
              cases e : valO G t with
              | none => rfl
              | some o => exact absurd (val_mem.mp (by rw [e]; rfl)) ht
            have h2 : valO g t = none := by
              cases e : valO g t with
              | none => rfl
              | some o => exact absurd (subg t (val_mem.mp (by rw [e]; rfl))) ht
            rw [h1, h2]
        rw [eS] at newc
        refine q y _ (fun b o hb => ?_) ?_
        · by_cases e : b = d
          · rw [e, upd_same, ← hT.d, ← e, hb]
          · rw [upd_ne e]
            exact sc _ _ (keepf _ _ hb e)
        · obtain ⟨dx, ls, h1, h2, h3, h4, h5⟩ := newc
          exact ⟨dx, ls, by rw [upd_ne (fun e => by rw [e, hT.d] at h4; cases h4)]; exact h1, by rw [upd_ne (fun e => by rw [e, hT.d] at h5; cases h5)]; exact h2, h3, h4, h5⟩
end
end Wnd

/-! System(list(..), list(..)) at once -/
namespace Wnd
open PySem PySem.Spec PyProof.Rows L2
section
def tSysL (C : Addr) (t1 t2 : TE) : TE := fun σ H Q => t1 σ H fun v1 H1 => ∃ (a : Addr) (ts : List Str), v1 = .ref a ∧ H1 a = some (.lst (ts.map V.str)) ∧ NamesOk ts ∧ ∀ H2, Same H1 H2 → t2 σ H2 fun v2 H3 => ∃ (b : Addr) (rs : List (Rule × Addr)), v2 = .ref b ∧ Same H2 H3 ∧ H3 b = some (.lst (rs.map fun p => V.ref p.2)) ∧ KeyTups H3 rs ∧
  (∀ p ∈ rs, RuleOk ts p.1) ∧ rs.length < 100000 ∧ ∀ x L H', Same H3 H' → SysNew C H3 H' x (sortN ts) L → L.map (·.1) = canon (rs.map (·.1)) → L.length ≤ rs.length → Q (.ref x) H'
def rList (K : PySem.W.Frag) : List V → Hp → VK → Prop := fun xs H Q => ∃ p ys, xs = [.ref p] ∧ (SqL K H p ys ∨ SqT K H p ys) ∧ ∀ l, H l = none → Q (.ref l) (upd H l (.lst ys))
/-- a reading may be made weaker, result by result -/
def Mono (t : TE) : Prop := ∀ σ H (Q R : V → Hp → Prop), (∀ v H', Q v H' → R v H') → t σ H Q → t σ H R
theorem mono_var (i : Nat) : Mono (tVar i) := fun σ H Q R h => by
  rintro ⟨v, h1, h2⟩
  exact ⟨v, h1, h _ _ h2⟩
theorem pe_sysW {X : Cx} {C : Addr} {e : Expr} {t1 t2 : TE} (m1 : Mono t1) (m2 : Mono t2) (h : PE X e (tMake C (spInit C) [] E0 (tCons (tCB (rList X.K) (tCons t1 tNil)) (tCons (tCB (rList X.K) (tCons t2 tNil)) tNil)))) : PE X e (tSysL C t1 t2) := by
  refine ⟨fun pins s σ H Q I hq => h.run pins s σ H Q I ?_⟩
  refine m1 _ _ _ _ (fun v1 H1 g => ?_) hq
  obtain ⟨a, ts, rfl, hA, N, g⟩ := g
  refine ⟨a, _, rfl, .inl (SqL.of hA), fun l1 n1 => ?_⟩
  have s1 := same_new (o := .lst (ts.map V.str)) n1
  refine m2 _ _ _ _ (fun v2 H3 g => ?_) (g _ s1)
  obtain ⟨b, rs, rfl, s2, hB, hk, hro, hz, q⟩ := g
  refine ⟨b, _, rfl, .inl (SqL.of hB), fun l2 n2 => ?_⟩
  have hl1 : H3 l1 = some (.lst (ts.map V.str)) := s2 _ _ upd_same
  have s3 := same_new (o := .lst (rs.map fun p => V.ref p.2)) n2
  refine fun x dx nx ndx _ => init_sys (ts := ts) (rs := rs) nx ndx (s3 _ _ hl1) N upd_same (fun p hp => s3 _ _ (hk p hp)) hro hz fun H' s4 hS => ⟨rfl, ?_⟩
  have eL : (inOrder (putAll rs [])).map (·.1) = canon (rs.map (·.1)) := inOrder_canon rs
  refine q x _ H' (s3.trans s4) (hS.from_ s3) eL ?_
  have h1 := congrArg List.length eL
  have h2 := canon_len (rs.map (·.1))
  rw [List.length_map] at h1 h2
  omega
end
end Wnd

/-! models of the law; tasks made of them; their prices -/
namespace Wnd
open PySem PySem.Spec PyProof.Rows L2
abbrev s_law_task : Stmt := top 65
theorem sc_law_task : FnScope ["_law_model_here"] ["_law_model_here"] (defScope s_law_task) := ⟨rfl, rfl, rfl, by decide +kernel, rfl, by decide +kernel, by decide +kernel⟩
section
variable {P : Program} {w : World} {K : PySem.W.Frag} {mg : Str → Option Value} {base : Heap}
theorem mono_ixT {K : PySem.W.Frag} (i : Nat) (c : Int) : Mono (tOp (rIxT K) (tVar i) (tC (.int c))) := fun σ H Q R h => by
  rintro ⟨v, h1, p, xs, j, z, e1, e2, h2, h3, q⟩
  exact ⟨v, h1, p, xs, j, z, e1, e2, h2, h3, h _ _ q⟩
theorem canon_le {rs L : List (Rule × Addr)} (h : L.map (·.1) = canon (rs.map (·.1))) : L.length ≤ rs.length := by
  have h1 : (L.map (·.1)).length ≤ (rs.map (·.1)).length := by rw [h]; exact canon_len _
  rwa [List.length_map, List.length_map] at h1
/-- a model of the law lies at M -/
structure ModelAt (H : Hp) (M an gp d0 T d : Addr) (ts : List Str) (rs : List (Rule × Addr)) (g : List (Str × Int)) (r l : Int) (G : Own) : Prop where
  m : H M = some (.tup [.ref an, .ref gp, .ref d0, .ref T])
  an : H an = some (.lst (ts.map V.str))
  ok : NamesOk ts
  gp : H gp = some (.lst (rs.map fun x => V.ref x.2))
  kt : KeyTups H rs
  ro : ∀ x ∈ rs, RuleOk ts x.1
  lr : rs.length ≤ 1000
  d0 : H d0 = some (.dK (goalKV g))
  nums : NumsOk ts g
  deal : DealAt H T d r l G
theorem ModelAt.same {H H' : Hp} {M an gp d0 T d : Addr} {ts : List Str} {rs : List (Rule × Addr)} {g : List (Str × Int)} {r l : Int} {G : Own} (h : ModelAt H M an gp d0 T d ts rs g r l G) (s : Same H H') : ModelAt H' M an gp d0 T d ts rs g r l G :=
  ⟨s _ _ h.m, s _ _ h.an, h.ok, s _ _ h.gp, fun x hx => s _ _ (h.kt x hx), h.ro, h.lr, s _ _ h.d0, h.nums, h.deal.same s⟩
theorem ModelAt.but {p c : Addr} {n : Nat} {H H' : Hp} {M an gp d0 T d : Addr} {ts : List Str} {rs : List (Rule × Addr)} {g : List (Str × Int)} {r l : Int} {G : Own} (h : ModelAt H M an gp d0 T d ts rs g r l G) (P : PenAt H p c n) (b : But p H H') : ModelAt H' M an gp d0 T d ts rs g r l G :=
  ⟨b _ _ h.m (P.ne_of h.m fun _ z => nomatch z), b _ _ h.an (P.ne_strs h.an), h.ok, b _ _ h.gp (P.ne_refs (L := rs.map (·.2)) (by rw [List.map_map]; exact h.gp)), fun x hx => b _ _ (h.kt x hx) (P.ne_of (h.kt x hx) fun _ z => nomatch z), h.ro, h.lr, b _ _ h.d0 (P.ne_of h.d0 fun _ z => nomatch z), h.nums,
    ⟨b _ _ h.deal.t (P.ne_of h.deal.t fun _ z => nomatch z), b _ _ h.deal.d (P.ne_of h.deal.d fun _ z => nomatch z), h.deal.r, h.deal.l, h.deal.ok, h.deal.len⟩⟩
theorem SysAt.butP {C x p c : Addr} {H H' : Hp} {n : Nat} {ns : List Str} {L : List (Rule × Addr)} (h : SysAt C H x ns L) (P : PenAt H p c n) (b : But p H H') : SysAt C H' x ns L := by
  obtain ⟨dx, ln, lr, h1, h2, h3, h4, h5⟩ := h
  exact ⟨dx, ln, lr, b _ _ h1 (P.ne_of h1 fun _ z => nomatch z), b _ _ h2 (P.ne_strs h2), b _ _ h3 (P.ne_refs (L := L.map (·.2)) (by rw [List.map_map]; exact h3)), fun q hq => b _ _ (h4 q hq) (P.ne_of (h4 q hq) fun _ z => nomatch z), h5⟩
theorem TaskAt.butP {C CP CT x p c : Addr} {H H' : Hp} {n : Nat} {ns : List Str} {L : List (Rule × Addr)} {g : List (Str × Int)} {r l : Int} {G : Own} (h : TaskAt C CP CT H x ns L g r l G) (P : PenAt H p c n) (b : But p H H') : TaskAt C CP CT H' x ns L g r l G := by
  obtain ⟨dx, sx, ld, px, h1, ⟨h2, h3, h4, dp, lp, h5, h6, h7⟩⟩ := h
  exact ⟨dx, sx, ld, px, b _ _ h1 (P.ne_of h1 fun _ z => nomatch z), ⟨h2.butP P b, b _ _ h3 (P.ne_of h3 fun _ z => nomatch z), h4, dp, lp, b _ _ h5 (P.ne_of h5 fun _ z => nomatch z), b _ _ h6 (P.ne_of h6 fun _ z => nomatch z), h7⟩⟩
def spThereL (C : Addr) : Sp := fun vs H Q _ => ∃ (M an gp d0 T d : Addr) (ts : List Str) (rs : List (Rule × Addr)) (g : List (Str × Int)) (r l : Int) (G : Own), vs = [.ref M] ∧ ModelAt H M an gp d0 T d ts rs g r l G ∧
  ∀ x L H', Same H H' → SysNew C H H' x (sortN ts) L → L.map (·.1) = canon (rs.map (·.1)) → L.length ≤ rs.length → Q (.ref x) H'
theorem ok_thereL {C : Addr} {f : Addr} {fd : FuncData} (D : DefAt K mg "_law_there" s_law_there ["_law_model_here"] f fd) (B : Blt mg) (C_System : mg "System" = some (.ref C)) (OM : OkMk P w K mg base C 5 ["self", "names", "rules"] (spInit C)) : Ok P w K mg base 7 "_law_there" ["_law_model_here"] (spThereL C) := by
  refine D.ok (D.fn.ok sc_law_there (fun vs H Q E h => ?_) (fun cdv A outer s H vs Q E hr h => ?_))
  · obtain ⟨M, an, gp, d0, T, d, ts, rs, g, r, l, G, rfl, _⟩ := h
    rfl
  · obtain ⟨M, an, gp, d0, T, d, ts, rs, g, r, l, G, rfl, hM, q⟩ := h
    refine ⟨_, (pss_one (ps_ret (pe_sysW (mono_ixT 0 0) (mono_ixT 0 1) (pe_mk OM (hr.mono (by decide)) C_System (pa_cons (pe_callTy call_list_of (by rfl) B.list (by decide +kernel) (pa_cons (pe_ix ix_tup (pv 0) pe_int (fun _ _ => rfl)) pa_nil)) (pa_cons (pe_callTy call_list_of (by rfl) B.list (by decide +kernel) (pa_cons (pe_ix ix_tup (pv 0) pe_int (fun _ _ => rfl)) pa_nil)) pa_nil)))))), ?_⟩
    exact ⟨_, rfl, M, _, 0, .ref an, rfl, rfl, SqT.of hM.m, atI_nat (j := 0) rfl, an, ts, rfl, hM.an, hM.ok, fun H2 s2 => ⟨_, rfl, M, _, 1, .ref gp, rfl, rfl, SqT.of (s2 _ _ hM.m), atI_nat (j := 1) rfl, gp, rs, rfl, Same.refl _, s2 _ _ hM.gp, fun p hp => s2 _ _ (hM.kt p hp), hM.ro, (by have := hM.lr; omega), fun x L H3 s3 hS eL lL => q x L H3 (s2.trans s3) (hS.from_ s2) eL lL⟩⟩
theorem task_init {C CP CT x dx sx d px : Addr} {H : Hp} {ns : List Str} {L : List (Rule × Addr)} {g : List (Str × Int)} {r l : Int} {G : Own} {Qn : VK} {E : XK} (nx : H x = none) (ndx : H dx = none) (hs : SysAt C H sx ns L) (hd : H d = some (.dK (goalKV g))) (hn : NumsOk ns g) (hp : PrcAt CP H px r l G)
    (h : ∀ H', Same H H' → TaskAt C CP CT H' x ns L g r l G → Qn .non H') : spTaInit C CT [.ref x, .ref sx, .ref d, .ref px] (upd (upd H dx (.own x)) x (.ins CT dx [])) Qn E := by
  have s0 : Same H (upd (upd H dx (.own x)) x (.ins CT dx [])) := fun b o hb => by
    rw [upd_ne (ne_of_none hb nx), upd_ne (ne_of_none hb ndx)]
    exact hb
  refine ⟨x, dx, sx, d, px, ns, L, g, rfl, upd_same, hs.same s0, s0 _ _ hd, hn, fun ld H' b nld h1 h2 => ?_⟩
  have s1 : Same H H' := fun b' o hb => b _ _ (s0 _ _ hb) (ne_of_none hb nx)
  exact h H' s1 ⟨dx, sx, ld, px, h1, ⟨hs.same s1, h2, hn, hp.same s1⟩⟩
def spTaskL (C CP CT : Addr) : Sp := fun vs H Q _ => ∃ (M an gp d0 T d : Addr) (ts : List Str) (rs : List (Rule × Addr)) (g : List (Str × Int)) (r l : Int) (G : Own), vs = [.ref M] ∧ ModelAt H M an gp d0 T d ts rs g r l G ∧
  ∀ x L H', Same H H' → TaskAt C CP CT H' x (sortN ts) L g r l (sortO G) → L.map (·.1) = canon (rs.map (·.1)) → L.length ≤ rs.length → Q (.ref x) H'
theorem nums_sort {ts : List Str} {g : List (Str × Int)} (h : NumsOk ts g) : NumsOk (sortN ts) g := ⟨h.1.trans (sortN_perm ts).symm, h.2⟩
theorem ok_taskL {C CP CT : Addr} {f : Addr} {fd : FuncData} (D : DefAt K mg "_law_task" s_law_task ["_law_model_here"] f fd) (C_Task : mg "Task" = some (.ref CT)) (OT : OkMk P w K mg base CT 6 ["self", "system", "numbers", "prices"] (spTaInit C CT)) (O_law_there : Ok P w K mg base 7 "_law_there" ["_law_model_here"] (spThereL C)) (O_law_prices : Ok P w K mg base 7 "_law_prices" ["_law_deal_here"] (spPricesL CP)) :
    Ok P w K mg base 8 "_law_task" ["_law_model_here"] (spTaskL C CP CT) := by
  refine D.ok (D.fn.ok sc_law_task (fun vs H Q E h => ?_) (fun cdv A outer s H vs Q E hr h => ?_))
  · obtain ⟨M, an, gp, d0, T, d, ts, rs, g, r, l, G, rfl, _⟩ := h
    rfl
  · obtain ⟨M, an, gp, d0, T, d, ts, rs, g, r, l, G, rfl, hM, q⟩ := h
    refine ⟨_, (pss_one (ps_ret (pe_mk OT (hr.mono (by decide)) C_Task (pa_cons (pe_own O_law_there (hr.mono (by decide)) (pa_cons (pv 0) pa_nil)) (pa_cons (pe_ix ix_tup (pv 0) pe_int (fun _ _ => rfl)) (pa_cons (pe_own O_law_prices (hr.mono (by decide)) (pa_cons (pe_ix ix_tup (pv 0) pe_int (fun _ _ => rfl)) pa_nil)) pa_nil)))))), ?_⟩
    refine ⟨_, rfl, M, an, gp, d0, T, d, ts, rs, g, r, l, G, rfl, hM, fun sx L H1 s1 hS eL lL => ?_⟩
    have M1 := hM.same s1
    refine ⟨_, rfl, M, _, 2, .ref d0, rfl, rfl, SqT.of M1.m, atI_nat (j := 2) rfl, ?_⟩
    refine ⟨_, rfl, M, _, 3, .ref T, rfl, rfl, SqT.of M1.m, atI_nat (j := 3) rfl, T, d, r, l, G, rfl, M1.deal, fun px H2 s2 hP => ?_⟩
    exact fun x dx nx ndx _ => task_init nx ndx (hS.at_.same s2) (s2 _ _ M1.d0) (nums_sort hM.nums) hP.at_ fun H3 s3 ta => ⟨rfl, q x L H3 ((s1.trans s2).trans s3) ta eL lL⟩
theorem perm_sum {a b : List Int} (p : a.Perm b) : a.sum = b.sum := by
  induction p with
  | nil => rfl
  | cons x _ ih => rw [List.sum_cons, List.sum_cons, ih]
  | swap x y l => rw [List.sum_cons, List.sum_cons, List.sum_cons, List.sum_cons]; omega
  | trans _ _ ih1 ih2 => rw [ih1, ih2]
theorem priceO_perm {ns ts : List Str} {r l : Int} {G : Own} {g gn : List (Str × Int)} (p : ns.Perm ts) : priceO ns r l G g gn = priceO ts r l G g gn := by
  unfold priceO
  have h1 : ns.any (brkB G g gn) = ts.any (brkB G g gn) := by
    rw [Bool.eq_iff_iff, List.any_eq_true, List.any_eq_true]
    exact ⟨fun ⟨t, ht, e⟩ => ⟨t, p.mem_iff.mp ht, e⟩, fun ⟨t, ht, e⟩ => ⟨t, p.mem_iff.mpr ht, e⟩⟩
  have h2 : (ns.map fun t => costC r l G t (valG gn (some t) - valG g (some t))).sum = (ts.map fun t => costC r l G t (valG gn (some t) - valG g (some t))).sum := perm_sum (p.map _)
  rw [h1, h2]
theorem fix_sort (G : Own) (t : Str) : fixB (sortO G) t = fixB G t := by
  unfold fixB
  rw [val_sort]
theorem pair_sort (r l : Int) (G : Own) (t : Str) : pairN r l (sortO G) t = pairN r l G t := by
  unfold pairN
  rw [val_sort]
theorem priceO_sort {ts : List Str} {r l : Int} {G : Own} {g gn : List (Str × Int)} : priceO ts r l (sortO G) g gn = priceO ts r l G g gn := by
  unfold priceO
  have h1 : brkB (sortO G) g gn = brkB G g gn := by
    funext t
    unfold brkB
    rw [fix_sort]
  have h2 : (fun t => costC r l (sortO G) t (valG gn (some t) - valG g (some t))) = fun t => costC r l G t (valG gn (some t) - valG g (some t)) := by
    funext t
    unfold costC
    rw [pair_sort]
  rw [h1, h2]
def spLawPrice : Sp := fun vs H Q _ => ∃ (M hd an gp d0 T d : Addr) (ts : List Str) (rs : List (Rule × Addr)) (g gn : List (Str × Int)) (r l : Int) (G : Own), vs = [.ref M, .ref hd] ∧ ModelAt H M an gp d0 T d ts rs g r l G ∧ H hd = some (.dK (goalKV gn)) ∧ NumsOk ts gn ∧ Q (optV (priceO ts r l G g gn)) H
end
end Wnd

/-! models drawn by the law -/
namespace Wnd
open PySem PySem.Spec PyProof.Rows L2
abbrev s_law_model : Stmt := top 63
theorem sc_law_model : FnScope ["_law_pen_here", "_law_most", "_law_many", "_law_nyms_here", "_law_gaps_here", "_law_goals", "_law_old"] ["_law_pen_here", "_law_most", "_law_many"] (defScope s_law_model) := ⟨rfl, rfl, rfl, by decide +kernel, rfl, by decide +kernel, by decide +kernel⟩
section
variable {P : Program} {w : World} {K : PySem.W.Frag} {mg : Str → Option Value} {base : Heap}
theorem penL {H : Hp} {p c : Addr} {n : Nat} (h : PenAt H p c n) : ∃ ys, H p = some (.lst ys) := by
  obtain ⟨cs, i, z, g1, g2, g3, g4⟩ := h
  exact ⟨_, g4⟩
structure PreM (X : Hp) (an bg gl d1 d2 : Addr) (ts : List Str) (rs : List (Rule × Addr)) (g1 g2 : List (Str × Int)) : Prop where
  an : X an = some (.lst (ts.map V.str))
  bg : X bg = some (.lst (rs.map fun x => V.ref x.2))
  kt : KeyTups X rs
  gl : X gl = some (.lst [.ref d1, .ref d2])
  one : DictAt X ts d1 g1
  two : DictAt X ts d2 g2
theorem PreM.same {X Y : Hp} {an bg gl d1 d2 : Addr} {ts : List Str} {rs : List (Rule × Addr)} {g1 g2 : List (Str × Int)} (h : PreM X an bg gl d1 d2 ts rs g1 g2) (s : Same X Y) : PreM Y an bg gl d1 d2 ts rs g1 g2 :=
  ⟨s _ _ h.an, s _ _ h.bg, fun x hx => s _ _ (h.kt x hx), s _ _ h.gl, h.one.same s, h.two.same s⟩
theorem PreM.but {p c : Addr} {n : Nat} {X Y : Hp} {an bg gl d1 d2 : Addr} {ts : List Str} {rs : List (Rule × Addr)} {g1 g2 : List (Str × Int)} (h : PreM X an bg gl d1 d2 ts rs g1 g2) (P : PenAt X p c n) (b : But p X Y) : PreM Y an bg gl d1 d2 ts rs g1 g2 :=
  ⟨b _ _ h.an (P.ne_strs h.an), b _ _ h.bg (P.ne_refs (L := rs.map (·.2)) (by rw [List.map_map]; exact h.bg)), fun x hx => b _ _ (h.kt x hx) (P.ne_of (h.kt x hx) fun _ z => nomatch z), b _ _ h.gl (P.ne_refs (L := [d1, d2]) h.gl), h.one.but b (penL P), h.two.but b (penL P)⟩
/-- numbers that keep all rules -/
def Kept (ts : List Str) (rs : List (Rule × Addr)) : Prop := ∃ g : List (Str × Int), g.map (·.1) = ts ∧ (∀ x ∈ g, -900 ≤ x.2 ∧ x.2 ≤ 900) ∧ ∀ x ∈ rs, Holds g x.1
def spModelD : Sp := fun vs H Q _ => ∃ (p c : Addr) (n m k : Nat), vs = [.ref p, .int m, .int k] ∧ PenAt H p c n ∧ n ≤ 500000 ∧ m ≤ 20 ∧ k ≤ 200 ∧
  ∀ M an gp d0 T d ts rs g r l G H' n', But p H H' → ModelAt H' M an gp d0 T d ts rs g r l G → H M = none → H an = none → H d0 = none → H T = none → H d = none → (∀ t ∈ ts, t ∈ nymPool) → ts.length ≤ m → rs.length ≤ 2 * k → Kept ts rs → g.map (·.1) = ts → (∀ x ∈ g, -900 ≤ x.2 ∧ x.2 ≤ 900) → G.length ≤ 26 → PenAt H' p c n' → n' ≤ n + 5 * m + 4 * k + 80 → Q (.ref M) H'
set_option maxHeartbeats 4000000 in
theorem ok_modelD {f : Addr} {fd : FuncData} (D : DefAt K mg "_law_model" s_law_model ["_law_pen_here", "_law_most", "_law_many"] f fd) (O_law_draw : Ok P w K mg base 2 "_law_draw" ["_law_pen_here", "_law_under"] spDraw) (O_law_goal : Ok P w K mg base 3 "_law_goal" ["_law_pen_here", "_law_nyms_here"] (spGoal K)) (O_law_drawn : Ok P w K mg base 5 "_law_drawn" ["_law_pen_here", "_law_most", "_law_many"] spDrawn)
    (O_law_deal : Ok P w K mg base 3 "_law_deal" ["_law_pen_here", "_law_nyms_here"] spDeal) : Ok P w K mg base 6 "_law_model" ["_law_pen_here", "_law_most", "_law_many"] spModelD := by
  refine D.ok (D.fn.ok sc_law_model (fun vs H Q E h => ?_) (fun cdv A outer s H vs Q E hr h => ?_))
  · obtain ⟨p, c, n, m, k, rfl, _⟩ := h
    rfl
  · obtain ⟨p, c, n, m, k, rfl, Pc, hn, hm, hk', q⟩ := h
    have nd := sc_law_model.nd
    refine ⟨_, (pss_cons (ps_asg (pe_own O_law_drawn (hr.mono (by decide)) (pa_cons (pv 0) (pa_cons (pv 1) (pa_cons (pv 2) pa_nil)))) (pg_tup rfl (pgs_cons (pg_name (i := 3) nd rfl (Or.inl rfl)) (pgs_cons (pg_name (i := 4) nd rfl (Or.inl rfl)) (pgs_cons (pg_name (i := 5) nd rfl (Or.inl rfl)) pgs_nil)))))
      (pss_cons (ps_set (i := 6) nd rfl (Or.inl rfl) (pe_ix ix_list (pe_lst (pa_cons (pe_ix ix_list (pv 5) pe_int (fun _ _ => rfl)) (pa_cons (pe_ix ix_list (pv 5) pe_int (fun _ _ => rfl)) (pa_cons (pe_own O_law_goal (hr.mono (by decide)) (pa_cons (pv 0) (pa_cons (pv 3) pa_nil))) pa_nil)))) (pe_own O_law_draw (hr.mono (by decide)) (pa_cons (pv 0) (pa_cons pe_int pa_nil))) (fun _ _ => rfl)))
      (pss_one (ps_ret (pe_tup (pa_cons (pv 3) (pa_cons (pv 4) (pa_cons (pv 6) (pa_cons (pe_own O_law_deal (hr.mono (by decide)) (pa_cons (pv 0) (pa_cons (pv 3) pa_nil))) pa_nil))))))))), ?_⟩
    refine ⟨_, rfl, _, rfl, _, rfl, p, c, n, m, k, rfl, Pc, by omega, by omega, by omega, fun t an bg gl H2 n2 ts rs d1 d2 g1 g2 b2 nt nan nbg ngl nd1 nd2 ht han N mem hlen hbg hk hro hrl hgl hd1 hd2 k1 k2 v1 v2 hol P2 hn2 => ?_⟩
    refine ⟨t, _, rfl, SqT.of ht, rfl, _, _, rfl, _, _, rfl, _, _, rfl, rfl, ?_⟩
    have Y2 : PreM H2 an bg gl d1 d2 ts rs g1 g2 := ⟨han, hbg, hk, hgl, ⟨hd1, by rw [k1], fun x hx => by have := v1 x hx; omega⟩, ⟨hd2, by rw [k2], fun x hx => by have := v2 x hx; omega⟩⟩
    have pP : p ≠ an := by
      intro e
      obtain ⟨ys, hy⟩ := penL Pc
      rw [← e, hy] at nan
      cases nan
    obtain ⟨ysP, hyP⟩ := penL Pc
    clear ht hgl nt nbg ngl han hbg hk hd1 hd2
    refine ⟨_, rfl, gl, _, 0, .ref d1, rfl, rfl, SqL.of Y2.gl, atI_nat (j := 0) rfl, ?_⟩
    refine ⟨_, rfl, gl, _, 1, .ref d2, rfl, rfl, SqL.of Y2.gl, atI_nat (j := 1) rfl, ?_⟩
    have lN := N.2.2
    refine ⟨_, rfl, _, rfl, p, c, an, n2, ts, rfl, P2, by omega, Y2.an, N.1, by omega, fun r1 H3 n3 gq b3 nr1 hr1 e3 v3 P3 hn3 => ?_⟩
    have Y3 := Y2.but P2 b3
    have R3 : DictAt H3 ts r1 gq := ⟨hr1, by rw [e3], fun x hx => by have := v3 x hx; omega⟩
    have bH3 := b2.trans b3
    have nr1H : H r1 = none := by
      cases e : H r1 with
      | none => rfl
      | some o =>
        by_cases z : r1 = p
        · obtain ⟨ys, hy⟩ := penL P2
          rw [z, hy] at nr1
          cases nr1
        · rw [b2 _ _ e z] at nr1
          cases nr1
    refine ⟨by show 3 ≤ sizeLine; decide, fun l3 nl3 => ?_⟩
    have u4 := same_new (o := .lst [.ref d1, .ref d2, .ref r1]) nl3
    have hl3 : (upd H3 l3 (.lst [.ref d1, .ref d2, .ref r1])) l3 = some (.lst [.ref d1, .ref d2, .ref r1]) := upd_same
    have Y4 := Y3.same u4
    have R4 := R3.same u4
    have P4 := P3.same u4
    have bH4 := bH3.trans (But.of u4)
    generalize upd H3 l3 (.lst [.ref d1, .ref d2, .ref r1]) = H4 at u4 hl3 Y4 R4 P4 bH4 ⊢
    clear Y2 Y3 R3 b3 nr1 hr1 P2 P3 u4 nl3 bH3
    refine ⟨_, rfl, p, c, n3, 3, rfl, P4, by omega, by decide, by decide, fun e H5 he0 he1 b5 P5 => ?_⟩
    have Y5 := Y4.but P4 b5
    have hl5 := b5 _ _ hl3 (P4.ne_refs (L := [d1, d2, r1]) hl3)
    have R5 := R4.but b5 (penL P4)
    have bH5 := bH4.trans b5
    obtain ⟨ei, rfl⟩ := Int.eq_ofNat_of_zero_le he0
    have pick3 : ∃ dM gM, atI [V.ref d1, .ref d2, .ref r1] (ei : Int) = some (.ref dM) ∧ DictAt H5 ts dM gM ∧ (∀ x ∈ gM, -900 ≤ x.2 ∧ x.2 ≤ 900) ∧ gM.map (·.1) = ts ∧ H dM = none := by
      have h3 : ei < 3 := by omega
      match ei, h3 with
      | 0, _ => exact ⟨d1, g1, atI_nat (j := 0) rfl, Y5.one, v1, k1, nd1⟩
      | 1, _ => exact ⟨d2, g2, atI_nat (j := 1) rfl, Y5.two, v2, k2, nd2⟩
      | 2, _ => exact ⟨r1, gq, atI_nat (j := 2) rfl, R5, v3, e3, nr1H⟩
    obtain ⟨dM, gM, hat, M5, vM, kM, ndM⟩ := pick3
    refine ⟨l3, _, (ei : Int), .ref dM, rfl, rfl, SqL.of hl5, hat, ?_⟩
    clear hl3 hl5 hat R4 R5 Y4 P4 he0 he1 b5 bH4
    refine ⟨_, rfl, _, rfl, _, rfl, _, rfl, _, rfl, p, c, an, n3 + 1, ts, rfl, P5, by omega, Y5.an, N.2.1, by omega, fun T d r l' G H6 n6 b6 nT nd' hT lG26 P6 hn6 => ?_⟩
    have Y6 := Y5.but P5 b6
    have M6 := M5.but b6 (penL P5)
    have bH6 := bH5.trans b6
    have back : ∀ z, H5 z = none → H z = none := fun z hz => by
      cases e : H z with
      | none => rfl
      | some o =>
        by_cases y : z = p
        · obtain ⟨ys, hy⟩ := penL P5
          rw [y, hy] at hz
          cases hz
        · rw [bH5 _ _ e y] at hz
          cases hz
    refine ⟨by show 4 ≤ sizeLine; decide, fun M nM => ?_⟩
    have u7 := same_new (o := .tup [.ref an, .ref bg, .ref dM, .ref T]) nM
    have Y7 := Y6.same u7
    have M7 := M6.same u7
    refine q M an bg dM T d ts rs gM r l' G _ n6 (bH6.trans (But.of u7)) ⟨upd_same, Y7.an, N, Y7.bg, Y7.kt, hro, by omega, M7.at_, ⟨M7.keys, M7.bnd⟩, hT.same u7⟩ ?_ nan ndM (back _ nT) (back _ nd') mem hlen hrl ⟨g1, k1, v1, hol⟩ kM vM lG26 (P6.same u7) (by omega)
    cases e : H M with
    | none => rfl
    | some o =>
      by_cases y : M = p
      · obtain ⟨ys, hy⟩ := penL P6
        rw [y, hy] at nM
        cases nM
      · rw [bH6 _ _ e y] at nM
        cases nM
end
end Wnd

/-! rules that show alike are the same -/
namespace Wnd
open PySem PySem.Spec PyProof.Rows L2 PySem.Builtin.Str
theorem cps_app (a b : Str) : (a ++ b).cps.toList = a.cps.toList ++ b.cps.toList := by
  show (Str.append a b).cps.toList = _
  unfold Str.append
  simp
theorem str_ext {a b : Str} (h : a.cps.toList = b.cps.toList) : a = b := by
  cases a
  cases b
  congr
  exact Array.toList_inj.mp h
theorem letter_range {c : Nat} (h : letterOk c = true) : 97 ≤ c ∧ c ≤ 122 := by
  unfold letterOk at h
  rw [Bool.and_eq_true, Bool.not_eq_true', Bool.not_eq_true', decide_eq_false_iff_not, decide_eq_false_iff_not] at h
  have h1 : ¬ (c < 97) := fun z => h.1 (List.Lex.rel z)
  have h2 : ¬ (122 < c) := fun z => h.2 (List.Lex.rel z)
  omega
theorem name_letters {t : Str} (h : nameB t = true) : ∀ c ∈ t.cps.toList, 97 ≤ c ∧ c ≤ 122 := fun c hc => by
  unfold nameB at h
  rw [Bool.and_eq_true, List.all_eq_true] at h
  exact letter_range (h.2 c hc)
theorem letters_printable : ∀ k : Fin 26, Unicode.isPrintable (97 + k.val) = true := by decide +kernel
theorem repr_letter {c : Nat} (h : 97 ≤ c ∧ c ≤ 122) : reprChar 39 c = [c] := by
  have p := letters_printable ⟨c - 97, by omega⟩
  rw [show 97 + (⟨c - 97, by omega⟩ : Fin 26).val = c from by show 97 + (c - 97) = c; omega] at p
  have n : ∀ k, c ≠ k → (c == k) = false := fun k hk => beq_eq_false_iff_ne.mpr hk
  unfold reprChar
  simp only [n 39 (by omega), n 92 (by omega), n 10 (by omega), n 13 (by omega), n 9 (by omega), p, Bool.or_self, Bool.false_eq_true, if_false, if_true]
theorem fold_letters : ∀ (cs : List Nat) (acc : Array Nat), (∀ c ∈ cs, 97 ≤ c ∧ c ≤ 122) → (cs.foldl (fun out c => out ++ (reprChar 39 c).toArray) acc).toList = acc.toList ++ cs
  | [], acc, _ => by simp
  | c :: r, acc, h => by
    rw [List.foldl_cons, fold_letters r _ fun x hx => h x (List.mem_cons_of_mem _ hx), repr_letter (h c List.mem_cons_self)]
    simp
theorem name_text {t : Str} (h : nameB t = true) : (reprText t).cps.toList = 39 :: (t.cps.toList ++ [39]) := by
  have q : reprQuote t = 39 := by
    unfold reprQuote
    have : t.cps.contains 39 = false := by
      rw [Bool.eq_false_iff]
      intro z
      have := name_letters h 39 (by simpa using z)
      omega
    rw [this]
    rfl
  unfold reprText
  rw [q]
  show ((t.cps.foldl (fun out c => out ++ (reprChar 39 c).toArray) #[39]).push 39).toList = _
  rw [Array.toList_push, ← Array.foldl_toList, fold_letters _ _ (name_letters h)]
  rfl
theorem cut_at {s : Nat} : ∀ {a b xs ys : List Nat}, s ∉ a → s ∉ b → a ++ s :: xs = b ++ s :: ys → a = b ∧ xs = ys
  | [], [], xs, ys, _, _, h => ⟨rfl, by simpa using h⟩
  | [], c :: b, xs, ys, _, n, h => by
    have : s = c := by simpa using congrArg List.head? h
    exact (n (this ▸ List.mem_cons_self)).elim
  | c :: a, [], xs, ys, n, _, h => by
    have : c = s := by simpa using congrArg List.head? h
    exact (n (this ▸ List.mem_cons_self)).elim
  | c :: a, d :: b, xs, ys, n1, n2, h => by
    rw [List.cons_append, List.cons_append] at h
    injection h with h1 h2
    obtain ⟨e1, e2⟩ := cut_at (fun z => n1 (List.mem_cons_of_mem _ z)) (fun z => n2 (List.mem_cons_of_mem _ z)) h2
    exact ⟨by rw [h1, e1], e2⟩
/-- an end's text -/
def endCs (e : Option Str) : List Nat := (PyData.shown (endD e)).cps.toList
theorem none_cs : endCs none = [78, 111, 110, 101] := by decide +kernel
theorem some_cs {t : Str} (h : nameB t = true) : endCs (some t) = 39 :: (t.cps.toList ++ [39]) := name_text h
theorem endCs_comma {e : Option Str} (h : ∀ t, e = some t → nameB t = true) : 44 ∉ endCs e := by
  cases e with
  | none =>
    rw [none_cs]
    decide
  | some t =>
    rw [some_cs (h t rfl)]
    intro z
    rcases List.mem_cons.mp z with z | z
    · cases z
    · rcases List.mem_append.mp z with z | z
      · have := name_letters (h t rfl) 44 z
        omega
      · cases List.mem_singleton.mp z
theorem endCs_inj {e e' : Option Str} (h : ∀ t, e = some t → nameB t = true) (h' : ∀ t, e' = some t → nameB t = true) (eq : endCs e = endCs e') : e = e' := by
  cases e with
  | none =>
    cases e' with
    | none => rfl
    | some t =>
      rw [none_cs, some_cs (h' t rfl)] at eq
      cases eq
  | some t =>
    cases e' with
    | none =>
      rw [none_cs, some_cs (h t rfl)] at eq
      cases eq
    | some t' =>
      rw [some_cs (h t rfl), some_cs (h' t' rfl)] at eq
      injection eq with _ eq
      have := List.append_cancel_right eq
      rw [str_ext this]
/-- a gap's text -/
def gapCs (i : Int) : List Nat := (PyData.shown (.int i)).cps.toList
def gapOf : List Nat → Int
  | 45 :: r => -((r.foldl (fun n c => n * 10 + (c - 48)) 0 : Nat) : Int)
  | r => ((r.foldl (fun n c => n * 10 + (c - 48)) 0 : Nat) : Int)
theorem gaps_check : ∀ k : Fin 1999, gapOf (gapCs ((k.val : Int) - 999)) = (k.val : Int) - 999 := by decide +kernel
theorem gapCs_inj {i j : Int} (hi : -999 ≤ i ∧ i ≤ 999) (hj : -999 ≤ j ∧ j ≤ 999) (h : gapCs i = gapCs j) : i = j := by
  have key : ∀ i : Int, -999 ≤ i ∧ i ≤ 999 → gapOf (gapCs i) = i := fun i hi => by
    have := gaps_check ⟨(i + 999).toNat, by omega⟩
    have e : (((⟨(i + 999).toNat, by omega⟩ : Fin 1999).val : Nat) : Int) - 999 = i := by
      show ((i + 999).toNat : Int) - 999 = i
      omega
    rw [e] at this
    exact this
  rw [← key i hi, ← key j hj, h]
theorem rule_cs (r : Rule) : (PyData.shown (ruleD r)).cps.toList = 40 :: (endCs r.low ++ 44 :: (32 :: (endCs r.high ++ 44 :: (32 :: (gapCs r.gap ++ [41]))))) := by
  have e : PyData.shown (ruleD r) = ("(" : Str) ++ (PyData.shown (endD r.low) ++ ", " ++ (PyData.shown (endD r.high) ++ ", " ++ PyData.shown (.int r.gap))) ++ (")" : String) := rfl
  rw [e]
  simp only [cps_app]
  show [40] ++ (endCs r.low ++ [44, 32] ++ (endCs r.high ++ [44, 32] ++ gapCs r.gap)) ++ [41] = _
  simp
theorem rule_inj {a b : Rule} (ha : (∀ t, a.low = some t → nameB t = true) ∧ (∀ t, a.high = some t → nameB t = true) ∧ -999 ≤ a.gap ∧ a.gap ≤ 999) (hb : (∀ t, b.low = some t → nameB t = true) ∧ (∀ t, b.high = some t → nameB t = true) ∧ -999 ≤ b.gap ∧ b.gap ≤ 999) (h : PyData.shown (ruleD a) = PyData.shown (ruleD b)) : a = b := by
  have h : (PyData.shown (ruleD a)).cps.toList = (PyData.shown (ruleD b)).cps.toList := by rw [h]
  rw [rule_cs, rule_cs] at h
  injection h with _ h
  obtain ⟨e1, h⟩ := cut_at (endCs_comma ha.1) (endCs_comma hb.1) h
  injection h with _ h
  obtain ⟨e2, h⟩ := cut_at (endCs_comma ha.2.1) (endCs_comma hb.2.1) h
  injection h with _ h
  have e3 := List.append_cancel_right h
  have e1 := endCs_inj ha.1 hb.1 e1
  have e2 := endCs_inj ha.2.1 hb.2.1 e2
  have e3 := gapCs_inj ha.2.2 hb.2.2 e3
  cases a
  cases b
  simp_all
theorem rule_inj_ok {ts ts' : List Str} (N : NamesOk ts) (N' : NamesOk ts') {a b : Rule} (ha : RuleOk ts a) (hb : RuleOk ts' b) (h : PyData.shown (ruleD a) = PyData.shown (ruleD b)) : a = b :=
  rule_inj ⟨end_name N ha.low, end_name N ha.high, ha.ge, ha.le⟩ ⟨end_name N' hb.low, end_name N' hb.high, hb.ge, hb.le⟩ h
/-- whether a rule's text is among those of rules -/
theorem text_in {ts ts' : List Str} (N : NamesOk ts) (N' : NamesOk ts') {r : Rule} (hr : RuleOk ts r) {rs : List (Rule × Addr)} (h : ∀ p ∈ rs, RuleOk ts' p.1) : inV (V.str (PyData.shown (ruleD r))) (rs.map fun p => V.str (PyData.shown (ruleD p.1))) = decide (r ∈ rs.map (·.1)) := by
  rw [Bool.eq_iff_iff, decide_eq_true_iff]
  constructor
  · intro z
    obtain ⟨y, hy, e⟩ := List.any_eq_true.mp z
    obtain ⟨p, hp, rfl⟩ := List.mem_map.mp hy
    refine List.mem_map.mpr ⟨p, hp, rule_inj_ok N' N (h p hp) hr ?_⟩
    have e := of_decide_eq_true (show decide ((PyData.shown (ruleD p.1)) = PyData.shown (ruleD r)) = true from e)
    exact e
  · intro z
    obtain ⟨p, hp, e⟩ := List.mem_map.mp z
    refine List.any_eq_true.mpr ⟨V.str (PyData.shown (ruleD p.1)), List.mem_map.mpr ⟨p, hp, rfl⟩, ?_⟩
    rw [e]
    exact beq_self_eq_true _
end Wnd

/-! Windowsteps: a def called where nothing is being shown: its body may ask repr of lists and dicts. -/
namespace Wnd
open PySem PySem.Spec PyProof.Rows L2
section
variable {P : Program} {w : World} {K : PySem.W.Frag} {mg : Str → Option Value} {base : Heap}
structure FnG (P : Program) (w : World) (K : PySem.W.Frag) (mg : Str → Option Value) (base : Heap) (k : Nat) (f : Addr) (fd : FuncData) (ps : List Str) (sp : Sp) : Prop where
  len : ∀ vs H Q E, sp vs H Q E → vs.length = ps.length
  run : ∀ (A : Around) (outer : List Env) (s : Shared) (H : Hp) (us : List Value) (vs : List V) (Q : VK) (E : XK), Room k A → A.guards = some [] → Env0 P w K mg base A outer s H → Vals vs us → sp vs H Q E →
    codeAny (model P w) A (.call (.ref f) ⟨us, []⟩) (CR CX0 outer P w H s Q E) s
structure OkG (P : Program) (w : World) (K : PySem.W.Frag) (mg : Str → Option Value) (base : Heap) (k : Nat) (x : Str) (ps : List Str) (sp : Sp) : Prop where
  ex : ∃ (f : Addr) (fd : FuncData), mg x = some (.ref f) ∧ PySem.W.keepIn K (.ref f) = true ∧ FnG P w K mg base k f fd ps sp
theorem Fun.okG {x q : Str} {st : Stmt} {f : Addr} {fd : FuncData} {N ps : List Str} {k : Nat} {sp : Sp} (F : Fun K x q st f fd) (S : FnScope N ps (defScope st)) (bd : Binds K fd ps []) (len : ∀ vs H Q E, sp vs H Q E → vs.length = ps.length)
    (body : ∀ (cdv : Value) (A : Around) (outer : List Env) (s : Shared) (H : Hp) (vs : List V) (Q : VK) (E : XK), Room k (A.deeper (envOfC q (defScope st) s.heap.objs.size f cdv)) → A.guards = some [] → sp vs H Q E →
      ∃ t, PSs (cxOf CX0 P w K mg base N q (defScope st) f cdv A outer s H E).nox (defBody st) t ∧ t { nx := fun _ H' => Q .non H', rt := Q } (L2.start N vs) H) : FnG P w K mg base (k + 1) f fd ps sp := by
  refine ⟨len, fun A outer s H us vs Q E room free env rel h => ?_⟩
  have ln := len _ _ _ _ h
  obtain ⟨oc, od, kV, doc, pm, an, cdv, ct, osl, rfl, lk, hcd⟩ := F.ex
  have kin : K.In s.heap := env.mod.kin.keeps fun b o e => (env.bs b o e).1
  refine StX.run_bnd (G := fun ws H2 => ws = vs ∧ H2 = H ∧ sp ws H2 Q E) lk hcd S room env (fun A' Ex R next => ?_) fun s2 H2 ws g hr => ?_
  · have z := bd s us kin (by rw [List.append_nil, ← rel.length]; exact ln)
    rw [List.append_nil] at z
    exact z _ A' Ex R (next s H vs us env Un.refl rfl (fun _ _ z => z) rel ln ⟨rfl, rfl, h⟩)
  · obtain ⟨rfl, rfl, h2⟩ := g
    obtain ⟨t, ht, hq⟩ := body cdv A outer s2 _ _ Q E hr free h2
    exact ⟨t, ht.nox, hq⟩
theorem DefAt.okG {x : Str} {st : Stmt} {ps : List Str} {f : Addr} {fd : FuncData} {k : Nat} {sp : Sp} (D : DefAt K mg x st ps f fd) (F : FnG P w K mg base k f fd ps sp) : OkG P w K mg base k x ps sp := ⟨f, fd, D.at_, D.fn.kp, F⟩
theorem pe_ownG {X : Cx} {k : Nat} {x : Str} {ps : List Str} {sp : Sp} {p pos : Pos} {e : Expr} {es : List Expr} {t : TA} (O : OkG X.prog X.w X.K X.mg X.base k x ps sp) (hr : Room k X.A) (free : X.A.guards = some []) (ha : PA X (e :: es) t) (hg : Gl X x := by rfl) (hdb : (x == ("__debug__" : Str)) = false := by decide)
    (he : starEach (e :: es) X.env = (false, eval e X.env) :: starEach es X.env := by rfl) (hpl : (backTo pos (starEach es X.env)).any (·.1) = false := by rfl) :
    PE X (.Call (.Name x p) (e :: es) [] pos) (tCall sp [] E0 t) := by
  obtain ⟨f, fd, h1, h2, F⟩ := O.ex
  refine ⟨fun pins s σ H Q I h => ?_⟩
  refine wpAny_Call_Name_kw (ld_glob I hg h1 ?_ hdb)
  refine PySem.W.callWith_K (h₀ := X.base) I.ok.mod.kin h2 (thn (ha.run pos pins s σ H _ I h) ?_) he hpl
  rintro us s1 ⟨vs, H1, I1, r, q⟩
  refine ⟨I1.kIn, ?_⟩
  have q : sp vs H1 Q E0 := by
    have q' := q
    rw [List.append_nil] at q'
    exact q'
  refine wpAny_call (codeAny_mono (F.run X.A X.stack s1 H1 us vs Q E0 hr free I1.env0 r q) fun r s' hq => ?_)
  cases r with
  | error e => exact pass0 pins σ _ _ e s' I1 hq
  | ok fl =>
    cases fl with
    | ret u => exact I1.after hq
    | next => exact False.elim hq
    | brk => exact False.elim hq
    | cont => exact False.elim hq
end
end Wnd

/-! torn tables; lists of rules judged by the law -/
namespace Wnd
open PySem PySem.Spec PyProof.Rows L2
abbrev s_law_ends : Stmt := top 69
theorem sc_law_ends : FnScope ["_law_gaps_here", "_law_thing", "_law_k", "_law_one"] ["_law_gaps_here", "_law_thing"] (defScope s_law_ends) := ⟨rfl, rfl, rfl, by decide +kernel, rfl, by decide +kernel, by decide +kernel⟩
section
variable {P : Program} {w : World} {K : PySem.W.Frag} {mg : Str → Option Value} {base : Heap}
noncomputable def tornB (A : List (Arc Node)) : Bool := @decide (¬ NoPos A) (Classical.propDecidable _)
theorem tornB_true {A : List (Arc Node)} : tornB A = true ↔ ¬ NoPos A := by
  unfold tornB
  exact @decide_eq_true_iff _ (Classical.propDecidable _)
theorem tornB_false {A : List (Arc Node)} : tornB A = false ↔ NoPos A := by
  rw [← Bool.not_eq_true, tornB_true]
  exact Classical.not_not
theorem torn_far {A : List (Arc Node)} {ts : List Node} {L : LF} (hA : ∀ a b g, (a, b, g) ∈ A → a ∈ ts ∧ b ∈ ts) (F : FarOk A ts L) : tornB A = ts.any fun t => decide (0 < (lk (bare L) (t, t)).getD 0) := by
  rw [Bool.eq_iff_iff, tornB_true, List.any_eq_true]
  constructor
  · intro np
    refine Classical.byContradiction fun no => np ?_
    have z : ZeroF (bare L) := fun t x hx => by
      by_cases ht : t ∈ ts
      · by_cases e : 0 < x
        · exact (no ⟨t, ht, decide_eq_true (by rw [hx]; exact e)⟩).elim
        · omega
      · obtain ⟨p, hp, e⟩ := List.mem_map.mp (lk_key hx)
        obtain ⟨p', hp', e'⟩ := List.mem_map.mp hp
        have e2 : p'.1 = (t, t) := by
          rw [← e, ← e']
        have := (F.inn.2 p' hp').1
        rw [e2] at this
        exact (ht this).elim
    have c := F.compl z
    intro a n t w
    rcases w with ⟨_, _, rfl⟩ | ⟨is, rfl, w⟩
    · exact Int.le_refl _
    · have ha : a ∈ ts := by
        cases is with
        | nil =>
          cases w with
          | cons m _ => exact (hA _ _ _ m).1
        | cons i r =>
          cases w with
          | cons m _ => exact (hA _ _ _ m).1
      obtain ⟨x, h1, h2⟩ := c a a is t (fun i hi => Wn.nodes hA w (fun u e => by
        cases e
        exact ha) i (by simp [hi])) w
      have := z a x h1
      omega
  · rintro ⟨t, ht, h⟩ np
    have h := of_decide_eq_true h
    obtain ⟨x, hx, _⟩ := F.diag t ht
    rw [hx] at h
    obtain ⟨n, w⟩ := F.snd t t x hx
    have := np _ _ _ w
    have h : 0 < x := h
    omega
/-- the law's table, any rules -/
structure FarT (P : Program) (w : World) (H : Hp) (d : Addr) (A : List (Arc Node)) (ts : List Node) (L : LF) : Prop where
  at_ : H d = some (tdO pairT P w d (vF L))
  keys : KeysT pairT H (vF L)
  ok : FarOk A ts L
  arcs : ∀ a b g, (a, b, g) ∈ A → a ∈ ts ∧ b ∈ ts
theorem FarT.same {H H' : Hp} {d : Addr} {A : List (Arc Node)} {ts : List Node} {L : LF} (h : FarT P w H d A ts L) (s : Same H H') : FarT P w H' d A ts L := ⟨s _ _ h.at_, h.keys.same fun c ys e => s _ _ e, h.ok, h.arcs⟩
def spIsTorn (P : Program) (w : World) : Sp := fun vs H Q _ => ∃ (n d : Addr) (A : List (Arc Node)) (ns : List Str) (L : LF), vs = [.ref n, .ref d] ∧ H n = some (.lst (ns.map V.str)) ∧ ns.length < 64 ∧ FarT P w H d A (things ns) L ∧ ∀ H', Same H H' → Q (.bl (tornB A)) H'
end
end Wnd

/-! lists of rules judged by the law -/
namespace Wnd
open PySem PySem.Spec PyProof.Rows L2
section
variable {P : Program} {w : World} {K : PySem.W.Frag} {mg : Str → Option Value} {base : Heap}
/-- repr, where the context's library is named -/
theorem call_reprK {X : Cx} {K' : PySem.W.Frag} (e : X.K = K') (free : X.A.guards = some []) (hu : X.A.units + 65 < cLine) : CallR X (.builtin "repr") (rRepr K') := by
  subst e
  exact call_reprD free hu
structure Shows (d : PyData) : Prop where
  lay : d.canLay0 = (match d with | .dict _ => d.canLay0 | _ => true)
  show_ : d.showable = true
  len : d.shown.length ≤ sizeLine
  deep : d.depth ≤ 60
theorem sign_name {t : Str} (h : nameB t = true) : ∀ c ∈ t.cps.toList, c < 16 ^ 8 := fun c hc => by
  have := name_letters h c hc
  omega
theorem end_leaf {ts : List Str} (N : NamesOk ts) {e : Option Str} (h : endIn ts e = true) : (endD e).canLay0 = true ∧ (endD e).showable = true ∧ (endD e).leavesShort 13 = true ∧ (endD e).weight ≤ 8 ∧ (endD e).depth = 0 := by
  cases e with
  | none => exact ⟨by simp [endD, PyData.canLay0], by simp [endD, PyData.showable], by simp [endD, PyData.leavesShort], by simp [endD, PyData.weight], by simp [endD, PyData.depth]⟩
  | some t =>
    have n := end_name N h t rfl
    have l := (name_len n).2
    have l2 : t.cps.size ≤ 8 := by
      have : (t.cps.size : Int) ≤ 8 := by exact_mod_cast l
      omega
    refine ⟨by simp [endD, PyData.canLay0, name_strOk n], by simp [endD, PyData.showable], ?_, by simpa [endD, PyData.weight] using l2, by simp [endD, PyData.depth]⟩
    simp only [endD, PyData.leavesShort, List.all_eq_true, decide_eq_true_eq]
    exact sign_name n
theorem gap_leaf {i : Int} (h : -999 ≤ i ∧ i ≤ 999) : (PyData.int i).showable = true ∧ (PyData.int i).leavesShort 13 = true ∧ (PyData.int i).weight ≤ 11 := by
  have a : i.natAbs < 10 ^ 12 := by omega
  have l := int_shown_len a
  have lg := log_small (n := i.natAbs) (k := 10) (by decide) (by omega)
  refine ⟨(int_show a).2.1, ?_, ?_⟩
  · simp only [PyData.leavesShort, decide_eq_true_eq]
    exact l
  · simp only [PyData.weight]
    split <;> omega
theorem rule_leaf {ts : List Str} (N : NamesOk ts) {r : Rule} (h : RuleOk ts r) : (ruleD r).canLay0 = true ∧ (ruleD r).showable = true ∧ (ruleD r).leavesShort 13 = true ∧ (ruleD r).weight ≤ 30 ∧ (ruleD r).depth = 1 := by
  obtain ⟨a1, a2, a3, a4, a5⟩ := end_leaf N h.low
  obtain ⟨b1, b2, b3, b4, b5⟩ := end_leaf N h.high
  obtain ⟨c1, c2, c3⟩ := gap_leaf ⟨h.ge, h.le⟩
  unfold ruleD
  refine ⟨by simp [PyData.canLay0, PyData.canLayAll0, a1, b1], by simp [PyData.showable, PyData.showableAll, a2, b2]; simpa [PyData.showable] using c1, by simp [PyData.leavesShort, PyData.leavesShortAll, a3, b3]; simpa [PyData.leavesShort] using c2, ?_, by simp [PyData.depth, PyData.depthAll, a5, b5]⟩
  simp only [PyData.weight, PyData.weightAll] at c3 ⊢
  omega
theorem shows_of {d : PyData} (a : d.canLay0 = true) (b : d.showable = true) (c : d.leavesShort 13 = true) (e : d.weight ≤ 1000) (f : d.depth ≤ 60) : Shows d := by
  refine ⟨?_, b, ?_, f⟩
  · cases d <;> simp_all
  · have := PyData.shown_le 13 (by decide) d c
    have : sizeLine = 16777216 := by decide
    omega
theorem rule_shows {ts : List Str} (N : NamesOk ts) {r : Rule} (h : RuleOk ts r) : Shows (ruleD r) := by
  obtain ⟨a, b, c, d, e⟩ := rule_leaf N h
  exact shows_of a b c (by omega) (by omega)
theorem memB_iff {L rs : List Rule} : memB L rs = true ↔ ∀ (k : Nat) (r : Rule), rs[k]? = some r → r ∈ L := by
  unfold memB
  rw [List.all_eq_true]
  exact ⟨fun h k r e => of_decide_eq_true (h r (List.mem_of_getElem? e)), fun h r hr => by
    obtain ⟨k, e⟩ := List.getElem?_of_mem hr
    exact decide_eq_true (h k r e)⟩
theorem linkB_iff {rs : List Rule} : linkB rs = true ↔ ∀ (k : Nat) (a b : Rule), rs[k]? = some a → rs[k + 1]? = some b → a.high = b.low := by
  unfold linkB
  rw [List.all_eq_true]
  refine ⟨fun h k a b e1 e2 => ?_, fun h p hp => ?_⟩
  · have : (rs.zip rs.tail)[k]? = some (a, b) := List.getElem?_zip_eq_some.mpr ⟨e1, by rw [List.getElem?_tail]; exact e2⟩
    exact of_decide_eq_true (h _ (List.mem_of_getElem? this))
  · obtain ⟨k, e⟩ := List.getElem?_of_mem hp
    obtain ⟨e1, e2⟩ := List.getElem?_zip_eq_some.mp e
    rw [List.getElem?_tail] at e2
    exact decide_eq_true (h k _ _ e1 e2)
theorem chainB_mem {L L' rs : List Rule} (h : ∀ r, r ∈ L ↔ r ∈ L') : chainB L rs = chainB L' rs := by
  unfold chainB memB
  rw [show (fun r => decide (r ∈ L)) = fun r => decide (r ∈ L') from funext fun r => by rw [decide_eq_decide]; exact h r]
theorem ringB_mem {L L' rs : List Rule} (h : ∀ r, r ∈ L ↔ r ∈ L') : ringB L rs = ringB L' rs := by
  unfold ringB
  rw [chainB_mem h]
/-- rules in a list of the law -/
structure GpsAt (H : Hp) (g : Addr) (ts : List Str) (rs : List (Rule × Addr)) : Prop where
  at_ : H g = some (.lst (rs.map fun p => V.ref p.2))
  keys : KeyTups H rs
  ok : ∀ p ∈ rs, RuleOk ts p.1
  len : rs.length ≤ 2000
  names : NamesOk ts
theorem GpsAt.same {H H' : Hp} {g : Addr} {ts : List Str} {rs : List (Rule × Addr)} (h : GpsAt H g ts rs) (s : Same H H') : GpsAt H' g ts rs := ⟨s _ _ h.at_, fun p hp => s _ _ (h.keys p hp), h.ok, h.len, h.names⟩
def spEndsG : Sp := fun vs H Q _ => ∃ (g r : Addr) (ts : List Str) (rs ch : List (Rule × Addr)), vs = [.ref g, .ref r] ∧ GpsAt H g ts rs ∧ RulesAt H r ch ∧
  (∀ H', Same H H' → chainB (rs.map (·.1)) (ch.map (·.1)) = false → Q .non H') ∧
  ∀ q c0 cl H', Same H H' → chainB (rs.map (·.1)) (ch.map (·.1)) = true → (ch.map (·.1)).head? = some c0 → (ch.map (·.1)).getLast? = some cl → H' q = some (.tup [endV c0.low, endV cl.high, .int (gapSum (ch.map (·.1)))]) → Q (.ref q) H'
theorem ok_endsG {f : Addr} {fd : FuncData} (D : DefAt K mg "_law_ends" s_law_ends ["_law_gaps_here", "_law_thing"] f fd) (B : Blt3 mg) : OkG P w K mg base 1 "_law_ends" ["_law_gaps_here", "_law_thing"] spEndsG := by
  refine D.okG (Fun.okG D.fn sc_law_ends D.bi (fun vs H Q E h => ?_) (fun cdv A outer s H vs Q E hr free h => ?_))
  · obtain ⟨g, r, ts, rs, ch, rfl, _⟩ := h
    rfl
  · obtain ⟨g, r, ts, rs, ch, rfl, G, R, qn, q⟩ := h
    have nd := sc_law_ends.nd
    have hu9 := hu9_of hr
    have big : sizeLine > 1000000 := by decide
    refine ⟨_, (pss_cons (ps_if (PW.pt (pw_or (pt_not (pt_val (pe_callB call_isi (by rfl) B.isinstance (by decide +kernel) (pa_cons (pv 1) (pa_cons (pe_bltn (v := .ty "list") (by rfl) B.list (by decide +kernel) rfl) pa_nil))))) (pw_or1 (pt_cmpR (op_eqD (hu_of64 hr)) (pv 1) (pe_lst pa_nil) (nomark _))))) (pss_one (ps_ret pe_non)) pss_nil)
      (pss_cons (ps_for PassesOwn.never rfl (pi_range1 (by rfl) B.range (pa_cons (pe_callB call_len_seq (by rfl) B.len PySem.boot_len (pa_cons (pv 1) pa_nil)) pa_nil)) (pg_name (i := 2) nd rfl (Or.inl rfl)) (pss_cons (ps_if (PW.pt (pw_or (pt_not (pt_val (pe_callB call_isi (by rfl) B.isinstance (by decide +kernel) (pa_cons (pe_ix ix_list (pv 1) (pv 2) (fun _ _ => rfl)) (pa_cons (pe_bltn (v := .ty "tuple") (by rfl) B.tuple (by decide +kernel) rfl) pa_nil))))) (pw_or1 (pt_cmpR op_notIn_seq (pe_callB (call_reprK (K' := K) rfl free (hu65 hr)) (by rfl) B.repr (by decide +kernel) (pa_cons (pe_ix ix_list (pv 1) (pv 2) (fun _ _ => rfl)) pa_nil)) (pe_lc (own := [("_law_one", 3)]) (g := gName 3) (tt := tYes) (by rfl) nd (pi_list (pv 0)) (blkOk_by (own := [("_law_one", 3)]) (N := ["_law_gaps_here", "_law_thing", "_law_k", "_law_one"]) (sc := defScope s_law_ends) (by decide +kernel)) (fun _ _ _ _ _ => (pg_name (i := 3) nd rfl (Or.inl rfl))) (fun _ _ _ _ _ => pts_nil) (fun _ _ _ _ _ => (pe_callB (call_reprK (K' := K) rfl free (hu65 hr)) (by rfl) B.repr (by decide +kernel) (pa_cons (pv 3) pa_nil)))) rfl)))) (pss_one (ps_ret pe_non)) pss_nil)
      (pss_one (ps_if (PW.pt (pw_and (pt_cmpR op_gt (pv 2) pe_int (nomark _)) (pw_and1 (pt_cmpR op_ne (pe_ix ix_tup (pe_ix ix_list (pv 1) (pe_op op_sub (pv 2) pe_int) (fun _ _ => rfl)) pe_int (fun _ _ => rfl)) (pe_ix ix_tup (pe_ix ix_list (pv 1) (pv 2) (fun _ _ => rfl)) pe_int (fun _ _ => rfl)) (nomark _))))) (pss_one (ps_ret pe_non)) pss_nil))))
      (pss_one (ps_ret (pe_tup (pa_cons (pe_ix ix_tup (pe_ix ix_list (pv 1) pe_int (fun _ _ => rfl)) pe_int (fun _ _ => rfl)) (pa_cons (pe_ix ix_tup (pe_ix ix_list (pv 1) (pe_un un_neg pe_int) (fun _ _ => rfl)) pe_int (fun _ _ => rfl)) (pa_cons (pe_callB (cr_sum rfl) (by rfl) B.sum (by decide +kernel) (pa_cons (pe_lc (own := [("_law_one", 3)]) (g := gName 3) (tt := tYes) (by rfl) nd (pi_list (pv 1)) (blkOk_by (own := [("_law_one", 3)]) (N := ["_law_gaps_here", "_law_thing", "_law_k", "_law_one"]) (sc := defScope s_law_ends) (by decide +kernel)) (fun _ _ _ _ _ => (pg_name (i := 3) nd rfl (Or.inl rfl))) (fun _ _ _ _ _ => pts_nil) (fun _ _ _ _ _ => (pe_ix (ix_tupK K) (pv 3) pe_int (fun _ _ => rfl)))) pa_nil)) pa_nil)))))))), ?_⟩
    obtain ⟨ts', N', rok⟩ := R.ok
    have hr' := R.at_
    have hkc := R.keys
    have hg := G.at_
    have hk := G.keys
    have hro := G.ok
    have N := G.names
    have hz := G.len
    have hlc := R.len
    refine ⟨_, rfl, _, _, _, _, true, rfl, .ty _, .base (.lst hr'), kit_ty (by decide +kernel), true, rfl, ?_⟩
    refine iteF ?_
    refine ⟨_, rfl, by show 0 ≤ sizeLine; decide, fun t nt => ?_⟩
    have st := same_new (o := .lst []) nt
    have hkct : KeyTups (upd H t (.lst [])) ch := fun p hp => st _ _ (hkc p hp)
    refine ⟨_, _, .lst (SqL.of (st _ _ hr')) (dp_rules hkct), .lst (SqL.of upd_same) .nil, shaped_rules ch fun p hp => (rok p hp).rok N', shaped_rules [] (fun _ h => nomatch h), _, rfl, ?_⟩
    replace hr' := st _ _ hr'
    replace hg := st _ _ hg
    replace hk : KeyTups (upd H t (.lst [])) rs := fun p hp => st _ _ (hk p hp)
    replace q := fun (q0 : Addr) c0 cl (H' : Hp) (s : Same (upd H t (.lst [])) H') => q q0 c0 cl H' (st.trans s)
    replace qn := fun (H' : Hp) (s : Same (upd H t (.lst [])) H') => qn H' (st.trans s)
    generalize upd H t (.lst []) = H1 at hr' hg hk hkct q qn ⊢
    clear st nt t hkc G R
    by_cases hne : ch = []
    · subst hne
      rw [show PyData.eqv (.list (List.map (fun p : Rule × Addr => ruleD p.1) [])) (.list []) = true from by simp [PyData.eqv, PyData.eqvAll]]
      exact iteT (qn _ (Same.refl _) rfl)
    have ev : PyData.eqv (.list (ch.map fun p => ruleD p.1)) (.list []) = false := by
      cases ch with
      | nil => exact absurd rfl hne
      | cons a b => simp [PyData.eqv, PyData.eqvAll]
    rw [ev]
    refine iteF ?_
    have cB : chainB (rs.map (·.1)) (ch.map (·.1)) = (memB (rs.map (·.1)) (ch.map (·.1)) && linkB (ch.map (·.1))) := by
      cases ch with
      | nil => exact absurd rfl hne
      | cons a b => rfl
    refine ⟨_, rfl, r, _, rfl, .inl (SqL.of hr'), _, rfl, ?_, ?_, ?_⟩
    · exact Int.natCast_nonneg _
    · rw [List.length_map]
      omega
    refine for_it (walk_range (lo := 0)) (fun i σ Hc => ∃ (o2 o3 : Option V), σ = [some (.ref g), some (.ref r), o2, o3] ∧ Same H1 Hc ∧ (∀ (k : Nat) (y : Rule × Addr), k < i → ch[k]? = some y → y.1 ∈ rs.map (·.1)) ∧ ∀ (k : Nat) (y z : Rule × Addr), k + 1 < i → ch[k]? = some y → ch[k + 1]? = some z → y.1.high = z.1.low)
      ⟨_, _, rfl, Same.refl _, fun _ _ h => absurd h (Nat.not_lt_zero _), fun _ _ _ h => absurd h (Nat.not_lt_zero _)⟩ (fun _ _ _ _ _ => True.intro) ?_ ?_
    · rintro k x σ Hz Hc hi ⟨o2, o3, rfl, sc, pm, pl⟩ ⟨rfl, rfl⟩
      have hi : k < ch.length := by simpa using hi
      obtain ⟨y, hy⟩ : ∃ y, ch[k]? = some y := ⟨_, List.getElem?_eq_getElem hi⟩
      have my := List.mem_of_getElem? hy
      have ek : (0 : Int) + ((k : Nat) : Int) = ((k : Nat) : Int) := Int.zero_add _
      have hyV : (ch.map fun p => V.ref p.2)[k]? = some (V.ref y.2) := by rw [List.getElem?_map, hy]; rfl
      have sh := rule_shows N' (rok y my)
      refine ⟨_, rfl, _, rfl, r, _, _, .ref y.2, rfl, rfl, SqL.of (sc _ _ hr'), by rw [ek]; exact atI_nat hyV, ?_⟩
      refine ⟨_, _, _, _, true, rfl, .ty _, .base (.tup (sc _ _ (hkct y my))), kit_ty (by decide +kernel), true, rfl, ?_⟩
      refine iteF ?_
      refine ⟨_, rfl, _, rfl, r, _, _, .ref y.2, rfl, rfl, SqL.of (sc _ _ hr'), by rw [ek]; exact atI_nat hyV, ?_⟩
      refine ⟨_, ruleD y.1, rfl, .dp (dp_rule y (sc _ _ (hkct y my))), sh.lay, sh.show_, sh.len, sh.deep, ?_⟩
      refine ⟨_, rfl, g, rfl, ⟨_, SqL.of (sc _ _ hg)⟩, fun D hD => ?_⟩
      refine lc_map (walk_list (xs := rs.map fun p => V.ref p.2)) hD (rs.map fun p => V.str (ruleD p.1).shown) (by rw [List.length_map, List.length_map]) (by rw [List.length_map]; omega) (fun X sx => SqL.of (sx _ _ (sc _ _ hg))) ?_ ?_
      · rintro j z Y Y' hj' R Lk b ⟨rfl, hz'⟩ hR
        have hj' : j < rs.length := by rwa [List.length_map] at hj'
        rw [List.getElem?_map, List.getElem?_eq_getElem hj'] at hz'
        cases hz'
        have e0 : (rs.map fun p => V.str (ruleD p.1).shown)[j]'(by rw [List.length_map]; exact hj') = V.str (ruleD rs[j].1).shown := by rw [List.getElem_map]
        rw [e0] at hR
        have mz := List.getElem_mem hj'
        generalize rs[j] = z at mz hR ⊢
        have sz := rule_shows N (hro z mz)
        refine ⟨rfl, ?_⟩
        unfold tYes
        dsimp only
        rw [if_pos rfl]
        refine ⟨_, rfl, _, ruleD z.1, rfl, .dp (dp_rule z (b _ _ (sc _ _ (hk z mz)))), sz.lay, sz.show_, sz.len, sz.deep, ?_⟩
        exact hR _ (Same.refl _)
      intro Hd sd hDd
      refine ⟨D, _, rfl, .inl (SqL.of hDd), rfl, ?_, _, rfl, ?_⟩
      · rw [List.all_map]
        exact List.all_eq_true.mpr fun _ _ => rfl
      rw [text_in N' N (rok y my) hro]
      have s2 := sc.trans sd
      by_cases inn : y.1 ∈ rs.map (·.1)
      case neg =>
        rw [decide_eq_false inn]
        refine iteT (qn _ s2 ?_)
        rw [cB, Bool.and_eq_false_iff]
        refine .inl (Bool.eq_false_iff.mpr fun z => inn (memB_iff.mp z k y.1 (by rw [List.getElem?_map, hy]; rfl)))
      rw [decide_eq_true inn]
      refine iteF ?_
      have pm' : ∀ (j : Nat) (y : Rule × Addr), j < k + 1 → ch[j]? = some y → y.1 ∈ rs.map (·.1) := fun j z hj hz => by
        by_cases e : j < k
        · exact pm j z e hz
        · have : j = k := by omega
          subst this
          rw [hy] at hz
          cases hz
          exact inn
      refine ⟨_, rfl, _, 0, rfl, rfl, _, rfl, ?_⟩
      cases k with
      | zero =>
        rw [show decide ((0 : Int) < 0 + ((0 : Nat) : Int)) = false from by decide]
        exact iteF (iteF ⟨_, _, rfl, s2, pm', fun j _ _ h => absurd h (by omega)⟩)
      | succ j =>
        rw [show decide ((0 : Int) < 0 + ((j + 1 : Nat) : Int)) = true from decide_eq_true (by omega)]
        refine iteT ?_
        obtain ⟨y0, hy0⟩ : ∃ y0, ch[j]? = some y0 := ⟨_, List.getElem?_eq_getElem (by omega)⟩
        have my0 := List.mem_of_getElem? hy0
        have hy0V : (ch.map fun p => V.ref p.2)[j]? = some (V.ref y0.2) := by rw [List.getElem?_map, hy0]; rfl
        have ej : (0 : Int) + ((j + 1 : Nat) : Int) - 1 = ((j : Nat) : Int) := by omega
        refine ⟨_, rfl, _, rfl, _, 1, rfl, rfl, r, _, _, .ref y0.2, rfl, rfl, SqL.of (s2 _ _ hr'), by rw [ej]; exact atI_nat hy0V, ?_⟩
        refine ⟨y0.2, _, 1, endV y0.1.high, rfl, rfl, SqT.of (s2 _ _ (hkct y0 my0)), atI_nat (j := 1) rfl, ?_⟩
        refine ⟨_, rfl, _, rfl, r, _, _, .ref y.2, rfl, rfl, SqL.of (s2 _ _ hr'), by rw [ek]; exact atI_nat hyV, ?_⟩
        refine ⟨y.2, _, 0, endV y.1.low, rfl, rfl, SqT.of (s2 _ _ (hkct y my)), atI_nat (j := 0) rfl, ?_⟩
        refine ⟨scal_ends _ _, _, rfl, ?_⟩
        rw [ends_dec]
        by_cases eq : y0.1.high = y.1.low
        · rw [decide_eq_true eq]
          refine iteF ⟨_, _, rfl, s2, pm', fun i a b hi h1 h2 => ?_⟩
          by_cases e : i + 1 < j + 1
          · exact pl i a b e h1 h2
          · have : i = j := by omega
            subst this
            rw [hy0] at h1
            rw [hy] at h2
            cases h1
            cases h2
            exact eq
        · rw [decide_eq_false eq]
          refine iteT (qn _ s2 ?_)
          rw [cB, Bool.and_eq_false_iff]
          exact .inr (Bool.eq_false_iff.mpr fun z => eq (linkB_iff.mp z j y0.1 y.1 (by rw [List.getElem?_map, hy0]; rfl) (by rw [List.getElem?_map, hy]; rfl)))
    · rintro σ Hc ⟨o2, o3, rfl, sc, pm, pl⟩
      have good : chainB (rs.map (·.1)) (ch.map (·.1)) = true := by
        rw [cB, Bool.and_eq_true]
        refine ⟨memB_iff.mpr fun k r e => ?_, linkB_iff.mpr fun k a b e1 e2 => ?_⟩
        · rw [List.getElem?_map] at e
          cases ey : ch[k]? with
          | none => rw [ey] at e; cases e
          | some y =>
            rw [ey] at e
            cases e
            refine pm k y ?_ ey
            have := (List.getElem?_eq_some_iff.mp ey).1
            simpa using this
        · rw [List.getElem?_map] at e1 e2
          cases ey : ch[k]? with
          | none => rw [ey] at e1; cases e1
          | some y =>
            cases ez : ch[k + 1]? with
            | none => rw [ez] at e2; cases e2
            | some z =>
              rw [ey] at e1
              rw [ez] at e2
              cases e1
              cases e2
              refine pl k y z ?_ ey ez
              have := (List.getElem?_eq_some_iff.mp ez).1
              simpa using this
      obtain ⟨y0, hy0⟩ : ∃ y0, ch[0]? = some y0 := by
        cases ch with
        | nil => exact absurd rfl hne
        | cons a b => exact ⟨a, rfl⟩
      obtain ⟨init, yl, rfl⟩ : ∃ ys b, ch = ys ++ [b] := ⟨ch.dropLast, ch.getLast hne, (List.dropLast_concat_getLast hne).symm⟩
      have my0 := List.mem_of_getElem? hy0
      have myl : yl ∈ init ++ [yl] := by simp
      have e0 : ((init ++ [yl]).map (·.1)).head? = some y0.1 := by
        rw [List.head?_eq_getElem?, List.getElem?_map, hy0]
        rfl
      have el : ((init ++ [yl]).map (·.1)).getLast? = some yl.1 := by
        rw [List.map_append]
        simp
      refine ⟨_, rfl, r, _, 0, .ref y0.2, rfl, rfl, SqL.of (sc _ _ hr'), atI_nat (j := 0) (by rw [List.getElem?_map, hy0]; rfl), ?_⟩
      refine ⟨y0.2, _, 0, endV y0.1.low, rfl, rfl, SqT.of (sc _ _ (hkct y0 my0)), atI_nat (j := 0) rfl, ?_⟩
      refine ⟨_, rfl, 1, rfl, r, _, -1, .ref yl.2, rfl, rfl, SqL.of (sc _ _ hr'), by rw [List.map_append]; exact L2.atI_last _ _, ?_⟩
      refine ⟨yl.2, _, 1, endV yl.1.high, rfl, rfl, SqT.of (sc _ _ (hkct yl myl)), atI_nat (j := 1) rfl, ?_⟩
      generalize init ++ [yl] = ch at *
      refine ⟨_, rfl, r, rfl, ⟨_, SqL.of (sc _ _ hr')⟩, fun D hD => ?_⟩
      refine lc_map (walk_list (xs := ch.map fun p => V.ref p.2)) hD (ch.map fun p => V.int p.1.gap) (by rw [List.length_map, List.length_map]) (by rw [List.length_map]; omega) (fun X sx => SqL.of (sx _ _ (sc _ _ hr'))) ?_ ?_
      · rintro j z Y Y' hj' R Lk b ⟨rfl, hz'⟩ hR
        have hj' : j < ch.length := by rwa [List.length_map] at hj'
        rw [List.getElem?_map, List.getElem?_eq_getElem hj'] at hz'
        cases hz'
        have e0 : (ch.map fun p => V.int p.1.gap)[j]'(by rw [List.length_map]; exact hj') = V.int ch[j].1.gap := by rw [List.getElem_map]
        rw [e0] at hR
        have mz := List.getElem_mem hj'
        generalize ch[j] = z at mz hR ⊢
        refine ⟨rfl, ?_⟩
        unfold tYes
        dsimp only
        rw [if_pos rfl]
        refine ⟨_, rfl, z.2, _, 2, .int z.1.gap, rfl, rfl, SqT.of (b _ _ (sc _ _ (hkct z mz))), atI_nat (j := 2) rfl, ?_⟩
        exact hR _ (Same.refl _)
      intro Hd sd hDd
      refine ⟨D, ch.map fun p => p.1.gap, rfl, SqL.of (by rw [List.map_map]; exact hDd), by show 3 ≤ sizeLine; decide, fun t nt => ?_⟩
      refine q t y0.1 yl.1 _ ((sc.trans sd).trans (same_new nt)) good e0 el ?_
      rw [upd_same]
      unfold gapSum
      rw [List.map_map]
      rfl
end
end Wnd

/-! firm things; binds judged by the law -/
namespace Wnd
open PySem PySem.Spec PyProof.Rows L2
abbrev s_law_firmed : Stmt := top 66
theorem sc_law_firmed : FnScope ["_law_pen_here", "_law_model_here", "_law_nyms_here", "_law_gaps_here", "_law_old", "_law_deal_here", "_law_own", "_law_nym"] ["_law_pen_here", "_law_model_here"] (defScope s_law_firmed) := ⟨rfl, rfl, rfl, by decide +kernel, rfl, by decide +kernel, by decide +kernel⟩
abbrev s_law_firm : Stmt := top 67
theorem sc_law_firm : FnScope ["_law_model_here", "_law_nyms_here", "_law_gaps_here", "_law_old", "_law_deal_here", "_law_nym"] ["_law_model_here"] (defScope s_law_firm) := ⟨rfl, rfl, rfl, by decide +kernel, rfl, by decide +kernel, by decide +kernel⟩
abbrev s_law_is_strained : Stmt := top 68
theorem sc_law_is_strained : FnScope ["_law_model_here", "_law_far_here", "_law_old", "_law_firm_here", "_law_first", "_law_second"] ["_law_model_here", "_law_far_here"] (defScope s_law_is_strained) := ⟨rfl, rfl, rfl, by decide +kernel, rfl, by decide +kernel, by decide +kernel⟩
abbrev s_law_is_paper : Stmt := top 70
theorem sc_law_is_paper : FnScope ["_law_model_here", "_law_thing", "_law_ends_here", "_law_firm_here"] ["_law_model_here", "_law_thing"] (defScope s_law_is_paper) := ⟨rfl, rfl, rfl, by decide +kernel, rfl, by decide +kernel, by decide +kernel⟩
section
variable {P : Program} {w : World} {K : PySem.W.Frag} {mg : Str → Option Value} {base : Heap}
theorem firm_sort (G : Own) (ns : List Str) : firmN (sortO G) ns = firmN G ns := by
  unfold firmN
  rw [show fixB (sortO G) = fixB G from funext fun t => fix_sort G t]
theorem fix_none {G : Own} {t : Str} : decide (((valO G t).map optV).getD (.int 0) = V.non) = fixB G t := by
  unfold fixB
  cases valO G t with
  | none => rfl
  | some o =>
    cases o with
    | none => rfl
    | some i => rfl
def spFirm : Sp := fun vs H Q _ => ∃ (M an gp d0 T d : Addr) (ts : List Str) (rs : List (Rule × Addr)) (g : List (Str × Int)) (r l : Int) (G : Own), vs = [.ref M] ∧ ModelAt H M an gp d0 T d ts rs g r l G ∧ ∀ a H', Same H H' → H a = none → H' a = some (.lst ((firmN G (sortN ts)).map endV)) → Q (.ref a) H'
theorem ok_firm {f : Addr} {fd : FuncData} (D : DefAt K mg "_law_firm" s_law_firm ["_law_model_here"] f fd) (B : Blt mg) : Ok P w K mg base 1 "_law_firm" ["_law_model_here"] spFirm := by
  refine D.ok (D.fn.ok sc_law_firm (fun vs H Q E h => ?_) (fun cdv A outer s H vs Q E hr h => ?_))
  · obtain ⟨M, an, gp, d0, T, d, ts, rs, g, r, l, G, rfl, _⟩ := h
    rfl
  · obtain ⟨M, an, gp, d0, T, d, ts, rs, g, r, l, G, rfl, hM, q⟩ := h
    have nd := sc_law_firm.nd
    have hu := hu_of hr
    have big : sizeLine > 100000 := by decide
    refine ⟨_, (pss_cons (ps_asg (pv 0) (pg_tup rfl (pgs_cons (pg_name (i := 1) nd rfl (Or.inl rfl)) (pgs_cons (pg_name (i := 2) nd rfl (Or.inl rfl)) (pgs_cons (pg_name (i := 3) nd rfl (Or.inl rfl)) (pgs_cons (pg_name (i := 4) nd rfl (Or.inr rfl)) pgs_nil))))))
      (pss_one (ps_ret (pe_op op_cat (pe_lst (pa_cons pe_non pa_nil)) (pe_lc (own := [("_law_nym", 5)]) (g := gName 5) (by rfl) nd (pi_list (pe_callB cr_sortedS (by rfl) B.sorted (by decide +kernel) (pa_cons (pv 1) pa_nil))) (blkOk_by (own := [("_law_nym", 5)]) (N := ["_law_model_here", "_law_nyms_here", "_law_gaps_here", "_law_old", "_law_deal_here", "_law_nym"]) (sc := defScope s_law_firm) (by decide +kernel)) (fun _ _ _ _ _ => (pg_name (i := 5) nd rfl (Or.inl rfl))) (fun _ _ _ _ _ => (pts_one (pt_cmpR op_isN (pe_dget2 hu (pe_ix (ix_tupK K) (pv 4) pe_int (fun _ _ => rfl)) (pv 5) pe_int ⟨rfl, rfl, rfl, rfl⟩) pe_non (nomark _)))) (fun _ _ _ _ _ => (pv 5))))))), ?_⟩
    refine ⟨_, rfl, M, _, rfl, SqT.of hM.m, rfl, _, _, rfl, _, _, rfl, _, _, rfl, _, _, rfl, rfl, ?_⟩
    refine ⟨by show 1 ≤ sizeLine; decide, fun l1 nl1 => ?_⟩
    have s1 := same_new (o := .lst [V.non]) nl1
    have h1 : (upd H l1 (.lst [V.non])) l1 = some (.lst [V.non]) := upd_same
    generalize upd H l1 (.lst [V.non]) = H1 at s1 h1 ⊢
    have M1 := hM.same s1
    have lN := hM.ok.2.2
    refine ⟨_, rfl, an, ts, rfl, SqL.of M1.an, lN, fun ys p hp hy np => ?_⟩
    have ey := sortN_of hp hy
    subst ey
    have ly : (sortN ts).length < 64 := by rw [(sortN_perm ts).length_eq]; exact lN
    generalize sortN ts = ys at q ly ⊢
    have u2 := same_new (o := .lst (ys.map V.str)) np
    have hp2 : (upd H1 p (.lst (ys.map V.str))) p = some (.lst (ys.map V.str)) := upd_same
    have s2 := s1.trans u2
    have h12 := u2 _ _ h1
    have M2 := M1.same u2
    generalize upd H1 p (.lst (ys.map V.str)) = H2 at hp2 s2 h12 M2 ⊢
    refine ⟨p, rfl, ⟨_, SqL.of hp2⟩, fun D hD => ?_⟩
    refine lc_acc (walk_list (xs := ys.map V.str)) hD (fun i => ((ys.take i).filter (fixB G)).map V.str) rfl (by rw [List.length_map]; omega) (fun i => by
      rw [List.length_map]
      exact Nat.le_trans (List.length_filter_le _ _) (List.length_take_le _ _)) (fun X sX => SqL.of (sX _ _ hp2)) ?_ ?_
    · rintro i y X X' R Lk hi sX ⟨rfl, hy2⟩ hR hL
      obtain ⟨t, ht, rfl⟩ := get_map hy2
      have ef := filt_one (p := fixB G) ht
      have MX := M2.same sX
      have d3 : DGet X' d (V.str t) ((valO G t).map optV) := by
        have := DGet.k (k := Sum.inr t) MX.deal.d
        rwa [val_own] at this
      refine ⟨rfl, ?_⟩
      refine ⟨_, rfl, T, _, 2, .ref d, rfl, rfl, SqT.of MX.deal.t, atI_nat (j := 2) rfl, d, rfl, .inl ⟨_, Rd.of MX.deal.d⟩, _, rfl, _, d3, rfl, _, rfl, ?_⟩
      rw [fix_none]
      cases e : fixB G t with
      | false =>
        rw [e, if_neg (by decide), List.append_nil] at ef
        refine iteF (hL _ (by rw [ef]) (Same.refl _))
      | true =>
        rw [e, if_pos rfl] at ef
        refine iteT ⟨_, rfl, hR _ _ ?_ (Same.refl _)⟩
        rw [ef, List.map_append]
        rfl
    · intro X sX hDX
      rw [List.length_map, List.take_length] at hDX
      refine ⟨l1, D, _, _, rfl, rfl, sX _ _ h12, hDX, ?_, fun a na => q a _ ((s2.trans sX).trans (same_new na)) ((s2.trans sX).free na) (by rw [upd_same, firm_endV]; rfl)⟩
      rw [List.length_map]
      have := List.length_filter_le (fixB G) ys
      show 1 + _ ≤ sizeLine
      omega
def spFirmed : Sp := fun vs H Q _ => ∃ (p c : Addr) (n : Nat) (M an gp d0 T d : Addr) (ts : List Str) (rs : List (Rule × Addr)) (g : List (Str × Int)) (r l : Int) (G : Own), vs = [.ref p, .ref M] ∧ PenAt H p c n ∧ n ≤ 800000 ∧ ModelAt H M an gp d0 T d ts rs g r l G ∧ G.length ≤ 26 ∧
  ∀ M' T' d' G' H' n', But p H H' → ModelAt H' M' an gp d0 T' d' ts rs g r l G' → H M' = none → H T' = none → H d' = none → PenAt H' p c n' → n' ≤ n + 5 → Q (.ref M') H'
theorem ok_firmed {f : Addr} {fd : FuncData} (D : DefAt K mg "_law_firmed" s_law_firmed ["_law_pen_here", "_law_model_here"] f fd) (B : Blt mg) (O_law_some : Ok P w K mg base 3 "_law_some" ["_law_pen_here", "_law_pool", "_law_most"] (spSome K)) : Ok P w K mg base 4 "_law_firmed" ["_law_pen_here", "_law_model_here"] spFirmed := by
  refine D.ok (D.fn.ok sc_law_firmed (fun vs H Q E h => ?_) (fun cdv A outer s H vs Q E hr h => ?_))
  · obtain ⟨p, c, n, M, an, gp, d0, T, d, ts, rs, g, r, l, G, rfl, _⟩ := h
    rfl
  · obtain ⟨p, c, n, M, an, gp, d0, T, d, ts, rs, g, r, l, G, rfl, Pc, hn, hM, lG, q⟩ := h
    have nd := sc_law_firmed.nd
    have hu := hu_of hr
    have big : sizeLine > 100000 := by decide
    refine ⟨_, (pss_cons (ps_asg (pv 1) (pg_tup rfl (pgs_cons (pg_name (i := 2) nd rfl (Or.inl rfl)) (pgs_cons (pg_name (i := 3) nd rfl (Or.inl rfl)) (pgs_cons (pg_name (i := 4) nd rfl (Or.inl rfl)) (pgs_cons (pg_name (i := 5) nd rfl (Or.inl rfl)) pgs_nil))))))
      (pss_cons (ps_set (i := 6) nd rfl (Or.inl rfl) (pe_callTy call_dictD (by rfl) B.dict (by decide +kernel) (pa_cons (pe_ix ix_tup (pv 5) pe_int (fun _ _ => rfl)) pa_nil)))
      (pss_cons (ps_for PassesOwn.never rfl (pi_list (pe_own O_law_some (hr.mono (by decide)) (pa_cons (pv 0) (pa_cons (pv 2) (pa_cons pe_int pa_nil))))) (pg_name (i := 7) nd rfl (Or.inl rfl)) (pss_one (ps_dput hu (pv 6) (pv 7) pe_non rfl)))
      (pss_one (ps_ret (pe_tup (pa_cons (pv 2) (pa_cons (pv 3) (pa_cons (pv 4) (pa_cons (pe_tup (pa_cons (pe_ix ix_tup (pv 5) pe_int (fun _ _ => rfl)) (pa_cons (pe_ix ix_tup (pv 5) pe_int (fun _ _ => rfl)) (pa_cons (pv 6) pa_nil)))) pa_nil)))))))))), ?_⟩
    refine ⟨_, rfl, M, _, rfl, SqT.of hM.m, rfl, _, _, rfl, _, _, rfl, _, _, rfl, _, _, rfl, rfl, ?_⟩
    refine ⟨_, rfl, T, _, 2, .ref d, rfl, rfl, SqT.of hM.deal.t, atI_nat (j := 2) rfl, d, ownKV G, rfl, Rd.of hM.deal.d, fun dn ndn => ?_⟩
    have u1 := same_new (o := .dK (ownKV G)) ndn
    have hdn : (upd H dn (.dK (ownKV G))) dn = some (.dK (ownKV G)) := upd_same
    have M1 := hM.same u1
    have P1 := Pc.same u1
    have dnp := (Pc.out ndn).1
    have dnc := (Pc.out ndn).2
    have b1 : But p H (upd H dn (.dK (ownKV G))) := But.of u1
    generalize upd H dn (.dK (ownKV G)) = H1 at u1 hdn M1 P1 b1 ⊢
    have N := hM.ok
    have lN := N.2.2
    refine ⟨_, rfl, _, rfl, p, c, an, n, 3, ts.map V.str, rfl, P1, by omega, SqL.of M1.an, by rw [List.length_map]; omega, by decide, fun rr H2 n2 ys rest b2 nrr hrr pm ly P2 hn2 => ?_⟩
    have M2 := M1.but P1 b2
    have hdn2 := b2 _ _ hdn dnp
    have b12 := b1.trans b2
    have nrd : rr ≠ dn := (ne_of_none hdn nrr).symm
    have nrH : H rr = none := u1.free nrr
    have memy : ∀ y ∈ ys, ∃ t, y = .str t ∧ t ∈ ts := fun y hy => by
      obtain ⟨t, ht, e⟩ := List.mem_map.mp (pm.mem_iff.mp (List.mem_append_left _ hy))
      exact ⟨t, e.symm, ht⟩
    refine ⟨rr, rfl, ⟨_, SqL.of hrr⟩, ?_⟩
    refine for_it (walk_list (xs := ys)) (fun k σ X => ∃ (o7 : Option V) (G' : Own), σ = [some (.ref p), some (.ref M), some (.ref an), some (.ref gp), some (.ref d0), some (.ref T), some (.ref dn), o7] ∧ (∀ b o, H2 b = some o → b ≠ dn → X b = some o) ∧ X dn = some (.dK (ownKV G')) ∧ OwnOk G' ∧ G'.length ≤ 26 + k)
      ⟨_, G, rfl, fun b o h _ => h, hdn2, hM.deal.ok, by omega⟩ (fun k σ X _ h => by
        obtain ⟨_, _, _, bk, _⟩ := h
        exact SqL.of (bk _ _ hrr nrd)) ?_ ?_
    · rintro k v σ Hz X hk ⟨o7, G', rfl, bk, hX, okG, lGk⟩ ⟨rfl, hv⟩
      obtain ⟨t, rfl, mt⟩ := memy v (List.mem_of_getElem? hv)
      have lkv : (ownKV G').length ≤ 40 := by unfold ownKV; rw [List.length_map]; omega
      refine ⟨_, rfl, _, rfl, dn, _, rfl, DPut.k (k := Sum.inr t) hX (by omega), ?_⟩
      refine ⟨_, putO G' t none, rfl, fun b o hb n1 => ?_, ?_, okG.put (N.2.1 t mt) (fun i z => nomatch z), ?_⟩
      · rw [upd_ne n1]
        exact bk _ _ hb n1
      · rw [upd_same, ← put_own]
        rfl
      · have := put_len (g := G') (t := t) (o := none)
        omega
    · rintro σ X ⟨o7, G', rfl, bk, hX, okG, lGk⟩
      have bX : But p H X := fun b o hb nb => bk _ _ (b12 _ _ hb nb) (ne_of_none hb ndn)
      have MX := hM.but Pc bX
      have PX : PenAt X p c n2 := by
        obtain ⟨cs, i, z, a1, a2, a3, a4⟩ := P2
        exact ⟨cs, i, z, a1, a2, bk _ _ a3 dnc.symm, bk _ _ a4 dnp.symm⟩
      have lyk : ys.length ≤ 3 := ly
      refine ⟨_, rfl, _, rfl, _, rfl, _, rfl, T, _, 0, .int r, rfl, rfl, SqT.of MX.deal.t, atI_nat (j := 0) rfl, ?_⟩
      refine ⟨_, rfl, T, _, 1, .int l, rfl, rfl, SqT.of MX.deal.t, atI_nat (j := 1) rfl, _, rfl, by show 3 ≤ sizeLine; decide, fun T' nT' => ?_⟩
      have u4 := same_new (o := .tup [V.int r, .int l, .ref dn]) nT'
      have hT' : (upd X T' (.tup [V.int r, .int l, .ref dn])) T' = some (.tup [V.int r, .int l, .ref dn]) := upd_same
      have hX4 := u4 _ _ hX
      have MX4 := MX.same u4
      have PX4 := PX.same u4
      have b4 := bX.trans (But.of u4)
      have nTH : H T' = none := by
        cases e : H T' with
        | none => rfl
        | some o =>
          by_cases z : T' = p
          · obtain ⟨ys', hy'⟩ := penL PX
            rw [z, hy'] at nT'
            cases nT'
          · rw [bX _ _ e z] at nT'
            cases nT'
      generalize upd X T' (.tup [V.int r, .int l, .ref dn]) = X4 at u4 hT' hX4 MX4 PX4 b4 ⊢
      refine ⟨by show 4 ≤ sizeLine; decide, fun M' nM' => ?_⟩
      have u5 := same_new (o := .tup [V.ref an, .ref gp, .ref d0, .ref T']) nM'
      have MX5 := MX4.same u5
      have nMH : H M' = none := by
        cases e : H M' with
        | none => rfl
        | some o =>
          by_cases z : M' = p
          · obtain ⟨ys', hy'⟩ := penL PX4
            rw [z, hy'] at nM'
            cases nM'
          · rw [b4 _ _ e z] at nM'
            cases nM'
      refine q M' T' dn G' _ n2 (b4.trans (But.of u5)) ⟨upd_same, MX5.an, N, MX5.gp, MX5.kt, MX5.ro, MX5.lr, MX5.d0, MX5.nums, ⟨u5 _ _ hT', u5 _ _ hX4, hM.deal.r, hM.deal.l, okG, by omega⟩⟩ nMH nTH ndn (PX4.same u5) (by omega)
end
end Wnd

/-! binds judged by the law -/
namespace Wnd
open PySem PySem.Spec PyProof.Rows L2
section
variable {P : Program} {w : World} {K : PySem.W.Frag} {mg : Str → Option Value} {base : Heap}
def pairB (g : List (Str × Int)) (L : LF) (u v : Node) : Bool := !decide (u = v) && (match lk (bare L) (u, v) with | none => false | some z => decide (z > valG g v - valG g u))
def strB (F : List Node) (g : List (Str × Int)) (L : LF) : Bool := F.any fun u => F.any fun v => pairB g L u v
theorem firm_in {G : Own} {ts : List Str} {u : Node} (h : u ∈ firmN G (sortN ts)) : ∀ t, u = some t → t ∈ ts := by
  rintro t rfl
  rcases List.mem_cons.mp h with z | h
  · cases z
  · obtain ⟨t', ht, e⟩ := List.mem_map.mp h
    cases e
    exact (sortN_perm ts).mem_iff.mp (List.mem_filter.mp ht).1
def spStr (P : Program) (w : World) : Sp := fun vs H Q _ => ∃ (M an gp d0 T d fd' : Addr) (ts : List Str) (rs : List (Rule × Addr)) (g : List (Str × Int)) (r l : Int) (G : Own) (A : List (Arc Node)) (L : LF), vs = [.ref M, .ref fd'] ∧ ModelAt H M an gp d0 T d ts rs g r l G ∧ FarT P w H fd' A (things ts) L ∧ ∀ H', Same H H' → Q (.bl (strB (firmN G (sortN ts)) g L)) H'
theorem any_at {α : Type} {F : α → Bool} {xs : List α} {x : α} (m : x ∈ xs) (h : F x = true) : xs.any F = true := List.any_eq_true.mpr ⟨x, m, h⟩
theorem any_snoc {α : Type} {F : α → Bool} {xs : List α} {k : Nat} {x : α} (hx : xs[k]? = some x) (h : (xs.take k).any F = false) (h2 : F x = false) : (xs.take (k + 1)).any F = false := by
  rw [List.take_add_one, hx, List.any_append, h]
  show (false || [x].any F) = false
  rw [List.any_cons, h2]
  rfl
set_option maxHeartbeats 4000000 in
theorem ok_strained {f : Addr} {fd : FuncData} (D : DefAt K mg "_law_is_strained" s_law_is_strained ["_law_model_here", "_law_far_here"] f fd) (O_law_firm : Ok P w K mg base 1 "_law_firm" ["_law_model_here"] spFirm) (O_law_at : Ok P w K mg base 1 "_law_at" ["_law_held", "_law_thing"] spAt) : Ok P w K mg base 2 "_law_is_strained" ["_law_model_here", "_law_far_here"] (spStr P w) := by
  refine D.ok (D.fn.ok sc_law_is_strained (fun vs H Q E h => ?_) (fun cdv A outer s H vs Q E hr h => ?_))
  · obtain ⟨M, an, gp, d0, T, d, fd', ts, rs, g, r, l, G, AA, L, rfl, _⟩ := h
    rfl
  · obtain ⟨M, an, gp, d0, T, d, fd', ts, rs, g, r, l, G, AA, L, rfl, hM, hF, q⟩ := h
    have nd := sc_law_is_strained.nd
    have hu9 := hu9_of hr
    refine ⟨_, (pss_cons (ps_par (i := 2) (j := 3) rfl nd rfl rfl (by decide) rfl rfl (pa_cons (pe_ix ix_tup (pv 0) pe_int (fun _ _ => rfl)) (pa_cons (pe_own O_law_firm (hr.mono (by decide)) (pa_cons (pv 0) pa_nil)) pa_nil)) (by rfl))
      (pss_cons (ps_for PassesOwn.never rfl (pi_list (pv 3)) (pg_name (i := 4) nd rfl (Or.inl rfl)) (pss_one (ps_for PassesOwn.never rfl (pi_list (pv 3)) (pg_name (i := 5) nd rfl (Or.inl rfl)) (pss_one (ps_if (PW.pt (pw_and (pt_cmpR op_ne (pv 4) (pv 5) (nomark _)) (pw_and1 (pt_cmpR (op_inNd (P := P) (w := w) hu9) (pe_tup (pa_cons (pv 4) (pa_cons (pv 5) pa_nil))) (pv 1) rfl)))) (pss_one (ps_if (pt_cmpR op_gt (pe_ix (ix_nd (P := P) (w := w) hu9) (pv 1) (pe_tup (pa_cons (pv 4) (pa_cons (pv 5) pa_nil))) (fun _ _ => rfl)) (pe_op op_sub (pe_own O_law_at (hr.mono (by decide)) (pa_cons (pv 2) (pa_cons (pv 5) pa_nil))) (pe_own O_law_at (hr.mono (by decide)) (pa_cons (pv 2) (pa_cons (pv 4) pa_nil)))) (nomark _)) (pss_one (ps_ret pe_bl)) pss_nil)) pss_nil)))))
      (pss_one (ps_ret pe_bl)))), ?_⟩
    refine ⟨_, rfl, M, _, 2, .ref d0, rfl, rfl, SqT.of hM.m, atI_nat (j := 2) rfl, ?_⟩
    refine ⟨_, rfl, M, an, gp, d0, T, d, ts, rs, g, r, l, G, rfl, hM, fun a H1 s1 na ha => ?_⟩
    refine ⟨_, _, rfl, ?_⟩
    have M1 := hM.same s1
    have F1 := hF.same s1
    have inT : ∀ u ∈ firmN G (sortN ts), ∀ t, u = some t → t ∈ g.map (·.1) := fun u hu t e => hM.nums.1.mem_iff.mpr (firm_in hu t e)
    obtain ⟨F, eF⟩ : ∃ F, firmN G (sortN ts) = F := ⟨_, rfl⟩
    rw [eF] at q ha inT
    refine ⟨_, rfl, a, rfl, ⟨_, SqL.of ha⟩, ?_⟩
    refine for_it (walk_list (xs := F.map endV)) (fun k σ X => ∃ (o4 o5 : Option V), σ = [some (.ref M), some (.ref fd'), some (.ref d0), some (.ref a), o4, o5] ∧ Same H1 X ∧ (F.take k).any (fun u => F.any fun v => pairB g L u v) = false)
      ⟨_, _, rfl, Same.refl _, rfl⟩ (fun k σ X _ h => by
        obtain ⟨_, _, _, s, _⟩ := h
        exact SqL.of (s _ _ ha)) ?_ ?_
    · rintro k v0 σ Hz X hk ⟨o4, o5, rfl, sX, no⟩ ⟨rfl, hv⟩
      obtain ⟨u, hu, rfl⟩ := get_map hv
      have fu : u ∈ F := List.mem_of_getElem? hu
      refine ⟨_, rfl, a, rfl, ⟨_, SqL.of (sX _ _ ha)⟩, ?_⟩
      refine for_it (walk_list (xs := F.map endV)) (fun j σ Y => ∃ (o5 : Option V), σ = [some (.ref M), some (.ref fd'), some (.ref d0), some (.ref a), some (endV u), o5] ∧ Same H1 Y ∧ (F.take j).any (fun v => pairB g L u v) = false)
        ⟨_, rfl, sX, rfl⟩ (fun j σ Y _ h => by
          obtain ⟨_, _, s, _⟩ := h
          exact SqL.of (s _ _ ha)) ?_ ?_
      · rintro j v1 σ Hy Y hj ⟨o5, rfl, sY, nj⟩ ⟨rfl, hv1⟩
        obtain ⟨v, hvv, rfl⟩ := get_map hv1
        have fv : v ∈ F := List.mem_of_getElem? hvv
        have yes : pairB g L u v = true → ∀ H', Same H1 H' → Q (.bl true) H' := fun e H' s' => by
          have : strB F g L = true := any_at fu (any_at (F := fun v => pairB g L u v) fv e)
          rw [this] at q
          exact q _ (s1.trans s')
        have next : ∀ Y', Same H1 Y' → pairB g L u v = false → ∃ (o5 : Option V), [some (V.ref M), some (.ref fd'), some (.ref d0), some (.ref a), some (endV u), some (endV v)] = [some (.ref M), some (.ref fd'), some (.ref d0), some (.ref a), some (endV u), o5] ∧ Same H1 Y' ∧ (F.take (j + 1)).any (fun v => pairB g L u v) = false := fun Y' s' e => ⟨_, rfl, s', any_snoc hvv nj e⟩
        unfold pairB at yes next
        refine ⟨_, rfl, _, rfl, scal_ends u v, _, rfl, ?_⟩
        rw [ends_dec]
        cases eu : decide (u = v) with
        | true =>
          rw [eu] at next
          refine iteFe (by rfl) (iteFe rfl ?_)
          exact next _ sY rfl
        | false =>
          rw [eu, Bool.not_false, Bool.true_and] at next yes
          refine iteTe (by rfl) ?_
          refine ⟨_, rfl, _, rfl, by show 2 ≤ sizeLine; decide, fun t1 nt1 => ?_⟩
          have u1 := same_new (o := .tup [endV u, endV v]) nt1
          have ht1 : (upd Y t1 (.tup [endV u, endV v])) t1 = some (.tup (pairV (u, v))) := upd_same
          have s2 := sY.trans u1
          have F4 := F1.same s2
          generalize upd Y t1 (.tup [endV u, endV v]) = Y1 at u1 ht1 s2 F4 ⊢
          refine ⟨_, rfl, fd', _, rfl, NGet.p F4.at_ F4.keys ht1 rfl, _, rfl, ?_⟩
          cases e : lk (bare L) (u, v) with
          | none =>
            rw [e] at next
            exact iteF (next _ s2 rfl)
          | some z =>
            rw [e] at next yes
            refine iteT ?_
            refine ⟨_, rfl, _, rfl, _, rfl, by show 2 ≤ sizeLine; decide, fun t2 nt2 => ?_⟩
            have u2 := same_new (o := .tup [endV u, endV v]) nt2
            have ht2 : (upd Y1 t2 (.tup [endV u, endV v])) t2 = some (.tup (pairV (u, v))) := upd_same
            have s3 := s2.trans u2
            have F5 := F1.same s3
            have M5 := M1.same s3
            generalize upd Y1 t2 (.tup [endV u, endV v]) = Y2 at u2 ht2 s3 F5 M5 ⊢
            refine ⟨fd', .int z, rfl, NGet.p (o := some z) F5.at_ F5.keys ht2 e, ?_⟩
            refine ⟨_, rfl, _, rfl, d0, g, v, rfl, M5.d0, inT v fv, ?_⟩
            refine ⟨_, rfl, _, rfl, d0, g, u, rfl, M5.d0, inT u fu, ?_⟩
            refine ⟨_, _, rfl, rfl, _, _, rfl, rfl, _, rfl, ?_⟩
            cases eb : decide (valG g v - valG g u < z) with
            | true => exact iteT (yes eb _ s3)
            | false => exact iteF (next _ s3 eb)
      · rintro σ Y ⟨o5, rfl, sY, nj⟩
        rw [List.length_map, List.take_length] at nj
        exact ⟨_, _, rfl, sY, any_snoc hu no nj⟩
    · rintro σ X ⟨o4, o5, rfl, sX, no⟩
      rw [List.length_map, List.take_length] at no
      have : strB F g L = false := no
      rw [this] at q
      exact q _ (s1.trans sX)
end
end Wnd

/-! whether a list of rules is a bind, as the law tells it -/
namespace Wnd
open PySem PySem.Spec PyProof.Rows L2
section
variable {P : Program} {w : World} {K : PySem.W.Frag} {mg : Str → Option Value} {base : Heap}
theorem firm_in' {G : Own} {ts : List Str} {u : Node} (h : u ∈ firmN G (sortN ts)) : ∀ t, u = some t → t ∈ ts := by
  rintro t rfl
  rcases List.mem_cons.mp h with z | h
  · cases z
  · obtain ⟨t', ht, e⟩ := List.mem_map.mp h
    cases e
    exact (sortN_perm ts).mem_iff.mp (List.mem_filter.mp ht).1
theorem ModelAt.gps {H : Hp} {M an gp d0 T d : Addr} {ts : List Str} {rs : List (Rule × Addr)} {g : List (Str × Int)} {r l : Int} {G : Own} (h : ModelAt H M an gp d0 T d ts rs g r l G) : GpsAt H gp ts rs := ⟨h.gp, h.kt, h.ro, by have := h.lr; omega, h.ok⟩
def spPaper : Sp := fun vs H Q _ => ∃ (M c an gp d0 T d : Addr) (ts : List Str) (rs ch : List (Rule × Addr)) (g : List (Str × Int)) (r l : Int) (G : Own), vs = [.ref M, .ref c] ∧ ModelAt H M an gp d0 T d ts rs g r l G ∧ RulesAt H c ch ∧ ∀ H', Same H H' → Q (.bl (bindB (rs.map (·.1)) (firmN G (sortN ts)) g (ch.map (·.1)))) H'
theorem ok_paper {f : Addr} {fd : FuncData} (D : DefAt K mg "_law_is_paper" s_law_is_paper ["_law_model_here", "_law_thing"] f fd) (O_law_ends : OkG P w K mg base 1 "_law_ends" ["_law_gaps_here", "_law_thing"] spEndsG) (O_law_firm : Ok P w K mg base 1 "_law_firm" ["_law_model_here"] spFirm) (O_law_at : Ok P w K mg base 1 "_law_at" ["_law_held", "_law_thing"] spAt) :
    OkG P w K mg base 2 "_law_is_paper" ["_law_model_here", "_law_thing"] spPaper := by
  refine D.okG (Fun.okG D.fn sc_law_is_paper D.bi (fun vs H Q E h => ?_) (fun cdv A outer s H vs Q E hr free h => ?_))
  · obtain ⟨M, c, an, gp, d0, T, d, ts, rs, ch, g, r, l, G, rfl, _⟩ := h
    rfl
  · obtain ⟨M, c, an, gp, d0, T, d, ts, rs, ch, g, r, l, G, rfl, hM, hR, q⟩ := h
    have nd := sc_law_is_paper.nd
    refine ⟨_, (pss_cons (ps_par (i := 2) (j := 3) rfl nd rfl rfl (by decide) rfl rfl (pa_cons (pe_ownG O_law_ends (hr.mono (by decide)) free (pa_cons (pe_ix ix_tup (pv 0) pe_int (fun _ _ => rfl)) (pa_cons (pv 1) pa_nil))) (pa_cons (pe_own O_law_firm (hr.mono (by decide)) (pa_cons (pv 0) pa_nil)) pa_nil)) (by rfl))
      (pss_cons (ps_if (PW.pt (pw_or (pt_cmpR op_isN (pv 2) pe_non (nomark _)) (pw_or (pt_cmpR op_eq (pe_ix ix_tup (pv 2) pe_int (fun _ _ => rfl)) (pe_ix ix_tup (pv 2) pe_int (fun _ _ => rfl)) (nomark _)) (pw_or (pt_cmpR op_notIn_seq (pe_ix ix_tup (pv 2) pe_int (fun _ _ => rfl)) (pv 3) rfl) (pw_or1 (pt_cmpR op_notIn_seq (pe_ix ix_tup (pv 2) pe_int (fun _ _ => rfl)) (pv 3) rfl)))))) (pss_one (ps_ret pe_bl)) pss_nil)
      (pss_one (ps_ret (pe_cmpR op_gt (pe_ix ix_tup (pv 2) pe_int (fun _ _ => rfl)) (pe_op op_sub (pe_own O_law_at (hr.mono (by decide)) (pa_cons (pe_ix ix_tup (pv 0) pe_int (fun _ _ => rfl)) (pa_cons (pe_ix ix_tup (pv 2) pe_int (fun _ _ => rfl)) pa_nil))) (pe_own O_law_at (hr.mono (by decide)) (pa_cons (pe_ix ix_tup (pv 0) pe_int (fun _ _ => rfl)) (pa_cons (pe_ix ix_tup (pv 2) pe_int (fun _ _ => rfl)) pa_nil)))) (nomark _)))))), ?_⟩
    refine ⟨_, rfl, M, _, 1, .ref gp, rfl, rfl, SqT.of hM.m, atI_nat (j := 1) rfl, _, rfl, gp, c, ts, rs, ch, rfl, hM.gps, hR, fun H1 s1 e => ?_, fun q0 c0 cl H1 s1 e h0 h1 hq => ?_⟩
    · refine ⟨_, rfl, M, an, gp, d0, T, d, ts, rs, g, r, l, G, rfl, hM.same s1, fun a H2 s2 na ha => ⟨_, _, rfl, ?_⟩⟩
      refine ⟨_, rfl, rfl, _, rfl, iteTe (decide_eq_true rfl) (iteT ?_)⟩
      have : bindB (rs.map (·.1)) (firmN G (sortN ts)) g (ch.map (·.1)) = false := by
        unfold bindB
        rw [e]
        rfl
      rw [this] at q
      exact q _ (s1.trans s2)
    · have er : bindB (rs.map (·.1)) (firmN G (sortN ts)) g (ch.map (·.1)) = endsB (firmN G (sortN ts)) g c0.low cl.high (gapSum (ch.map (·.1))) := by
        unfold bindB
        rw [e, h0, h1]
        rfl
      rw [er] at q
      refine ⟨_, rfl, M, an, gp, d0, T, d, ts, rs, g, r, l, G, rfl, hM.same s1, fun a H2 s2 na ha => ⟨_, _, rfl, ?_⟩⟩
      have s12 := s1.trans s2
      have M2 := hM.same s12
      have hq2 := s2 _ _ hq
      generalize c0.low = u at q hq hq2
      generalize cl.high = v at q hq hq2
      generalize gapSum (ch.map (·.1)) = z at q hq hq2
      have inT : ∀ u ∈ firmN G (sortN ts), ∀ t, u = some t → t ∈ g.map (·.1) := fun u hu t e => hM.nums.1.mem_iff.mpr (firm_in' hu t e)
      generalize firmN G (sortN ts) = F at q ha inT
      unfold endsB at q
      refine ⟨_, rfl, rfl, _, rfl, iteFe (decide_eq_false fun z => nomatch z) ?_⟩
      refine ⟨_, rfl, q0, _, 0, endV u, rfl, rfl, SqT.of hq2, atI_nat (j := 0) rfl, _, rfl, q0, _, 1, endV v, rfl, rfl, SqT.of hq2, atI_nat (j := 1) rfl, scal_ends u v, _, rfl, ?_⟩
      rw [ends_dec]
      cases eu : decide (u = v) with
      | true =>
        rw [eu] at q
        exact iteT (iteT (q _ s12))
      | false =>
        rw [eu, Bool.not_false, Bool.true_and] at q
        refine iteF ?_
        refine ⟨_, rfl, q0, _, 0, endV u, rfl, rfl, SqT.of hq2, atI_nat (j := 0) rfl, _, rfl, a, _, rfl, .inl (SqL.of ha), flat_end u, flat_ends _, _, rfl, ?_⟩
        rw [if_pos rfl, in_ends]
        cases mu : decide (u ∈ F) with
        | false =>
          rw [mu, Bool.false_and] at q
          exact iteT (iteT (q _ s12))
        | true =>
          rw [mu, Bool.true_and] at q
          refine iteF ?_
          refine ⟨_, rfl, q0, _, 1, endV v, rfl, rfl, SqT.of hq2, atI_nat (j := 1) rfl, _, rfl, a, _, rfl, .inl (SqL.of ha), flat_end v, flat_ends _, _, rfl, ?_⟩
          rw [if_pos rfl, in_ends]
          cases mv : decide (v ∈ F) with
          | false =>
            rw [mv, Bool.false_and] at q
            exact iteT (q _ s12)
          | true =>
            rw [mv, Bool.true_and] at q
            refine iteF ?_
            refine ⟨_, rfl, q0, _, 2, .int z, rfl, rfl, SqT.of hq2, atI_nat (j := 2) rfl, ?_⟩
            refine ⟨_, rfl, M, _, 2, .ref d0, rfl, rfl, SqT.of M2.m, atI_nat (j := 2) rfl, _, rfl, q0, _, 1, endV v, rfl, rfl, SqT.of hq2, atI_nat (j := 1) rfl, d0, g, v, rfl, M2.d0, inT v (of_decide_eq_true mv), ?_⟩
            refine ⟨_, rfl, M, _, 2, .ref d0, rfl, rfl, SqT.of M2.m, atI_nat (j := 2) rfl, _, rfl, q0, _, 0, endV u, rfl, rfl, SqT.of hq2, atI_nat (j := 0) rfl, d0, g, u, rfl, M2.d0, inT u (of_decide_eq_true mu), ?_⟩
            exact ⟨_, _, rfl, rfl, _, _, rfl, rfl, q _ s12⟩
end
end Wnd

/-! a bind is none of a system that lacks one of its rules -/
namespace Wnd
open PySem PySem.Spec PyProof.Rows L2
abbrev s_law_lacking_right : Stmt := top 72
theorem sc_law_lacking_right : FnScope ["_law_model_here", "_law_paper", "_law_nyms_here", "_law_gaps_here", "_law_old", "_law_deal_here", "_law_ask", "_law_other", "_law_one"] ["_law_model_here", "_law_paper"] (defScope s_law_lacking_right) := ⟨rfl, rfl, rfl, by decide +kernel, rfl, by decide +kernel, by decide +kernel⟩
section
variable {P : Program} {w : World} {K : PySem.W.Frag} {mg : Str → Option Value} {base : Heap}
theorem cut_some (xs : List V) (k : Nat) : cutV xs none (some (k : Int)) = xs.take (min k xs.length) := by
  unfold cutV
  rw [HT.sIx_none, show HT.sIx xs.length xs.length (some (k : Int)) = min k xs.length from HT.sIx_nat _ _ k, List.drop_zero, Nat.sub_zero]
def spLack : Sp := fun vs H Q _ => ∃ (M c an gp d0 T d : Addr) (ts : List Str) (rs ch : List (Rule × Addr)) (g : List (Str × Int)) (r l : Int) (G : Own), vs = [.ref M, .ref c] ∧ ModelAt H M an gp d0 T d ts rs g r l G ∧ RulesAt H c ch ∧ ∀ H', Same H H' → Q (.bl true) H'
theorem ok_lack {C CP CT : Addr} {f : Addr} {fd : FuncData} (D : DefAt K mg "_law_lacking_right" s_law_lacking_right ["_law_model_here", "_law_paper"] f fd) (O_law_task : Ok P w K mg base 8 "_law_task" ["_law_model_here"] (spTaskL C CP CT)) (O_is_bind : Ok P w K mg base 6 "is_bind" ["task", "thing"] (spIsBind C CP CT)) :
    Ok P w K mg base 9 "_law_lacking_right" ["_law_model_here", "_law_paper"] spLack := by
  refine D.ok (D.fn.ok sc_law_lacking_right (fun vs H Q E h => ?_) (fun cdv A outer s H vs Q E hr h => ?_))
  · obtain ⟨M, c, an, gp, d0, T, d, ts, rs, ch, g, r, l, G, rfl, _⟩ := h
    rfl
  · obtain ⟨M, c, an, gp, d0, T, d, ts, rs, ch, g, r, l, G, rfl, hM, hR, q⟩ := h
    have nd := sc_law_lacking_right.nd
    have big : sizeLine > 100000 := by decide
    refine ⟨_, (pss_cons (ps_asg (pv 0) (pg_tup rfl (pgs_cons (pg_name (i := 2) nd rfl (Or.inl rfl)) (pgs_cons (pg_name (i := 3) nd rfl (Or.inl rfl)) (pgs_cons (pg_name (i := 4) nd rfl (Or.inl rfl)) (pgs_cons (pg_name (i := 5) nd rfl (Or.inl rfl)) pgs_nil))))))
      (pss_cons (ps_for PassesOwn.never rfl (pi_list (pe_slice sl_list (pv 1) po_none (po_some pe_int))) (pg_name (i := 6) nd rfl (Or.inr rfl)) (pss_cons (ps_set (i := 7) nd rfl (Or.inl rfl) (pe_tup (pa_cons (pv 2) (pa_cons (pe_lc (own := [("_law_one", 8)]) (g := gName 8) (by rfl) nd (pi_list (pv 3)) (blkOk_by (own := [("_law_one", 8)]) (N := ["_law_model_here", "_law_paper", "_law_nyms_here", "_law_gaps_here", "_law_old", "_law_deal_here", "_law_ask", "_law_other", "_law_one"]) (sc := defScope s_law_lacking_right) (by decide +kernel)) (fun _ _ _ _ _ => (pg_name (i := 8) nd rfl (Or.inl rfl))) (fun _ _ _ _ _ => (pts_one (pt_cmpR (op_neDK K (hu_of64 hr)) (pv 8) (pv 6) (nomark _)))) (fun _ _ _ _ _ => (pv 8))) (pa_cons (pv 4) (pa_cons (pv 5) pa_nil))))))
      (pss_one (ps_if (pt_cmpR op_notBl (pe_own O_is_bind (hr.mono (by decide)) (pa_cons (pe_own O_law_task (hr.mono (by decide)) (pa_cons (pv 7) pa_nil)) (pa_cons (pv 1) pa_nil))) pe_bl (nomark _)) (pss_one (ps_ret pe_bl)) pss_nil))))
      (pss_one (ps_ret pe_bl)))), ?_⟩
    refine ⟨_, rfl, M, _, rfl, SqT.of hM.m, rfl, _, _, rfl, _, _, rfl, _, _, rfl, _, _, rfl, rfl, ?_⟩
    obtain ⟨ts', N', rok⟩ := hR.ok
    refine ⟨_, rfl, 3, rfl, c, _, rfl, SqL.of hR.at_, fun sl nsl => ?_⟩
    have s1 := same_new (o := .lst (cutV (ch.map fun p => V.ref p.2) none (some 3))) nsl
    have hsl : (upd H sl (.lst (cutV (ch.map fun p => V.ref p.2) none (some 3)))) sl = some (.lst (cutV (ch.map fun p => V.ref p.2) none (some 3))) := upd_same
    obtain ⟨cs, ecs, mcs⟩ : ∃ cs : List (Rule × Addr), cutV (ch.map fun p => V.ref p.2) none (some 3) = cs.map (fun p => V.ref p.2) ∧ ∀ p ∈ cs, p ∈ ch :=
      ⟨ch.take (min 3 (ch.map fun p => V.ref p.2).length), by rw [show (3 : Int) = ((3 : Nat) : Int) from rfl, cut_some, List.map_take], fun p hp => List.mem_of_mem_take hp⟩
    rw [ecs] at s1 hsl ⊢
    generalize upd H sl (.lst (cs.map fun p => V.ref p.2)) = H1 at s1 hsl ⊢
    refine ⟨sl, rfl, ⟨_, SqL.of hsl⟩, ?_⟩
    refine for_it (walk_list (xs := cs.map fun p => V.ref p.2)) (fun k σ X => ∃ (o6 o7 : Option V), σ = [some (.ref M), some (.ref c), some (.ref an), some (.ref gp), some (.ref d0), some (.ref T), o6, o7, none] ∧ Same H1 X)
      ⟨_, _, rfl, Same.refl _⟩ (fun k σ X _ h => by
        obtain ⟨_, _, _, s⟩ := h
        exact SqL.of (s _ _ hsl)) ?_ ?_
    · rintro k v σ Hz X hk ⟨o6, o7, rfl, sX⟩ ⟨rfl, hv⟩
      obtain ⟨y, hy, rfl⟩ := get_map hv
      have my := mcs y (List.mem_of_getElem? hy)
      have sHX := s1.trans sX
      have MX := hM.same sHX
      have RX := hR.same sHX
      refine ⟨_, rfl, _, rfl, gp, rfl, ⟨_, SqL.of MX.gp⟩, fun D hD => ?_⟩
      have lr := MX.lr
      refine lc_acc (walk_list (xs := rs.map fun p => V.ref p.2)) hD (fun j => (((rs.take j).filter fun z => !decide (z.1 = y.1)).map fun z => V.ref z.2)) rfl (by rw [List.length_map]; omega) (fun j => by
        rw [List.length_map]
        have := List.length_filter_le (fun z : Rule × Addr => !decide (z.1 = y.1)) (rs.take j)
        rw [List.length_take] at this
        omega) (fun Y sY => SqL.of (sY _ _ MX.gp)) ?_ ?_
      · rintro j x Y Y' R Lk hj sY ⟨rfl, hx⟩ hR2 hW
        obtain ⟨z, hz', rfl⟩ := get_map hx
        have mz := List.mem_of_getElem? hz'
        have ft : (rs.take (j + 1)).filter (fun z => !decide (z.1 = y.1)) = (rs.take j).filter (fun z => !decide (z.1 = y.1)) ++ [z].filter (fun z => !decide (z.1 = y.1)) := by
          rw [List.take_add_one, hz', List.filter_append]
          rfl
        refine ⟨rfl, _, rfl, _, rfl, ?_⟩
        refine ⟨_, _, dp_rule z (sY _ _ (MX.kt z mz)), dp_rule (y.1, y.2) (sY _ _ (RX.keys y my)), shaped_rule' _ ((MX.ro z mz).rok MX.ok), shaped_rule' _ ((rok y my).rok N'), _, rfl, ?_⟩
        rw [eqv_rule]
        cases e : decide (z.1 = y.1) with
        | true =>
          refine iteF (hW _ ?_ (Same.refl _))
          rw [ft, List.filter_cons, e]
          simp
        | false =>
          refine iteT ⟨_, rfl, hR2 _ _ ?_ (Same.refl _)⟩
          rw [ft, List.filter_cons, e]
          simp
      · intro Y sY hY
        rw [List.length_map, List.take_length] at hY
        have sub : (rs.filter fun z => !decide (z.1 = y.1)).Sublist rs := List.filter_sublist
        have nin : y.1 ∉ (rs.filter fun z => !decide (z.1 = y.1)).map (·.1) := fun h => by
          obtain ⟨z, hz, e⟩ := List.mem_map.mp h
          have := (List.mem_filter.mp hz).2
          rw [decide_eq_true e] at this
          cases this
        generalize (rs.filter fun z => !decide (z.1 = y.1)) = rs' at hY sub nin
        have MY := MX.same sY
        refine ⟨_, rfl, _, rfl, by show 4 ≤ sizeLine; decide, fun M' nM' => ?_⟩
        have u2 := same_new (o := .tup [V.ref an, .ref D, .ref d0, .ref T]) nM'
        have MZ := MY.same u2
        have RZ := (RX.same sY).same u2
        have sHZ := (sHX.trans sY).trans u2
        have m' : ModelAt (upd Y M' (.tup [V.ref an, .ref D, .ref d0, .ref T])) M' an D d0 T d ts rs' g r l G := ⟨upd_same, MZ.an, MZ.ok, u2 _ _ hY, fun z hz => MZ.kt z (sub.subset hz), fun z hz => MZ.ro z (sub.subset hz), Nat.le_trans sub.length_le lr, MZ.d0, MZ.nums, MZ.deal⟩
        have sXZ := sY.trans u2
        generalize upd Y M' (.tup [V.ref an, .ref D, .ref d0, .ref T]) = Z at u2 MZ RZ sHZ m' sXZ ⊢
        refine ⟨_, rfl, M', an, D, d0, T, d, ts, rs', g, r, l, G, rfl, m', fun x L Z1 s3 tk eL lL => ?_⟩
        refine ⟨_, rfl, x, c, sortN ts, L, ch, g, r, l, sortO G, rfl, tk, RZ.same s3, fun Z2 s4 => ?_⟩
        have : bindB (L.map (·.1)) (firmN (sortO G) (sortN ts)) g (ch.map (·.1)) = false := by
          unfold bindB chainB
          have : memB (L.map (·.1)) (ch.map (·.1)) = false := by
            rw [Bool.eq_false_iff]
            intro h
            unfold memB at h
            have := of_decide_eq_true (List.all_eq_true.mp h y.1 (List.mem_map.mpr ⟨y, my, rfl⟩))
            rw [eL, canon_mem] at this
            exact nin this
          rw [this, Bool.and_false, Bool.false_and, Bool.false_and]
        rw [this]
        refine ⟨_, _, rfl, rfl, _, rfl, iteF ?_⟩
        exact ⟨_, _, rfl, ((sX.trans sXZ).trans s3).trans s4⟩
    · rintro σ X ⟨o6, o7, rfl, sX⟩
      exact q _ (s1.trans sX)
end
end Wnd

/-! jobs: a model of the law, the task that is made of it, the pair of both -/
namespace Wnd
open PySem PySem.Spec PyProof.Rows L2
section
variable {P : Program} {w : World} {K : PySem.W.Frag} {mg : Str → Option Value} {base : Heap}
structure Job where
  x : Addr
  pr : Addr
  M : Addr
  d0 : Addr
  T : Addr
  d : Addr
  g : List (Str × Int)
  r : Int
  l : Int
  G : Own
structure JobAt (C CP CT : Addr) (H : Hp) (an gp : Addr) (ts : List Str) (rs L : List (Rule × Addr)) (ps : Addr → Addr → List V) (j : Job) : Prop where
  md : ModelAt H j.M an gp j.d0 j.T j.d ts rs j.g j.r j.l j.G
  tk : TaskAt C CP CT H j.x (sortN ts) L j.g j.r j.l (sortO j.G)
  pr : H j.pr = some (.tup (ps j.x j.M))
theorem JobAt.same {C CP CT : Addr} {H H' : Hp} {an gp : Addr} {ts : List Str} {rs L : List (Rule × Addr)} {ps : Addr → Addr → List V} {j : Job} (h : JobAt C CP CT H an gp ts rs L ps j) (s : Same H H') : JobAt C CP CT H' an gp ts rs L ps j := ⟨h.md.same s, h.tk.same s, s _ _ h.pr⟩
theorem JobAt.but {C CP CT p c : Addr} {n : Nat} {H H' : Hp} {an gp : Addr} {ts : List Str} {rs L : List (Rule × Addr)} {ps : Addr → Addr → List V} {j : Job} (h : JobAt C CP CT H an gp ts rs L ps j) (P : PenAt H p c n) (b : But p H H') : JobAt C CP CT H' an gp ts rs L ps j :=
  ⟨h.md.but P b, h.tk.butP P b, b _ _ h.pr (P.ne_of h.pr fun _ z => nomatch z)⟩
/-- a task whose system is known by its place -/
def TaskOn (CP CT : Addr) (H : Hp) (y x : Addr) (ns : List Str) (g : List (Str × Int)) (r l : Int) (G : Own) : Prop := ∃ dx ld px, H x = some (.ins CT dx (taF y ld px)) ∧ H ld = some (.dK (goalKV (ordG ns g))) ∧ PrcAt CP H px r l G
theorem TaskOn.same {CP CT : Addr} {H H' : Hp} {y x : Addr} {ns : List Str} {g : List (Str × Int)} {r l : Int} {G : Own} (h : TaskOn CP CT H y x ns g r l G) (s : Same H H') : TaskOn CP CT H' y x ns g r l G := by
  obtain ⟨dx, ld, px, h1, h2, h3⟩ := h
  exact ⟨dx, ld, px, s _ _ h1, s _ _ h2, h3.same s⟩
theorem TaskOn.wr {CP CT : Addr} {H : Hp} {y x D : Addr} {xs : List V} {o : HO} {ns : List Str} {g : List (Str × Int)} {r l : Int} {G : Own} (h : TaskOn CP CT H y x ns g r l G) (hD : H D = some (.lst xs)) : TaskOn CP CT (L2.upd H D o) y x ns g r l G := by
  obtain ⟨dx, ld, px, h1, h2, dp, lp, h3, h4, h5⟩ := h
  refine ⟨dx, ld, px, ?_, ?_, dp, lp, ?_, ?_, h5⟩
  · rw [upd_ne (ne_of h1 hD fun z => nomatch z)]; exact h1
  · rw [upd_ne (ne_of h2 hD fun z => nomatch z)]; exact h2
  · rw [upd_ne (ne_of h3 hD fun z => nomatch z)]; exact h3
  · rw [upd_ne (ne_of h4 hD fun z => nomatch z)]; exact h4
theorem TaskOn.at_ {C CP CT : Addr} {H : Hp} {y x : Addr} {ns : List Str} {L : List (Rule × Addr)} {g : List (Str × Int)} {r l : Int} {G : Own} (h : TaskOn CP CT H y x ns g r l G) (hs : SysAt C H y ns L) (hn : NumsOk ns g) : TaskAt C CP CT H x ns L g r l G := by
  obtain ⟨dx, ld, px, h1, h2, h3⟩ := h
  exact ⟨dx, y, ld, px, h1, ⟨hs, h2, hn, h3⟩⟩
/-- Task(system, numbers, prices) from what stands -/
theorem task_on {C CP CT x dx sx d px : Addr} {H : Hp} {ns : List Str} {L : List (Rule × Addr)} {g : List (Str × Int)} {r l : Int} {G : Own} {Qn : VK} {E : XK} (nx : H x = none) (ndx : H dx = none) (hs : SysAt C H sx ns L) (hd : H d = some (.dK (goalKV g))) (hn : NumsOk ns g) (hp : PrcAt CP H px r l G)
    (h : ∀ H', Same H H' → TaskOn CP CT H' sx x ns g r l G → Qn .non H') : spTaInit C CT [.ref x, .ref sx, .ref d, .ref px] (upd (upd H dx (.own x)) x (.ins CT dx [])) Qn E := by
  have s0 : Same H (upd (upd H dx (.own x)) x (.ins CT dx [])) := fun b o hb => by
    rw [upd_ne (ne_of_none hb nx), upd_ne (ne_of_none hb ndx)]
    exact hb
  refine ⟨x, dx, sx, d, px, ns, L, g, rfl, upd_same, hs.same s0, s0 _ _ hd, hn, fun ld H' b nld h1 h2 => ?_⟩
  have s1 : Same H H' := fun b' o hb => b _ _ (s0 _ _ hb) (ne_of_none hb nx)
  exact h H' s1 ⟨dx, ld, px, h1, h2, hp.same s1⟩
/-- a job under way: its model at H0, its task at H -/
structure JobPre (CP CT : Addr) (H0 H : Hp) (y an gp : Addr) (ts : List Str) (rs : List (Rule × Addr)) (ps : Addr → Addr → List V) (j : Job) : Prop where
  md : ModelAt H0 j.M an gp j.d0 j.T j.d ts rs j.g j.r j.l j.G
  tk : TaskOn CP CT H y j.x (sortN ts) j.g j.r j.l (sortO j.G)
  pr : H j.pr = some (.tup (ps j.x j.M))
theorem JobPre.same {CP CT : Addr} {H0 H H' : Hp} {y an gp : Addr} {ts : List Str} {rs : List (Rule × Addr)} {ps : Addr → Addr → List V} {j : Job} (h : JobPre CP CT H0 H y an gp ts rs ps j) (s : Same H H') : JobPre CP CT H0 H' y an gp ts rs ps j := ⟨h.md, h.tk.same s, s _ _ h.pr⟩
theorem JobPre.wr {CP CT : Addr} {H0 H : Hp} {y an gp D : Addr} {xs : List V} {o : HO} {ts : List Str} {rs : List (Rule × Addr)} {ps : Addr → Addr → List V} {j : Job} (h : JobPre CP CT H0 H y an gp ts rs ps j) (hD : H D = some (.lst xs)) : JobPre CP CT H0 (L2.upd H D o) y an gp ts rs ps j :=
  ⟨h.md, h.tk.wr hD, by rw [upd_ne (ne_of h.pr hD fun z => nomatch z)]; exact h.pr⟩
theorem JobPre.at_ {C CP CT : Addr} {H0 H : Hp} {y an gp : Addr} {ts : List Str} {rs L : List (Rule × Addr)} {ps : Addr → Addr → List V} {j : Job} (h : JobPre CP CT H0 H y an gp ts rs ps j) (s : Same H0 H) (hs : SysAt C H y (sortN ts) L) : JobAt C CP CT H an gp ts rs L ps j :=
  ⟨h.md.same s, h.tk.at_ hs (nums_sort h.md.nums), h.pr⟩
/-- a list of jobs of one system at y -/
structure TeamAt (C CP CT : Addr) (H : Hp) (y D an gp : Addr) (ts : List Str) (rs L : List (Rule × Addr)) (ps : Addr → Addr → List V) (js : List Job) : Prop where
  held : H D = some (.lst (js.map fun j => V.ref j.pr))
  sys : SysAt C H y (sortN ts) L
  jobs : ∀ j ∈ js, JobAt C CP CT H an gp ts rs L ps j
theorem TeamAt.same {C CP CT : Addr} {H H' : Hp} {y D an gp : Addr} {ts : List Str} {rs L : List (Rule × Addr)} {ps : Addr → Addr → List V} {js : List Job} (h : TeamAt C CP CT H y D an gp ts rs L ps js) (s : Same H H') : TeamAt C CP CT H' y D an gp ts rs L ps js :=
  ⟨s _ _ h.held, h.sys.same s, fun j hj => (h.jobs j hj).same s⟩
theorem TeamAt.but {C CP CT p c : Addr} {n : Nat} {H H' : Hp} {y D an gp : Addr} {ts : List Str} {rs L : List (Rule × Addr)} {ps : Addr → Addr → List V} {js : List Job} (h : TeamAt C CP CT H y D an gp ts rs L ps js) (P : PenAt H p c n) (b : But p H H') : TeamAt C CP CT H' y D an gp ts rs L ps js :=
  ⟨b _ _ h.held (P.ne_refs (L := js.map (·.pr)) (by rw [List.map_map]; exact h.held)), h.sys.butP P b, fun j hj => (h.jobs j hj).but P b⟩
end
end Wnd

/-! binds found and judged (k37) -/
namespace Wnd
open PySem PySem.Spec PyProof.Rows L2
abbrev s_law_right : Stmt := top 73
theorem sc_law_right : FnScope ["_law_task_here", "_law_model_here", "_law_others", "_law_due", "_law_again", "_law_found", "_law_other", "_law_some_here", "_law_last"] ["_law_task_here", "_law_model_here", "_law_others"] (defScope s_law_right) := ⟨rfl, rfl, rfl, by decide +kernel, rfl, by decide +kernel, by decide +kernel⟩
section
variable {P : Program} {w : World} {K : PySem.W.Frag} {mg : Str → Option Value} {base : Heap}
theorem bindB_mem {La Lb : List Rule} {F : List Node} {g : List (Str × Int)} {ch : List Rule} (h : ∀ r, r ∈ La ↔ r ∈ Lb) : bindB La F g ch = bindB Lb F g ch := by
  unfold bindB
  rw [chainB_mem h]
theorem links_ends {v : Node} : ∀ {ch : List (Rule × Addr)} {u : Node}, Links u (ch.map fun p => arcOf p.1) v → ch ≠ [] → linkB (ch.map (·.1)) = true ∧ (ch.map (·.1)).head?.map (·.low) = some u ∧ (ch.map (·.1)).getLast?.map (·.high) = some v
  | [], u, _, h => absurd rfl h
  | [p], u, h, _ => by
    obtain ⟨h1, h2⟩ := h
    exact ⟨rfl, congrArg some h1, congrArg some h2⟩
  | p :: q :: r, u, h, _ => by
    obtain ⟨h1, h2⟩ := h
    obtain ⟨i1, i2, i3⟩ := links_ends (ch := q :: r) h2 (fun z => nomatch z)
    refine ⟨?_, congrArg some h1, ?_⟩
    · rw [linkB_iff] at i1 ⊢
      intro k a b e1 e2
      cases k with
      | zero =>
        cases e1
        cases e2
        exact (Option.some.inj i2).symm
      | succ k => exact i1 k a b e1 e2
    · have : ((p :: q :: r).map (·.1)).getLast? = ((q :: r).map (·.1)).getLast? := by
        rw [List.map_cons, List.map_cons]
        simp [List.getLast?_cons_cons]
      rw [this]
      exact i3
theorem bind_true {Ls : List Rule} {F : List Node} {g : List (Str × Int)} {ch : List (Rule × Addr)} {u v : Node} (lk : Links u (ch.map fun p => arcOf p.1) v) (ne : u ≠ v) (mem : ∀ p ∈ ch, p.1 ∈ Ls) (fu : u ∈ F) (fv : v ∈ F) (big : valG g v - valG g u < (ch.map fun p => p.1.gap).sum) : bindB Ls F g (ch.map (·.1)) = true := by
  have hne : ch ≠ [] := fun e => by
    subst e
    exact ne lk
  obtain ⟨h1, h2, h3⟩ := links_ends lk hne
  obtain ⟨c0, _, e0⟩ := headR hne
  obtain ⟨cl, _, _, e1⟩ := lastR hne
  rw [e0] at h2
  rw [e1] at h3
  have h2 : c0.1.low = u := Option.some.inj h2
  have h3 : cl.1.high = v := Option.some.inj h3
  unfold bindB chainB
  rw [e0, e1, h1]
  have m : memB Ls (ch.map (·.1)) = true := by
    unfold memB
    rw [List.all_eq_true]
    intro r hr
    obtain ⟨p, hp, rfl⟩ := List.mem_map.mp hr
    exact decide_eq_true (mem p hp)
  have e : (ch.map (·.1)).isEmpty = false := by
    cases ch with
    | nil => exact absurd rfl hne
    | cons a b => rfl
  have gs : gapSum (ch.map (·.1)) = (ch.map fun p => p.1.gap).sum := by
    unfold gapSum
    rw [List.map_map]
    rfl
  rw [m, e]
  show (true && (match (some c0.1 : Option Rule), (some cl.1 : Option Rule) with | some a, some b => endsB F g a.low b.high (gapSum (ch.map (·.1))) | _, _ => false)) = true
  show (true && endsB F g c0.1.low cl.1.high (gapSum (ch.map (·.1)))) = true
  unfold endsB
  rw [h2, h3, gs, decide_eq_false ne, decide_eq_true fu, decide_eq_true fv, decide_eq_true (show (ch.map fun p => p.1.gap).sum > valG g v - valG g u from big)]
  rfl
theorem str_no {F : List Node} {g : List (Str × Int)} {Lf : LF} (h : ∀ u ∈ F, ∀ v ∈ F, ∀ z, lk (bare Lf) (u, v) = some z → z ≤ valG g v - valG g u) : strB F g Lf = false := by
  unfold strB
  rw [List.any_eq_false]
  intro u hu
  rw [Bool.not_eq_true, List.any_eq_false]
  intro v hv
  rw [Bool.not_eq_true]
  unfold pairB
  cases e : lk (bare Lf) (u, v) with
  | none => exact Bool.and_false _
  | some z =>
    have := h u hu v hv z e
    show (!decide (u = v) && decide (z > valG g v - valG g u)) = false
    rw [decide_eq_false (show ¬ z > valG g v - valG g u by omega), Bool.and_false]
theorem str_yes {F : List Node} {g : List (Str × Int)} {Lf : LF} {u v : Node} {z : Int} (hu : u ∈ F) (hv : v ∈ F) (ne : u ≠ v) (e : lk (bare Lf) (u, v) = some z) (big : valG g v - valG g u < z) : strB F g Lf = true := by
  refine any_at hu (any_at (F := fun v => pairB g Lf u v) hv ?_)
  unfold pairB
  rw [e, decide_eq_false ne]
  exact decide_eq_true big
theorem bool_fits (b : Bool) : (PyData.bool b).canLay0 = (match PyData.bool b with | .dict _ => (PyData.bool b).canLay0 | _ => true) ∧ (PyData.bool b).showable = true ∧ (PyData.bool b).shown.length ≤ sizeLine ∧ (PyData.bool b).depth ≤ 60 := by
  cases b
  · exact ⟨by decide +kernel, by decide +kernel, by decide +kernel, by decide +kernel⟩
  · exact ⟨by decide +kernel, by decide +kernel, by decide +kernel, by decide +kernel⟩
theorem firm_end {G : Own} {ns : List Str} {u : Node} (h : u ∈ firmN G ns) : endIn ns u = true := by
  rcases List.mem_cons.mp h with rfl | h
  · rfl
  · obtain ⟨t, ht, rfl⟩ := List.mem_map.mp h
    exact List.any_eq_true.mpr ⟨t, (List.mem_filter.mp ht).1, beq_self_eq_true t⟩
def spRight37 (C CP CT : Addr) : Sp := fun vs H Q _ => ∃ (x M oth an gp d0 T d : Addr) (ts : List Str) (rs L : List (Rule × Addr)) (g : List (Str × Int)) (r l : Int) (G : Own) (js : List Job), vs = [.ref x, .ref M, .ref oth] ∧ TaskAt C CP CT H x (sortN ts) L g r l (sortO G) ∧ ModelAt H M an gp d0 T d ts rs g r l G ∧ L.map (·.1) = canon (rs.map (·.1)) ∧ NoPos (arcsOf rs) ∧
  H oth = some (.lst (js.map fun j => V.ref j.pr)) ∧ (∀ j ∈ js, JobAt C CP CT H an gp ts rs L (fun x M => [.ref M, .ref x]) j) ∧ ∀ H', Same H H' → Q (.bl true) H'
set_option maxHeartbeats 4000000 in
theorem ok_right37 {C CP CT : Addr} (TS_ : SysF K mg C) {f : Addr} {fd : FuncData} (D : DefAt K mg "_law_right" s_law_right ["_law_task_here", "_law_model_here", "_law_others"] f fd) (B : Blt3 mg) (O_law_is_strained : Ok P w K mg base 2 "_law_is_strained" ["_law_model_here", "_law_far_here"] (spStr P w)) (O_law_far : Ok P w K mg base 1 "_law_far" ["_law_nyms_here", "_law_gaps_here"] (spFar P w)) (O_bind : Ok P w K mg base 7 "bind" ["task"] (spBind C CP CT))
    (O_law_is_paper : OkG P w K mg base 2 "_law_is_paper" ["_law_model_here", "_law_thing"] spPaper) (O_is_bind : Ok P w K mg base 6 "is_bind" ["task", "thing"] (spIsBind C CP CT)) (O_law_lacking_right : Ok P w K mg base 9 "_law_lacking_right" ["_law_model_here", "_law_paper"] spLack) (O_law_there : Ok P w K mg base 7 "_law_there" ["_law_model_here"] (spThereL C))
    (TS : OkP P w K mg base CT 1 "system" (spTaSys C CP CT)) (TN : OkP P w K mg base CT 1 "numbers" (spTaNum C CP CT)) (OE : OkEq P w K mg base C 1 (spEq K C)) : OkG P w K mg base 10 "_law_right" ["_law_task_here", "_law_model_here", "_law_others"] (spRight37 C CP CT) := by
  refine D.okG (Fun.okG D.fn sc_law_right D.bi (fun vs H Q E h => ?_) (fun cdv A outer s H vs Q E hr free h => ?_))
  · obtain ⟨x, M, oth, an, gp, d0, T, d, ts, rs, L, g, r, l, G, js, rfl, _⟩ := h
    rfl
  · obtain ⟨x, M, oth, an, gp, d0, T, d, ts, rs, L, g, r, l, G, js, rfl, hT, hM, eL, np, ho, hJ, q⟩ := h
    have nd := sc_law_right.nd
    have hu := hu_of hr
    refine ⟨_, (pss_cons (ps_set (i := 3) nd rfl (Or.inl rfl) (pe_own O_law_is_strained (hr.mono (by decide)) (pa_cons (pv 1) (pa_cons (pe_own O_law_far (hr.mono (by decide)) (pa_cons (pe_ix ix_tup (pv 1) pe_int (fun _ _ => rfl)) (pa_cons (pe_ix ix_tup (pv 1) pe_int (fun _ _ => rfl)) pa_nil))) pa_nil))))
      (pss_cons (ps_for PassesOwn.never rfl (pi_range1 (by rfl) B.range (pa_cons pe_int pa_nil)) (pg_name (i := 4) nd rfl (Or.inl rfl)) (pss_cons (ps_set (i := 5) nd rfl (Or.inl rfl) (pe_own O_bind (hr.mono (by decide)) (pa_cons (pv 0) pa_nil)))
      (pss_cons (ps_if (pt_cmpR op_ne (pe_cmpR op_notN (pv 5) pe_non (nomark _)) (pv 3) (nomark _)) (pss_one (ps_ret pe_bl)) pss_nil)
      (pss_one (ps_if (pt_val (pv 3)) (pss_cons (ps_if (PW.pt (pw_or (pt_not (pt_val (pe_ownG O_law_is_paper (hr.mono (by decide)) free (pa_cons (pv 1) (pa_cons (pv 5) pa_nil))))) (pw_or1 (pt_cmpR op_notBl (pe_own O_is_bind (hr.mono (by decide)) (pa_cons (pv 0) (pa_cons (pv 5) pa_nil))) pe_bl (nomark _))))) (pss_one (ps_ret pe_bl)) pss_nil)
      (pss_cons (ps_for PassesOwn.never rfl (pi_list (pv 2)) (pg_tup rfl (pgs_cons (pg_name (i := 6) nd rfl (Or.inl rfl)) (pgs_cons (pg_name (i := 7) nd rfl (Or.inl rfl)) pgs_nil))) (pss_one (ps_if (pt_cmpR op_ne (pe_callB (call_reprD free (hu65 hr)) (by rfl) B.repr (by decide +kernel) (pa_cons (pe_own O_is_bind (hr.mono (by decide)) (pa_cons (pv 7) (pa_cons (pv 5) pa_nil))) pa_nil)) (pe_callB (call_reprD free (hu65 hr)) (by rfl) B.repr (by decide +kernel) (pa_cons (pe_ownG O_law_is_paper (hr.mono (by decide)) free (pa_cons (pv 6) (pa_cons (pv 5) pa_nil))) pa_nil)) (nomark _)) (pss_one (ps_ret pe_bl)) pss_nil)))
      (pss_cons (ps_if (pt_not (pt_val (pe_own O_law_lacking_right (hr.mono (by decide)) (pa_cons (pv 1) (pa_cons (pv 5) pa_nil))))) (pss_one (ps_ret pe_bl)) pss_nil)
      (pss_cons (ps_expr (pe_bm PySem.F.plainAttrs_list PySem.F.slot_list_append PySem.F.type_list_append mt_append (pv 5) (pa_cons (pe_tup (pa_cons (pe_ix ix_tup (pe_ix ix_list (pv 5) (pe_un un_neg pe_int) (fun _ _ => rfl)) pe_int (fun _ _ => rfl)) (pa_cons (pe_ix ix_tup (pe_ix ix_list (pv 5) pe_int (fun _ _ => rfl)) pe_int (fun _ _ => rfl)) (pa_cons pe_int pa_nil)))) pa_nil)))
      (pss_cons (ps_if (pt_cmpR op_ne (pe_callB (call_reprD free (hu65 hr)) (by rfl) B.repr (by decide +kernel) (pa_cons (pe_own O_is_bind (hr.mono (by decide)) (pa_cons (pv 0) (pa_cons (pv 5) pa_nil))) pa_nil)) (pe_callB (call_reprD free (hu65 hr)) (by rfl) B.repr (by decide +kernel) (pa_cons (pe_ownG O_law_is_paper (hr.mono (by decide)) free (pa_cons (pv 1) (pa_cons (pv 5) pa_nil))) pa_nil)) (nomark _)) (pss_one (ps_ret pe_bl)) pss_nil)
      (pss_cons (ps_expr (pe_bm0 PySem.F.plainAttrs_list PySem.F.slot_list_pop PySem.F.type_list_pop mt_pop (pv 5)))
      (pss_cons (ps_set (i := 8) nd rfl (Or.inl rfl) (pe_bm0 PySem.F.plainAttrs_list PySem.F.slot_list_pop PySem.F.type_list_pop mt_pop (pv 5)))
      (pss_cons (ps_if (pt_cmpR op_ne (pe_callB (call_reprD free (hu65 hr)) (by rfl) B.repr (by decide +kernel) (pa_cons (pe_own O_is_bind (hr.mono (by decide)) (pa_cons (pv 0) (pa_cons (pv 5) pa_nil))) pa_nil)) (pe_callB (call_reprD free (hu65 hr)) (by rfl) B.repr (by decide +kernel) (pa_cons (pe_ownG O_law_is_paper (hr.mono (by decide)) free (pa_cons (pv 1) (pa_cons (pv 5) pa_nil))) pa_nil)) (nomark _)) (pss_one (ps_ret pe_bl)) pss_nil)
      (pss_cons (ps_expr (pe_bm PySem.F.plainAttrs_list PySem.F.slot_list_append PySem.F.type_list_append mt_append (pv 5) (pa_cons (pv 8) pa_nil)))
      (pss_cons (ps_if (pt_cmpR op_notBl (pe_own O_is_bind (hr.mono (by decide)) (pa_cons (pv 0) (pa_cons (pv 5) pa_nil))) pe_bl (nomark _)) (pss_one (ps_ret pe_bl)) pss_nil)
      (pss_one (ps_expr (pe_bm0 PySem.F.plainAttrs_list PySem.F.slot_list_clear PySem.F.type_list_clear mt_clear (pv 5)))))))))))))) pss_nil)))))
      (pss_one (ps_ret (pe_and (pe_cmpR (op_eq_dictA (Nat.lt_of_succ_lt hu)) (pe_propO TN (hr.mono (by decide)) (pv 0)) (pe_ix ix_tup (pv 1) pe_int (fun _ _ => rfl)) (nomark _)) (pe_one (pe_cmpR (op_eqO OE (hr.mono (by decide))) (pe_propO TS (hr.mono (by decide)) (pv 0)) (pe_own O_law_there (hr.mono (by decide)) (pa_cons (pv 1) pa_nil)) (nomark _)))))))), ?_⟩
    obtain ⟨dx, sx, ld, px, hx, tv⟩ := id hT
    have sok := sys_ok tv.sys
    have N := hM.ok
    have lN := N.2.2
    have lrs := hM.lr
    have lLs := canon_le eL
    have npL : NoPos (arcsOf L) := NoPos.sub (fun a ha => (arcs_canon eL a).mpr ha) np
    have eqB : ∀ (G' : Own) (g' : List (Str × Int)) (ch : List Rule), bindB (L.map (·.1)) (firmN (sortO G') (sortN ts)) g' ch = bindB (rs.map (·.1)) (firmN G' (sortN ts)) g' ch := fun G' g' ch => by
      rw [firm_sort]
      exact bindB_mem fun r => by rw [eL, canon_mem]
    -- is there a bind
    refine ⟨_, rfl, _, rfl, M, _, 0, .ref an, rfl, rfl, SqT.of hM.m, atI_nat (j := 0) rfl, ?_⟩
    refine ⟨_, rfl, M, _, 1, .ref gp, rfl, rfl, SqT.of hM.m, atI_nat (j := 1) rfl, ?_⟩
    refine ⟨an, gp, ts, rs, rfl, hM.an, N.1, lN, hM.gp, hM.kt, by omega, arcs_in hM.ro, fun fd' H1 Lf s1 nf hf kf fo => ?_⟩
    refine ⟨M, an, gp, d0, T, d, fd', ts, rs, g, r, l, G, arcsOf rs, Lf, rfl, hM.same s1, ⟨hf, kf, fo, arcs_in hM.ro⟩, fun H2 s2 => ?_⟩
    have s12 := s1.trans s2
    have most : ∀ u ∈ firmN G (sortN ts), ∀ v, Most (arcsOf L) u v (lk (bare Lf) (u, v)) := fun u hu v => (FarOk.most fo np (arcs_in hM.ro) (by
      have := firm_things hu
      exact things_perm (sortN_perm ts) this)).sub (arcs_canon eL)
    obtain ⟨F, eF⟩ : ∃ F, firmN G (sortN ts) = F := ⟨_, rfl⟩
    obtain ⟨du, edu⟩ : ∃ du, strB (firmN G (sortN ts)) g Lf = du := ⟨_, rfl⟩
    rw [edu]
    clear s1 s2 hf kf fo nf
    refine ⟨2, rfl, by decide, by decide, ?_⟩
    refine for_it (walk_range (lo := 0)) (fun k σ X => ∃ (o4 o5 o6 o7 o8 : Option V), σ = [some (.ref x), some (.ref M), some (.ref oth), some (.bl du), o4, o5, o6, o7, o8] ∧ Same H X)
      ⟨_, _, _, _, _, rfl, s12⟩ (fun _ _ _ _ _ => True.intro) ?_ ?_
    · rintro k v0 σ Hz X hk ⟨o4, o5, o6, o7, o8, rfl, sX⟩ ⟨rfl, rfl⟩
      refine ⟨_, rfl, x, sortN ts, L, g, r, l, sortO G, rfl, hT.same sX, by omega, npL, fun Y sY no => ?_, fun c ch Y u v z sY nc hc inL lk' lch fu fv ne mo su big => ?_⟩
      · rw [firm_sort] at no
        have e : du = false := by
          rw [← edu]
          exact str_no fun u hu v hv z e => no u hu v hv z (by
            have := most u hu v
            rw [e] at this
            exact this)
        subst e
        refine ⟨_, rfl, rfl, _, rfl, rfl, _, rfl, iteFe (by decide) ?_⟩
        exact ⟨_, rfl, _, rfl, iteF ⟨_, _, _, _, _, rfl, sX.trans sY⟩⟩
      · rw [firm_sort] at fu fv
        have e : du = true := by
          rw [← edu]
          refine str_yes fu fv ne ?_ big
          exact (most u fu v).one mo
        subst e
        refine ⟨_, rfl, rfl, _, rfl, rfl, _, rfl, iteFe (by rw [decide_eq_false (show ¬ V.ref c = V.non from fun z => nomatch z)]; rfl) ?_⟩
        refine ⟨_, rfl, _, rfl, iteT ?_⟩
        have sHY := sX.trans sY
        have ktY : KeyTups Y ch := by
          obtain ⟨_, _, _, _, _, _, h, _⟩ := tv.sys.same sHY
          exact fun p hp => h p (inL p hp)
        have roC : ∀ p ∈ ch, RuleOk (sortN ts) p.1 := fun p hp => sok.rules p (inL p hp)
        have RY : RulesAt Y c ch := ⟨hc, ktY, by omega, sortN ts, sok.names, roC⟩
        have ncH : H c = none := sX.free nc
        have inLr : ∀ p ∈ ch, p.1 ∈ L.map (·.1) := fun p hp => List.mem_map.mpr ⟨p, inL p hp, rfl⟩
        have yesL : bindB (L.map (·.1)) (firmN (sortO G) (sortN ts)) g (ch.map (·.1)) = true := by
          rw [firm_sort]
          exact bind_true lk' ne inLr fu fv (by rw [su]; exact big)
        have yesR : bindB (rs.map (·.1)) (firmN G (sortN ts)) g (ch.map (·.1)) = true := by rw [← eqB]; exact yesL
        clear mo most
        refine ⟨_, rfl, _, rfl, M, c, an, gp, d0, T, d, ts, rs, ch, g, r, l, G, rfl, hM.same sHY, RY, fun Y1 s1 => ?_⟩
        rw [yesR]
        refine ⟨_, rfl, iteF ?_⟩
        refine ⟨_, rfl, _, rfl, x, c, sortN ts, L, ch, g, r, l, sortO G, rfl, (hT.same sHY).same s1, RY.same s1, fun Y2 s2 => ?_⟩
        rw [yesL]
        refine ⟨_, _, rfl, rfl, _, rfl, iteF ?_⟩
        have sH2 := (sHY.trans s1).trans s2
        have R2 := (RY.same s1).same s2
        clear s1 s2 hc nc
        -- the others
        refine ⟨_, rfl, oth, rfl, ⟨_, SqL.of (sH2 _ _ ho)⟩, ?_⟩
        refine for_it (walk_list (xs := js.map fun j => V.ref j.pr)) (fun m σ Z => ∃ (o6 o7 : Option V), σ = [some (.ref x), some (.ref M), some (.ref oth), some (.bl true), some (.int (0 + (k : Int))), some (.ref c), o6, o7, o8] ∧ Same Y2 Z)
          ⟨_, _, rfl, Same.refl _⟩ (fun m σ Z _ h => by
            obtain ⟨_, _, _, s⟩ := h
            exact SqL.of ((sH2.trans s) _ _ ho)) ?_ ?_
        · rintro m v0 σ Hz Z hm ⟨o6, o7, rfl, sZ⟩ ⟨rfl, hv⟩
          obtain ⟨j, hj, rfl⟩ := get_map hv
          have sHZ := sH2.trans sZ
          have jZ := (hJ j (List.mem_of_getElem? hj)).same sHZ
          refine ⟨j.pr, _, rfl, SqT.of jZ.pr, rfl, _, _, rfl, _, _, rfl, rfl, ?_⟩
          refine ⟨_, rfl, _, rfl, j.x, c, sortN ts, L, ch, j.g, j.r, j.l, sortO j.G, rfl, jZ.tk, R2.same sZ, fun Z1 s3 => ?_⟩
          rw [eqB]
          obtain ⟨f0, f1, f2, f3⟩ := bool_fits (bindB (rs.map (·.1)) (firmN j.G (sortN ts)) j.g (ch.map (·.1)))
          refine ⟨_, _, rfl, .dp (.bl _), f0, f1, f2, f3, ?_⟩
          refine ⟨_, rfl, _, rfl, j.M, c, an, gp, j.d0, j.T, j.d, ts, rs, ch, j.g, j.r, j.l, j.G, rfl, jZ.md.same s3, (R2.same sZ).same s3, fun Z2 s4 => ?_⟩
          refine ⟨_, _, rfl, .dp (.bl _), f0, f1, f2, f3, ?_⟩
          refine ⟨rfl, _, rfl, iteFe (by rw [decide_eq_true rfl]; rfl) ?_⟩
          exact ⟨_, _, rfl, (sZ.trans s3).trans s4⟩
        · rintro σ Z ⟨o6, o7, rfl, sZ⟩
          have sHZ := sH2.trans sZ
          have RZ := R2.same sZ
          refine ⟨_, rfl, _, rfl, M, c, an, gp, d0, T, d, ts, rs, ch, g, r, l, G, rfl, hM.same sHZ, RZ, fun Z1 s3 => ?_⟩
          refine ⟨_, rfl, iteF ?_⟩
          have sH1 := sHZ.trans s3
          have R1 := RZ.same s3
          clear s3 RZ sZ sHZ R2 RY sHY sY
          -- with one rule more
          have big0 : sizeLine > 100000 := by decide
          have hne : ch ≠ [] := fun e => by
            subst e
            exact ne lk'
          obtain ⟨hl1, hl2, hl3⟩ := links_ends lk' hne
          obtain ⟨c0, h0, e0⟩ := headR hne
          obtain ⟨cl, init, el, e1⟩ := lastR hne
          rw [e0] at hl2
          rw [e1] at hl3
          have hl2 : c0.1.low = u := Option.some.inj hl2
          have hl3 : cl.1.high = v := Option.some.inj hl3
          have m0 := List.mem_of_getElem? h0
          have ml : cl ∈ ch := by rw [el]; simp
          refine ⟨_, rfl, .inl ⟨rfl, _, SqL.of R1.at_⟩, ?_⟩
          refine ⟨_, rfl, 1, rfl, c, _, -1, .ref cl.2, rfl, rfl, SqL.of R1.at_, by rw [el, List.map_append]; exact L2.atI_last _ _, ?_⟩
          refine ⟨cl.2, _, 1, endV cl.1.high, rfl, rfl, SqT.of (R1.keys cl ml), atI_nat (j := 1) rfl, ?_⟩
          refine ⟨_, rfl, c, _, 0, .ref c0.2, rfl, rfl, SqL.of R1.at_, atI_nat (j := 0) (by rw [List.getElem?_map, h0]; rfl), ?_⟩
          refine ⟨c0.2, _, 0, endV c0.1.low, rfl, rfl, SqT.of (R1.keys c0 m0), atI_nat (j := 0) rfl, ?_⟩
          rw [hl2, hl3]
          refine ⟨by show 3 ≤ sizeLine; decide, fun tn ntn => ?_⟩
          have u2 := same_new (o := .tup [endV v, endV u, .int 998]) ntn
          have htn : (upd Z1 tn (.tup [endV v, endV u, .int 998])) tn = some (.tup (ruleV ⟨v, u, 998⟩)) := upd_same
          have hc2 := u2 _ _ R1.at_
          have kt2 : KeyTups (upd Z1 tn (.tup [endV v, endV u, .int 998])) ch := fun p hp => u2 _ _ (R1.keys p hp)
          have sH2 := sH1.trans u2
          generalize upd Z1 tn (.tup [endV v, endV u, .int 998]) = Z2 at u2 htn hc2 kt2 sH2 ⊢
          refine ⟨c, _, _, rfl, rfl, hc2, by rw [List.length_map]; omega, ?_⟩
          have sH3 : Same H (upd Z2 c (.lst ((ch.map fun p => V.ref p.2) ++ [.ref tn]))) := fun b o hb => by
            rw [upd_ne (ne_of_none hb ncH)]
            exact sH2 _ _ hb
          have R3 : RulesAt (upd Z2 c (.lst ((ch.map fun p => V.ref p.2) ++ [.ref tn]))) c (ch ++ [(⟨v, u, 998⟩, tn)]) := by
            refine ⟨by rw [upd_same, List.map_append]; rfl, fun p hp => ?_, by rw [List.length_append]; simp; omega, sortN ts, sok.names, fun p hp => ?_⟩
            · rcases List.mem_append.mp hp with hp | hp
              · rw [upd_ne (ne_of (kt2 p hp) hc2 fun z => nomatch z)]
                exact kt2 p hp
              · rw [List.mem_singleton.mp hp, upd_ne (ne_of htn hc2 fun z => nomatch z)]
                exact htn
            · rcases List.mem_append.mp hp with hp | hp
              · exact roC p hp
              · rw [List.mem_singleton.mp hp]
                exact ⟨firm_end fv, firm_end fu, ne.symm, (by show (-999 : Int) ≤ 998; decide), (by show (998 : Int) ≤ 999; decide)⟩
          generalize upd Z2 c (.lst ((ch.map fun p => V.ref p.2) ++ [.ref tn])) = Z3 at sH3 R3 ⊢
          refine ⟨_, rfl, _, rfl, x, c, sortN ts, L, _, g, r, l, sortO G, rfl, hT.same sH3, R3, fun Z4 s4 => ?_⟩
          rw [eqB]
          obtain ⟨f0, f1, f2, f3⟩ := bool_fits (bindB (rs.map (·.1)) (firmN G (sortN ts)) g ((ch ++ [((⟨v, u, 998⟩ : Rule), tn)]).map (·.1)))
          refine ⟨_, _, rfl, .dp (.bl _), f0, f1, f2, f3, ?_⟩
          refine ⟨_, rfl, _, rfl, M, c, an, gp, d0, T, d, ts, rs, _, g, r, l, G, rfl, hM.same (sH3.trans s4), R3.same s4, fun Z5 s5 => ?_⟩
          refine ⟨_, _, rfl, .dp (.bl _), f0, f1, f2, f3, ?_⟩
          refine ⟨rfl, _, rfl, iteFe (by rw [decide_eq_true rfl]; rfl) ?_⟩
          have sH5 := (sH3.trans s4).trans s5
          have hc5 := (R3.same (s4.trans s5)).at_
          have kt5 : KeyTups Z5 ch := fun p hp => (R3.same (s4.trans s5)).keys p (List.mem_append_left _ hp)
          clear s4 s5 f0 f1 f2 f3 R3 sH3 kt2 hc2 u2 htn sH2 R1 sH1
          -- taken off again, and the last one too
          refine ⟨_, rfl, .inl ⟨rfl, _, SqL.of hc5⟩, c, _, .ref tn, rfl, rfl, hc5, by rw [List.map_append, List.length_append]; simp, ?_⟩
          have dl : ((ch ++ [((⟨v, u, 998⟩ : Rule), tn)]).map fun p => V.ref p.2).dropLast = ch.map fun p => V.ref p.2 := by
            rw [List.map_append]
            simp
          rw [dl]
          have sH6 : Same H (upd Z5 c (.lst (ch.map fun p => V.ref p.2))) := fun b o hb => by
            rw [upd_ne (ne_of_none hb ncH)]
            exact sH5 _ _ hb
          have hc6 : (upd Z5 c (.lst (ch.map fun p => V.ref p.2))) c = some (.lst (ch.map fun p => V.ref p.2)) := upd_same
          have kt6 : KeyTups (upd Z5 c (.lst (ch.map fun p => V.ref p.2))) ch := fun p hp => by
            rw [upd_ne (ne_of (kt5 p hp) hc5 fun z => nomatch z)]
            exact kt5 p hp
          generalize upd Z5 c (.lst (ch.map fun p => V.ref p.2)) = Z6 at sH6 hc6 kt6 ⊢
          refine ⟨_, rfl, .inl ⟨rfl, _, SqL.of hc6⟩, c, _, .ref cl.2, rfl, rfl, hc6, by rw [el, List.map_append, List.length_append]; simp, ?_⟩
          have dl2 : (ch.map fun p => V.ref p.2).dropLast = init.map fun p => V.ref p.2 := by
            rw [el, List.map_append]
            simp
          rw [dl2]
          have sH7 : Same H (upd Z6 c (.lst (init.map fun p => V.ref p.2))) := fun b o hb => by
            rw [upd_ne (ne_of_none hb ncH)]
            exact sH6 _ _ hb
          have kt7 : KeyTups (upd Z6 c (.lst (init.map fun p => V.ref p.2))) ch := fun p hp => by
            rw [upd_ne (ne_of (kt6 p hp) hc6 fun z => nomatch z)]
            exact kt6 p hp
          have sub : ∀ p ∈ init, p ∈ ch := fun p hp => by rw [el]; exact List.mem_append_left _ hp
          have R7 : RulesAt (upd Z6 c (.lst (init.map fun p => V.ref p.2))) c init := ⟨upd_same, fun p hp => kt7 p (sub p hp), by have := congrArg List.length el; rw [List.length_append] at this; omega, sortN ts, sok.names, fun p hp => roC p (sub p hp)⟩
          generalize upd Z6 c (.lst (init.map fun p => V.ref p.2)) = Z7 at sH7 kt7 R7 ⊢
          refine ⟨_, rfl, _, rfl, x, c, sortN ts, L, _, g, r, l, sortO G, rfl, hT.same sH7, R7, fun Z8 s8 => ?_⟩
          rw [eqB]
          obtain ⟨f0, f1, f2, f3⟩ := bool_fits (bindB (rs.map (·.1)) (firmN G (sortN ts)) g (init.map (·.1)))
          refine ⟨_, _, rfl, .dp (.bl _), f0, f1, f2, f3, ?_⟩
          refine ⟨_, rfl, _, rfl, M, c, an, gp, d0, T, d, ts, rs, _, g, r, l, G, rfl, hM.same (sH7.trans s8), R7.same s8, fun Z9 s9 => ?_⟩
          refine ⟨_, _, rfl, .dp (.bl _), f0, f1, f2, f3, ?_⟩
          refine ⟨rfl, _, rfl, iteFe (by rw [decide_eq_true rfl]; rfl) ?_⟩
          have sH9 := (sH7.trans s8).trans s9
          have R9 := (R7.same s8).same s9
          have kt9 : KeyTups Z9 ch := fun p hp => s9 _ _ (s8 _ _ (kt7 p hp))
          clear s8 s9 f0 f1 f2 f3 R7 sH7 kt7 hc6 kt6 sH6 dl dl2
          -- and put back
          refine ⟨_, rfl, .inl ⟨rfl, _, SqL.of R9.at_⟩, _, rfl, c, _, _, rfl, rfl, R9.at_, by rw [List.length_map]; have := R9.len; omega, ?_⟩
          have ap : (init.map fun p => V.ref p.2) ++ [V.ref cl.2] = ch.map fun p => V.ref p.2 := by
            rw [el, List.map_append]
            rfl
          rw [ap]
          have sHA : Same H (upd Z9 c (.lst (ch.map fun p => V.ref p.2))) := fun b o hb => by
            rw [upd_ne (ne_of_none hb ncH)]
            exact sH9 _ _ hb
          have RA : RulesAt (upd Z9 c (.lst (ch.map fun p => V.ref p.2))) c ch := ⟨upd_same, fun p hp => by
            rw [upd_ne (ne_of (kt9 p hp) R9.at_ fun z => nomatch z)]
            exact kt9 p hp, by omega, sortN ts, sok.names, roC⟩
          generalize upd Z9 c (.lst (ch.map fun p => V.ref p.2)) = ZA at sHA RA ⊢
          refine ⟨_, rfl, _, rfl, x, c, sortN ts, L, ch, g, r, l, sortO G, rfl, hT.same sHA, RA, fun ZB sB => ?_⟩
          rw [yesL]
          refine ⟨_, _, rfl, rfl, _, rfl, iteF ?_⟩
          have sHB := sHA.trans sB
          have hcB := (RA.same sB).at_
          refine ⟨_, rfl, .inl ⟨rfl, _, SqL.of hcB⟩, c, _, rfl, rfl, hcB, ?_⟩
          refine ⟨_, _, _, _, _, rfl, fun b o hb => ?_⟩
          rw [upd_ne (ne_of_none hb ncH)]
          exact sHB _ _ hb
    · rintro σ X ⟨o4, o5, o6, o7, o8, rfl, sX⟩
      have MX := hM.same sX
      have tX := tv.same sX
      have hxX := sX _ _ hx
      refine ⟨_, rfl, x, dx, _, rfl, hxX, x, dx, sx, ld, px, ordG (sortN ts) g, rfl, hxX, tX.num, fun n1 nn1 => ?_⟩
      have u1 := same_new (o := .dK (goalKV (ordG (sortN ts) g))) nn1
      have hn1 : (upd X n1 (.dK (goalKV (ordG (sortN ts) g)))) n1 = some (.dK (goalKV (ordG (sortN ts) g))) := upd_same
      have m1 := MX.same u1
      have S1 := tX.sys.same u1
      have hx1 := u1 _ _ hxX
      have sH1 := sX.trans u1
      generalize upd X n1 (.dK (goalKV (ordG (sortN ts) g))) = Z1 at u1 hn1 m1 S1 hx1 sH1 ⊢
      refine ⟨_, rfl, M, _, 2, .ref d0, rfl, rfl, SqT.of m1.m, atI_nat (j := 2) rfl, ?_⟩
      obtain ⟨v1, v2⟩ := vals_same (F := fun t => valG g (some t)) (nums_sort m1.nums).1 (fun t _ => rfl)
      refine ⟨n1, d0, _, _, rfl, rfl, hn1, m1.d0, v1, v2, ?_⟩
      refine ⟨_, rfl, ?_⟩
      rw [if_pos rfl]
      refine ⟨_, rfl, x, dx, _, rfl, hx1, x, dx, sx, ld, px, rfl, hx1, ?_⟩
      refine ⟨_, rfl, M, an, gp, d0, T, d, ts, rs, g, r, l, G, rfl, m1, fun y2 L2 Z2 s2 nS2 eL2 lL2 => ?_⟩
      refine eq_sys TS_ (S1.same s2) nS2.at_ ?_
      rw [eL, eL2, decide_eq_true rfl, decide_eq_true rfl]
      exact q _ (sH1.trans s2)
end
end Wnd

/-! Windowsteps: list(text): its signs. -/
namespace Wnd
open PySem PySem.Spec PyProof.Rows L2
section
variable {prog : Program} {w : World} {A : Around} {E : Value → Shared → Prop} {s : Shared}
theorem hint_text {x : Str} {t : Tok} {Q : Bool → Shared → Prop} (h : Q false s) : wpAny (model prog w) A (Builtin.List.listLengthHint (.str x t)) Q E s := by
  have hT : s.TypeIs (.str x t) "str" := typeIs_str s x t
  unfold Builtin.List.listLengthHint
  refine wpAny_bind (wpAny_specialOf hT PySem.F.slot_str_len.lookup ?_)
  generalize eid : ("str.__len__" : String) = id1
  wp_delta
  rw [show splitId id1 = some ("str", "__len__") from by subst eid; decide +kernel]
  subst eid
  refine wpAny_bind (wpAny_isInstance (T := "str") (b := true) hT (by rw [isSubtype_type]; kernel_rfl) ?_)
  refine wpAny_ite_split (fun z => absurd z (by decide)) (fun _ => ?_)
  refine wpAny_ite_split (fun _ => ?_) (fun z => absurd (by decide +kernel) z)
  refine wpAny_bind (wpAny_typeOf hT ?_)
  exact wpAny_pure h
theorem extend_text {R : Result → Shared → Prop} (calm : A.handled = none) (x : Str) (t : Tok) (S : Addr) (res : Value) (c₀ : Nat) (hS : s.heap.get? S = some { cls := .type "list", data := .seq #[] c₀ })
    (done : ∀ h' tk acc c', (∀ b o, b ≠ S → s.heap.get? b = some o → h'.get? b = some o) → h'.get? S = some { cls := .type "list", dict := none, data := .seq acc c', slots := #[] } →
      ItemsOf (SignAt x) acc x.cps.size → R (.ok (.ret res)) { s with heap := h', toks := tk }) (few : x.cps.size ≤ sizeLine) :
    wpAny (model prog w) A.in1 (Builtin.List.listExtendWith (.ref S) (.str x t) res)
      (fun fin s1 => match fin with | .done f => R (.ok f) s1 | .again c1 => c1.quiet = true ∧ codeAny (model prog w) A c1 R s1) (fun e s1 => R (.error e) s1) s := by
  have apart : S ≠ s.heap.objs.size := Nat.ne_of_lt (Heap.lt_size hS)
  have out : S ∉ [s.heap.objs.size] := fun z => apart (List.mem_singleton.mp z)
  unfold Builtin.List.listExtendWith
  refine wpAny_bind (wpAny_typeOf (T := "str") (v := .str x t) (typeIs_str s x t) ?_)
  have k1 : Builtin.List.listSameRef (.ref S) (.str x t) = false := rfl
  have k2 : (Value.type "str" == Value.type "list") = false := by decide
  have k3 : (Value.type "str" == Value.type "tuple") = false := by decide
  simp only [k1, k2, k3, Bool.or_false, Bool.false_eq_true, if_false]
  refine wpAny_bind (wpAny_pyIter_str fun o St walks st => ?_)
  refine wpAny_bind (wpAny_holding (hint_text ?_))
  rw [if_neg (by first | decide | decide +kernel)]
  have W := walks A.in1 calm
  refine wpAny_pure ⟨plainId_quiet PySem.F.plain_extend_loop _, codeAny_extend_loopS W.toS few _ out _ x.cps.size 0 _ _ _ rfl (Nat.zero_le _) st (Heap.get?_push_of_some _ hS) (ItemsOf.nil _) fun s1 acc c1 hm h1 items => ?_⟩
  rw [Moved.eq_with hm]
  refine done s1.heap s1.toks acc c1 (fun b ob hb e => hm.heap b ob (fun z => ?_) (Heap.get?_push_of_some _ e)) h1 items
  rcases List.mem_cons.mp z with z | z
  · exact hb z
  · exact absurd (Heap.lt_size e) (by rw [List.mem_singleton.mp z]; exact Nat.lt_irrefl _)
theorem init_text {R : Result → Shared → Prop} (calm : A.handled = none) (x : Str) (t : Tok) (S : Addr) (hS : s.heap.get? S = some { cls := .type "list", data := .seq #[] })
    (done : ∀ h' tk acc c', (∀ b o, b ≠ S → s.heap.get? b = some o → h'.get? b = some o) → h'.get? S = some { cls := .type "list", dict := none, data := .seq acc c', slots := #[] } →
      ItemsOf (SignAt x) acc x.cps.size → R (.ok (.ret .none)) { s with heap := h', toks := tk }) (few : x.cps.size ≤ sizeLine) :
    wpAny (model prog w) A.in1 (Builtin.«list.__init__» ⟨[.ref S, .str x t], []⟩)
      (fun fin s1 => match fin with | .done f => R (.ok f) s1 | .again c1 => c1.quiet = true ∧ codeAny (model prog w) A c1 R s1) (fun e s1 => R (.error e) s1) s := by
  show wpAny _ _ (do
    let old ← Builtin.List.listItems (.ref S)
    Builtin.List.listUpdate (.ref S) (fun _ => #[])
    letGo old.toList.reverse
    Builtin.List.listExtendWith (.ref S) (.str x t) .none) _ _ s
  refine wpAny_bind ?_
  unfold Builtin.List.listItems
  refine wpAny_bind (wpAny_seqItems hS rfl (wpAny_pure ?_))
  show wpAny _ _ (updateSeq S (fun _ => #[]) >>= fun _ => letGo (#[] : Array Value).toList.reverse >>= fun _ => Builtin.List.listExtendWith (.ref S) (.str x t) .none) _ _ s
  refine wpAny_bind (wpAny_updateSeq hS rfl ?_)
  have h2 := Heap.get?_update_self (Obj.mapSeq (fun _ => (#[] : Array Value))) hS rfl
  refine wpAny_bind (wpAny_letGo ?_)
  refine extend_text calm x t S .none _ h2 (fun h' tk acc c' hk h3 items => ?_) few
  exact done h' tk acc c' (fun b o hb e => hk b o hb ((Heap.get?_update_other _ _ (Ne.symm hb)).trans e)) h3 items
theorem call_list_text {x : Str} {t : Tok} {Q : Value → Shared → Prop} (calm : A.handled = none) (few : x.cps.size ≤ sizeLine)
    (done : ∀ h' tk acc c', (∀ b o, s.heap.get? b = some o → h'.get? b = some o) →
      h'.get? s.heap.objs.size = some { cls := .type "list", dict := none, data := .seq acc c', slots := #[] } → ItemsOf (SignAt x) acc x.cps.size → Q (.ref s.heap.objs.size) { s with heap := h', toks := tk }) :
    wpAny (model prog w) A (call (.type "list") [.str x t]) Q E s := by
  refine callType_codes (Q₁ := fun ob s1 => ob = .ref s.heap.objs.size ∧ s1 = { s with heap := s.heap.push { cls := .type "list", data := .seq #[] } }) PySem.F.called_list (PySem.F.typeCall_list_1 _) PySem.F.entry_list_init
    (code_list_new _ ⟨rfl, rfl⟩) fun ob s1 h1 => ?_
  obtain ⟨rfl, rfl⟩ := h1
  have hS : (s.heap.push { cls := .type "list", data := .seq #[] }).get? s.heap.objs.size = some { cls := .type "list", data := .seq #[] } := Heap.get?_push_size _ rfl
  refine ⟨⟨_, hS, rfl⟩, PySem.F.args_list_init_2 _ _, init_text (A := A.in1) calm x t _ hS (fun h' tk acc c' hk h2 items => ?_) few⟩
  exact ⟨rfl, done h' tk acc c' (fun b o e => hk b o (Nat.ne_of_lt (Heap.lt_size e)) (Heap.get?_push_of_some _ e)) h2 items⟩
end
/-- its signs, each a text -/
def signs (x : Str) : List Str := x.cps.toList.map fun c => ⟨#[c]⟩
def rListS : List V → Hp → VK → Prop := fun xs H Q => ∃ x : Str, xs = [.str x] ∧ x.cps.size ≤ sizeLine ∧ ∀ l, H l = none → Q (.ref l) (upd H l (.lst ((signs x).map V.str)))
theorem call_listS {X : Cx} (calm : X.calm = true) : CallR X (.type "list") rListS := by
  intro pins s σ H xs us Q I r h
  obtain ⟨x, rfl, hz, q⟩ := h
  obtain ⟨u, rfl, t, rfl⟩ := vals1 r
  refine call_list_text (I.ok.hd calm) hz fun h' tk acc c' hk h1 items => ?_
  refine ⟨.ref s.heap.objs.size, upd H s.heap.objs.size (.lst ((signs x).map V.str)), ?_, rfl, q _ (I.hok.fresh (Nat.le_refl _))⟩
  have hl : acc.toList.length = x.cps.size := by
    have := items.1
    simpa using this
  refine I.laid (t' := tk) hk (Nat.le_refl _) (show ObjOk X.prog X.w _ _ _ (.lst ((signs x).map V.str)) from ⟨?_, acc.toList, c', ?_, ?_⟩)
  · unfold signs
    rw [List.length_map, List.length_map, Array.length_toList]
    exact hz
  · refine vals_of_idx _ _ ?_ fun j u hj => ?_
    · unfold signs
      rw [List.length_map, List.length_map, Array.length_toList]
      exact hl
    · have hj' : acc[j]? = some u := by rwa [Array.getElem?_toList] at hj
      obtain ⟨c, tk2, e1, rfl⟩ := items.2 j u hj'
      refine ⟨.str ⟨#[c]⟩, ?_, tk2, rfl⟩
      unfold signs
      rw [List.getElem?_map, List.getElem?_map, Array.getElem?_toList, e1]
      rfl
  · simpa using h1
end Wnd

/-! a row of twenty settings (gaps of both sizes) -/
namespace Wnd
open PySem PySem.Spec PyProof.Rows L2
abbrev s_law_twenty : Stmt := top 71
theorem sc_law_twenty : FnScope ["_law_pen_here", "_law_letters", "_law_left", "_law_nyms_here", "_law_gaps_here", "_law_k", "_law_gap", "_law_ends_here"] ["_law_pen_here"] (defScope s_law_twenty) := ⟨rfl, rfl, rfl, by decide +kernel, rfl, by decide +kernel, by decide +kernel⟩
section
variable {P : Program} {w : World} {K : PySem.W.Frag} {mg : Str → Option Value} {base : Heap}
theorem But.lay {p l : Addr} {H H' : Hp} {u : HO} (b : But p H H') (h : H l = none) : But p H (L2.upd H' l u) := fun x o hx n => by
  rw [upd_ne (ne_of_none hx h)]
  exact b x o hx n
def letters20 : List Str := signs "abcdefghijklmnopqrst"
def rowOf (t : Str) : Str := t ++ ("row" : Str)
theorem rows_ok : NamesOk (letters20.map rowOf) := ⟨by decide +kernel, by decide +kernel, by decide +kernel⟩
theorem rows_len : (letters20.map rowOf).length = 20 := by decide +kernel
theorem letters_ok : ∀ t ∈ letters20, PyData.strOk t = true ∧ t.length ≤ 8 := by decide +kernel
theorem perm_row {us rest : List Str} {pool : List Str} {k : Nat} (hk : k < rest.length) (h : (us ++ rest.map rowOf).Perm (pool.map rowOf)) : ((us ++ [rowOf rest[k]]) ++ (rest.eraseIdx k).map rowOf).Perm (pool.map rowOf) := by
  refine List.Perm.trans ?_ h
  rw [List.append_assoc]
  refine List.Perm.append_left _ ?_
  have := (cons_erase rest k hk).map rowOf
  exact this
/-- what the row's loop has found -/
structure RowAt (nm : Nat → Str) (i : Nat) (rs : List (Rule × Addr)) (ψ : Node → Int) (z : Int) : Prop where
  ground : ψ none = 0
  first : ψ (some (nm 0)) = 0
  far : ∀ j, j ≤ i → -(4 * z * j) ≤ ψ (some (nm j)) ∧ ψ (some (nm j)) ≤ 4 * z * j
  rule : ∀ x ∈ rs, ∃ a b, a ≤ i ∧ b ≤ i ∧ a ≠ b ∧ x.1.low = some (nm a) ∧ x.1.high = some (nm b) ∧ -999 ≤ x.1.gap ∧ x.1.gap ≤ 999 ∧ ψ (some (nm a)) + x.1.gap ≤ ψ (some (nm b))
  row : ∀ k, k < i → ∃ g, (some (nm k), some (nm (k + 1)), g) ∈ arcsOf rs
theorem RowAt.start (nm : Nat → Str) (z : Int) : RowAt nm 0 [] (fun _ => 0) z := ⟨rfl, rfl, fun j hj => by
  have : j = 0 := by omega
  subst this
  exact ⟨by omega, by omega⟩, (fun _ h => nomatch h), fun k h => by omega⟩
theorem RowAt.next {nm : Nat → Str} {i : Nat} {rs : List (Rule × Addr)} {ψ : Node → Int} {z : Int} (R : RowAt nm i rs ψ z) (inj : ∀ a b, a ≤ i + 1 → b ≤ i + 1 → nm a = nm b → a = b) {g : Int} (g0 : -999 ≤ g) (g1 : g ≤ 999) (hg : -(4 * z) ≤ g ∧ g ≤ 4 * z) {q : Addr} :
    RowAt nm (i + 1) (rs ++ [(⟨some (nm i), some (nm (i + 1)), g⟩, q)]) (fun e => if e = some (nm (i + 1)) then ψ (some (nm i)) + g else ψ e) z := by
  have other : ∀ a, a ≤ i → (if (some (nm a) : Node) = some (nm (i + 1)) then ψ (some (nm i)) + g else ψ (some (nm a))) = ψ (some (nm a)) := fun a ha => if_neg fun e => by
    have := inj a (i + 1) (by omega) (by omega) (Option.some.inj e)
    omega
  refine ⟨?_, ?_, fun j hj => ?_, fun x hx => ?_, fun k hk => ?_⟩
  · show (if (none : Node) = some (nm (i + 1)) then _ else ψ none) = 0
    rw [if_neg (fun e => nomatch e)]
    exact R.ground
  · show (if (some (nm 0) : Node) = some (nm (i + 1)) then _ else _) = 0
    rw [other 0 (Nat.zero_le _)]
    exact R.first
  · show _ ≤ (if (some (nm j) : Node) = some (nm (i + 1)) then _ else _) ∧ (if (some (nm j) : Node) = some (nm (i + 1)) then _ else _) ≤ _
    by_cases e : j = i + 1
    · subst e
      rw [if_pos rfl]
      obtain ⟨f0, f1⟩ := R.far i (Nat.le_refl _)
      have e2 : 4 * z * ((i + 1 : Nat) : Int) = 4 * z * (i : Int) + 4 * z := by rw [Int.natCast_add, Int.mul_add]; simp
      rw [e2]
      omega
    · rw [other j (by omega)]
      exact R.far j (by omega)
  · rcases List.mem_append.mp hx with hx | hx
    · obtain ⟨a, b, h1, h2, h3, h4, h5, h6, h7, h8⟩ := R.rule x hx
      refine ⟨a, b, by omega, by omega, h3, h4, h5, h6, h7, ?_⟩
      show (if (some (nm a) : Node) = some (nm (i + 1)) then _ else _) + _ ≤ (if (some (nm b) : Node) = some (nm (i + 1)) then _ else _)
      rw [other a h1, other b h2]
      exact h8
    · rw [List.mem_singleton.mp hx]
      refine ⟨i, i + 1, by omega, by omega, by omega, rfl, rfl, g0, g1, ?_⟩
      show (if (some (nm i) : Node) = some (nm (i + 1)) then _ else _) + g ≤ (if (some (nm (i + 1)) : Node) = some (nm (i + 1)) then _ else _)
      rw [other i (Nat.le_refl _), if_pos rfl]
      exact Int.le_refl _
  · unfold arcsOf
    rw [List.map_append]
    by_cases e : k = i
    · subst e
      exact ⟨g, List.mem_append_right _ (List.mem_singleton.mpr rfl)⟩
    · obtain ⟨g', h⟩ := R.row k (by omega)
      exact ⟨g', List.mem_append_left _ h⟩
theorem RowAt.more {nm : Nat → Str} {i : Nat} {rs : List (Rule × Addr)} {ψ : Node → Int} {z : Int} (R : RowAt nm i rs ψ z) {a b : Nat} {g : Int} {q : Addr} (ha : a ≤ i) (hb : b ≤ i) (ne : a ≠ b) (g0 : -999 ≤ g) (g1 : g ≤ 999) (h : ψ (some (nm a)) + g ≤ ψ (some (nm b))) :
    RowAt nm i (rs ++ [(⟨some (nm a), some (nm b), g⟩, q)]) ψ z := by
  refine ⟨R.ground, R.first, R.far, fun x hx => ?_, fun k hk => ?_⟩
  · rcases List.mem_append.mp hx with hx | hx
    · exact R.rule x hx
    · rw [List.mem_singleton.mp hx]
      exact ⟨a, b, ha, hb, ne, rfl, rfl, g0, g1, h⟩
  · obtain ⟨g', h⟩ := R.row k hk
    unfold arcsOf
    rw [List.map_append]
    exact ⟨g', List.mem_append_left _ h⟩
theorem nodup_at {α : Type} : ∀ {l : List α} {a b : Nat} (nd : l.Nodup) (ha : a < l.length) (hb : b < l.length), l[a] = l[b] → a = b
  | x :: l, 0, 0, _, _, _, _ => rfl
  | x :: l, 0, b + 1, nd, _, hb, e => ((List.nodup_cons.mp nd).1 (by
      have e : x = l[b]'(by simpa using hb) := e
      rw [e]
      exact List.getElem_mem _)).elim
  | x :: l, a + 1, 0, nd, ha, _, e => ((List.nodup_cons.mp nd).1 (by
      have e : l[a]'(by simpa using ha) = x := e
      rw [← e]
      exact List.getElem_mem _)).elim
  | x :: l, a + 1, b + 1, nd, ha, hb, e => congrArg (· + 1) (nodup_at (List.nodup_cons.mp nd).2 (by simpa using ha) (by simpa using hb) e)
theorem KeyTups.lay {H : Hp} {l : Addr} {rs : List (Rule × Addr)} {xs ys : List V} (k : KeyTups H rs) (h : H l = some (.lst xs)) : KeyTups (L2.upd H l (.lst ys)) rs := fun p hp => by
  rw [upd_ne (ne_of (k p hp) h fun z => nomatch z)]
  exact k p hp
def spTwenty : Sp := fun vs H Q _ => ∃ (p c : Addr) (n : Nat), vs = [.ref p] ∧ PenAt H p c n ∧ n ≤ 700000 ∧
  ∀ t an bg H' n' (ns : List Str) (rs : List (Rule × Addr)), But p H H' → H t = none → H an = none → H bg = none → H' t = some (.tup [.ref an, .ref bg]) → H' an = some (.lst (ns.map V.str)) → NamesOk ns → ns.length = 20 → H' bg = some (.lst (rs.map fun x => V.ref x.2)) → KeyTups H' rs → (∀ x ∈ rs, RuleOk ns x.1) → rs.length ≤ 60 →
    (∃ φ, Keeps (arcsOf rs) φ) → (∀ k, k < 19 → ∃ a b g, ns[k]? = some a ∧ ns[k + 1]? = some b ∧ (some a, some b, g) ∈ arcsOf rs) → PenAt H' p c n' → n' ≤ n + 200 → Q (.ref t) H'
theorem ok_twenty {f : Addr} {fd : FuncData} (D : DefAt K mg "_law_twenty" s_law_twenty ["_law_pen_here"] f fd) (B : Blt2 mg) (O_law_draw : Ok P w K mg base 2 "_law_draw" ["_law_pen_here", "_law_under"] spDraw) : Ok P w K mg base 3 "_law_twenty" ["_law_pen_here"] spTwenty := by
  refine D.ok (D.fn.ok sc_law_twenty (fun vs H Q E h => ?_) (fun cdv A outer s H vs Q E hr h => ?_))
  · obtain ⟨p, c, n, rfl, _⟩ := h
    rfl
  · obtain ⟨p, c, n, rfl, hP, hn, q⟩ := h
    have nd := sc_law_twenty.nd
    refine ⟨_, (pss_cons (ps_set (i := 1) nd rfl (Or.inl rfl) pe_str)
      (pss_cons (ps_par3 (i := 2) (j := 3) (l := 4) rfl nd rfl rfl rfl (by decide) (by decide) (by decide) rfl rfl rfl (pa_cons (pe_callTy (call_listS rfl) (by rfl) B.list (by decide +kernel) (pa_cons (pv 1) pa_nil)) (pa_cons (pe_lst pa_nil) (pa_cons (pe_lst pa_nil) pa_nil))) (by rfl))
      (pss_cons (ps_while PassesOwn.never (pt_cmpR (op_neD (hu_of64 hr)) (pv 2) (pe_lst pa_nil) (nomark _)) (pss_one (ps_expr (pe_bm PySem.F.plainAttrs_list PySem.F.slot_list_append PySem.F.type_list_append mt_append (pv 3) (pa_cons (pe_op op_add_str (pe_bm PySem.F.plainAttrs_list PySem.F.slot_list_pop PySem.F.type_list_pop mt_popAt (pv 2) (pa_cons (pe_own O_law_draw (hr.mono (by decide)) (pa_cons (pv 0) (pa_cons (pe_callB call_len_seq (by rfl) B.len PySem.boot_len (pa_cons (pv 2) pa_nil)) pa_nil))) pa_nil)) pe_str) pa_nil)))))
      (pss_cons (ps_for PassesOwn.never rfl (pi_range1 (by rfl) B.range (pa_cons pe_int pa_nil)) (pg_name (i := 5) nd rfl (Or.inl rfl)) (pss_cons (ps_set (i := 6) nd rfl (Or.inl rfl) (pe_op op_sub (pe_own O_law_draw (hr.mono (by decide)) (pa_cons (pv 0) (pa_cons pe_int pa_nil))) pe_int))
      (pss_cons (ps_expr (pe_bm PySem.F.plainAttrs_list PySem.F.slot_list_append PySem.F.type_list_append mt_append (pv 4) (pa_cons (pe_tup (pa_cons (pe_ix ix_list (pv 3) (pv 5) (fun _ _ => rfl)) (pa_cons (pe_ix ix_list (pv 3) (pe_op op_add (pv 5) pe_int) (fun _ _ => rfl)) (pa_cons (pv 6) pa_nil)))) pa_nil)))
      (pss_one (ps_if (pt_cmpR op_gt (pe_own O_law_draw (hr.mono (by decide)) (pa_cons (pv 0) (pa_cons pe_int pa_nil))) pe_int (nomark _)) (pss_one (ps_expr (pe_bm PySem.F.plainAttrs_list PySem.F.slot_list_append PySem.F.type_list_append mt_append (pv 4) (pa_cons (pe_tup (pa_cons (pe_ix ix_list (pv 3) (pe_op op_add (pv 5) pe_int) (fun _ _ => rfl)) (pa_cons (pe_ix ix_list (pv 3) (pv 5) (fun _ _ => rfl)) (pa_cons (pe_op op_sub (pe_op op_sub pe_int (pv 6)) (pe_own O_law_draw (hr.mono (by decide)) (pa_cons (pv 0) (pa_cons pe_int pa_nil)))) pa_nil)))) pa_nil)))) pss_nil)))))
      (pss_cons (ps_set (i := 7) nd rfl (Or.inl rfl) (pe_lst (pa_cons (pe_ix ix_list (pv 3) pe_int (fun _ _ => rfl)) (pa_cons (pe_ix ix_list (pv 3) (pe_own O_law_draw (hr.mono (by decide)) (pa_cons (pv 0) (pa_cons pe_int pa_nil))) (fun _ _ => rfl)) pa_nil))))
      (pss_one (ps_ret (pe_tup (pa_cons (pv 3) (pa_cons (pe_op op_cat (pv 4) (pe_lst (pa_cons (pe_tup (pa_cons pe_non (pa_cons (pe_ix ix_list (pv 7) pe_int (fun _ _ => rfl)) (pa_cons (pe_op op_sub pe_int (pe_own O_law_draw (hr.mono (by decide)) (pa_cons (pv 0) (pa_cons pe_int pa_nil)))) pa_nil)))) (pa_cons (pe_tup (pa_cons (pe_ix ix_list (pv 7) pe_int (fun _ _ => rfl)) (pa_cons pe_non (pa_cons (pe_un un_neg pe_int) pa_nil)))) pa_nil)))) pa_nil)))))))))), ?_⟩
    have big : sizeLine > 1000000 := by decide
    refine ⟨_, rfl, _, rfl, by decide +kernel, fun l1 hl1 => ?_⟩
    have s1 := same_new (o := .lst (letters20.map V.str)) hl1
    have h1 : (upd H l1 (.lst (letters20.map V.str))) l1 = some (.lst (letters20.map V.str)) := upd_same
    change PenAt H p c n at hP
    have P1 := hP.same s1
    have b1 : But p H (upd H l1 (.lst (letters20.map V.str))) := But.of s1
    rw [show signs "abcdefghijklmnopqrst" = letters20 from rfl]
    generalize upd H l1 (.lst (letters20.map V.str)) = H1 at s1 h1 P1 b1 ⊢
    refine ⟨by show 0 ≤ sizeLine; decide, fun l2 hl2 => ?_⟩
    have s2 := same_new (o := .lst []) hl2
    have n12 : l1 ≠ l2 := ne_of_none h1 hl2
    have h1b := s2 _ _ h1
    have h2b : (upd H1 l2 (.lst [])) l2 = some (.lst (([] : List Str).map V.str)) := upd_same
    have P2 := P1.same s2
    have b2 := b1.trans (But.of s2)
    have nl1 : H l1 = none := hl1
    have nl2 : H l2 = none := s1.free hl2
    have lp1 : l1 ≠ p := (hP.out hl1).1
    have lc1 : l1 ≠ c := (hP.out hl1).2
    have lp2 : l2 ≠ p := (P1.out hl2).1
    have lc2 : l2 ≠ c := (P1.out hl2).2
    generalize upd H1 l2 (.lst []) = H2 at s2 h1b h2b P2 b2 ⊢
    refine ⟨by show 0 ≤ sizeLine; decide, fun l3 hl3 => ?_⟩
    have s3 := same_new (o := .lst []) hl3
    have n13 : l1 ≠ l3 := ne_of_none h1b hl3
    have n23 : l2 ≠ l3 := ne_of_none h2b hl3
    have h1c := s3 _ _ h1b
    have h2c := s3 _ _ h2b
    have h3c : (upd H2 l3 (.lst [])) l3 = some (.lst []) := upd_same
    have P3 := P2.same s3
    have b3 := b2.trans (But.of s3)
    have nl3 : H l3 = none := s1.free (s2.free hl3)
    have lp3 : l3 ≠ p := (P2.out hl3).1
    have lc3 : l3 ≠ c := (P2.out hl3).2
    generalize upd H2 l3 (.lst []) = H3 at s3 h1c h2c h3c P3 b3 ⊢
    refine ⟨_, _, _, rfl, ?_⟩
    clear s1 s2 s3 h1 h1b h2b P1 P2 b1 b2 hl1 hl2 hl3 H1 H2
    have l20 : letters20.length = 20 := by decide +kernel
    -- the names
    refine ⟨fun m σ Hc => ∃ (rest us : List Str) (n' : Nat) (o5 o6 o7 : Option V), m = rest.length ∧ us.length + rest.length = 20 ∧ σ = [some (.ref p), some (.str "abcdefghijklmnopqrst"), some (.ref l1), some (.ref l2), some (.ref l3), o5, o6, o7] ∧ But p H Hc ∧ PenAt Hc p c n' ∧ n' + rest.length ≤ n + 20 ∧
      Hc l1 = some (.lst (rest.map V.str)) ∧ Hc l2 = some (.lst (us.map V.str)) ∧ Hc l3 = some (.lst []) ∧ (us ++ rest.map rowOf).Perm (letters20.map rowOf) ∧ (∀ t ∈ rest, t ∈ letters20),
      ⟨20, letters20, [], n, _, _, _, l20.symm, by rw [l20]; rfl, rfl, b3, P3, by omega, h1c, h2c, h3c, List.Perm.refl _, fun t h => h⟩, ?_⟩
    clear h1c h2c h3c P3 b3 H3
    rintro m σ Hc ⟨rest, us, n', o5, o6, o7, rfl, hlen, rfl, bc, Pc, hn', h1, h2, h3, pm, mem⟩
    refine ⟨_, rfl, by show 0 ≤ sizeLine; decide, fun t nt => ?_⟩
    have st := same_new (o := .lst []) nt
    have h1t := st _ _ h1
    have h2t := st _ _ h2
    have h3t := st _ _ h3
    have Pt := Pc.same st
    have bt := bc.trans (But.of st)
    refine ⟨_, _, .lst (SqL.of h1t) (dp_strs rest), .lst (SqL.of upd_same) (dp_strs []), shaped_strs rest (fun t ht => (letters_ok t (mem t ht)).1), shaped_strs [] (fun _ h => nomatch h), _, rfl, ?_⟩
    generalize upd Hc t (.lst []) = Ht at st h1t h2t h3t Pt bt ⊢
    clear st nt t h1 h2 h3 Pc bc Hc
    cases rest with
    | cons y r =>
      refine iteT ?_
      -- nyms.append(left.pop(..) + 'row')
      refine ⟨fun σ' H' => ∃ (k : Nat) (hk : k < (y :: r).length) (n2 : Nat), σ' = [some (.ref p), some (.str "abcdefghijklmnopqrst"), some (.ref l1), some (.ref l2), some (.ref l3), o5, o6, o7] ∧ But p H H' ∧ PenAt H' p c n2 ∧ n2 ≤ n' + 1 ∧ H' l1 = some (.lst (((y :: r).eraseIdx k).map V.str)) ∧ H' l2 = some (.lst ((us ++ [rowOf (y :: r)[k]]).map V.str)) ∧ H' l3 = some (.lst []), ?_, ?_⟩
      · rintro σ' H' ⟨k, hk, n2, rfl, b', P', hn2, g1, g2, g3⟩
        have le : ((y :: r).eraseIdx k).length + 1 = (y :: r).length := by
          rw [List.length_eraseIdx_of_lt hk]
          omega
        refine ⟨((y :: r).eraseIdx k).length, by omega, (y :: r).eraseIdx k, us ++ [rowOf (y :: r)[k]], n2, _, _, _, rfl, ?_, rfl, b', P', by omega, g1, g2, g3, perm_row hk pm, fun t ht => mem t (List.mem_of_mem_eraseIdx ht)⟩
        rw [List.length_append, List.length_singleton]
        omega
      · refine ⟨_, rfl, .inl ⟨rfl, _, SqL.of h2t⟩, ?_⟩
        refine ⟨_, rfl, .inl ⟨rfl, _, SqL.of h1t⟩, _, rfl, _, rfl, l1, _, rfl, .inl (SqL.of h1t), ?_⟩
        rw [List.length_map]
        refine ⟨p, c, n', _, rfl, Pt, by omega, by rw [List.length_cons]; omega, by rw [List.length_cons] at hlen ⊢; omega, fun e He he0 he1 be Pe => ?_⟩
        obtain ⟨k, rfl⟩ := Int.eq_ofNat_of_zero_le he0
        have hk : k < (y :: r).length := by omega
        have h1e := be _ _ h1t lp1
        have h2e := be _ _ h2t lp2
        have h3e := be _ _ h3t lp3
        refine ⟨l1, _, (k : Int), k, .str (y :: r)[k], rfl, rfl, h1e, by omega, by omega, ?_, by rw [List.getElem?_map, List.getElem?_eq_getElem hk]; rfl, ?_⟩
        · rw [List.length_map]
          exact seqIx_nat hk
        have pl1 : PenAt (upd He l1 (.lst (((y :: r).map V.str).eraseIdx k))) p c (n' + 1) := Pe.upd lp1 lc1
        refine ⟨_, _, rfl, rfl, ?_, ?_⟩
        · have l8 := (letters_ok _ (mem _ (List.getElem_mem hk))).2
          have : ("row" : Str).length = 3 := by decide +kernel
          omega
        have h2f : (upd He l1 (.lst (((y :: r).map V.str).eraseIdx k))) l2 = some (.lst (us.map V.str)) := by
          rw [upd_ne (fun z => n12 z.symm)]
          exact h2e
        refine ⟨l2, _, _, rfl, rfl, h2f, by rw [List.length_map]; omega, ?_⟩
        refine ⟨k, hk, n' + 1, rfl, ?_, pl1.upd lp2 lc2, Nat.le_refl _, ?_, ?_, ?_⟩
        · exact ((bt.trans be).lay nl1).lay nl2
        · rw [upd_ne n12, upd_same, map_erase]
        · rw [upd_same, List.map_append]
          rfl
        · rw [upd_ne (fun z => n23 z.symm), upd_ne (fun z => n13 z.symm)]
          exact h3e
    | nil =>
      refine iteF ?_
      rw [List.map_nil, List.append_nil] at pm
      have NO : NamesOk us := rows_ok.perm pm.symm
      have hlen : us.length = 20 := hlen
      obtain ⟨nm, hnm⟩ : ∃ nm : Nat → Str, ∀ k (hk : k < us.length), us[k] = nm k := ⟨fun k => us.getD k ⟨#[]⟩, fun k hk => by
        show us[k] = us.getD k ⟨#[]⟩
        rw [List.getD_eq_getElem?_getD, List.getElem?_eq_getElem hk]
        rfl⟩
      have at_ : ∀ k, k < 20 → (us.map V.str)[k]? = some (V.str (nm k)) := fun k hk => by
        rw [List.getElem?_map, List.getElem?_eq_getElem (by omega), ← hnm k (by omega)]
        rfl
      have inj : ∀ a b, a < 20 → b < 20 → nm a = nm b → a = b := fun a b ha hb e => by
        rw [← hnm a (by omega), ← hnm b (by omega)] at e
        exact nodup_at NO.1 (by omega) (by omega) e
      have inU : ∀ k, k < 20 → endIn us (some (nm k)) = true := fun k hk => List.any_eq_true.mpr ⟨us[k], List.getElem_mem _, by rw [hnm k (by omega)]; exact beq_self_eq_true _⟩
      clear pm mem h1t
      obtain ⟨z, hz⟩ : ∃ z : Int, z = 1 := ⟨1, rfl⟩
      have h2 := h2t
      have h3 := h3t
      have bb := bt
      have P1 : PenAt Ht p c (n' + 1) := Pt.le (Nat.le_succ _)
      generalize Ht = H1 at h2 h3 bb P1
      clear h2t h3t Pt bt
      -- the row
      refine ⟨19, rfl, by decide, by decide, ?_⟩
      refine for_it walk_range (fun i σ Hc => ∃ (rs : List (Rule × Addr)) (ψ : Node → Int) (n2 : Nat) (o6 o7 o8 : Option V), σ = [some (.ref p), some (.str "abcdefghijklmnopqrst"), some (.ref l1), some (.ref l2), some (.ref l3), o6, o7, o8] ∧ But p H Hc ∧ PenAt Hc p c n2 ∧ n2 ≤ n + 21 + 3 * i ∧
        Hc l2 = some (.lst (us.map V.str)) ∧ Hc l3 = some (.lst (rs.map fun x => V.ref x.2)) ∧ KeyTups Hc rs ∧ rs.length ≤ 2 * i ∧ RowAt nm i rs ψ z)
        ⟨[], _, n' + 1, _, _, _, rfl, bb, P1, by have hn' : n' + 0 ≤ n + 20 := hn'; omega, h2, h3, (fun _ h => nomatch h), Nat.le_refl _, RowAt.start nm z⟩ (fun _ _ _ _ _ => True.intro) ?_ ?_
      · clear h2 h3 bb P1 H1 hn' n'
        rintro i x σ Hc H' hi ⟨rs, ψ, n2, o6, o7, o8, rfl, bc, Pc, hn2, h2, h3, kt, hl, R⟩ ⟨rfl, rfl⟩
        have hi : i < 19 := hi
        -- gap
        refine ⟨_, rfl, p, c, n2, 9, rfl, Pc, by omega, by decide, by decide, fun e H1 he0 he1 b1 P1 => ?_⟩
        have gb : -(4 * z) ≤ e - 4 ∧ e - 4 ≤ 4 * z ∧ -996 ≤ e - 4 ∧ e - 4 ≤ 996 := by subst hz; omega
        refine ⟨e, 4, rfl, rfl, ?_⟩
        have h2a := b1 _ _ h2 lp2
        have h3a := b1 _ _ h3 lp3
        have kta : KeyTups H1 rs := fun y hy => b1 _ _ (kt y hy) (by
          obtain ⟨cs, a1, a2, _, _, _, hp⟩ := Pc
          exact ne_of (kt y hy) hp fun z => nomatch z)
        have ba := bc.trans b1
        dsimp only
        generalize e - 4 = g at gb ⊢
        clear h2 h3 kt bc Pc b1 he0 he1
        -- the first append
        have ei : (0 : Int) + ((i : Nat) : Int) = ((i : Nat) : Int) := Int.zero_add _
        have ei1 : (0 : Int) + ((i : Nat) : Int) + 1 = ((i + 1 : Nat) : Int) := by rw [Int.zero_add]; rfl
        refine ⟨_, rfl, .inl ⟨rfl, _, SqL.of h3a⟩, ?_⟩
        refine ⟨_, rfl, _, rfl, l2, _, _, .str (nm i), rfl, rfl, SqL.of h2a, by rw [ei]; exact atI_nat (at_ i (by omega)), ?_⟩
        refine ⟨_, rfl, _, rfl, _, _, rfl, rfl, l2, _, _, .str (nm (i + 1)), rfl, rfl, SqL.of h2a, by rw [ei1]; exact atI_nat (at_ (i + 1) (by omega)), _, rfl, by show 3 ≤ sizeLine; decide, fun T nT => ?_⟩
        have sT := same_new (o := .tup [.str (nm i), .str (nm (i + 1)), .int g]) nT
        have hT : (upd H1 T (.tup [.str (nm i), .str (nm (i + 1)), .int g])) T = some (.tup (ruleV ⟨some (nm i), some (nm (i + 1)), g⟩)) := upd_same
        have h2b := sT _ _ h2a
        have h3b := sT _ _ h3a
        have ktb : KeyTups (upd H1 T (.tup [.str (nm i), .str (nm (i + 1)), .int g])) rs := fun y hy => sT _ _ (kta y hy)
        have Pb := P1.same sT
        have bbb := ba.trans (But.of sT)
        generalize upd H1 T (.tup [.str (nm i), .str (nm (i + 1)), .int g]) = H2 at sT hT h2b h3b ktb Pb bbb ⊢
        clear sT nT h2a h3a kta P1 ba H1
        refine ⟨l3, _, _, rfl, rfl, h3b, by rw [List.length_map]; omega, ?_⟩
        have kt1 : KeyTups H2 (rs ++ [((⟨some (nm i), some (nm (i + 1)), g⟩ : Rule), T)]) := fun y hy => by
          rcases List.mem_append.mp hy with hy | hy
          · exact ktb y hy
          · rw [List.mem_singleton.mp hy]
            exact hT
        have ktc := kt1.lay (ys := (rs.map fun x => V.ref x.2) ++ [.ref T]) h3b
        have h2c : (upd H2 l3 (.lst ((rs.map fun x => V.ref x.2) ++ [.ref T]))) l2 = some (.lst (us.map V.str)) := by
          rw [upd_ne n23]
          exact h2b
        have h3c : (upd H2 l3 (.lst ((rs.map fun x => V.ref x.2) ++ [.ref T]))) l3 = some (.lst ((rs ++ [((⟨some (nm i), some (nm (i + 1)), g⟩ : Rule), T)]).map fun x => V.ref x.2)) := by
          rw [upd_same, List.map_append]
          rfl
        have Pc := Pb.upd (o := .lst ((rs.map fun x => V.ref x.2) ++ [.ref T])) lp3 lc3
        have bc := bbb.lay (u := .lst ((rs.map fun x => V.ref x.2) ++ [.ref T])) nl3
        generalize upd H2 l3 (.lst ((rs.map fun x => V.ref x.2) ++ [.ref T])) = H3 at ktc h2c h3c Pc bc ⊢
        clear kt1 ktb h2b h3b Pb bbb hT H2
        have R1 := R.next (fun a b ha hb e => inj a b (by omega) (by omega) e) (g := g) (by omega) (by omega) ⟨gb.1, gb.2.1⟩ (q := T)
        have l1' : (rs ++ [((⟨some (nm i), some (nm (i + 1)), g⟩ : Rule), T)]).length ≤ 2 * i + 1 := by
          rw [List.length_append, List.length_singleton]
          omega
        have eψ : (fun e => if e = some (nm (i + 1)) then ψ (some (nm i)) + g else ψ e) (some (nm (i + 1))) = ψ (some (nm i)) + g := if_pos rfl
        have eψ0 : (fun e => if e = some (nm (i + 1)) then ψ (some (nm i)) + g else ψ e) (some (nm i)) = ψ (some (nm i)) := if_neg fun z => by
          have := inj i (i + 1) (by omega) (by omega) (Option.some.inj z)
          omega
        have gψ : (fun e => if e = some (nm (i + 1)) then ψ (some (nm i)) + g else ψ e) (some (nm (i + 1))) = (fun e => if e = some (nm (i + 1)) then ψ (some (nm i)) + g else ψ e) (some (nm i)) + g := by rw [eψ, eψ0]
        generalize (fun e => if e = some (nm (i + 1)) then ψ (some (nm i)) + g else ψ e) = ψ2 at R1 gψ
        clear eψ eψ0 R hl
        generalize rs ++ [((⟨some (nm i), some (nm (i + 1)), g⟩ : Rule), T)] = rs1 at ktc h3c R1 l1'
        -- if draw > 0
        refine ⟨_, rfl, p, c, n2 + 1, 3, rfl, Pc, by omega, by decide, by decide, fun e2 H4 he0 he1 b4 P4 => ?_⟩
        have h2d := b4 _ _ h2c lp2
        have h3d := b4 _ _ h3c lp3
        have ktd : KeyTups H4 rs1 := fun y hy => b4 _ _ (ktc y hy) (by
          obtain ⟨cs, a1, a2, _, _, _, hp⟩ := Pc
          exact ne_of (ktc y hy) hp fun z => nomatch z)
        have bd := bc.trans b4
        clear ktc h2c h3c Pc bc b4
        refine ⟨_, _, rfl, rfl, _, rfl, ?_⟩
        refine ite2 (fun _ => ?_) (fun _ => ⟨rs1, ψ2, n2 + 2, _, _, _, rfl, bd, P4, by omega, h2d, h3d, ktd, by omega, R1⟩)
        refine ⟨_, rfl, .inl ⟨rfl, _, SqL.of h3d⟩, ?_⟩
        refine ⟨_, rfl, _, rfl, _, _, rfl, rfl, l2, _, _, .str (nm (i + 1)), rfl, rfl, SqL.of h2d, by rw [ei1]; exact atI_nat (at_ (i + 1) (by omega)), ?_⟩
        refine ⟨_, rfl, _, rfl, l2, _, _, .str (nm i), rfl, rfl, SqL.of h2d, by rw [ei]; exact atI_nat (at_ i (by omega)), ?_⟩
        refine ⟨_, rfl, _, _, rfl, rfl, _, rfl, p, c, n2 + 2, 3, rfl, P4, by omega, by decide, by decide, fun e3 H5 he30 he31 b5 P5 => ?_⟩
        have h3e := b5 _ _ h3d lp3
        have kte : KeyTups H5 rs1 := fun y hy => b5 _ _ (ktd y hy) (by
          obtain ⟨cs, a1, a2, _, _, _, hp⟩ := P4
          exact ne_of (ktd y hy) hp fun z => nomatch z)
        have h2e := b5 _ _ h2d lp2
        have be := bd.trans b5
        clear ktd h2d h3d bd b5
        refine ⟨_, _, rfl, rfl, by show 3 ≤ sizeLine; decide, fun T2 nT2 => ?_⟩
        have sT := same_new (o := .tup [.str (nm (i + 1)), .str (nm i), .int (0 - g - e3)]) nT2
        have hT : (upd H5 T2 (.tup [.str (nm (i + 1)), .str (nm i), .int (0 - g - e3)])) T2 = some (.tup (ruleV ⟨some (nm (i + 1)), some (nm i), 0 - g - e3⟩)) := upd_same
        have h2f := sT _ _ h2e
        have h3f := sT _ _ h3e
        have Pf := P5.same sT
        have bf := be.trans (But.of sT)
        have ktf : KeyTups (upd H5 T2 (.tup [.str (nm (i + 1)), .str (nm i), .int (0 - g - e3)])) (rs1 ++ [((⟨some (nm (i + 1)), some (nm i), 0 - g - e3⟩ : Rule), T2)]) := fun y hy => by
          rcases List.mem_append.mp hy with hy | hy
          · exact sT _ _ (kte y hy)
          · rw [List.mem_singleton.mp hy]
            exact hT
        generalize upd H5 T2 (.tup [.str (nm (i + 1)), .str (nm i), .int (0 - g - e3)]) = H6 at sT hT h2f h3f ktf Pf bf ⊢
        refine ⟨l3, _, _, rfl, rfl, h3f, by rw [List.length_map]; omega, ?_⟩
        have R2 := R1.more (a := i + 1) (b := i) (g := 0 - g - e3) (q := T2) (Nat.le_refl _) (by omega) (by omega) (by omega) (by omega) (by omega)
        refine ⟨_, ψ2, n2 + 3, _, _, _, rfl, bf.lay nl3, Pf.upd lp3 lc3, by omega, ?_, ?_, ktf.lay h3f, ?_, R2⟩
        · rw [upd_ne n23]
          exact h2f
        · rw [upd_same, List.map_append]
          rfl
        · rw [List.length_append, List.length_singleton]
          omega
      · clear h2 h3 bb P1 H1 hn' n'
        rintro σ Hc ⟨rs, ψ, n2, o6, o7, o8, rfl, bc, Pc, hn2, h2, h3, kt, hl, R⟩
        have R : RowAt nm 19 rs ψ z := R
        have hl : rs.length ≤ 38 := hl
        have hn2 : n2 ≤ n + 21 + 57 := hn2
        -- ends
        refine ⟨_, rfl, l2, _, 0, .str (nm 0), rfl, rfl, SqL.of h2, atI_nat (at_ 0 (by omega)), ?_⟩
        refine ⟨_, rfl, _, rfl, p, c, n2, 20, rfl, Pc, by omega, by decide, by decide, fun e H1 he0 he1 b1 P1 => ?_⟩
        obtain ⟨j, rfl⟩ := Int.eq_ofNat_of_zero_le he0
        have hj : j < 20 := by omega
        have h2a := b1 _ _ h2 lp2
        have h3a := b1 _ _ h3 lp3
        have kta : KeyTups H1 rs := fun y hy => b1 _ _ (kt y hy) (by
          obtain ⟨cs, a1, a2, _, _, _, hp⟩ := Pc
          exact ne_of (kt y hy) hp fun z => nomatch z)
        have ba := bc.trans b1
        clear h2 h3 kt bc Pc b1
        refine ⟨l2, _, (j : Int), .str (nm j), rfl, rfl, SqL.of h2a, atI_nat (at_ j hj), by show 2 ≤ sizeLine; decide, fun le nle => ?_⟩
        have s2 := same_new (o := .lst [.str (nm 0), .str (nm j)]) nle
        have hle : (upd H1 le (.lst [.str (nm 0), .str (nm j)])) le = some (.lst [.str (nm 0), .str (nm j)]) := upd_same
        have h2b := s2 _ _ h2a
        have h3b := s2 _ _ h3a
        have ktb : KeyTups (upd H1 le (.lst [.str (nm 0), .str (nm j)])) rs := fun y hy => s2 _ _ (kta y hy)
        have Pb := P1.same s2
        have bb := ba.trans (But.of s2)
        have lep : le ≠ p := (P1.out nle).1
        generalize upd H1 le (.lst [.str (nm 0), .str (nm j)]) = H2 at s2 hle h2b h3b ktb Pb bb ⊢
        clear s2 nle h2a h3a kta ba P1 H1
        -- tops
        refine ⟨_, rfl, _, rfl, _, rfl, le, _, 0, .str (nm 0), rfl, rfl, SqL.of hle, atI_nat (j := 0) rfl, ?_⟩
        refine ⟨_, rfl, p, c, n2 + 1, 5, rfl, Pb, by omega, by decide, by decide, fun e5 H3 he0' he1' b3 P3 => ?_⟩
        have h2c := b3 _ _ h2b lp2
        have h3c := b3 _ _ h3b lp3
        have hle3 := b3 _ _ hle lep
        have ktc : KeyTups H3 rs := fun y hy => b3 _ _ (ktb y hy) (by
          obtain ⟨cs, a1, a2, _, _, _, hp⟩ := Pb
          exact ne_of (ktb y hy) hp fun z => nomatch z)
        have bc := bb.trans b3
        clear hle h2b h3b ktb bb Pb b3 H2
        refine ⟨_, _, rfl, rfl, by show 3 ≤ sizeLine; decide, fun q1 nq1 => ?_⟩
        have s4 := same_new (o := .tup [.non, .str (nm 0), .int (0 - e5)]) nq1
        have hq1 : (upd H3 q1 (.tup [.non, .str (nm 0), .int (0 - e5)])) q1 = some (.tup (ruleV ⟨none, some (nm 0), 0 - e5⟩)) := upd_same
        have h2d := s4 _ _ h2c
        have h3d := s4 _ _ h3c
        have hle4 := s4 _ _ hle3
        have ktd : KeyTups (upd H3 q1 (.tup [.non, .str (nm 0), .int (0 - e5)])) rs := fun y hy => s4 _ _ (ktc y hy)
        have Pd := P3.same s4
        have bd := bc.trans (But.of s4)
        generalize upd H3 q1 (.tup [.non, .str (nm 0), .int (0 - e5)]) = H4 at s4 hq1 h2d h3d hle4 ktd Pd bd ⊢
        clear s4 nq1 h2c h3c hle3 ktc bc P3 H3
        refine ⟨_, rfl, le, _, 1, .str (nm j), rfl, rfl, SqL.of hle4, atI_nat (j := 1) rfl, _, rfl, by show 3 ≤ sizeLine; decide, fun q2 nq2 => ?_⟩
        have s5 := same_new (o := .tup [.str (nm j), .non, .int (-900)]) nq2
        have hq2 : (upd H4 q2 (.tup [.str (nm j), .non, .int (-900)])) q2 = some (.tup (ruleV ⟨some (nm j), none, -900⟩)) := upd_same
        have hq1e := s5 _ _ hq1
        have h2e := s5 _ _ h2d
        have h3e := s5 _ _ h3d
        have kte : KeyTups (upd H4 q2 (.tup [.str (nm j), .non, .int (-900)])) rs := fun y hy => s5 _ _ (ktd y hy)
        have Pe := Pd.same s5
        have be := bd.trans (But.of s5)
        generalize upd H4 q2 (.tup [.str (nm j), .non, .int (-900)]) = H5 at s5 hq1e hq2 h2e h3e kte Pe be ⊢
        clear s5 nq2 h2d h3d hle4 ktd bd Pd hq1 H4
        refine ⟨by show 2 ≤ sizeLine; decide, fun lo nlo => ?_⟩
        have s6 := same_new (o := .lst [.ref q1, .ref q2]) nlo
        have hlo : (upd H5 lo (.lst [.ref q1, .ref q2])) lo = some (.lst [.ref q1, .ref q2]) := upd_same
        have hq1f := s6 _ _ hq1e
        have hq2f := s6 _ _ hq2
        have h2f := s6 _ _ h2e
        have h3f := s6 _ _ h3e
        have ktf : KeyTups (upd H5 lo (.lst [.ref q1, .ref q2])) rs := fun y hy => s6 _ _ (kte y hy)
        have Pf := Pe.same s6
        have bf := be.trans (But.of s6)
        generalize upd H5 lo (.lst [.ref q1, .ref q2]) = H6 at s6 hlo hq1f hq2f h2f h3f ktf Pf bf ⊢
        clear s6 nlo h2e h3e kte be Pe hq1e hq2 H5
        -- what is kept of them
        obtain ⟨tp, htp⟩ : ∃ tp : List (Rule × Addr), tp = [((⟨none, some (nm 0), 0 - e5⟩ : Rule), q1), ((⟨some (nm j), none, -900⟩ : Rule), q2)] := ⟨_, rfl⟩
        have mem : ∀ x ∈ tp, x = ((⟨none, some (nm 0), 0 - e5⟩ : Rule), q1) ∨ (x = ((⟨some (nm j), none, -900⟩ : Rule), q2) ∧ z = 1) := fun x hx => by
          rw [htp] at hx
          rcases List.mem_cons.mp hx with h | h
          · exact .inl h
          · exact .inr ⟨List.mem_singleton.mp h, hz⟩
        have et : [V.ref q1, V.ref q2] = tp.map fun x => V.ref x.2 := by
          rw [htp]
          rfl
        have lt2 : tp.length ≤ 2 := by
          rw [htp]
          exact Nat.le_refl _
        clear htp
        rw [et] at hlo
        refine ⟨l3, lo, _, _, rfl, rfl, h3f, hlo, by rw [List.length_map, List.length_map]; omega, fun lr nlr => ⟨by show 2 ≤ sizeLine; decide, fun t nt => ?_⟩⟩
        have u2 := same_new (o := .lst ((rs.map fun x => V.ref x.2) ++ tp.map fun x => V.ref x.2)) nlr
        have u3 := u2.trans (same_new (o := .tup [.ref l2, .ref lr]) nt)
        have fr : ∀ {x : Addr} {X : Hp}, But p H X → X x = none → (∃ o, X p = some o) → H x = none := fun b hx hp => by
          obtain ⟨o, ho⟩ := hp
          exact b.free (ne_of_none ho hx).symm hx
        have hlr : (upd (upd H6 lr (.lst ((rs.map fun x => V.ref x.2) ++ tp.map fun x => V.ref x.2))) t (.tup [.ref l2, .ref lr])) lr = some (.lst ((rs ++ tp).map fun x => V.ref x.2)) := by
          rw [List.map_append]
          exact same_new nt _ _ upd_same
        refine q t l2 lr _ (n2 + 2) us (rs ++ tp) (bf.trans (But.of u3)) (fr (bf.trans (But.of u2)) nt (Pf.same u2).some) nl2 (fr bf nlr Pf.some) upd_same (u3 _ _ h2f) NO hlen hlr (fun x hx => ?_) (fun x hx => ?_) (by rw [List.length_append]; omega) ⟨ψ, fun a b g m => ?_⟩ (fun k hk => ?_) (Pf.same u3) (by omega)
        · rcases List.mem_append.mp hx with hx | hx
          · exact u3 _ _ (ktf x hx)
          · rcases mem x hx with rfl | ⟨rfl, _⟩
            · exact u3 _ _ hq1f
            · exact u3 _ _ hq2f
        · rcases List.mem_append.mp hx with hx | hx
          · obtain ⟨a, b, h1, h2, h3, h4, h5, h6, h7, h8⟩ := R.rule x hx
            refine ⟨by rw [h4]; exact inU a (by omega), by rw [h5]; exact inU b (by omega), fun e => ?_, h6, h7⟩
            rw [h4, h5] at e
            exact h3 (inj a b (by omega) (by omega) (Option.some.inj e))
          · rcases mem x hx with rfl | ⟨rfl, _⟩
            · exact ⟨rfl, inU 0 (by omega), (fun e => nomatch e), by show (-999 : Int) ≤ 0 - e5; omega, by show (0 : Int) - e5 ≤ 999; omega⟩
            · exact ⟨inU j hj, rfl, (fun e => nomatch e), by show (-999 : Int) ≤ -900; decide, by show (-900 : Int) ≤ 999; decide⟩
        · obtain ⟨x, hx, e⟩ := List.mem_map.mp m
          unfold arcOf at e
          cases e
          rcases List.mem_append.mp hx with hx | hx
          · obtain ⟨a, b, h1, h2, h3, h4, h5, h6, h7, h8⟩ := R.rule x hx
            rw [h4, h5]
            exact h8
          · rcases mem x hx with rfl | ⟨rfl, hz1⟩
            · show ψ none + (0 - e5) ≤ ψ (some (nm 0))
              rw [R.ground, R.first]
              omega
            · show ψ (some (nm j)) + -900 ≤ ψ none
              rw [R.ground]
              have := (R.far j (by omega)).2
              rw [hz1] at this
              omega
        · obtain ⟨g, hg⟩ := R.row k hk
          refine ⟨us[k], us[k + 1], g, List.getElem?_eq_getElem _, List.getElem?_eq_getElem _, ?_⟩
          rw [hnm k (by omega), hnm (k + 1) (by omega)]
          unfold arcsOf
          rw [List.map_append]
          exact List.mem_append_left _ hg
end
end Wnd

namespace Wnd
open PySem PySem.Spec PyProof.Rows L2
abbrev s_law : Stmt := top 74
theorem sc_law : FnScope ["_law_script", "_law_pen_here", "_law_turn", "_law_first", "_law_nyms_here", "_law_gaps_here", "_law_second", "_law_models", "_law_there_here", "_law_held", "_law_old", "_law_model_here", "_law_one", "_law_nym", "_law_task_here"] ["_law_script"] (defScope s_law) := ⟨rfl, rfl, rfl, by decide +kernel, rfl, by decide +kernel, by decide +kernel⟩
section
variable {P : Program} {w : World} {K : PySem.W.Frag} {mg : Str → Option Value} {base : Heap}
def spLaw (K : PySem.W.Frag) : Sp := fun vs H Q _ => ∃ (a : Addr) (ns : List Int), vs = [.ref a] ∧ SqL K H a (ns.map V.int) ∧ ns.length ≤ 63 ∧ ∀ H', Q (.bl true) H'
set_option maxHeartbeats 4000000 in
theorem run_law {C CP CT : Addr} {f : Addr} {fd : FuncData} (F : Fun K "law" "law" s_law f fd) (bd : Binds K fd ["_law_script"] []) (room : Room 12 callerA) (TS_ : SysF K mg C) (B : Blt3 mg) (C_Task : mg "Task" = some (.ref CT)) (O_law_pen : Ok P w K mg base 1 "_law_pen" ["_law_script"] (spPen K))
    (O_law_goal : Ok P w K mg base 3 "_law_goal" ["_law_pen_here", "_law_nyms_here"] (spGoal K)) (O_law_model : Ok P w K mg base 6 "_law_model" ["_law_pen_here", "_law_most", "_law_many"] spModelD) (O_law_firmed : Ok P w K mg base 4 "_law_firmed" ["_law_pen_here", "_law_model_here"] spFirmed) (O_law_deal : Ok P w K mg base 3 "_law_deal" ["_law_pen_here", "_law_nyms_here"] spDeal) (O_law_there : Ok P w K mg base 7 "_law_there" ["_law_model_here"] (spThereL C))
    (O_law_prices : Ok P w K mg base 7 "_law_prices" ["_law_deal_here"] (spPricesL CP)) (O_law_right : OkG P w K mg base 10 "_law_right" ["_law_task_here", "_law_model_here", "_law_others"] (spRight37 C CP CT)) (O_law_draw : Ok P w K mg base 2 "_law_draw" ["_law_pen_here", "_law_under"] spDraw) (O_law_twenty : Ok P w K mg base 3 "_law_twenty" ["_law_pen_here"] spTwenty)
    (O_law_task : Ok P w K mg base 8 "_law_task" ["_law_model_here"] (spTaskL C CP CT)) (OT : OkMk P w K mg base CT 6 ["self", "system", "numbers", "prices"] (spTaInit C CT))
    {s : Shared} {H : Hp} {us : List Value} {vs : List V} {Q : VK} {E : XK} (env : Env0 P w K mg base callerA [] s H) (len : vs.length = 1) (rel : Vals vs us) (h : spLaw K vs H Q E) : codeAny (model P w) callerA (.call (.ref f) ⟨us, []⟩) (CR CX0 [] P w H s Q E) s := by
  refine top_run (k := 11) F sc_law bd room (fun cdv s H vs Q E hr h => ?_) env len rel h
  obtain ⟨a, ns, rfl, hS, hlen, q⟩ := h
  have nd := sc_law.nd
  have hu := hu_of hr
  have big : sizeLine > 1000000 := by decide
  refine ⟨_, (pss_cons (ps_set (i := 1) nd rfl (Or.inr rfl) (pe_own O_law_pen (hr.mono (by decide)) (pa_cons (pv 0) pa_nil)))
      (pss_cons (ps_for PassesOwn.never rfl (pi_range1 (by rfl) B.range (pa_cons pe_int pa_nil)) (pg_name (i := 2) nd rfl (Or.inl rfl)) (pss_cons (ps_set (i := 3) nd rfl (Or.inl rfl) (pe_own O_law_firmed (hr.mono (by decide)) (pa_cons (pv 1) (pa_cons (pe_own O_law_model (hr.mono (by decide)) (pa_cons (pv 1) (pa_cons pe_int (pa_cons pe_int pa_nil)))) pa_nil))))
      (pss_cons (ps_asg (pe_slice sl_tup (pv 3) po_none (po_some pe_int)) (pg_tup rfl (pgs_cons (pg_name (i := 4) nd rfl (Or.inl rfl)) (pgs_cons (pg_name (i := 5) nd rfl (Or.inl rfl)) pgs_nil))))
      (pss_cons (ps_set (i := 6) nd rfl (Or.inl rfl) (pe_own O_law_firmed (hr.mono (by decide)) (pa_cons (pv 1) (pa_cons (pe_tup (pa_cons (pv 4) (pa_cons (pv 5) (pa_cons (pe_own O_law_goal (hr.mono (by decide)) (pa_cons (pv 1) (pa_cons (pv 4) pa_nil))) (pa_cons (pe_own O_law_deal (hr.mono (by decide)) (pa_cons (pv 1) (pa_cons (pv 4) pa_nil))) pa_nil))))) pa_nil))))
      (pss_cons (ps_set (i := 7) nd rfl (Or.inl rfl) (pe_lst (pa_cons (pv 3) (pa_cons (pv 6) (pa_cons (pe_tup (pa_cons (pv 4) (pa_cons (pv 5) (pa_cons (pe_ix ix_tup (pv 6) pe_int (fun _ _ => rfl)) (pa_cons (pe_ix ix_tup (pv 3) pe_int (fun _ _ => rfl)) pa_nil))))) pa_nil)))))
      (pss_cons (ps_set (i := 8) nd rfl (Or.inr rfl) (pe_own O_law_there (hr.mono (by decide)) (pa_cons (pv 3) pa_nil)))
      (pss_cons (ps_set (i := 9) nd rfl (Or.inr rfl) (pe_lc (own := [("_law_one", 12)]) (g := gName 12) (tt := tYes) (by rfl) nd (pi_list (pv 7)) (blkOk_by (own := [("_law_one", 12)]) (N := ["_law_script", "_law_pen_here", "_law_turn", "_law_first", "_law_nyms_here", "_law_gaps_here", "_law_second", "_law_models", "_law_there_here", "_law_held", "_law_old", "_law_model_here", "_law_one", "_law_nym", "_law_task_here"]) (sc := defScope s_law) (by decide +kernel)) (fun _ _ _ _ _ => (pg_name (i := 12) nd rfl (Or.inl rfl))) (fun _ _ _ _ _ => pts_nil) (fun _ _ _ _ _ => (pe_tup (pa_cons (pv 12) (pa_cons (pe_mk OT (hr.mono (by decide)) C_Task (pa_cons (pv 8) (pa_cons (pe_ix (ix_tupK K) (pv 12) pe_int (fun _ _ => rfl)) (pa_cons (pe_own O_law_prices (hr.mono (by decide)) (pa_cons (pe_ix (ix_tupK K) (pv 12) pe_int (fun _ _ => rfl)) pa_nil)) pa_nil)))) pa_nil))))))
      (pss_one (ps_if (pt_not (pt_val (pe_callB (cr_all rfl) (by rfl) B.all (by decide +kernel) (pa_cons (pe_lc (own := [("_law_one", 12), ("_law_task_here", 14)]) (g := gTup K 2 (gCons (gName 12) (gCons (gName 14) (gNil)))) (tt := tYes) (by rfl) nd (pi_list (pe_op op_cat (pv 9) (pe_slice sl_list (pv 9) po_none (po_some pe_int)))) (blkOk_by (own := [("_law_one", 12), ("_law_task_here", 14)]) (N := ["_law_script", "_law_pen_here", "_law_turn", "_law_first", "_law_nyms_here", "_law_gaps_here", "_law_second", "_law_models", "_law_there_here", "_law_held", "_law_old", "_law_model_here", "_law_one", "_law_nym", "_law_task_here"]) (sc := defScope s_law) (by decide +kernel)) (fun _ _ _ _ _ => (pg_tupK K 2 rfl (pgs_cons (pg_name (i := 12) nd rfl (Or.inl rfl)) (pgs_cons (pg_name (i := 14) nd rfl (Or.inl rfl)) pgs_nil)))) (fun _ _ _ _ _ => pts_nil) (fun _ _ _ _ _ => (pe_ownG O_law_right (hr.mono (by decide)) rfl (pa_cons (pv 14) (pa_cons (pv 12) (pa_cons (pv 9) pa_nil)))))) pa_nil)))) (pss_one (ps_ret pe_bl)) pss_nil)))))))))
      (pss_cons (ps_asg (pe_own O_law_twenty (hr.mono (by decide)) (pa_cons (pv 1) pa_nil)) (pg_tup rfl (pgs_cons (pg_name (i := 4) nd rfl (Or.inl rfl)) (pgs_cons (pg_name (i := 5) nd rfl (Or.inl rfl)) pgs_nil))))
      (pss_cons (ps_set (i := 10) nd rfl (Or.inl rfl) (pe_callTy (call_dictPK K rfl) (by rfl) B.dict (by decide +kernel) (pa_cons (pe_lc (own := [("_law_nym", 13)]) (g := gName 13) (tt := tYes) (by rfl) nd (pi_list (pv 4)) (blkOk_by (own := [("_law_nym", 13)]) (N := ["_law_script", "_law_pen_here", "_law_turn", "_law_first", "_law_nyms_here", "_law_gaps_here", "_law_second", "_law_models", "_law_there_here", "_law_held", "_law_old", "_law_model_here", "_law_one", "_law_nym", "_law_task_here"]) (sc := defScope s_law) (by decide +kernel)) (fun _ _ _ _ _ => (pg_name (i := 13) nd rfl (Or.inl rfl))) (fun _ _ _ _ _ => pts_nil) (fun _ _ _ _ _ => (pe_tup (pa_cons (pv 13) (pa_cons (pe_op op_mul pe_int (pe_own O_law_draw (hr.mono (by decide)) (pa_cons (pv 1) (pa_cons pe_int pa_nil)))) pa_nil))))) pa_nil)))
      (pss_cons (ps_set (i := 11) nd rfl (Or.inl rfl) (pe_tup (pa_cons (pv 4) (pa_cons (pv 5) (pa_cons (pv 10) (pa_cons (pe_tup (pa_cons pe_int (pa_cons pe_int (pa_cons (pe_disp (pps_cons (pe_ix ix_list (pv 4) pe_int (fun _ _ => rfl)) pe_non (pps_cons (pe_ix ix_list (pv 4) pe_int (fun _ _ => rfl)) pe_non pps_nil)) rfl rfl (fun z => nomatch z) (by decide)) pa_nil)))) pa_nil))))))
      (pss_one (ps_ret (pe_ownG O_law_right (hr.mono (by decide)) rfl (pa_cons (pe_own O_law_task (hr.mono (by decide)) (pa_cons (pv 11) pa_nil)) (pa_cons (pv 11) (pa_cons (pe_lst pa_nil) pa_nil))))))))))), ?_⟩
  refine ⟨_, rfl, a, ns, rfl, hS, hlen, fun p c H0 s0 np nc hP0 => ?_⟩
  refine ⟨8, rfl, by decide, by decide, ?_⟩
  refine for_it walk_range (fun i σ Hc => ∃ (o2 o3 o4 o5 o6 o7 o8 o9 : Option V), σ = [some (.ref a), some (.ref p), o2, o3, o4, o5, o6, o7, o8, o9, none, none, none, none, none] ∧ PenAt Hc p c (300 * i))
    ⟨_, _, _, _, _, _, _, _, rfl, hP0⟩ (fun _ _ _ _ _ => True.intro) ?_ ?_
  · clear hP0 s0 np nc H0
    rintro i x0 σ Hz Hc hi ⟨o2, o3, o4, o5, o6, o7, o8, o9, rfl, Pc⟩ ⟨rfl, rfl⟩
    have hi : i < 8 := hi
    refine ⟨_, rfl, _, rfl, p, c, 300 * i, 6, 8, rfl, Pc, by omega, by decide, by decide, fun M0 an gp d1 T0 e0 ts rs g1 r1 l1 G0 H1 n1 b1 md0 nM0 nan nd1 nT0 ne0 mem lts lrs kep kg1 vg1 lG0 P1 hn1 => ?_⟩
    have N := md0.ok
    have lN := N.2.2
    have np : NoPos (arcsOf rs) := by
      obtain ⟨gk, _, _, hol⟩ := kep
      exact (keeps_of hol).noPos
    clear nM0 nan nd1 nT0 ne0 b1 Pc kep kg1
    refine ⟨p, c, n1, M0, an, gp, d1, T0, e0, ts, rs, g1, r1, l1, G0, rfl, P1, by omega, md0, lG0, fun M1 T1 e1 G1 H2 n2 b2 md1 _ _ _ P2 hn2 => ?_⟩
    clear md0 P1 b2
    -- names and rules
    refine ⟨_, rfl, 2, rfl, M1, _, rfl, SqT.of md1.m, ?_, fun ta nta => ?_⟩
    · rintro ⟨_, z⟩
      cases z
    have u3 := same_new (o := .tup (cutV [V.ref an, .ref gp, .ref d1, .ref T1] none (some 2))) nta
    have md2 := md1.same u3
    have P3 := P2.same u3
    refine ⟨ta, _, rfl, SqT.of upd_same, rfl, _, _, rfl, _, _, rfl, rfl, ?_⟩
    generalize upd H2 ta (.tup (cutV [V.ref an, .ref gp, .ref d1, .ref T1] none (some 2))) = H3 at u3 md2 P3 ⊢
    clear u3 md1 P2 nta
    -- the second model
    refine ⟨_, rfl, _, rfl, _, rfl, _, rfl, _, rfl, p, c, an, n2, ts, rfl, P3, by omega, md2.an, N.1, by omega, fun d2 H4 n4 g2 b4 nd2 hd2 kg2 vg2 P4 hn4 => ?_⟩
    have md4 := md2.but P3 b4
    have DD4 : DictAt H4 ts d2 g2 := ⟨hd2, by rw [kg2], fun x hx => by have := vg2 x hx; omega⟩
    refine ⟨_, rfl, _, rfl, p, c, an, n4, ts, rfl, P4, by omega, md4.an, N.2.1, by omega, fun T2 e2 r2 l2 G2 H5 n5 b5 nT2 ne2 hT2 lG2 P5 hn5 => ?_⟩
    have md5 := md4.but P4 b5
    have DD5 := DD4.but b5 (penL P4)
    refine ⟨by show 4 ≤ sizeLine; decide, fun Mx nMx => ?_⟩
    have u6 := same_new (o := .tup [.ref an, .ref gp, .ref d2, .ref T2]) nMx
    have md6 := md5.same u6
    have DD6 := DD5.same u6
    have P6 := P5.same u6
    have me6 : ModelAt (upd H5 Mx (.tup [.ref an, .ref gp, .ref d2, .ref T2])) Mx an gp d2 T2 e2 ts rs g2 r2 l2 G2 := ⟨upd_same, md6.an, N, md6.gp, md6.kt, md6.ro, md6.lr, DD6.at_, ⟨DD6.keys, DD6.bnd⟩, hT2.same u6⟩
    generalize upd H5 Mx (.tup [.ref an, .ref gp, .ref d2, .ref T2]) = H6 at u6 md6 DD6 P6 me6 ⊢
    clear md2 md4 md5 DD4 DD5 P3 P4 P5 b4 b5 nd2 nT2 ne2 nMx u6 hT2 hd2 H2 H3 H4 H5
    refine ⟨p, c, n5, Mx, an, gp, d2, T2, e2, ts, rs, g2, r2, l2, G2, rfl, P6, by omega, me6, lG2, fun M2 T2' e2' G2' H7 n7 b7 me7 _ _ _ P7 hn7 => ?_⟩
    have md7 := md6.but P6 b7
    clear md6 me6 DD6 P6 b7
    -- the third
    refine ⟨_, rfl, _, rfl, _, rfl, _, rfl, _, rfl, M2, _, 2, .ref d2, rfl, rfl, SqT.of me7.m, atI_nat (j := 2) rfl, ?_⟩
    refine ⟨_, rfl, M1, _, 3, .ref T1, rfl, rfl, SqT.of md7.m, atI_nat (j := 3) rfl, by show 4 ≤ sizeLine; decide, fun M3 nM3 => ?_⟩
    have u8 := same_new (o := .tup [V.ref an, .ref gp, .ref d2, .ref T1]) nM3
    have md8 := md7.same u8
    have me8 := me7.same u8
    have P8 := P7.same u8
    have mf8 : ModelAt (upd H7 M3 (.tup [V.ref an, .ref gp, .ref d2, .ref T1])) M3 an gp d2 T1 e1 ts rs g2 r1 l1 G1 := ⟨upd_same, md8.an, N, md8.gp, md8.kt, md8.ro, md8.lr, me8.d0, me8.nums, md8.deal⟩
    generalize upd H7 M3 (.tup [V.ref an, .ref gp, .ref d2, .ref T1]) = H8 at u8 md8 me8 mf8 P8 ⊢
    clear md7 me7 P7 nM3 u8 H7
    refine ⟨by show 3 ≤ sizeLine; decide, fun lm nlm => ?_⟩
    have u9 := same_new (o := .lst [V.ref M1, .ref M2, .ref M3]) nlm
    have hlm : (upd H8 lm (.lst [V.ref M1, .ref M2, .ref M3])) lm = some (.lst [V.ref M1, .ref M2, .ref M3]) := upd_same
    have md9 := md8.same u9
    have me9 := me8.same u9
    have mf9 := mf8.same u9
    have P9 := P8.same u9
    generalize upd H8 lm (.lst [V.ref M1, .ref M2, .ref M3]) = H9 at u9 hlm md9 me9 mf9 P9 ⊢
    clear md8 me8 mf8 P8 u9 nlm H8
    -- the system
    refine ⟨_, rfl, M1, an, gp, d1, T1, e1, ts, rs, g1, r1, l1, G1, rfl, md9, fun y L HA sA nS eL lL => ?_⟩
    have mdA := md9.same sA
    have meA := me9.same sA
    have mfA := mf9.same sA
    have PA' := P9.same sA
    have SA := nS.at_
    have hlmA := sA _ _ hlm
    clear md9 me9 mf9 P9 nS sA hlm H9
    -- the tasks
    refine ⟨_, rfl, lm, rfl, ⟨_, SqL.of hlmA⟩, fun D hD => ?_⟩
    refine lc_it (walk_list (xs := [V.ref M1, .ref M2, .ref M3])) (fun k Hc => Same HA Hc ∧ ∃ js : List Job, js.length = k ∧ Hc D = some (.lst (js.map fun j => V.ref j.pr)) ∧ ∀ j ∈ js, JobPre CP CT HA Hc y an gp ts rs (fun x M => [.ref M, .ref x]) j)
      ⟨same_new hD, [], rfl, upd_same, fun _ h => nomatch h⟩ (fun k Hc _ h => SqL.of (h.1 _ _ hlmA)) ?_ ?_
    · rintro k v X X' hk ⟨sX, js, ljs, hDX, jsX⟩ ⟨rfl, hv⟩
      obtain ⟨Mi, d0, T, e, g, r, l, G, rfl, md⟩ : ∃ Mi d0 T e g r l G, v = .ref Mi ∧ ModelAt HA Mi an gp d0 T e ts rs g r l G := by
        match k, hk with
        | 0, _ => cases hv; exact ⟨M1, d1, T1, e1, g1, r1, l1, G1, rfl, mdA⟩
        | 1, _ => cases hv; exact ⟨M2, d2, T2', e2', g2, r2, l2, G2', rfl, meA⟩
        | 2, _ => cases hv; exact ⟨M3, d2, T1, e1, g2, r1, l1, G1, rfl, mfA⟩
      refine ⟨rfl, ?_⟩
      unfold tYes
      dsimp only
      rw [if_pos rfl]
      have md0 := md
      replace md := md.same sX
      refine ⟨_, rfl, _, rfl, _, rfl, Mi, _, 2, .ref d0, rfl, rfl, SqT.of md.m, atI_nat (j := 2) rfl, ?_⟩
      refine ⟨_, rfl, Mi, _, 3, .ref T, rfl, rfl, SqT.of md.m, atI_nat (j := 3) rfl, T, e, r, l, G, rfl, md.deal, fun px X2 s2 hP => ?_⟩
      refine fun x dx nx ndx _ => task_on nx ndx ((SA.same sX).same s2) (s2 _ _ md.d0) (nums_sort md.nums) hP.at_ fun X3 s3 ta => ⟨rfl, ?_⟩
      refine ⟨by show 2 ≤ sizeLine; decide, fun Tp nTp => ?_⟩
      have s4 := same_new (o := .tup [V.ref Mi, .ref x]) nTp
      have s24 := (s2.trans s3).trans s4
      have hD4 := s24 _ _ hDX
      refine ⟨_, hD4, by rw [List.length_map, ljs]; have : k < 3 := hk; omega, ?_⟩
      have hTp : (upd X3 Tp (.tup [V.ref Mi, .ref x])) Tp = some (.tup [V.ref Mi, .ref x]) := upd_same
      have ta4 := ta.same s4
      have js4 : ∀ j ∈ js, JobPre CP CT HA (upd X3 Tp (.tup [V.ref Mi, .ref x])) y an gp ts rs (fun x M => [.ref M, .ref x]) j := fun j hj => (jsX j hj).same s24
      have sX4 := sX.trans s24
      generalize upd X3 Tp (.tup [V.ref Mi, .ref x]) = X4 at hD4 hTp ta4 js4 sX4 ⊢
      have sF : Same HA (upd X4 D (.lst ((js.map fun j => V.ref j.pr) ++ [.ref Tp]))) := fun b o hb => by
        rw [upd_ne (ne_of_none hb hD)]
        exact sX4 _ _ hb
      refine ⟨sF, js ++ [⟨x, Tp, Mi, d0, T, e, g, r, l, G⟩], by rw [List.length_append, ljs]; rfl, by rw [upd_same, List.map_append]; rfl, fun j hj => ?_⟩
      rcases List.mem_append.mp hj with hj | hj
      · exact (js4 j hj).wr hD4
      · rw [List.mem_singleton.mp hj]
        exact JobPre.wr ⟨md0, ta4, hTp⟩ hD4
    · rintro X ⟨sX, js, ljs, hDX, jsX⟩
      have S7 := SA.same sX
      have P7 := PA'.same sX
      have js7 : ∀ j ∈ js, JobAt C CP CT X an gp ts rs L (fun x M => [.ref M, .ref x]) j := fun j hj => (jsX j hj).at_ sX S7
      clear jsX SA PA' mdA meA mfA hlmA hD sX
      refine ⟨_, rfl, _, rfl, 1, rfl, D, _, rfl, SqL.of hDX, fun sl nsl => ?_⟩
      have u1 := same_new (o := .lst (cutV (js.map fun j => V.ref j.pr) none (some 1))) nsl
      have hsl : (upd X sl (.lst (cutV (js.map fun j => V.ref j.pr) none (some 1)))) sl = some (.lst (cutV (js.map fun j => V.ref j.pr) none (some 1))) := upd_same
      have hD1 := u1 _ _ hDX
      obtain ⟨qs, eqs, mqs, lqs⟩ : ∃ qs : List Job, cutV (js.map fun j => V.ref j.pr) none (some 1) = qs.map (fun j => V.ref j.pr) ∧ (∀ j ∈ qs, j ∈ js) ∧ qs.length ≤ 1 :=
        ⟨js.take (min 1 (js.map fun j => V.ref j.pr).length), by rw [show (1 : Int) = ((1 : Nat) : Int) from rfl, cut_some, List.map_take], fun j hj => List.mem_of_mem_take hj, by rw [List.length_take, List.length_map]; omega⟩
      rw [eqs] at u1 hsl hD1 ⊢
      generalize upd X sl (.lst (qs.map fun j => V.ref j.pr)) = X1 at u1 hsl hD1 ⊢
      refine ⟨D, sl, _, _, rfl, rfl, hD1, hsl, ?_, fun hl nhl => ?_⟩
      · rw [List.length_map, List.length_map, ljs]
        show 3 + qs.length ≤ sizeLine
        omega
      have u2 := u1.trans (same_new (o := .lst ((js.map fun j => V.ref j.pr) ++ qs.map fun j => V.ref j.pr)) nhl)
      have hhl : (upd X1 hl (.lst ((js.map fun j => V.ref j.pr) ++ qs.map fun j => V.ref j.pr))) hl = some (.lst ((js ++ qs).map fun j => V.ref j.pr)) := by rw [upd_same, List.map_append]
      generalize upd X1 hl (.lst ((js.map fun j => V.ref j.pr) ++ qs.map fun j => V.ref j.pr)) = X2 at u2 hhl ⊢
      have mw : ∀ j ∈ js ++ qs, j ∈ js := fun j hj => (List.mem_append.mp hj).elim id (mqs j)
      have lw : (js ++ qs).length ≤ 10 := by rw [List.length_append, ljs]; show 3 + qs.length ≤ 10; omega
      generalize js ++ qs = ws at hhl mw lw
      have hD2 := u2 _ _ hDX
      have P2 := P7.same u2
      clear hsl hD1 nsl eqs mqs u1 nhl lqs P7
      refine ⟨hl, rfl, ⟨_, SqL.of hhl⟩, fun DD hDD => ?_⟩
      refine lc_map (walk_list (xs := ws.map fun j => V.ref j.pr)) hDD (ws.map fun _ => V.bl true) (by rw [List.length_map, List.length_map]) (by rw [List.length_map]; omega) (fun Y sY => SqL.of (sY _ _ hhl)) ?_ ?_
      · rintro k v Y Y' hk R Lk sY ⟨rfl, hv⟩ hR
        obtain ⟨j, hj, rfl⟩ := get_map hv
        have jm := mw j (List.mem_of_getElem? hj)
        have sXY := u2.trans sY
        have jY := (js7 j jm).same sXY
        rw [List.getElem_map] at hR
        refine ⟨j.pr, _, rfl, SqT.of jY.pr, rfl, _, _, rfl, _, _, rfl, rfl, rfl, ?_⟩
        unfold tYes
        dsimp only
        rw [if_pos rfl]
        exact ⟨_, rfl, _, rfl, _, rfl, j.x, j.M, D, an, gp, j.d0, j.T, j.d, ts, rs, L, j.g, j.r, j.l, j.G, js, rfl, jY.tk, jY.md, eL, np, sY _ _ hD2, fun i hi => (js7 i hi).same sXY, fun Z sZ => hR _ sZ⟩
      · intro Y sY hY
        refine ⟨DD, ws.map fun _ => true, rfl, SqL.of (by rw [List.map_map]; exact hY), _, rfl, ?_⟩
        have ea : (ws.map fun _ => true).all id = true := by
          rw [List.all_map]
          exact List.all_eq_true.mpr fun _ _ => rfl
        rw [ea]
        refine iteF ?_
        exact ⟨_, _, _, _, _, _, _, _, rfl, (P2.same sY).le (by omega)⟩
  · rintro σ Hc ⟨o2, o3, o4, o5, o6, o7, o8, o9, rfl, Pc⟩
    refine ⟨_, rfl, p, c, _, rfl, Pc, by omega, fun tw an bg H1 n1 ts rs b1 ntw nan nbg htw han N lts hbg hk hro hrl kp _ P1 hn1 => ?_⟩
    refine ⟨tw, _, rfl, SqT.of htw, rfl, _, _, rfl, _, _, rfl, rfl, ?_⟩
    obtain ⟨φ, kφ⟩ := kp
    have np := kφ.noPos
    have lN := N.2.2
    have mem20 : ∀ k (h : k < 20), ∃ t, ts[k]? = some t ∧ t ∈ ts := fun k h => ⟨ts[k]'(by omega), List.getElem?_eq_getElem _, List.getElem_mem _⟩
    clear htw ntw nan nbg b1 Pc kφ
    refine ⟨_, rfl, an, rfl, ⟨_, SqL.of han⟩, fun D hD => ?_⟩
    have han0 := han
    refine lc_pairs (K := K) (p := p) (c := c) (m := 1) (n0 := n1) (ts := ts) (fun _ v => 0 ≤ v ∧ v ≤ 3) hD P1 han (by omega) ?_ ?_
    · intro k hk Hk Nx bk Pk hN
      refine ⟨rfl, ?_⟩
      unfold tYes
      dsimp only
      rw [if_pos rfl]
      refine ⟨_, rfl, _, rfl, p, c, _, 2, rfl, Pk, by omega, by decide, by decide, fun e8 Hf he80 he81 b8 P9 => ?_⟩
      refine ⟨_, _, rfl, rfl, .inl ⟨by decide, by decide⟩, by show 2 ≤ sizeLine; decide, fun T' hT' => ?_⟩
      exact hN _ Hf ⟨by omega, by omega⟩ b8 (P9.le (by omega)) T' hT'
    intro H2 ps gq eq vq hpq h2q b2 P2
    have nodq : (gq.map (·.1)).Nodup := by rw [eq]; exact N.1
    refine ⟨D, ps, goalKV gq, rfl, SqL.of h2q, goal_paired hpq, fun dq ndq => ?_⟩
    rw [goal_merge nodq]
    have u3 := same_new (o := .dK (goalKV gq)) ndq
    have hdq : (upd H2 dq (.dK (goalKV gq))) dq = some (.dK (goalKV gq)) := upd_same
    have han3 := u3 _ _ (b2 _ _ han (P1.ne_strs han))
    have hbg3 := u3 _ _ (b2 _ _ hbg (P1.ne_refs (L := rs.map (·.2)) (by rw [List.map_map]; exact hbg)))
    have hk3 : KeyTups (upd H2 dq (.dK (goalKV gq))) rs := fun x hx => u3 _ _ (b2 _ _ (hk x hx) (P1.ne_of (hk x hx) fun _ z => nomatch z))
    have nums : NumsOk ts gq := ⟨by rw [eq], fun x hx => by
      obtain ⟨q', hq', rfl⟩ := List.getElem_of_mem hx
      have := vq q' hq'
      omega⟩
    generalize upd H2 dq (.dK (goalKV gq)) = H3 at u3 hdq han3 hbg3 hk3 ⊢
    clear hD hpq h2q b2 P2 P1 hbg hk han ndq u3 vq han0
    refine ⟨_, rfl, _, rfl, _, rfl, ?_⟩
    obtain ⟨t0, ht0, mt0⟩ := mem20 0 (by decide)
    obtain ⟨t1, ht1, mt1⟩ := mem20 19 (by decide)
    refine fun pd npd => ?_
    have u4 := same_new (o := .dK []) npd
    have hpd : (upd H3 pd (.dK [])) pd = some (.dK []) := upd_same
    have han4 := u4 _ _ han3
    refine ⟨_, rfl, an, _, 0, .str t0, rfl, rfl, SqL.of han4, atI_nat (j := 0) (by rw [List.getElem?_map, ht0]; rfl), ?_⟩
    refine ⟨_, rfl, an, _, 19, .str t1, rfl, rfl, SqL.of han4, atI_nat (j := 19) (by rw [List.getElem?_map, ht1]; rfl), ?_⟩
    refine ⟨hpd, [(Sum.inr t0, .non), (Sum.inr t1, .non)], rfl, by show 2 ≤ 15; decide, ?_⟩
    have emg : mergeK [] [((Sum.inr t0 : Key), V.non), (Sum.inr t1, .non)] = ownKV (putO (putO [] t0 none) t1 none) := by
      show putK (putK (ownKV []) (Sum.inr t0) (optV none)) (Sum.inr t1) (optV none) = _
      rw [put_own, put_own]
    rw [emg]
    have noI : ∀ i : Int, (none : Option Int) = some i → Pr9 i := fun i z => by cases z
    have okG : OwnOk (putO (putO [] t0 none) t1 none) := (ownOk_nil.put (N.2.1 t0 mt0) noI).put (N.2.1 t1 mt1) noI
    have lG : (putO (putO [] t0 none) t1 none).length ≤ 2 := by
      have h1 := put_len (g := putO [] t0 none) (t := t1) (o := none)
      have h2 := put_len (g := []) (t := t0) (o := none)
      rw [List.length_nil] at h2
      omega
    generalize putO (putO [] t0 none) t1 none = G at okG lG ⊢
    have s4 : Same H3 (upd (upd H3 pd (.dK [])) pd (.dK (ownKV G))) := fun b o hb => by
      rw [upd_ne (ne_of_none hb npd), upd_ne (ne_of_none hb npd)]
      exact hb
    have hpd4 : (upd (upd H3 pd (.dK [])) pd (.dK (ownKV G))) pd = some (.dK (ownKV G)) := upd_same
    generalize upd (upd H3 pd (.dK [])) pd (.dK (ownKV G)) = H4 at s4 hpd4 ⊢
    refine ⟨by show 3 ≤ sizeLine; decide, fun T nT => ?_⟩
    have u5 := same_new (o := .tup [V.int 1, .int 1, .ref pd]) nT
    have hT5 : (upd H4 T (.tup [V.int 1, .int 1, .ref pd])) T = some (.tup [V.int 1, .int 1, .ref pd]) := upd_same
    have hpd5 := u5 _ _ hpd4
    have s5 := s4.trans u5
    generalize upd H4 T (.tup [V.int 1, .int 1, .ref pd]) = H5 at u5 hT5 hpd5 s5 ⊢
    refine ⟨by show 4 ≤ sizeLine; decide, fun M nM => ?_⟩
    have u6 := same_new (o := .tup [V.ref an, .ref bg, .ref dq, .ref T]) nM
    have s6 := s5.trans u6
    have mM : ModelAt (upd H5 M (.tup [V.ref an, .ref bg, .ref dq, .ref T])) M an bg dq T pd ts rs gq 1 1 G := ⟨upd_same, s6 _ _ han3, N, s6 _ _ hbg3, fun x hx => s6 _ _ (hk3 x hx), hro, by omega, s6 _ _ hdq, nums, ⟨u6 _ _ hT5, u6 _ _ hpd5, ⟨by decide, by decide⟩, ⟨by decide, by decide⟩, okG, by omega⟩⟩
    generalize upd H5 M (.tup [V.ref an, .ref bg, .ref dq, .ref T]) = H6 at mM ⊢
    refine ⟨_, rfl, M, an, bg, dq, T, pd, ts, rs, gq, 1, 1, G, rfl, mM, fun x L H7 s7 tk eL lL => ?_⟩
    refine ⟨_, rfl, by show 0 ≤ sizeLine; decide, fun el nel => ?_⟩
    have u8 := same_new (o := .lst []) nel
    exact ⟨x, M, el, an, bg, dq, T, pd, ts, rs, L, gq, 1, 1, G, [], rfl, tk.same u8, (mM.same s7).same u8, eL, np, upd_same, (fun _ h => nomatch h), fun H' _ => q H'⟩
end
end Wnd

/-! what the head finds of the class Task -/
namespace Wnd
open PySem PySem.Spec PyProof.Rows L2
structure TaRaw (K : PySem.W.Frag) (C : Addr) : Prop where
  at_ : PySem.W.nsIn K mainGlobals "Task" = some (some (.ref C))
  pg : PySem.W.plainGet K C Str.empty = true
  hd : PySem.W.hasDictIn K C = true
  po : PySem.W.plainOver K C = true
  sa : PySem.W.findIn K (.ref C) "__setattr__" = some (some (.builtin "object.__setattr__"))
  nS : PySem.W.findIn K (.ref C) "_system" = some none
  nN : PySem.W.findIn K (.ref C) "_numbers" = some none
  nP : PySem.W.findIn K (.ref C) "_prices" = some none
  mks : PySem.W.makesIn K C = true
  kc : PySem.W.keepIn K (.ref C) = true
theorem TaRaw.f {K : PySem.W.Frag} {C : Addr} {mg : Str → Option Value} {h : Heap} (R : TaRaw K C) (X : K.In h) (G : h.Ns mainGlobals mg) : TaC K mg C := ⟨⟨R.pg, R.hd, R.po, R.sa⟩, R.nS, R.nN, R.nP, PySem.W.mg_of X G R.at_⟩
end Wnd

namespace Wnd
open PySem PySem.Spec PyProof.Rows L2
set_option maxHeartbeats 4000000 in
theorem all_mk {l : PySem.W.OpenLaw} {w : World} {K : PySem.W.Frag} {h : Heap} {mg : Str → Option Value} {fa : Addr} (X : K.In h) (G : h.Ns mainGlobals mg) (hfa : mg "law" = some (.ref fa)) {C : Addr} {t1 t2 t3 t4 : Tok}
    (rS : SysRaw K C) (c1 : PySem.W.nsIn K mainGlobals "LONGEST_NAME" = some (some (.int 8 t1))) (c2 : PySem.W.nsIn K mainGlobals "GREATEST_GAP" = some (some (.int 999 t2)))
    (c3 : PySem.W.nsIn K mainGlobals "GREATEST_NUMBER" = some (some (.int 99999 t3)))
    (c4 : PySem.W.nsIn K mainGlobals "GREATEST_PRICE" = some (some (.int 999 t4)))
    (mI : MetRaw K C "__init__" "System.__init__" s_System___init)
    (mE : MetRaw K C "__eq__" "System.__eq__" s_System___eq)
    (mN : PropRaw K C "names" "System.names" s_System_names)
    (mU : PropRaw K C "rules" "System.rules" s_System_rules)
    (mS : MetRaw K C "has_setting" "System.has_setting" s_System_has_setting)
    (mH : MetRaw K C "has_rule" "System.has_rule" s_System_has_rule)
    (mR : StatRaw K C "is_rule" "System.is_rule" s_System_is_rule)
    (r_things : DefRaw K "_check_things" s_check_things)
    {CP : Addr} (rP : PrRaw K CP)
    {CT : Addr} (rT : TaRaw K CT)
    (mPI : InitRaw K CP)
    (mPF : MetRaw K CP "is_fixed" "Prices.is_fixed" s_Prices_is_fixed)
    (mPV : MetRaw K CP "with_price" "Prices.with_price" s_Prices_with_price)
    (mTI : MetRaw K CT "__init__" "Task.__init__" s_Task___init)
    (mTS : PropRaw K CT "system" "Task.system" s_Task_system)
    (mTN : PropRaw K CT "numbers" "Task.numbers" s_Task_numbers)
    (mTA : MetRaw K CT "anchors" "Task.anchors" s_Task_anchors)
    (r_is_integer : DefRaw K "is_integer" s_is_integer) (r_is_integer_within : DefRaw K "is_integer_within" s_is_integer_within) (r_is_name : DefRaw K "is_name" s_is_name) (r_is_end : DefRaw K "_is_end" s_is_end) (r_are_different_names : DefRaw K "_are_different_names" s_are_different_names) (r_are_rules_between : DefRaw K "_are_rules_between" s_are_rules_between) (r_ascending : DefRaw K "_ascending" s_ascending) (r_rank : DefRaw K "rank" s_rank) (r_is_number : DefRaw K "is_number" s_is_number) (r_are_numbers : DefRaw K "are_numbers" s_are_numbers) (r_check_numbers : DefRaw K "check_numbers" s_check_numbers) (r_number_of : DefRaw K "number_of" s_number_of) (r_is_price : DefRaw K "_is_price" s_is_price) (r_is_chain : DefRaw K "is_chain" s_is_chain) (r_total_of : DefRaw K "total_of" s_total_of) (r_raise_highs : DefRaw K "_raise_highs" s_raise_highs) (r_greatest_totals : DefRaw K "greatest_totals" s_greatest_totals) (r_way_to : DefRaw K "way_to" s_way_to) (r_raised_from_0 : DefRaw K "_raised_from_0" s_raised_from_0) (r_rising_ring : DefRaw K "rising_ring" s_rising_ring) (r_contradiction : DefRaw K "contradiction" s_contradiction) (r_check_agreement : DefRaw K "check_agreement" s_check_agreement) (r_chain : DefRaw K "chain" s_chain) (r_bind : DefRaw K "bind" s_bind) (r_is_bind : DefRaw K "is_bind" s_is_bind) (r_room : DefRaw K "_room" s_room) (r_law_pen : DefRaw K "_law_pen" s_law_pen) (r_law_next : DefRaw K "_law_next" s_law_next) (r_law_draw : DefRaw K "_law_draw" s_law_draw) (r_law_some : DefRaw K "_law_some" s_law_some) (r_law_nyms : DefRaw K "_law_nyms" s_law_nyms) (r_law_goal : DefRaw K "_law_goal" s_law_goal) (r_law_at : DefRaw K "_law_at" s_law_at) (r_law_gaps : DefRaw K "_law_gaps" s_law_gaps) (r_law_far : DefRaw K "_law_far" s_law_far) (r_law_drawn : DefRaw K "_law_drawn" s_law_drawn) (r_law_deal : DefRaw K "_law_deal" s_law_deal) (r_law_prices : DefRaw K "_law_prices" s_law_prices) (r_law_model : DefRaw K "_law_model" s_law_model) (r_law_there : DefRaw K "_law_there" s_law_there) (r_law_task : DefRaw K "_law_task" s_law_task) (r_law_firmed : DefRaw K "_law_firmed" s_law_firmed) (r_law_firm : DefRaw K "_law_firm" s_law_firm) (r_law_is_strained : DefRaw K "_law_is_strained" s_law_is_strained) (r_law_ends : DefRaw K "_law_ends" s_law_ends) (r_law_is_paper : DefRaw K "_law_is_paper" s_law_is_paper) (r_law_twenty : DefRaw K "_law_twenty" s_law_twenty) (r_law_lacking_right : DefRaw K "_law_lacking_right" s_law_lacking_right) (r_law_right : DefRaw K "_law_right" s_law_right) (r_law : DefRaw K "law" s_law)
    (z_len : PySem.W.nsIn K mainGlobals "len" = some none) (z_list : PySem.W.nsIn K mainGlobals "list" = some none) (z_range : PySem.W.nsIn K mainGlobals "range" = some none) (z_min : PySem.W.nsIn K mainGlobals "min" = some none) (z_max : PySem.W.nsIn K mainGlobals "max" = some none) (z_dict : PySem.W.nsIn K mainGlobals "dict" = some none) (z_sorted : PySem.W.nsIn K mainGlobals "sorted" = some none) (z_isinstance : PySem.W.nsIn K mainGlobals "isinstance" = some none) (z_int : PySem.W.nsIn K mainGlobals "int" = some none) (z_bool : PySem.W.nsIn K mainGlobals "bool" = some none) (z_str : PySem.W.nsIn K mainGlobals "str" = some none) (z_tuple : PySem.W.nsIn K mainGlobals "tuple" = some none) (z_all : PySem.W.nsIn K mainGlobals "all" = some none) (z_set : PySem.W.nsIn K mainGlobals "set" = some none) (z_sum : PySem.W.nsIn K mainGlobals "sum" = some none) (z_repr : PySem.W.nsIn K mainGlobals "repr" = some none) (z_zip : PySem.W.nsIn K mainGlobals "zip" = some none) (z_enumerate : PySem.W.nsIn K mainGlobals "enumerate" = some none) :
    ∀ (base : Heap) (H : Hp) (s : Shared) (a : Addr) (ns : List Int), ns.length ≤ 63 → K.In base → base.Ns mainGlobals mg → Env0 l.prog w K mg base callerA [] s H → SqL K H a (ns.map V.int) →
        codeAny (model l.prog w) callerA (.call (.ref fa) ⟨[.ref a], []⟩) (CR CX0 [] l.prog w H s (fun v _ => v = .bl true) fun _ _ _ => False) s := by
  have T := rS.f X G
  have B : Blt2 mg := ⟨⟨PySem.W.mg_none_of X G z_len, PySem.W.mg_none_of X G z_list, PySem.W.mg_none_of X G z_range, PySem.W.mg_none_of X G z_min, PySem.W.mg_none_of X G z_max, PySem.W.mg_none_of X G z_dict, PySem.W.mg_none_of X G z_sorted⟩, PySem.W.mg_none_of X G z_isinstance, PySem.W.mg_none_of X G z_int, PySem.W.mg_none_of X G z_bool, PySem.W.mg_none_of X G z_str, PySem.W.mg_none_of X G z_tuple, PySem.W.mg_none_of X G z_all, PySem.W.mg_none_of X G z_set⟩
  have B3 : Blt3 mg := ⟨B, PySem.W.mg_none_of X G z_sum, PySem.W.mg_none_of X G z_repr⟩
  have B_zip : mg "zip" = none := PySem.W.mg_none_of X G z_zip
  have B_enumerate : mg "enumerate" = none := PySem.W.mg_none_of X G z_enumerate
  have k1 : ∃ t, mg "LONGEST_NAME" = some (.int 8 t) := ⟨t1, PySem.W.mg_of X G c1⟩
  have k2 : ∃ t, mg "GREATEST_GAP" = some (.int 999 t) := ⟨t2, PySem.W.mg_of X G c2⟩
  have k3 : ∃ t, mg "GREATEST_NUMBER" = some (.int 99999 t) := ⟨t3, PySem.W.mg_of X G c3⟩
  have k4 : ∃ t, mg "GREATEST_PRICE" = some (.int 999 t) := ⟨t4, PySem.W.mg_of X G c4⟩
  obtain ⟨_, _, D_is_integer⟩ := r_is_integer.at (ps := ["thing"]) X G fun _ _ _ _ _ _ us hl => match us, hl with | [_], _ => rfl
  obtain ⟨_, _, D_is_integer_within⟩ := r_is_integer_within.at (ps := ["thing", "least", "greatest"]) X G fun _ _ _ _ _ _ us hl => match us, hl with | [_, _, _], _ => rfl
  obtain ⟨_, _, D_is_name⟩ := r_is_name.at (ps := ["thing"]) X G fun _ _ _ _ _ _ us hl => match us, hl with | [_], _ => rfl
  obtain ⟨_, _, D_is_end⟩ := r_is_end.at (ps := ["thing"]) X G fun _ _ _ _ _ _ us hl => match us, hl with | [_], _ => rfl
  obtain ⟨_, _, D_are_different_names⟩ := r_are_different_names.at (ps := ["things"]) X G fun _ _ _ _ _ _ us hl => match us, hl with | [_], _ => rfl
  obtain ⟨_, _, D_are_rules_between⟩ := r_are_rules_between.at (ps := ["things", "names"]) X G fun _ _ _ _ _ _ us hl => match us, hl with | [_, _], _ => rfl
  obtain ⟨_, _, D_ascending⟩ := r_ascending.at (ps := ["rules"]) X G fun _ _ _ _ _ _ us hl => match us, hl with | [_], _ => rfl
  obtain ⟨_, _, D_rank⟩ := r_rank.at (ps := ["rule"]) X G fun _ _ _ _ _ _ us hl => match us, hl with | [_], _ => rfl
  obtain ⟨_, _, D_is_number⟩ := r_is_number.at (ps := ["thing"]) X G fun _ _ _ _ _ _ us hl => match us, hl with | [_], _ => rfl
  obtain ⟨_, _, D_are_numbers⟩ := r_are_numbers.at (ps := ["system", "thing"]) X G fun _ _ _ _ _ _ us hl => match us, hl with | [_, _], _ => rfl
  obtain ⟨_, _, D_check_numbers⟩ := r_check_numbers.at (ps := ["system", "thing"]) X G fun _ _ _ _ _ _ us hl => match us, hl with | [_, _], _ => rfl
  obtain ⟨_, _, D_number_of⟩ := r_number_of.at (ps := ["thing", "numbers"]) X G fun _ _ _ _ _ _ us hl => match us, hl with | [_, _], _ => rfl
  obtain ⟨_, _, D_is_price⟩ := r_is_price.at (ps := ["thing"]) X G fun _ _ _ _ _ _ us hl => match us, hl with | [_], _ => rfl
  obtain ⟨_, _, D_is_chain⟩ := r_is_chain.at (ps := ["system", "thing"]) X G fun _ _ _ _ _ _ us hl => match us, hl with | [_, _], _ => rfl
  obtain ⟨_, _, D_total_of⟩ := r_total_of.at (ps := ["chain"]) X G fun _ _ _ _ _ _ us hl => match us, hl with | [_], _ => rfl
  obtain ⟨_, _, D_raise_highs⟩ := r_raise_highs.at (ps := ["arcs", "totals", "last"]) X G fun _ _ _ _ _ _ us hl => match us, hl with | [_, _, _], _ => rfl
  obtain ⟨_, _, D_greatest_totals⟩ := r_greatest_totals.at (ps := ["arcs", "start"]) X G fun _ _ _ _ _ _ us hl => match us, hl with | [_, _], _ => rfl
  obtain ⟨_, _, D_way_to⟩ := r_way_to.at (ps := ["arcs", "last", "end"]) X G fun _ _ _ _ _ _ us hl => match us, hl with | [_, _, _], _ => rfl
  obtain ⟨_, _, D_raised_from_0⟩ := r_raised_from_0.at (ps := ["things", "arcs"]) X G fun _ _ _ _ _ _ us hl => match us, hl with | [_, _], _ => rfl
  obtain ⟨_, _, D_rising_ring⟩ := r_rising_ring.at (ps := ["things", "arcs"]) X G fun _ _ _ _ _ _ us hl => match us, hl with | [_, _], _ => rfl
  obtain ⟨_, _, D_contradiction⟩ := r_contradiction.at (ps := ["system"]) X G fun _ _ _ _ _ _ us hl => match us, hl with | [_], _ => rfl
  obtain ⟨_, _, D_check_agreement⟩ := r_check_agreement.at (ps := ["system"]) X G fun _ _ _ _ _ _ us hl => match us, hl with | [_], _ => rfl
  obtain ⟨_, _, D_chain⟩ := r_chain.at (ps := ["system", "low", "high"]) X G fun _ _ _ _ _ _ us hl => match us, hl with | [_, _, _], _ => rfl
  obtain ⟨_, _, D_bind⟩ := r_bind.at (ps := ["task"]) X G fun _ _ _ _ _ _ us hl => match us, hl with | [_], _ => rfl
  obtain ⟨_, _, D_is_bind⟩ := r_is_bind.at (ps := ["task", "thing"]) X G fun _ _ _ _ _ _ us hl => match us, hl with | [_, _], _ => rfl
  obtain ⟨_, _, D_room⟩ := r_room.at (ps := ["task", "low", "high"]) X G fun _ _ _ _ _ _ us hl => match us, hl with | [_, _, _], _ => rfl
  obtain ⟨_, _, D_law_pen⟩ := r_law_pen.at (ps := ["_law_script"]) X G fun _ _ _ _ _ _ us hl => match us, hl with | [_], _ => rfl
  obtain ⟨_, _, D_law_next⟩ := r_law_next.at (ps := ["_law_pen_here"]) X G fun _ _ _ _ _ _ us hl => match us, hl with | [_], _ => rfl
  obtain ⟨_, _, D_law_draw⟩ := r_law_draw.at (ps := ["_law_pen_here", "_law_under"]) X G fun _ _ _ _ _ _ us hl => match us, hl with | [_, _], _ => rfl
  obtain ⟨_, _, D_law_some⟩ := r_law_some.at (ps := ["_law_pen_here", "_law_pool", "_law_most"]) X G fun _ _ _ _ _ _ us hl => match us, hl with | [_, _, _], _ => rfl
  obtain ⟨_, _, D_law_nyms⟩ := r_law_nyms.at (ps := ["_law_pen_here", "_law_most"]) X G fun _ _ _ _ _ _ us hl => match us, hl with | [_, _], _ => rfl
  obtain ⟨_, _, D_law_goal⟩ := r_law_goal.at (ps := ["_law_pen_here", "_law_nyms_here"]) X G fun _ _ _ _ _ _ us hl => match us, hl with | [_, _], _ => rfl
  obtain ⟨_, _, D_law_at⟩ := r_law_at.at (ps := ["_law_held", "_law_thing"]) X G fun _ _ _ _ _ _ us hl => match us, hl with | [_, _], _ => rfl
  obtain ⟨_, _, D_law_gaps⟩ := r_law_gaps.at (ps := ["_law_pen_here", "_law_nyms_here", "_law_goals", "_law_most"]) X G fun _ _ _ _ _ _ us hl => match us, hl with | [_, _, _, _], _ => rfl
  obtain ⟨_, _, D_law_far⟩ := r_law_far.at (ps := ["_law_nyms_here", "_law_gaps_here"]) X G fun _ _ _ _ _ _ us hl => match us, hl with | [_, _], _ => rfl
  obtain ⟨_, _, D_law_drawn⟩ := r_law_drawn.at (ps := ["_law_pen_here", "_law_most", "_law_many"]) X G fun _ _ _ _ _ _ us hl => match us, hl with | [_, _, _], _ => rfl
  obtain ⟨_, _, D_law_deal⟩ := r_law_deal.at (ps := ["_law_pen_here", "_law_nyms_here"]) X G fun _ _ _ _ _ _ us hl => match us, hl with | [_, _], _ => rfl
  obtain ⟨_, _, D_law_prices⟩ := r_law_prices.at (ps := ["_law_deal_here"]) X G fun _ _ _ _ _ _ us hl => match us, hl with | [_], _ => rfl
  obtain ⟨_, _, D_law_model⟩ := r_law_model.at (ps := ["_law_pen_here", "_law_most", "_law_many"]) X G fun _ _ _ _ _ _ us hl => match us, hl with | [_, _, _], _ => rfl
  obtain ⟨_, _, D_law_there⟩ := r_law_there.at (ps := ["_law_model_here"]) X G fun _ _ _ _ _ _ us hl => match us, hl with | [_], _ => rfl
  obtain ⟨_, _, D_law_task⟩ := r_law_task.at (ps := ["_law_model_here"]) X G fun _ _ _ _ _ _ us hl => match us, hl with | [_], _ => rfl
  obtain ⟨_, _, D_law_firmed⟩ := r_law_firmed.at (ps := ["_law_pen_here", "_law_model_here"]) X G fun _ _ _ _ _ _ us hl => match us, hl with | [_, _], _ => rfl
  obtain ⟨_, _, D_law_firm⟩ := r_law_firm.at (ps := ["_law_model_here"]) X G fun _ _ _ _ _ _ us hl => match us, hl with | [_], _ => rfl
  obtain ⟨_, _, D_law_is_strained⟩ := r_law_is_strained.at (ps := ["_law_model_here", "_law_far_here"]) X G fun _ _ _ _ _ _ us hl => match us, hl with | [_, _], _ => rfl
  obtain ⟨_, _, D_law_ends⟩ := r_law_ends.at (ps := ["_law_gaps_here", "_law_thing"]) X G fun _ _ _ _ _ _ us hl => match us, hl with | [_, _], _ => rfl
  obtain ⟨_, _, D_law_is_paper⟩ := r_law_is_paper.at (ps := ["_law_model_here", "_law_thing"]) X G fun _ _ _ _ _ _ us hl => match us, hl with | [_, _], _ => rfl
  obtain ⟨_, _, D_law_twenty⟩ := r_law_twenty.at (ps := ["_law_pen_here"]) X G fun _ _ _ _ _ _ us hl => match us, hl with | [_], _ => rfl
  obtain ⟨_, _, D_law_lacking_right⟩ := r_law_lacking_right.at (ps := ["_law_model_here", "_law_paper"]) X G fun _ _ _ _ _ _ us hl => match us, hl with | [_, _], _ => rfl
  obtain ⟨_, _, D_law_right⟩ := r_law_right.at (ps := ["_law_task_here", "_law_model_here", "_law_others"]) X G fun _ _ _ _ _ _ us hl => match us, hl with | [_, _, _], _ => rfl
  obtain ⟨_, _, D_law⟩ := r_law.at (ps := ["_law_script"]) X G fun _ _ _ _ _ _ us hl => match us, hl with | [_], _ => rfl
  obtain ⟨fI, fdI, FI, bI, iI, isI⟩ := mI.at (ps := ["self", "names", "rules"]) fun _ _ _ _ _ _ us hl => match us, hl with | [_, _, _], _ => rfl
  obtain ⟨fE, fdE, FE, bE, iE, isE⟩ := mE.at (ps := ["self", "other"]) fun _ _ _ _ _ _ us hl => match us, hl with | [_, _], _ => rfl
  obtain ⟨pN, gN, fdN, FN, bN, iN⟩ := mN.at (ps := ["self"]) fun _ _ _ _ _ _ us hl => match us, hl with | [_], _ => rfl
  obtain ⟨pU, gU, fdU, FU, bU, iU⟩ := mU.at (ps := ["self"]) fun _ _ _ _ _ _ us hl => match us, hl with | [_], _ => rfl
  obtain ⟨fS, fdS, FS, bS, iS, isS⟩ := mS.at (ps := ["self", "thing"]) fun _ _ _ _ _ _ us hl => match us, hl with | [_, _], _ => rfl
  obtain ⟨fH, fdH, FH, bH, iH, isH⟩ := mH.at (ps := ["self", "thing"]) fun _ _ _ _ _ _ us hl => match us, hl with | [_, _], _ => rfl
  obtain ⟨mc, pR, fR, fdR, FR, bR, rdR, smR⟩ := mR.at (ps := ["thing"]) fun _ _ _ _ _ _ us hl => match us, hl with | [_], _ => rfl
  have TPr := rP.f X G
  have TTa := rT.f X G
  obtain ⟨fPI, fdPI, FPI, iPI, isPI⟩ := mPI.at
  obtain ⟨fPF, fdPF, FPF, bPF, iPF, isPF⟩ := mPF.at (ps := ["self", "name"]) fun _ _ _ _ _ _ us hl => match us, hl with | [_, _], _ => rfl
  obtain ⟨fPV, fdPV, FPV, bPV, iPV, isPV⟩ := mPV.at (ps := ["self", "name", "price"]) fun _ _ _ _ _ _ us hl => match us, hl with | [_, _, _], _ => rfl
  obtain ⟨fTI, fdTI, FTI, bTI, iTI, isTI⟩ := mTI.at (ps := ["self", "system", "numbers", "prices"]) fun _ _ _ _ _ _ us hl => match us, hl with | [_, _, _, _], _ => rfl
  obtain ⟨pTS, gTS, fdTS, FTS, bTS, iTS⟩ := mTS.at (ps := ["self"]) fun _ _ _ _ _ _ us hl => match us, hl with | [_], _ => rfl
  obtain ⟨pTN, gTN, fdTN, FTN, bTN, iTN⟩ := mTN.at (ps := ["self"]) fun _ _ _ _ _ _ us hl => match us, hl with | [_], _ => rfl
  obtain ⟨fTA, fdTA, FTA, bTA, iTA, isTA⟩ := mTA.at (ps := ["self"]) fun _ _ _ _ _ _ us hl => match us, hl with | [_], _ => rfl
  obtain ⟨fW, ocW, odW, anW, kVW, dcW, pmW, cdW, ctW, slW, atW, lkW, hcW, kpW⟩ := r_things
  have e := hfa.symm.trans D_law.at_
  cases e
  intro base H s a ns hl kb nb env seq
  have o1 := ok_is_integer (P := l.prog) (w := w) (base := base) D_is_integer B
  have o2 := ok_is_integer_within D_is_integer_within B o1
  have o3 := ok_is_name (P := l.prog) (w := w) (base := base) D_is_name B k1
  have o4 := ok_is_end D_is_end o3
  have o5 : OkS l.prog w K mg base C 3 "is_rule" ["thing"] (spIsRule K) := ⟨mc, pR, fR, fdR, rdR, smR, bR, ok_is_rule FR B k2 o4 o2⟩
  have o6 := ok_diff D_are_different_names B o3
  have o7 := ok_rules D_are_rules_between B T.mgC o5
  have o8 : Ok l.prog w K mg base 1 "rank" ["rule"] spRank := D_rank.ok (ok_rank D_rank)
  have o9 := ok_ascending D_ascending B o8
  have o10 : OkMk l.prog w K mg base C 5 ["self", "names", "rules"] (spInit C) := ⟨fI, fdI, ⟨rS.mks, iI, isI, rS.kc⟩, bI, ok_init FI T.toSysC B o6 o7 o9⟩
  have o11 : OkEq l.prog w K mg base C 1 (spEq K C) := ⟨fE, fdE, _, ⟨iE, isE, rS.ne, rS.ob⟩, bE, ok_eq FE T.toSysC T.isC B⟩
  have oN : OkP l.prog w K mg base C 1 "names" (spNames C) := ⟨pN, gN, fdN, _, T.cl, iN, bN, ok_names FN T.toSysC B.toBlt⟩
  have oU : OkP l.prog w K mg base C 1 "rules" (spRulesP C) := ⟨pU, gU, fdU, _, T.cl, iU, bU, ok_rulesP FU T.toSysC B.toBlt⟩
  have oS : OkM l.prog w K mg base C 1 "has_setting" (spSetting C) := ⟨fS, fdS, _, T.cl, ⟨iS, isS, FS.kp⟩, bS, ok_setting FS T.toSysC⟩
  have oH : OkM l.prog w K mg base C 4 "has_rule" (spHas K C) := ⟨fH, fdH, _, T.cl, ⟨iH, isH, FH.kp⟩, bH, ok_has FH T.toSysC o5⟩
  have oT : OkV l.prog w K mg base 3 "_check_things" (spThings C) := ⟨fW, PySem.W.mg_of X G atW, kpW, ok_things lkW hcW B oS (StX.bind_star1 (B := fun us => bindArgs (PySem.W.fnOf "_check_things" "_check_things" (defArgs s_check_things) (defBody s_check_things) (defScope s_check_things) .none kVW dcW pmW anW cdW ctW) ⟨us, []⟩) (p1 := "system") (pv := "things") (fun _ => rfl) fun _ _ _ => rfl)⟩
  have g_raise := ok_raise (P := l.prog) (w := w) (base := base) D_raise_highs B_enumerate
  have g_great := ok_great D_greatest_totals g_raise
  have g_from0 := ok_from0 D_raised_from_0 B g_raise
  have p_pen := ok_pen (P := l.prog) (w := w) (base := base) D_law_pen B.toBlt
  have p_next := ok_next (P := l.prog) (w := w) (base := base) D_law_next B.toBlt
  have p_draw := ok_draw D_law_draw p_next
  have p_some := ok_some D_law_some B.toBlt p_draw
  have p_nyms := ok_nyms D_law_nyms B.toBlt p_some
  have p_goal := ok_goal D_law_goal B.toBlt p_draw
  have p_at := ok_at (P := l.prog) (w := w) (base := base) D_law_at
  have p_gaps := ok_gaps D_law_gaps B.toBlt p_draw p_at
  have p_far := ok_far (P := l.prog) (w := w) (base := base) D_law_far B
  have p_drawn := ok_drawn D_law_drawn p_draw p_nyms p_goal p_gaps
  have n1 := ok_is_number D_is_number k3 o2
  have n2 := ok_areNums D_are_numbers B oN n1
  have n3 := ok_check D_check_numbers n2
  have n4 := ok_numOf (P := l.prog) (w := w) (base := base) D_number_of
  have m1 := ok_is_price D_is_price k4 o2
  have oP : OkPr l.prog w K mg base CP 4 := ⟨⟨fPI, fdPI, ⟨rP.mks, iPI, isPI, rP.kc⟩, FPI, ok_prInit FPI TPr m1⟩, TPr.mgC⟩
  have oFz : OkM l.prog w K mg base CP 1 "is_fixed" (spFixedZ CP) := ⟨fPF, fdPF, _, TPr.cl, ⟨iPF, isPF, FPF.kp⟩, bPF, ok_isFixedZ FPF TPr⟩
  have oW : OkM l.prog w K mg base CP 6 "with_price" (spWithPr CP) := ⟨fPV, fdPV, _, TPr.cl, ⟨iPV, isPV, FPV.kp⟩, bPV, ok_withPr FPV TPr B.toBlt m1 o3 oP⟩
  have oTk : OkMk l.prog w K mg base CT 6 ["self", "system", "numbers", "prices"] (spTaInit C CT) := ⟨fTI, fdTI, ⟨rT.mks, iTI, isTI, rT.kc⟩, bTI, ok_taInit FTI TTa oN n3⟩
  have oTS : OkP l.prog w K mg base CT 1 "system" (spTaSys C CP CT) := ⟨pTS, gTS, fdTS, _, TTa.cl, iTS, bTS, ok_taSys FTS TTa⟩
  have oTN : OkP l.prog w K mg base CT 1 "numbers" (spTaNum C CP CT) := ⟨pTN, gTN, fdTN, _, TTa.cl, iTN, bTN, ok_taNum FTN TTa B.dict⟩
  have oTA : OkM l.prog w K mg base CT 2 "anchors" (spAnch C CP CT) := ⟨fTA, fdTA, _, TTa.cl, ⟨iTA, isTA, FTA.kp⟩, bTA, ok_anch FTA TTa oFz⟩
  have g_ring := ok_ring D_rising_ring g_from0
  have g_contra := ok_contra D_contradiction oN oU g_ring
  have g_agree := ok_agree D_check_agreement g_contra
  have g_way := ok_way (P := l.prog) (w := w) (base := base) D_way_to
  have g_chainS := ok_chain D_chain oU oT g_agree g_great g_way
  have g_chain := ok_isChain D_is_chain B B_zip oH
  have g_total := ok_total (P := l.prog) (w := w) (base := base) D_total_of B3
  have g_room := ok_room D_room oTN n4
  have g_isBind := ok_isBind D_is_bind oTS g_chain g_total oTA g_room
  have g_bind := ok_bind D_bind oTS oU g_agree g_great g_chainS oTA g_room
  have p_ends := ok_endsG (P := l.prog) (w := w) (base := base) D_law_ends B3
  have q1 := ok_deal D_law_deal B.toBlt p_draw
  have q2 := ok_pricesL D_law_prices B.toBlt oP oW
  have q3 := ok_thereL D_law_there B.toBlt T.mgC o10
  have q4 := ok_modelD D_law_model p_draw p_goal p_drawn q1
  have q5 := ok_taskL D_law_task TTa.mgC oTk q3 q2
  have q6 := ok_firm (P := l.prog) (w := w) (base := base) D_law_firm B.toBlt
  have q7 := ok_firmed D_law_firmed B.toBlt p_some
  have q8 := ok_strained D_law_is_strained q6 p_at
  have q9 := ok_paper D_law_is_paper p_ends q6 p_at
  have q10 := ok_lack D_law_lacking_right q5 g_isBind
  have q11 := ok_right37 T D_law_right B3 q8 p_far g_bind q9 g_isBind q10 q3 oTS oTN o11
  have q12 := ok_twenty D_law_twenty B p_draw
  exact run_law D_law.fn D_law.bi ⟨rfl, by decide, by decide⟩ T B3 TTa.mgC p_pen p_goal q4 q7 q1 q3 q2 q11 p_draw q12 q5 oTk (vs := [V.ref a]) (us := [Value.ref a]) env rfl (.cons rfl .nil) ⟨a, ns, rfl, seq, hl, fun _ => rfl⟩
end Wnd
open PySem PySem.W PyProof.Rows in
set_option maxRecDepth 100000 in
set_option maxHeartbeats 0 in
theorem PySem.Challenge.cw_windowsteps_k37_binds_holds : PySem.Challenge.rw_windowsteps_k37_binds.Holds := by
  w_on; o_law; k_head; (case hw => w_witness2)
  k_fill
  refine Wnd.top_walk (l := PySem.Challenge.rw_windowsteps_k37_binds) (n := 63) rfl (by decide) rfl (fun w h Y => PySem.W.kIn_of Y) ?F
  case F =>
    intro w mg fa h KX G hmg
    refine' Wnd.all_mk KX G hmg ?rS ?c1 ?c2 ?c3 ?c4 ?mI ?mE ?mN ?mU ?mS ?mH ?mR ?r_things ?rP ?rT ?mPI ?mPF ?mPV ?mTI ?mTS ?mTN ?mTA ?r_is_integer ?r_is_integer_within ?r_is_name ?r_is_end ?r_are_different_names ?r_are_rules_between ?r_ascending ?r_rank ?r_is_number ?r_are_numbers ?r_check_numbers ?r_number_of ?r_is_price ?r_is_chain ?r_total_of ?r_raise_highs ?r_greatest_totals ?r_way_to ?r_raised_from_0 ?r_rising_ring ?r_contradiction ?r_check_agreement ?r_chain ?r_bind ?r_is_bind ?r_room ?r_law_pen ?r_law_next ?r_law_draw ?r_law_some ?r_law_nyms ?r_law_goal ?r_law_at ?r_law_gaps ?r_law_far ?r_law_drawn ?r_law_deal ?r_law_prices ?r_law_model ?r_law_there ?r_law_task ?r_law_firmed ?r_law_firm ?r_law_is_strained ?r_law_ends ?r_law_is_paper ?r_law_twenty ?r_law_lacking_right ?r_law_right ?r_law ?z_len ?z_list ?z_range ?z_min ?z_max ?z_dict ?z_sorted ?z_isinstance ?z_int ?z_bool ?z_str ?z_tuple ?z_all ?z_set ?z_sum ?z_repr ?z_zip ?z_enumerate
    (case rS => refine' ⟨?at_, ?pg, ?hd, ?po, ?sa, ?nN, ?nR, ?ha, ?hn, ?htk, ?hm, ?ic, ?tc, ?nf, ?kList, ?kTuple, ?kNone, ?kStr, ?kInt, ?fList, ?fTuple, ?fNone, ?fStr, ?fInt, ?ne, ?ob, ?mks, ?kc⟩; (case at_ => k_is); all_goals k_is)
    (case c1 => k_is)
    (case c2 => k_is)
    (case c3 => k_is)
    (case c4 => k_is)
    (case mI => refine' Wnd.metRaw_mk ?a ?b ?c ?d ?e; (case a => k_is); (case b => k_is); (case c => k_is); (case d => k_is); (case e => k_is))
    (case mE => refine' Wnd.metRaw_mk ?a ?b ?c ?d ?e; (case a => k_is); (case b => k_is); (case c => k_is); (case d => k_is); (case e => k_is))
    (case mN => refine' Wnd.propRaw_mk ?a ?b ?c ?d ?e ?f ?g; (case a => k_is); (case b => k_is); (case c => k_is); (case d => k_is); (case e => k_is); (case f => k_is); (case g => k_is))
    (case mU => refine' Wnd.propRaw_mk ?a ?b ?c ?d ?e ?f ?g; (case a => k_is); (case b => k_is); (case c => k_is); (case d => k_is); (case e => k_is); (case f => k_is); (case g => k_is))
    (case mS => refine' Wnd.metRaw_mk ?a ?b ?c ?d ?e; (case a => k_is); (case b => k_is); (case c => k_is); (case d => k_is); (case e => k_is))
    (case mH => refine' Wnd.metRaw_mk ?a ?b ?c ?d ?e; (case a => k_is); (case b => k_is); (case c => k_is); (case d => k_is); (case e => k_is))
    (case mR => refine' Wnd.statRaw_mk ?a ?b ?c ?d ?e ?f ?g; (case a => k_is); (case b => k_is); (case c => k_is); (case d => k_is); (case e => k_is); (case f => k_is); (case g => k_is))
    (case r_things => refine' Wnd.defRaw_mk ?a ?b ?c ?d; (case a => k_is); (case b => k_is); (case c => k_is); (case d => k_is))
    (case rP => refine' ⟨?CPat_, ?CPpg, ?CPhd, ?CPpo, ?CPsa, ?CPnR, ?CPnL, ?CPnS, ?CPmks, ?CPkc⟩; (case CPat_ => k_is); all_goals k_is)
    (case rT => refine' ⟨?CTat_, ?CTpg, ?CThd, ?CTpo, ?CTsa, ?CTnS, ?CTnN, ?CTnP, ?CTmks, ?CTkc⟩; (case CTat_ => k_is); all_goals k_is)
    (case mPI => refine' Wnd.initRaw_mk ?a ?b ?c ?d ?e ?f ?g; (case a => k_is); (case b => k_is); (case c => k_is); (case d => k_is); (case e => k_is); (case f => k_is); (case g => k_is))
    (case mPF => refine' Wnd.metRaw_mk ?a ?b ?c ?d ?e; (case a => k_is); (case b => k_is); (case c => k_is); (case d => k_is); (case e => k_is))
    (case mPV => refine' Wnd.metRaw_mk ?a ?b ?c ?d ?e; (case a => k_is); (case b => k_is); (case c => k_is); (case d => k_is); (case e => k_is))
    (case mTI => refine' Wnd.metRaw_mk ?a ?b ?c ?d ?e; (case a => k_is); (case b => k_is); (case c => k_is); (case d => k_is); (case e => k_is))
    (case mTS => refine' Wnd.propRaw_mk ?a ?b ?c ?d ?e ?f ?g; (case a => k_is); (case b => k_is); (case c => k_is); (case d => k_is); (case e => k_is); (case f => k_is); (case g => k_is))
    (case mTN => refine' Wnd.propRaw_mk ?a ?b ?c ?d ?e ?f ?g; (case a => k_is); (case b => k_is); (case c => k_is); (case d => k_is); (case e => k_is); (case f => k_is); (case g => k_is))
    (case mTA => refine' Wnd.metRaw_mk ?a ?b ?c ?d ?e; (case a => k_is); (case b => k_is); (case c => k_is); (case d => k_is); (case e => k_is))
    (case r_is_integer => refine' Wnd.defRaw_mk ?a ?b ?c ?d; (case a => k_is); (case b => k_is); (case c => k_is); (case d => k_is))
    (case r_is_integer_within => refine' Wnd.defRaw_mk ?a ?b ?c ?d; (case a => k_is); (case b => k_is); (case c => k_is); (case d => k_is))
    (case r_is_name => refine' Wnd.defRaw_mk ?a ?b ?c ?d; (case a => k_is); (case b => k_is); (case c => k_is); (case d => k_is))
    (case r_is_end => refine' Wnd.defRaw_mk ?a ?b ?c ?d; (case a => k_is); (case b => k_is); (case c => k_is); (case d => k_is))
    (case r_are_different_names => refine' Wnd.defRaw_mk ?a ?b ?c ?d; (case a => k_is); (case b => k_is); (case c => k_is); (case d => k_is))
    (case r_are_rules_between => refine' Wnd.defRaw_mk ?a ?b ?c ?d; (case a => k_is); (case b => k_is); (case c => k_is); (case d => k_is))
    (case r_ascending => refine' Wnd.defRaw_mk ?a ?b ?c ?d; (case a => k_is); (case b => k_is); (case c => k_is); (case d => k_is))
    (case r_rank => refine' Wnd.defRaw_mk ?a ?b ?c ?d; (case a => k_is); (case b => k_is); (case c => k_is); (case d => k_is))
    (case r_is_number => refine' Wnd.defRaw_mk ?a ?b ?c ?d; (case a => k_is); (case b => k_is); (case c => k_is); (case d => k_is))
    (case r_are_numbers => refine' Wnd.defRaw_mk ?a ?b ?c ?d; (case a => k_is); (case b => k_is); (case c => k_is); (case d => k_is))
    (case r_check_numbers => refine' Wnd.defRaw_mk ?a ?b ?c ?d; (case a => k_is); (case b => k_is); (case c => k_is); (case d => k_is))
    (case r_number_of => refine' Wnd.defRaw_mk ?a ?b ?c ?d; (case a => k_is); (case b => k_is); (case c => k_is); (case d => k_is))
    (case r_is_price => refine' Wnd.defRaw_mk ?a ?b ?c ?d; (case a => k_is); (case b => k_is); (case c => k_is); (case d => k_is))
    (case r_is_chain => refine' Wnd.defRaw_mk ?a ?b ?c ?d; (case a => k_is); (case b => k_is); (case c => k_is); (case d => k_is))
    (case r_total_of => refine' Wnd.defRaw_mk ?a ?b ?c ?d; (case a => k_is); (case b => k_is); (case c => k_is); (case d => k_is))
    (case r_raise_highs => refine' Wnd.defRaw_mk ?a ?b ?c ?d; (case a => k_is); (case b => k_is); (case c => k_is); (case d => k_is))
    (case r_greatest_totals => refine' Wnd.defRaw_mk ?a ?b ?c ?d; (case a => k_is); (case b => k_is); (case c => k_is); (case d => k_is))
    (case r_way_to => refine' Wnd.defRaw_mk ?a ?b ?c ?d; (case a => k_is); (case b => k_is); (case c => k_is); (case d => k_is))
    (case r_raised_from_0 => refine' Wnd.defRaw_mk ?a ?b ?c ?d; (case a => k_is); (case b => k_is); (case c => k_is); (case d => k_is))
    (case r_rising_ring => refine' Wnd.defRaw_mk ?a ?b ?c ?d; (case a => k_is); (case b => k_is); (case c => k_is); (case d => k_is))
    (case r_contradiction => refine' Wnd.defRaw_mk ?a ?b ?c ?d; (case a => k_is); (case b => k_is); (case c => k_is); (case d => k_is))
    (case r_check_agreement => refine' Wnd.defRaw_mk ?a ?b ?c ?d; (case a => k_is); (case b => k_is); (case c => k_is); (case d => k_is))
    (case r_chain => refine' Wnd.defRaw_mk ?a ?b ?c ?d; (case a => k_is); (case b => k_is); (case c => k_is); (case d => k_is))
    (case r_bind => refine' Wnd.defRaw_mk ?a ?b ?c ?d; (case a => k_is); (case b => k_is); (case c => k_is); (case d => k_is))
    (case r_is_bind => refine' Wnd.defRaw_mk ?a ?b ?c ?d; (case a => k_is); (case b => k_is); (case c => k_is); (case d => k_is))
    (case r_room => refine' Wnd.defRaw_mk ?a ?b ?c ?d; (case a => k_is); (case b => k_is); (case c => k_is); (case d => k_is))
    (case r_law_pen => refine' Wnd.defRaw_mk ?a ?b ?c ?d; (case a => k_is); (case b => k_is); (case c => k_is); (case d => k_is))
    (case r_law_next => refine' Wnd.defRaw_mk ?a ?b ?c ?d; (case a => k_is); (case b => k_is); (case c => k_is); (case d => k_is))
    (case r_law_draw => refine' Wnd.defRaw_mk ?a ?b ?c ?d; (case a => k_is); (case b => k_is); (case c => k_is); (case d => k_is))
    (case r_law_some => refine' Wnd.defRaw_mk ?a ?b ?c ?d; (case a => k_is); (case b => k_is); (case c => k_is); (case d => k_is))
    (case r_law_nyms => refine' Wnd.defRaw_mk ?a ?b ?c ?d; (case a => k_is); (case b => k_is); (case c => k_is); (case d => k_is))
    (case r_law_goal => refine' Wnd.defRaw_mk ?a ?b ?c ?d; (case a => k_is); (case b => k_is); (case c => k_is); (case d => k_is))
    (case r_law_at => refine' Wnd.defRaw_mk ?a ?b ?c ?d; (case a => k_is); (case b => k_is); (case c => k_is); (case d => k_is))
    (case r_law_gaps => refine' Wnd.defRaw_mk ?a ?b ?c ?d; (case a => k_is); (case b => k_is); (case c => k_is); (case d => k_is))
    (case r_law_far => refine' Wnd.defRaw_mk ?a ?b ?c ?d; (case a => k_is); (case b => k_is); (case c => k_is); (case d => k_is))
    (case r_law_drawn => refine' Wnd.defRaw_mk ?a ?b ?c ?d; (case a => k_is); (case b => k_is); (case c => k_is); (case d => k_is))
    (case r_law_deal => refine' Wnd.defRaw_mk ?a ?b ?c ?d; (case a => k_is); (case b => k_is); (case c => k_is); (case d => k_is))
    (case r_law_prices => refine' Wnd.defRaw_mk ?a ?b ?c ?d; (case a => k_is); (case b => k_is); (case c => k_is); (case d => k_is))
    (case r_law_model => refine' Wnd.defRaw_mk ?a ?b ?c ?d; (case a => k_is); (case b => k_is); (case c => k_is); (case d => k_is))
    (case r_law_there => refine' Wnd.defRaw_mk ?a ?b ?c ?d; (case a => k_is); (case b => k_is); (case c => k_is); (case d => k_is))
    (case r_law_task => refine' Wnd.defRaw_mk ?a ?b ?c ?d; (case a => k_is); (case b => k_is); (case c => k_is); (case d => k_is))
    (case r_law_firmed => refine' Wnd.defRaw_mk ?a ?b ?c ?d; (case a => k_is); (case b => k_is); (case c => k_is); (case d => k_is))
    (case r_law_firm => refine' Wnd.defRaw_mk ?a ?b ?c ?d; (case a => k_is); (case b => k_is); (case c => k_is); (case d => k_is))
    (case r_law_is_strained => refine' Wnd.defRaw_mk ?a ?b ?c ?d; (case a => k_is); (case b => k_is); (case c => k_is); (case d => k_is))
    (case r_law_ends => refine' Wnd.defRaw_mk ?a ?b ?c ?d; (case a => k_is); (case b => k_is); (case c => k_is); (case d => k_is))
    (case r_law_is_paper => refine' Wnd.defRaw_mk ?a ?b ?c ?d; (case a => k_is); (case b => k_is); (case c => k_is); (case d => k_is))
    (case r_law_twenty => refine' Wnd.defRaw_mk ?a ?b ?c ?d; (case a => k_is); (case b => k_is); (case c => k_is); (case d => k_is))
    (case r_law_lacking_right => refine' Wnd.defRaw_mk ?a ?b ?c ?d; (case a => k_is); (case b => k_is); (case c => k_is); (case d => k_is))
    (case r_law_right => refine' Wnd.defRaw_mk ?a ?b ?c ?d; (case a => k_is); (case b => k_is); (case c => k_is); (case d => k_is))
    (case r_law => refine' Wnd.defRaw_mk ?a ?b ?c ?d; (case a => k_is); (case b => k_is); (case c => k_is); (case d => k_is))
    (case z_len => k_is)
    (case z_list => k_is)
    (case z_range => k_is)
    (case z_min => k_is)
    (case z_max => k_is)
    (case z_dict => k_is)
    (case z_sorted => k_is)
    (case z_isinstance => k_is)
    (case z_int => k_is)
    (case z_bool => k_is)
    (case z_str => k_is)
    (case z_tuple => k_is)
    (case z_all => k_is)
    (case z_set => k_is)
    (case z_sum => k_is)
    (case z_repr => k_is)
    (case z_zip => k_is)
    (case z_enumerate => k_is)
#print axioms PySem.Challenge.cw_windowsteps_k37_binds_holds

