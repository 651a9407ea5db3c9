import PyProof.Rows.All
import Wide.All
import OpenK.AllK
import Wide.FinOn
import HandS.ForMost
import HandS.Codes
import HandS.Style
import HandS.Property
import HandS.IsInst
import HandS.DictComp
import HandS.Conv
import KE.KDictKeyed
import KE.SortKeyHeap
import HandS.SortKw
import HandS.ExcValue
import HandS.OwnEq
import HandS.ClsMeth
import HandS.Strs
import HandS.TupSets
import HandS.Walk
import HandS.Flow
import HandS.Star
import KE.OsSortAny
import HandS.Deep
import HandS.SetFor
import HandS.NoneIn
import HandS.Ends
import PyProof.ReprRoads
import PyProof.CallFns
import PyProof.DictUpdate
import PyProof.DictDisplay
import HandS.Finally
import HandS.Dict
import HandS.Defaults
import HandS.MakeKwOnly
import HandS.ListItems
import PySem.Challenge.RW_windowsteps_k33_prices_made
set_option Elab.async false
set_option linter.all false
set_option maxRecDepth 100000
/-! Windowsteps: what every law's proof begins with. Defs as bundles, heaps that change at one place, the pen that draws. -/
namespace Wnd
open PySem PySem.Spec PyProof.Rows L2

/-! ### a def of the text, bundled with its promise -/
structure DefAt (K : PySem.W.Frag) (mg : Str → Option Value) (x : Str) (st : Stmt) (ps : List Str) (f : Addr) (fd : FuncData) : Prop where
  fn : Fun K x x st f fd
  bi : Binds K fd ps []
  at_ : mg x = some (.ref f)
structure Ok (P : Program) (w : World) (K : PySem.W.Frag) (mg : Str → Option Value) (base : Heap) (k : Nat) (x : Str) (ps : List Str) (sp : Sp) : Prop where
  ex : ∃ (f : Addr) (fd : FuncData), mg x = some (.ref f) ∧ PySem.W.keepIn K (.ref f) = true ∧ Binds K fd ps [] ∧ FnOk P w K mg base CX0 k f fd ps sp
section
variable {P : Program} {w : World} {K : PySem.W.Frag} {mg : Str → Option Value} {base : Heap}
theorem DefAt.ok {x : Str} {st : Stmt} {ps : List Str} {f : Addr} {fd : FuncData} {k : Nat} {sp : Sp} (D : DefAt K mg x st ps f fd) (h : FnOk P w K mg base CX0 k f fd ps sp) : Ok P w K mg base k x ps sp :=
  ⟨⟨f, fd, D.at_, D.fn.kp, D.bi, h⟩⟩
theorem Ok.mono {x : Str} {ps : List Str} {j k : Nat} {sp : Sp} (O : Ok P w K mg base j x ps sp) (h : j ≤ k) : Ok P w K mg base k x ps sp := by
  obtain ⟨f, fd, a, b, c, d⟩ := O.ex
  exact ⟨⟨f, fd, a, b, c, d.mono h⟩⟩
end
section
variable {X : Cx} {k : Nat} {x : Str} {ps : List Str} {sp : Sp} {p pos : Pos} {e : Expr} {es : List Expr} {t : TA}
/-- a call of an own def -/
theorem pe_own (O : Ok X.prog X.w X.K X.mg X.base k x ps sp) (hr : Room k X.A) (ha : PA X (e :: es) t) (hg : Gl X x := by rfl) (hdb : (x == ("__debug__" : Str)) = false := by decide)
    (he : starEach (e :: es) X.env = (false, eval e X.env) :: starEach es X.env := by rfl) (hpl : (backTo pos (starEach es X.env)).any (·.1) = false := by rfl) :
    PE X (.Call (.Name x p) (e :: es) [] pos) (tCall sp [] E0 t) := by
  obtain ⟨f, fd, h1, h2, h3, h4⟩ := O.ex
  exact pe_call h4 hr hg h1 h2 h3 .nil pass0 ha hdb he hpl
end

/-! ### heaps that change at one place -/
def But (p : Addr) (H H' : Hp) : Prop := ∀ b o, H b = some o → b ≠ p → H' b = some o
theorem But.refl (p : Addr) (H : Hp) : But p H H := fun _ _ h _ => h
theorem But.trans {p : Addr} {H H1 H2 : Hp} (a : But p H H1) (b : But p H1 H2) : But p H H2 := fun c o h n => b c o (a c o h n) n
theorem But.of {p : Addr} {H H' : Hp} (h : Same H H') : But p H H' := fun b o e _ => h b o e
theorem But.upd {p : Addr} {H : Hp} {o : HO} : But p H (upd H p o) := fun b u e n => by
  rw [upd_ne n]
  exact e
theorem same_new {H : Hp} {p : Addr} {o : HO} (h : H p = none) : Same H (upd H p o) := fun b u e => by
  rw [upd_ne (ne_of_none e h)]
  exact e
theorem But.new {p q : Addr} {H : Hp} {o : HO} (h : H q = none) : But p H (L2.upd H q o) := But.of (same_new h)
/-- what is gone neither before nor behind -/
theorem But.free {p q : Addr} {H H' : Hp} (e : But p H H') (hp : q ≠ p) (h : H' q = none) : H q = none := by
  cases z : H q with
  | none => rfl
  | some o =>
    rw [e q o z hp] at h
    cases h
theorem But.seq {K : PySem.W.Frag} {p a : Addr} {H H' : Hp} {xs : List V} (e : But p H H') (n : ∀ o, H p = some o → a ≠ p) (hp : ∃ o, H p = some o) (h : SqL K H a xs) : SqL K H' a xs := by
  obtain ⟨o, hp⟩ := hp
  have n' := n o hp
  rcases h with (h | ⟨o, h⟩) | h
  · exact .inl (.inl (e _ _ h n'))
  · exact .inl (.inr ⟨o, e _ _ h n'⟩)
  · exact .inr h

theorem hu_of64 {A : Around} {k : Nat} (hr : Room k A) : A.units + 64 < cLine := hr.units
/-! ### the pen: a list of the script's cells, how many numbers were asked for, what is left of the last one -/
def PenAt (H : Hp) (p c : Addr) (n : Nat) : Prop := ∃ (cs : List Int) (i : Nat) (h : Int), cs.length ≤ 63 ∧ i ≤ n ∧ H c = some (.lst (cs.map V.int)) ∧ H p = some (.lst [.ref c, .int i, .int h])
theorem PenAt.ne {H : Hp} {p c : Addr} {n : Nat} (h : PenAt H p c n) : c ≠ p := by
  obtain ⟨cs, i, z, _, _, hc, hp⟩ := h
  refine ne_of hc hp fun e => ?_
  cases cs with
  | nil => cases e
  | cons x r => cases e
theorem PenAt.le {H : Hp} {p c : Addr} {m n : Nat} (h : PenAt H p c m) (l : m ≤ n) : PenAt H p c n := by
  obtain ⟨cs, i, z, a, b, hc, hp⟩ := h
  exact ⟨cs, i, z, a, Nat.le_trans b l, hc, hp⟩
theorem PenAt.same {H H' : Hp} {p c : Addr} {n : Nat} (h : PenAt H p c n) (s : Same H H') : PenAt H' p c n := by
  obtain ⟨cs, i, z, a, b, hc, hp⟩ := h
  exact ⟨cs, i, z, a, b, s _ _ hc, s _ _ hp⟩
theorem PenAt.some {H : Hp} {p c : Addr} {n : Nat} (h : PenAt H p c n) : ∃ o, H p = some o := by
  obtain ⟨cs, i, z, a, b, hc, hp⟩ := h
  exact ⟨_, hp⟩

def spPen (K : PySem.W.Frag) : Sp := fun vs H Q _ => ∃ (a : Addr) (ns : List Int), vs = [.ref a] ∧ SqL K H a (ns.map V.int) ∧ ns.length ≤ 63 ∧ ∀ p c H', Same H H' → H p = none → H c = none → PenAt H' p c 0 → Q (.ref p) H'
def spNext : Sp := fun vs H Q _ => ∃ (p c : Addr) (n : Nat), vs = [.ref p] ∧ PenAt H p c n ∧ n ≤ 1000000 ∧ ∀ (r : Int) H', But p H H' → PenAt H' p c (n + 1) → Q (.int r) H'
def spDraw : Sp := fun vs H Q _ => ∃ (p c : Addr) (n : Nat) (u : Int), vs = [.ref p, .int u] ∧ PenAt H p c n ∧ n ≤ 1000000 ∧ 0 < u ∧ u < 1000000000 ∧ ∀ (d : Int) H', 0 ≤ d → d < u → But p H H' → PenAt H' p c (n + 1) → Q (.int d) H'
end Wnd

/-! Windowsteps: rules (low, high, gap) as Python has them: tuples with None in them; dicts with such keys. -/
namespace Wnd
open PySem PySem.Spec PyProof.Rows L2

structure Rule where
  low : Option Str
  high : Option Str
  gap : Int
  deriving DecidableEq
def endV : Option Str → V
  | none => .non
  | some x => .str x
def ruleV (r : Rule) : List V := [endV r.low, endV r.high, .int r.gap]
def endK : Option Str → NestedKey
  | none => .none
  | some x => .text x
def ruleK (r : Rule) : NestedKey := .tup [endK r.low, endK r.high, .num r.gap]
theorem endK_inj : ∀ {a b : Option Str}, endK a = endK b → a = b
  | none, none, _ => rfl
  | none, some _, h => NestedKey.noConfusion h
  | some _, none, h => NestedKey.noConfusion h
  | some x, some y, h => by
    injection h with h
    rw [h]
theorem ruleK_inj {a b : Rule} (h : ruleK a = ruleK b) : a = b := by
  cases a with | mk l1 h1 g1 =>
  cases b with | mk l2 h2 g2 =>
  unfold ruleK at h
  injection h with h
  injection h with e1 h
  injection h with e2 h
  injection h with e3 h
  injection e3 with e3
  have f1 : l1 = l2 := endK_inj e1
  have f2 : h1 = h2 := endK_inj e2
  have f3 : g1 = g2 := e3
  rw [f1, f2, f3]
theorem endV_inj : ∀ {a b : Option Str}, endV a = endV b → a = b
  | none, none, _ => rfl
  | none, some _, h => V.noConfusion h
  | some _, none, h => V.noConfusion h
  | some x, some y, h => by
    injection h with h
    rw [h]
theorem endK_depth (a : Option Str) : (endK a).depth = 0 := by
  cases a <;> simp [endK, NestedKey.depth]
theorem ruleK_depth (r : Rule) : (ruleK r).depth = 1 := by
  simp [ruleK, NestedKey.depth, NestedKey.depthAll, endK_depth]
theorem endK_is {h : Heap} {a : Option Str} {u : Value} (r : RelV (endV a) u) : NestedIs h (endK a) u := by
  cases a with
  | none =>
    cases r
    exact .none
  | some x =>
    obtain ⟨t, rfl⟩ := r
    exact .text x t

section
variable {P : Program} {w : World} {H : Hp} {h : Heap}
theorem rule_is {q : Addr} {r : Rule} (ok : HOk P w H h) (e : H q = some (.tup (ruleV r))) : (nestedKind P w).is h (ruleK r) q := by
  obtain ⟨_, its, rel, o, h1, h2, n, h3⟩ := (show ObjOk P w H h q (.tup (ruleV r)) from ok q _ e)
  refine ⟨?_, by rw [ruleK_depth]; decide⟩
  refine NestedIs.tup h1 h2 h3 ?_
  rw [List.toList_toArray]
  cases rel with
  | cons r1 t1 =>
    cases t1 with
    | cons r2 t2 =>
      cases t2 with
      | cons r3 t3 =>
        cases t3
        obtain ⟨t, rfl⟩ := r3
        exact .cons (endK_is r1) (.cons (endK_is r2) (.cons (.int _ t) .nil))
end

/-! ### a dict of rules, each with True -/
def rdX (L : List (Rule × Addr)) : List (NestedKey × Addr × Value) := L.map fun p => (ruleK p.1, p.2, Value.bool true)
structure RdAt (P : Program) (w : World) (h : Heap) (d : Addr) (L : List (Rule × Addr)) : Prop where
  lo : (d == sysModules) = false
  sz : L.length ≤ sizeLine
  raw : ∃ o es ep, h.get? d = some o ∧ o.ExactDict ∧ o.data = .dict es ep ∧ es.toList = (rdX L).map (entryOfKey (nestedKind P w))
  nd : (L.map (·.1)).Nodup
def rdO (P : Program) (w : World) (d : Addr) (L : List (Rule × Addr)) : HO := .ext fun h => RdAt P w h d L
/-- the keys' own tuples -/
def KeyTups (H : Hp) (L : List (Rule × Addr)) : Prop := ∀ p, p ∈ L → H p.2 = some (.tup (ruleV p.1))
theorem KeyTups.same {H H' : Hp} {L : List (Rule × Addr)} (k : KeyTups H L) (s : ∀ b xs, H b = some (.tup xs) → H' b = some (.tup xs)) : KeyTups H' L := fun p hp => s _ _ (k p hp)
def putR (L : List (Rule × Addr)) (r : Rule) (q : Addr) : List (Rule × Addr) := if r ∈ L.map (·.1) then L else L ++ [(r, q)]
section
variable {P : Program} {w : World} {H : Hp} {h : Heap} {d : Addr} {L : List (Rule × Addr)}
theorem rdO_ok (R : RdAt P w h d L) : ObjOk P w H h d (rdO P w d L) := by
  refine ⟨R, ?_, fun h1 h2 R1 k => ?_⟩
  · obtain ⟨o, _, _, e, _⟩ := R.raw
    exact ⟨o, e⟩
  · obtain ⟨o, es, ep, e, c⟩ := R1.raw
    exact ⟨R1.lo, R1.sz, ⟨o, es, ep, k o e, c⟩, R1.nd⟩
theorem rd_at (ok : HOk P w H h) (e : H d = some (rdO P w d L)) : RdAt P w h d L := (ok d _ e).1
theorem rd_rd (ok : HOk P w H h) (e : Rd H d (rdO P w d L)) : RdAt P w h d L := (e.ok ok).1
theorem rdX_nodup (hn : (L.map (·.1)).Nodup) : ((rdX L).map (·.1)).Nodup := by
  unfold rdX
  rw [List.map_map]
  rw [show ((fun x : NestedKey × Addr × Value => x.1) ∘ fun p : Rule × Addr => (ruleK p.1, p.2, Value.bool true)) = ruleK ∘ (fun p : Rule × Addr => p.1) from rfl, ← List.map_map]
  exact List.Pairwise.map ruleK (fun a b hab e => hab (ruleK_inj e)) hn
theorem RdAt.full (ok : HOk P w H h) (R : RdAt P w h d L) (k : KeyTups H L) : h.DictOfH (nestedKind P w) d (rdX L) := by
  obtain ⟨o, es, ep, e, x, dd, en⟩ := R.raw
  refine ⟨o, es, ep, e, x, dd, en, fun y hy => ?_, rdX_nodup R.nd⟩
  obtain ⟨p, hp, rfl⟩ := List.mem_map.mp hy
  exact rule_is ok (k p hp)
theorem RdAt.of (D : h.DictOfH (nestedKind P w) d (rdX L)) (lo : (d == sysModules) = false) (sz : L.length ≤ sizeLine) (nd : (L.map (·.1)).Nodup) : RdAt P w h d L := by
  obtain ⟨o, es, ep, e, x, dd, en, _⟩ := D
  exact ⟨lo, sz, ⟨o, es, ep, e, x, dd, en⟩, nd⟩
theorem atKey_rdX (r : Rule) : ∀ L : List (Rule × Addr), (atKey (rdX L) (ruleK r)).isSome = decide (r ∈ L.map (·.1))
  | [] => by simp [rdX, atKey]
  | p :: L => by
    have ih := atKey_rdX r L
    by_cases e : p.1 = r
    · subst e
      simp [rdX, atKey]
    · have e' : ¬ ruleK p.1 = ruleK r := fun z => e (ruleK_inj z)
      have e2 : ¬ r = p.1 := fun z => e z.symm
      have h1 : atKey (rdX (p :: L)) (ruleK r) = atKey (rdX L) (ruleK r) := by
        unfold rdX atKey
        rw [List.map_cons, List.find?_cons]
        simp [e']
      rw [h1, ih]
      simp [e2]
theorem putAt_true (r : Rule) : ∀ L : List (Rule × Addr), (rdX L).map (putAt (ruleK r) (Value.bool true)) = rdX L
  | [] => rfl
  | p :: L => by
    have ih := putAt_true r L
    unfold rdX at ih ⊢
    rw [List.map_cons, List.map_cons, ih]
    unfold putAt
    split <;> rfl
theorem storedH_rdX (L : List (Rule × Addr)) (r : Rule) (q : Addr) : storedH (rdX L) (ruleK r) q (Value.bool true) = rdX (putR L r q) := by
  unfold storedH putR
  rw [atKey_rdX]
  by_cases e : r ∈ L.map (·.1)
  · rw [decide_eq_true e, if_pos rfl, if_pos e, putAt_true]
  · rw [decide_eq_false e, if_neg Bool.false_ne_true, if_neg e]
    unfold rdX
    rw [List.map_append]
    rfl
theorem putR_nodup {r : Rule} {q : Addr} (nd : (L.map (·.1)).Nodup) : ((putR L r q).map (·.1)).Nodup := by
  unfold putR
  by_cases e : r ∈ L.map (·.1)
  · rw [if_pos e]
    exact nd
  · rw [if_neg e, List.map_append]
    refine List.nodup_append.mpr ⟨nd, by simp, fun a ha b hb => ?_⟩
    have hb' : b = r := by simpa using hb
    subst hb'
    intro z
    subst z
    exact e ha
theorem putR_len {r : Rule} {q : Addr} : (putR L r q).length ≤ L.length + 1 := by
  unfold putR
  split
  · omega
  · rw [List.length_append, List.length_singleton]
    omega
theorem KeyTups.put {r : Rule} {q : Addr} (k : KeyTups H L) (hq : H q = some (.tup (ruleV r))) : KeyTups H (putR L r q) := by
  unfold putR
  split
  · exact k
  · intro p hp
    rcases List.mem_append.mp hp with hp | hp
    · exact k p hp
    · have e : p = (r, q) := by simpa using hp
      subst e
      exact hq
end
section
variable {X : Cx} {pins : List (Addr × Obj)} {σ : L2.St} {H : Hp} {s : Shared} {E : Value → Shared → Prop}
theorem rdO_ne_tup {P : Program} {w : World} {d : Addr} {L : List (Rule × Addr)} {xs : List V} : rdO P w d L ≠ .tup xs := fun z => nomatch z
theorem rd_dictSet {A : Around} {d q : Addr} {L : List (Rule × Addr)} {r : Rule} {Q : Unit → Shared → Prop} (hu : A.units + 8 < cLine) (I : Inv X pins σ H s) (hd : H d = some (rdO X.prog X.w d L)) (k : KeyTups H L) (hq : H q = some (.tup (ruleV r)))
    (hz : L.length < sizeLine) (hQ : ∀ s', Inv X pins σ (upd H d (rdO X.prog X.w d (putR L r q))) s' → Q () s') :
    wpAny (model X.prog X.w) A (dictSet d (.ref q) (.bool true)) Q E s := by
  have R := rd_at I.hok hd
  have hl : (rdX L).length = L.length := by unfold rdX; rw [List.length_map]
  refine wpAny_dictSet_heap (hsz := by rw [hl]; exact R.sz) (knd := nestedKind X.prog X.w) hu (rule_is I.hok hq) (R.full I.hok k) fun h' D' sb => hQ _ ?_
  rw [storedH_rdX] at D'
  have he : ∃ z, h'.get? d = some z := let ⟨z, _, _, e, _⟩ := D'; ⟨z, e⟩
  exact d_write I (by rw [hd]; exact True.intro) sb he (rdO_ok (RdAt.of D' R.lo (Nat.le_trans putR_len hz) (putR_nodup R.nd)))
end
end Wnd

/-! Windowsteps: {rule: True for rule in rules}. -/
namespace Wnd
open PySem PySem.Spec PyProof.Rows L2
section
variable {X : Cx}
/-- what the comprehension asks: D is the new dict of rules -/
def tDcR (P : Program) (w : World) (wi : TI) (g : TG) (tk : TE) (vs : List Nat) : TE := fun σ H Q => wi σ H fun J H1 =>
  ∀ D, H1 D = none → ∃ W : Nat → Nat → Hp → Prop, (∃ m, W 0 m (upd H1 D (rdO P w D []))) ∧ ∀ i m Hi, W i m Hi →
    (J.stop i Hi ∧ Q (.ref D) Hi) ∨ (J.go i Hi ∧ ∃ Nx : Hp → Prop, (∀ Hn, Nx Hn → ∃ m', m' < m ∧ W (i + 1) m' Hn) ∧
      ∀ x Hx, J.yld i Hi x Hx → g x (wipe σ vs) Hx fun σ2 H2 => wipe σ2 vs = wipe σ vs ∧
        tk σ2 H2 fun y H3 => ∃ (q : Addr) (r : Rule) (L : List (Rule × Addr)), y = .ref q ∧ H3 D = some (rdO P w D L) ∧ KeyTups H3 L ∧ H3 q = some (.tup (ruleV r)) ∧ L.length < sizeLine ∧ Nx (upd H3 D (rdO P w D (putR L r q))))
theorem rd_empty {P : Program} {w : World} {H : Hp} (h : Heap) (big : sysModules < h.objs.size) :
    ObjOk P w H (h.push { cls := .type "dict", data := .dict #[] }) h.objs.size (rdO P w h.objs.size []) :=
  rdO_ok (RdAt.of (Heap.DictOfH.new (knd := nestedKind P w) h) (beq_eq_false_iff_ne.mpr (Nat.ne_of_gt big)) (Nat.zero_le _) List.nodup_nil)
/-- the block's keys may be laid down while D stands -/
theorem dcR_core {pins : List (Addr × Obj)} {s : Shared} {σ : L2.St} {H : Hp} {Q : VK} {kx tg iter : Expr} {c : Nat} {cp : Pos} {scope : Scope} {own : List (Str × Nat)} {pos pos' : Pos} {wi : TI} {g : TG} {tk : TE}
    {use : Option (Value → Sem Unit)} {Qf : Value → Shared → Prop} (room : X.A.units + 8 < cLine) (calm : X.calm = true) (nd : X.N.Nodup) (I : Inv X pins σ H s) (hi : PI X tg iter wi) (ok : BlkOk X.N X.env.scope scope own)
    (hg : ∀ (s : Shared) (H : Hp) (C : Addr) (cl : List (Str × Addr)) (fp : List Addr), PG (X.blk s H scope (compEnvC scope cl C X.env) fp) tg g)
    (hk : ∀ (s : Shared) (H : Hp) (C : Addr) (cl : List (Str × Addr)) (fp : List Addr), PE (X.blk s H scope (compEnvC scope cl C X.env) fp) kx tk)
    (plain : ∀ x, foldedSetIterable iter X.env x = pure x) (ask : tDcR X.prog X.w wi g tk (own.map (·.2)) σ H Q)
    (last : ∀ D C s' m H', Inv X pins σ H' s' → Q (.ref D) H' → s'.heap.Ns C m → FpOk X pins H' C → compPost (model X.prog X.w) X.A X.xe use Qf (.ref D) C (.ok .next) s') :
    wpAny (model X.prog X.w) X.A (comprehension (.DictComp kx (.Constant (.bool true) c cp) [⟨tg, iter, [], 0⟩] scope pos) scope X.env pos' newDict false (eval iter X.env) use) Qf X.xe s := by
  have cells : ∀ y ∈ scope.names, y.2 = .free → ∃ c, X.env.cells.lookup y.1 = some c := by
    intro y hy e
    rcases ok.free y hy e with k | k
    · exact I.ok.has _ (.inl k)
    · exact I.ok.has _ (.inr k)
  refine wpAny_comprehension_free (use := use) rfl plain (closure_ok cells) ok.kind (fun y hy e => by rw [ok.uniq y hy, e]) (thn (hi.run pins s σ H _ I ask) ?_)
  intro xv s1 hx
  refine thn hx ?_
  rintro itv s2 ⟨it, fp, tn, J, Ha, rfl, I2, T, t0, fz, asks⟩
  refine wpAny_newObj_type (newEnv_comp ?_)
  generalize eD : s2.heap.objs.size = D
  have dNew : Ha D = none := I2.hok.fresh (Nat.le_of_eq eD)
  obtain ⟨W, ⟨m0, w0⟩, turn⟩ := asks D dNew
  -- the new dict is laid down
  generalize e3 : ({ s2 with heap := s2.heap.push { cls := .type "dict", data := .dict #[] } } : Shared) = s3
  have I3 : Inv X pins σ (upd Ha D (rdO X.prog X.w D [])) s3 := by
    rw [← e3]
    refine I2.laid (t' := s2.toks) (fun b o e => Heap.get?_push_of_some _ e) (Nat.le_of_eq eD) ?_
    rw [← eD]
    exact rd_empty s2.heap I2.big
  have h3 : s3.heap = s2.heap.push { cls := .type "dict", data := .dict #[] } := by rw [← e3]
  have below : ∀ b ∈ fp, b < s2.heap.objs.size := by
    intro b hb
    obtain ⟨o, e, _⟩ := T.obj _ _ t0 b hb
    exact Heap.lt_size e
  have away : ∀ b ∈ fp, FpOk X pins (upd Ha D (rdO X.prog X.w D [])) b ∧ b < s3.heap.objs.size := by
    intro b hb
    have lt := below b hb
    refine ⟨⟨?_, (fz b hb).2⟩, ?_⟩
    · rw [upd_ne (by rw [← eD]; exact Nat.ne_of_lt lt)]
      exact (fz b hb).1
    · rw [h3, Heap.size_push]
      exact Nat.lt_succ_of_lt lt
  have t3 : tn 0 s3.heap := T.keep _ _ _ t0 fun b _ o e => by
    rw [h3]
    exact Heap.get?_push_of_some _ e
  have I4 := block_start I3 ok nd away
  generalize eH : upd Ha D (rdO X.prog X.w D []) = Hb at I3 I4 w0 away
  have pg := hg s3 Hb s3.heap.objs.size (cellsFrom (s3.heap.objs.size + 1) scope.names (cloFrom X.env.cells scope.names [])) fp
  have pk := hk s3 Hb s3.heap.objs.size (cellsFrom (s3.heap.objs.size + 1) scope.names (cloFrom X.env.cells scope.names [])) fp
  generalize eE : compEnvC scope (cellsFrom (s3.heap.objs.size + 1) scope.names (cloFrom X.env.cells scope.names [])) s3.heap.objs.size X.env = be at I4 pg pk
  show codeAny _ _ (.compStart (.DictComp kx (.Constant (.bool true) c cp) [⟨tg, iter, [], 0⟩] scope pos) 0 (.ref it) (.ref D)
    (compEnvC scope (cellsFrom (s3.heap.objs.size + 1) scope.names (cloFrom X.env.cells scope.names [])) s3.heap.objs.size X.env))
    (compPost (model X.prog X.w) X.A X.xe use Qf (.ref D) s3.heap.objs.size) { s3 with heap := pushCells (s3.heap.push { cls := .type "dict", data := .dict #[] }) scope.names }
  rw [eE]
  have locs : be.locals = s3.heap.objs.size := by
    subst eE
    rfl
  have none0 : ∀ b ∈ fp, Hb b = none := fun b hb => (away b hb).1.1
  generalize e4 : ({ s3 with heap := pushCells (s3.heap.push { cls := .type "dict", data := .dict #[] }) scope.names } : Shared) = s4 at I4 ⊢
  have t4 : tn 0 s4.heap := T.keep _ _ _ t3 fun b _ o e => by
    rw [← e4]
    exact pushCells_keeps _ _ _ _ (Heap.get?_push_of_some _ e)
  have stat : ∀ {σ' : L2.St} {Hc : Hp} {s' : Shared}, Inv (X.blk s3 Hb scope be fp) [] σ' Hc s' → (∀ b ∈ fp, Hc b = none) → ∀ b ∈ fp, FpOk (X.blk s3 Hb scope be fp) [] Hc b := by
    intro σ' Hc s' J' hn b hb
    exact ⟨hn b hb, (J'.ok.exf b hb).1, J'.ok.exfs b hb, .inl hb, fun x c e => (J'.ok.exf b hb).2 x c e, fun p hp => absurd (show p ∈ ([] : List (Addr × Obj)) ++ [] from hp) (by simp)⟩
  have loop : codeAny (model X.prog X.w) X.A (.compLoop (.DictComp kx (.Constant (.bool true) c cp) [⟨tg, iter, [], 0⟩] scope pos) 0 (.ref it) (.ref D) be) (compPost (model X.prog X.w) X.A X.xe use Qf (.ref D) s3.heap.objs.size) s4 := by
    refine compLoop_anyD (fun n s' => ∃ i Hc, Inv (X.blk s3 Hb scope be fp) [] (wipe σ (own.map (·.2))) Hc s' ∧ tn i s'.heap ∧ (∀ b ∈ fp, Hc b = none) ∧ W i n Hc) ?_ m0 ⟨0, Hb, I4, t4, none0, w0⟩
    rintro n s5 ⟨i, Hc, I5, t5, n5, w5⟩
    rcases turn i n Hc w5 with ⟨stop, fin⟩ | ⟨go, Nx, less, step⟩
    · refine thnF (T.done (X.blk s3 Hb scope be fp) rfl rfl rfl calm i [] s5 _ Hc (fun _ _ => False) I5 (stat I5 n5) t5 stop) ?_
      rintro r s6 ⟨rfl, I6⟩
      have I7 : Inv X pins σ Hc s6 := I3.call' (ch := fp) I6.os I6.base I6.hok I6.bare fun b hb => ⟨(away b hb).1.2.2.2.1, (away b hb).1.2.1, (away b hb).1.2.2.2.2.1, (away b hb).1.2.2.2.2.2⟩
      have nC : Hc s3.heap.objs.size = none := by
        have z : Hc be.locals = none := I6.free
        rw [locs] at z
        exact z
      obtain ⟨m, hn, _⟩ := I6.loc
      have hn : s6.heap.Ns be.locals m := hn
      rw [locs] at hn
      exact last D s3.heap.objs.size s6 m Hc I7 fin hn (I3.fpOk (Nat.le_refl _) nC)
    · refine thnF (T.item (X.blk s3 Hb scope be fp) rfl rfl rfl calm i [] s5 _ Hc (fun _ _ => False) I5 (stat I5 n5) t5 go) ?_
      rintro r s6 ⟨u, rfl, h6⟩
      refine thnF h6 ?_
      rintro _ s7 ⟨x, Hx, I7, r7, y7, t7, n7⟩
      have I7' := I7.pinned (stat I7 n7) (T.obj _ _ t7)
      refine thnF (pg.run _ s7 _ Hx x u _ I7' r7 (step x Hx y7)) ?_
      rintro _ s8 ⟨σ8, H8, I8, hw8, q8⟩
      refine thnF (wpAny_tests_nil (Q := fun b s9 => b = true ∧ s9 = s8) ⟨rfl, rfl⟩) ?_
      rintro b s9 ⟨rfl, rfl⟩
      rw [if_pos rfl]
      refine thnF (pk.run _ s9 σ8 H8 _ I8 q8) ?_
      rintro z s10 ⟨y, H9, I9, ry, q, rr, L, rfl, hD9, kt, hq, hz, nx⟩
      cases ry
      have pb : PE (X.blk s3 Hb scope be fp) (.Constant (.bool true) c cp) (tC (.bl true)) := pe_bl
      refine thnF (pb.run _ s10 σ8 H9 (fun v H' => v = .bl true ∧ H' = H9) I9 ⟨rfl, rfl⟩) ?_
      rintro z2 s11 ⟨yv, H11, I11, rv, rfl, rfl⟩
      cases rv
      refine rd_dictSet (X := X.blk s3 Hb scope be fp) room I11 hD9 kt hq hz fun s12 I12 => ?_
      obtain ⟨m', hm, w'⟩ := less _ nx
      have pinned : ∀ b ∈ fp, ∀ o, s7.heap.get? b = some o → s12.heap.get? b = some o ∧ (upd H11 D (rdO X.prog X.w D (putR L rr q))) b = none := by
        intro b hb o e
        have z := I12.pin (b, o) (List.mem_append_right _ (List.mem_append_right _ (mem_pinsAt hb e)))
        exact ⟨z.1, z.2.1⟩
      have len : (wipe σ (own.map (·.2))).length = σ8.length := by rw [← hw8, wipe_length]
      refine ⟨m', hm, i + 1, _, (I12.unpinned (pins := [])).weak len (fun j v e => ?_), T.keep _ _ _ t7 fun b hb o e => (pinned b hb o e).1, fun b hb => ?_, w'⟩
      · rw [← hw8] at e
        exact (wipe_some e).1
      · obtain ⟨o, e, _⟩ := T.obj _ _ t7 b hb
        exact (pinned b hb o e).2
  exact codeAny_compStart_dict loop (T.self X.A 0 _ _ _ t4 loop)
/-- d = {rule: True for rule in rules} on one line, d a local -/
theorem ps_setDcR {i : Nat} {y : Str} {py : Pos} {kx tg iter : Expr} {c : Nat} {cp : Pos} {scope : Scope} {own : List (Str × Nat)} {pos spos : Pos} {wi : TI} {g : TG} {tk : TE} (room : X.A.units + 8 < cLine) (calm : X.calm = true) (nd : X.N.Nodup)
    (hy : X.N[i]? = some y) (hyl : X.env.scope.names.lookup y = some .local) (sw : swapsWith (.DictComp kx (.Constant (.bool true) c cp) [⟨tg, iter, [], 0⟩] scope pos) (some (.Name y py)) spos.line X.env = pure true)
    (hi : PI X tg iter wi) (ok : BlkOk X.N X.env.scope scope own)
    (hg : ∀ (s : Shared) (H : Hp) (C : Addr) (cl : List (Str × Addr)) (fp : List Addr), PG (X.blk s H scope (compEnvC scope cl C X.env) fp) tg g)
    (hk : ∀ (s : Shared) (H : Hp) (C : Addr) (cl : List (Str × Addr)) (fp : List Addr), PE (X.blk s H scope (compEnvC scope cl C X.env) fp) kx tk)
    (plain : ∀ x, foldedSetIterable iter X.env x = pure x := by intro _; rfl) :
    PS X (.Assign [.Name y py] (.DictComp kx (.Constant (.bool true) c cp) [⟨tg, iter, [], 0⟩] scope pos) spos) (tAsg (tDcR X.prog X.w wi g tk (own.map (·.2))) (gName i)) := by
  refine ⟨fun pins s σ H D I h => ?_⟩
  rw [exec_Assign_Name_used _ _ _ _ sw]
  refine wpAny_bind (wpAny_standAt (wpAny_bind ?_))
  show wpAny _ X.A (do
    let _ ← comprehension (.DictComp kx (.Constant (.bool true) c cp) [⟨tg, iter, [], 0⟩] scope pos) scope X.env (firstIterPos [⟨tg, iter, [], 0⟩] pos) newDict false (eval iter X.env) (some (assign (.Name y py) X.env))) _ _ s
  have h' : tDcR X.prog X.w wi g tk (own.map (·.2)) σ H (fun x H1 => gName i x σ H1 D.nx) := h
  refine wpAny_bind (thn (dcR_core (Qf := fun _ s' => SP X pins D .next s') room calm nd I hi ok hg hk plain h' ?_) fun _ s' hq => wpAny_pure (wpAny_pure hq))
  intro L C s' m H' I' q hn fo
  show wpAny _ _ (assign (.Name y py) X.env (.ref L)) _ _ _
  obtain ⟨f0, f1, f2, f3, f4, f5⟩ := fo
  refine wpAny_assign_Name (store_ok2 (v := V.ref L) I' nd hy (.inl hyl) rfl (fun s2 I2 => ?_) (.inr hyl))
  rintro ⟨a, sb, ha⟩
  have apart : C ≠ a := by
    rcases ha with z | z
    · rw [z]
      exact f1
    · exact fun e => f4 y a z e.symm
  refine ⟨m, hn.sameBut sb apart, fun h3 sb3 => ⟨_, H', ?_, q⟩⟩
  exact I2.turned (t' := s2.toks) (fun b o hb e => (sb3.2 b hb).trans e) f0 f1 f3 f4 f5
theorem sw_dict {kx vx : Expr} {gs : List Comprehension} {scope : Scope} {pos py : Pos} {y : Str} {l : Nat} {env : Env} (hk : env.scope.kind = .function) (hy : env.scope.names.lookup y = some .local) (hl : (py.line == pos.line) = true)
    (ha : (scope.names.any fun (n, k) => n == y && (k == .local || k == .cell)) = false) : swapsWith (.DictComp kx vx gs scope pos) (some (.Name y py)) l env = pure true := by
  have ky : env.kindOf y = some .local := hy
  have kb : env.blockKind = .function := by
    unfold Env.blockKind
    rw [hk]
    rfl
  unfold swapsWith
  simp only [kb, ky, ha, Expr.pos, hl]
  rfl
/-- over a list of rules that stays: in the end D holds each of them once, in the order of their first coming -/
def putAll (rs : List (Rule × Addr)) (L : List (Rule × Addr)) : List (Rule × Addr) := rs.foldl (fun L p => putR L p.1 p.2) L
theorem dcR_list {P : Program} {w : World} {K : PySem.W.Frag} {a : Addr} {rs : List (Rule × Addr)} {i : Nat} {σ : L2.St} {vs : List Nat} {H1 : Hp} {D : Addr} {Qd : Hp → Prop} (hD : H1 D = none) (hl : SqL K H1 a (rs.map fun p => V.ref p.2)) (hk : KeyTups H1 rs) (hz : rs.length < sizeLine)
    (hi : i < (wipe σ vs).length) (hv : ∀ v, wipe ((wipe σ vs).set i (some v)) vs = wipe σ vs) (hd : Qd (upd H1 D (rdO P w D (putAll rs [])))) :
    ∃ W : Nat → Nat → Hp → Prop, (∃ m, W 0 m (upd H1 D (rdO P w D []))) ∧ ∀ j m Hj, W j m Hj →
      ((Itl K a).stop j Hj ∧ Qd Hj) ∨ ((Itl K a).go j Hj ∧ ∃ Nx : Hp → Prop, (∀ Hn, Nx Hn → ∃ m', m' < m ∧ W (j + 1) m' Hn) ∧
        ∀ x Hx, (Itl K a).yld j Hj x Hx → gName i x (wipe σ vs) Hx fun σ2 H2 => wipe σ2 vs = wipe σ vs ∧
          tVar i σ2 H2 fun y H3 => ∃ (q : Addr) (r : Rule) (L : List (Rule × Addr)), y = .ref q ∧ H3 D = some (rdO P w D L) ∧ KeyTups H3 L ∧ H3 q = some (.tup (ruleV r)) ∧ L.length < sizeLine ∧ Nx (upd H3 D (rdO P w D (putR L r q)))) := by
  have keepT : ∀ L : List (Rule × Addr), ∀ b xs, H1 b = some (.tup xs) → upd H1 D (rdO P w D L) b = some (.tup xs) := fun L b xs e => by
    rw [upd_ne (ne_of_none e hD)]
    exact e
  have keepL : ∀ L : List (Rule × Addr), SqL K (upd H1 D (rdO P w D L)) a (rs.map fun p => V.ref p.2) := fun L => by
    have sm : Same H1 (upd H1 D (rdO P w D L)) := same_new hD
    exact sm.seq hl
  have memP : ∀ (rs' L : List (Rule × Addr)), (∀ p ∈ rs', H1 p.2 = some (.tup (ruleV p.1))) → KeyTups H1 L → KeyTups H1 (putAll rs' L) := by
    intro rs'
    induction rs' with
    | nil => exact fun L _ k => k
    | cons p r ih => exact fun L h k => ih _ (fun z hz => h z (List.mem_cons_of_mem _ hz)) (k.put (h p (List.mem_cons_self ..)))
  have lenP : ∀ (rs' L : List (Rule × Addr)), (putAll rs' L).length ≤ L.length + rs'.length := by
    intro rs'
    induction rs' with
    | nil => exact fun L => Nat.le_refl _
    | cons p r ih =>
      intro L
      have h1 := ih (putR L p.1 p.2)
      have h2 := @putR_len L p.1 p.2
      show (putAll r (putR L p.1 p.2)).length ≤ L.length + (r.length + 1)
      omega
  refine ⟨fun j m Hj => m = rs.length - j ∧ j ≤ rs.length ∧ Hj = upd H1 D (rdO P w D (putAll (rs.take j) [])), ⟨rs.length, by simp, Nat.zero_le _, rfl⟩, ?_⟩
  rintro j m Hj ⟨rfl, hj, rfl⟩
  by_cases lt : j < rs.length
  · refine .inr ⟨⟨_, .ref rs[j].2, keepL _, by rw [List.getElem?_map, List.getElem?_eq_getElem lt]; rfl⟩, fun Hn => Hn = upd H1 D (rdO P w D (putAll (rs.take (j + 1)) [])), fun Hn e => ⟨rs.length - (j + 1), by omega, rfl, lt, e⟩, ?_⟩
    rintro x Hx ⟨rfl, y⟩
    have ex := y _ (keepL _)
    rw [List.getElem?_map, List.getElem?_eq_getElem lt] at ex
    have ex' : V.ref rs[j].2 = x := Option.some.inj ex
    subst ex'
    refine ⟨hv _, .ref rs[j].2, ?_, rs[j].2, rs[j].1, putAll (rs.take j) [], rfl, upd_same, ?_, ?_, ?_, ?_⟩
    · rw [List.getElem?_set_self hi]
    · exact (memP _ _ (fun p hp => hk p (List.mem_of_mem_take hp)) (fun p hp => absurd hp (List.not_mem_nil))).same (keepT _)
    · exact keepT _ _ _ (hk _ (List.getElem_mem lt))
    · have h1 := lenP (rs.take j) []
      have h2 : (rs.take j).length ≤ rs.length := by
        rw [List.length_take]
        omega
      simp only [List.length_nil] at h1
      omega
    · have e1 : rs.take (j + 1) = rs.take j ++ [rs[j]] := by
        rw [List.take_add_one, List.getElem?_eq_getElem lt]
        rfl
      rw [upd_upd, e1]
      unfold putAll
      rw [List.foldl_append]
      rfl
  · have e : j = rs.length := by omega
    subst e
    refine .inl ⟨⟨_, keepL _, by rw [List.length_map]; exact Nat.le_refl _⟩, ?_⟩
    rw [List.take_length]
    exact hd
end
end Wnd

/-! Windowsteps: sorted(rules, key=f), f a def of the text; sorted of pairs of a key and a rule. -/
namespace Wnd
open PySem PySem.Spec PyProof.Rows L2

def endS (e : Option Str) : Str := e.getD ⟨#[]⟩
/-- the key that orders rules: None ahead of all names -/
def rankV (r : Rule) : List V := [.str (endS r.low), .str (endS r.high), .int r.gap]
def rankD (r : Rule) : PyData := .tuple [.str (endS r.low), .str (endS r.high), .int r.gap]
/-- its texts are no longer than a line of the store -/
def Short (r : Rule) : Prop := (∀ t : Str, r.low = some t → t.length ≤ sizeLine) ∧ ∀ t : Str, r.high = some t → t.length ≤ sizeLine
def spRank : Sp := fun vs H Q _ => ∃ (q : Addr) (r : Rule), vs = [.ref q] ∧ H q = some (.tup (ruleV r)) ∧ Short r ∧ ∀ t, H t = none → Q (.ref t) (upd H t (.tup (rankV r)))
/-- the rules in ascending order (each with its address) -/
def inOrder (L : List (Rule × Addr)) : List (Rule × Addr) := L.mergeSort (W.dataLe false fun p => rankD p.1)

section
variable {P : Program} {w : World} {H : Hp} {h : Heap}
theorem rank_reads {t : Addr} {r : Rule} (ok : HOk P w H h) (e : H t = some (.tup (rankV r))) : Reads h (.ref t) (rankD r) [] := by
  obtain ⟨_, its, rel, o, h1, h2, n, h3⟩ := (show ObjOk P w H h t (.tup (rankV r)) from ok t _ e)
  cases rel with
  | cons r1 t1 =>
    cases t1 with
    | cons r2 t2 =>
      cases t2 with
      | cons r3 t3 =>
        cases t3
        obtain ⟨a, rfl⟩ := r1
        obtain ⟨b, rfl⟩ := r2
        obtain ⟨c, rfl⟩ := r3
        refine Reads.tuple (as := []) h1 h2 h3 ?_
        rw [List.toList_toArray]
        exact ReadsAll.cons (.str _ _) (ReadsAll.cons (.str _ _) (ReadsAll.cons (.int _ _) .nil))
end
theorem rank_alike (L : List (Rule × Addr)) : W.AllAlike (L.map fun p => rankD p.1) := W.AllAlike.of fun _ _ => by simp [W.alike, W.alikeAll, rankD]
theorem rank_sortable (L : List (Rule × Addr)) : W.Sortable (L.map fun p => rankD p.1) := W.Sortable.tuples fun _ => ⟨_, _, rfl⟩
theorem rank_depth (r : Rule) : (rankD r).depth = 1 := by simp [rankD, PyData.depth, PyData.depthAll]

section
variable {X : Cx}
/-- sorted(d, key=f): d a dict of rules -/
def rSortRank (P : Program) (w : World) (f : Addr) : List V → List V → Hp → VK → Prop := fun vs zs H Q => ∃ (d : Addr) (L : List (Rule × Addr)), vs = [.ref d] ∧ zs = [.ref f] ∧ H d = some (rdO P w d L) ∧ KeyTups H L ∧ (∀ p ∈ L, Short p.1) ∧ L.length < 1000000 ∧
  ∀ p H', Same H H' → H p = none → H' p = some (.lst ((inOrder L).map fun x => V.ref x.2)) → Q (.ref p) H'
/-- what stands while the keys are asked for -/
structure Asked (X : Cx) (pins : List (Addr × Obj)) (σ : L2.St) (H : Hp) (L : List (Rule × Addr)) (a kS : Addr) (e1 j : Nat) (s : Shared) : Prop where
  ex : ∃ (Hc : Hp) (kA : Array Value) (e : Nat), Inv X pins σ Hc s ∧ Same H Hc ∧ FpOk X pins Hc a ∧ FpOk X pins Hc kS ∧ s.heap.get? a = some (seqObj "list" #[] e1) ∧ s.heap.get? kS = some (seqObj "list" kA e) ∧
    W.EachIs (fun v (x : Rule × Addr) => ∃ t, v = Value.ref t ∧ Hc t = some (.tup (rankV x.1))) kA.toList (L.take j)

theorem ask_key {pins : List (Addr × Obj)} {σ : L2.St} {H : Hp} {s : Shared} {A : Around} {f a kS : Addr} {fd : FuncData} {k e1 j : Nat} {L : List (Rule × Addr)} {E : Value → Shared → Prop} (F : FnOk X.prog X.w X.K X.mg X.base CX0 k f fd ["rule"] spRank) (hb : Binds X.K fd ["rule"] []) (hr : Room k A) (fr : A.frames = X.A.frames)
    (kt : KeyTups H L) (sh : ∀ p ∈ L, Short p.1) (ne : kS ≠ a) (lt : j < L.length) (st : Asked X pins σ H L a kS e1 j s) :
    wpAny (model X.prog X.w) A (call (.ref f) [.ref L[j].2]) (fun u s' => ∃ (Hc : Hp) (kA : Array Value) (e : Nat) (t : Addr), u = .ref t ∧ Inv X pins σ Hc s' ∧ Same H Hc ∧ FpOk X pins Hc a ∧ FpOk X pins Hc kS ∧ s'.heap.get? a = some (seqObj "list" #[] e1) ∧
      s'.heap.get? kS = some (seqObj "list" kA e) ∧ Hc t = some (.tup (rankV L[j].1)) ∧ W.EachIs (fun v (x : Rule × Addr) => ∃ t, v = Value.ref t ∧ Hc t = some (.tup (rankV x.1))) kA.toList (L.take j)) E s := by
  obtain ⟨Hc, kA, e, I, sm, fa, fk, ha, hk, ks⟩ := st.ex
  have hq : Hc L[j].2 = some (.tup (ruleV L[j].1)) := sm _ _ (kt _ (List.getElem_mem lt))
  have both : ∀ b ∈ [a, kS], FpOk X pins Hc b := by
    intro b hb
    rcases List.mem_cons.mp hb with z | hb
    · rw [z]
      exact fa
    · rw [List.mem_singleton.mp hb]
      exact fk
  have stand : ∀ b ∈ [a, kS], ∃ o, s.heap.get? b = some o ∧ ∀ v, o.data ≠ .cell v := by
    intro b hb
    rcases List.mem_cons.mp hb with z | hb
    · rw [z]
      exact ⟨_, ha, fun v z => nomatch z⟩
    · rw [List.mem_singleton.mp hb]
      exact ⟨_, hk, fun v z => nomatch z⟩
  have Ip := I.pinned both stand
  have env : Env0 X.prog X.w X.K X.mg X.base A X.stack s Hc := by
    have z := I.env0
    exact ⟨fr.trans z.frames, z.mod, z.bs, z.bsz, z.funs, z.frf, z.hok, z.bare⟩
  refine wpAny_call (codeAny_mono (F.run A X.stack s Hc ⟨[.ref L[j].2], []⟩ [.ref L[j].2] [.ref L[j].2] (fun v H' => ∃ t, v = .ref t ∧ Hc t = none ∧ H' = upd Hc t (.tup (rankV L[j].1))) (fun _ _ _ => False) hr env
    (by have z := hb s [.ref L[j].2] I.kIn rfl; rwa [List.append_nil] at z) (.cons rfl .nil) ⟨_, _, rfl, hq, sh _ (List.getElem_mem lt), fun t ht => ⟨t, rfl, ht, rfl⟩⟩) fun r s' hr' => ?_)
  cases r with
  | error e => exact hr'.elim
  | ok fl =>
    cases fl with
    | next => exact False.elim hr'
    | brk => exact False.elim hr'
    | cont => exact False.elim hr'
    | ret u =>
      obtain ⟨v, H', I', rv, t, rfl, ht, rfl⟩ := Ip.after hr'
      cases rv
      have pa := I'.pin (a, seqObj "list" #[] e1) (List.mem_append_right _ (List.mem_append_right _ (mem_pinsAt (by simp) ha)))
      have pk := I'.pin (kS, seqObj "list" kA e) (List.mem_append_right _ (List.mem_append_right _ (mem_pinsAt (by simp) hk)))
      have s2 : Same Hc (upd Hc t (.tup (rankV L[j].1))) := same_new ht
      refine ⟨_, kA, e, t, rfl, I'.unpinned, sm.trans s2, ⟨pa.2.1, fa.2⟩, ⟨pk.2.1, fk.2⟩, pa.1, pk.1, upd_same, ks.mono fun v x => ?_⟩
      rintro ⟨t', rfl, ht'⟩
      exact ⟨t', rfl, s2 _ _ ht'⟩
theorem each_refs : ∀ L : List (Rule × Addr), W.EachIs (fun v (x : Rule × Addr) => v = Value.ref x.2) (L.map fun x => Value.ref x.2) L
  | [] => .nil
  | _ :: r => .cons rfl (each_refs r)
theorem each_refs_eq : ∀ {vs : List Value} {L : List (Rule × Addr)}, W.EachIs (fun v (x : Rule × Addr) => v = Value.ref x.2) vs L → vs = L.map fun x => Value.ref x.2
  | _, _, .nil => rfl
  | _, _, .cons h t => by
    rw [List.map_cons, h, each_refs_eq t]
theorem vals_addrs : ∀ L : List (Rule × Addr), Vals (L.map fun x => V.ref x.2) (L.map fun x => Value.ref x.2)
  | [] => .nil
  | _ :: r => .cons rfl (vals_addrs r)
theorem ask_keys {pins : List (Addr × Obj)} {σ : L2.St} {H : Hp} {s : Shared} {A : Around} {f a kS : Addr} {fd : FuncData} {k e1 : Nat} {L : List (Rule × Addr)} {E : Value → Shared → Prop} {R : PySem.Fin → Shared → Prop}
    (F : FnOk X.prog X.w X.K X.mg X.base CX0 k f fd ["rule"] spRank) (hb : Binds X.K fd ["rule"] []) (hr : Room k A) (fr : A.frames = X.A.frames)
    (kt : KeyTups H L) (sh : ∀ p ∈ L, Short p.1) (ne : kS ≠ a) (sz : L.length < 1000000) (st : Asked X pins σ H L a kS e1 0 s) (hu : A.units + 8 < cLine)
    (h : ∀ s' Hc (vs : List Value), Inv X pins σ Hc s' → Same H Hc → Hc a = none → vs.length = L.length → W.EachIs (fun v (x : Rule × Addr) => v = Value.ref x.2) vs (inOrder L) → (∃ c, s'.heap.get? a = some (seqObj "list" vs.toArray c)) → FpOk X pins Hc a → R (.done (.ret .none)) s') :
    wpAny (model X.prog X.w) A (ksk_rest a (.ref f) false (L.map fun x => Value.ref x.2).toArray e1 (.ref kS)) R E s := by
  unfold ksk_rest
  refine wpAny_bind (wpAny_rule ?_)
  rw [List.forIn_toArray]
  refine wpAny_bind (ksk_fold (fun j s' => Asked X pins σ H L a kS e1 j s') (L.map fun x => Value.ref x.2) 0 s st ?turn ?last)
  case turn =>
    intro j x s' hx st'
    rw [Nat.zero_add] at st' ⊢
    have lt : j < L.length := by
      have q := (List.getElem?_eq_some_iff.mp hx).1
      rwa [List.length_map] at q
    have ex : x = Value.ref L[j].2 := by
      rw [List.getElem?_map, List.getElem?_eq_getElem lt] at hx
      exact (Option.some.inj hx).symm
    subst ex
    refine wpAny_bind (wpAny_attempt (wpAny_mono (ask_key F hb hr fr kt sh ne lt st') ?_ fun _ _ z => z))
    rintro u s2 ⟨Hc, kA, e, t, rfl, I, sm, fa, fk, ha, hk, ht, ks⟩
    have len : kA.size ≤ 1000000 := by
      have q := ks.length
      rw [Array.length_toList, List.length_take] at q
      omega
    have sb := Heap.SameBut.update s2.heap kS (Obj.mapSeq (·.push (Value.ref t)))
    obtain ⟨c2, hc2⟩ : ∃ c2, (s2.heap.update kS (Obj.mapSeq (·.push (Value.ref t)))).get? kS = some (seqObj "list" (kA.push (Value.ref t)) c2) := ⟨_, get?_update_seq hk (·.push (Value.ref t))⟩
    refine wpAny_bind (listUpdate_at hk rfl ?_ (by rw [sizeLine_eq]; omega) (by rw [Array.size_push, sizeLine_eq]; omega))
    refine wpAny_pure ⟨rfl, ⟨Hc, kA.push (Value.ref t), c2, ?_, sm, fa, fk, (sb.2 a ne.symm).trans ha, hc2, ?_⟩⟩
    · obtain ⟨f0, f1, f2, f3, f4, f5⟩ := fk
      exact I.turned (t' := s2.toks) (fun b o hb e => (sb.2 b hb).trans e) f0 f1 f3 f4 f5
    · have e1 : L.take (j + 1) = L.take j ++ [L[j]] := by
        rw [List.take_add_one, List.getElem?_eq_getElem lt]
        rfl
      have e2 : (kA.push (Value.ref t)).toList = kA.toList ++ [Value.ref t] := by simp
      rw [e1, e2]
      exact W.each_snoc ⟨t, rfl, ht⟩ ks
  case last =>
    intro s' st'
    rw [Nat.zero_add, List.length_map] at st'
    obtain ⟨Hc, kA, e, I, sm, fa, fk, ha, hk, ks⟩ := st'.ex
    rw [List.take_length] at ks
    have sz1 : kA.size = L.length := by
      have q := ks.length
      rwa [Array.length_toList] at q
    refine wpAny_bind (listItems_at hk rfl ?_)
    obtain ⟨G, g1, g2⟩ := restrict s'.heap fun b => decide (b ≠ kS)
    have gk : G.get? kS = none := g2 kS (decide_eq_false fun z => z rfl)
    have kp : W.KeepsBut a G s'.heap := fun b o _ e => by
      by_cases hb : b = kS
      · rw [hb, gk] at e
        cases e
      · rw [← g1 b (decide_eq_true hb)]
        exact e
    have rd : W.EachIs (fun v (x : Rule × Addr) => ∃ as, Reads s'.heap v (rankD x.1) as) kA.toList L := ks.mono fun v x => by
      rintro ⟨t, rfl, ht⟩
      exact ⟨[], rank_reads I.hok ht⟩
    have rd' : W.EachIs (fun v d => ∃ as, Reads s'.heap v d as) kA.toList (L.map fun p => rankD p.1) := W.each_map (R := fun v d => ∃ as, Reads s'.heap v d as) (fun p : Rule × Addr => rankD p.1) rd
    have so : W.SortsAt X.prog X.w A s' (W.dataKind s'.heap (L.map fun p => rankD p.1)) kA.toList := W.SortsAt.data rd' (rank_alike L) (rank_sortable L) (by
      intro d hd
      obtain ⟨p, _, rfl⟩ := List.mem_map.mp hd
      rw [rank_depth]
      omega)
    have vl : (L.map fun x => Value.ref x.2).length = L.length := List.length_map ..
    refine W.keyH_end (vs := L.map fun x => Value.ref x.2) kp gk hk ha ne so (by rw [sz1, vl]) (by rw [vl, sizeLine_eq]; omega) fun h' tk c kh hn => ?_
    have ko : W.KeyedOut false (L.map fun p => rankD p.1) (L.map fun x => Value.ref x.2) (W.sortVals (W.dataKind s'.heap (L.map fun p => rankD p.1)) false kA.toList (L.map fun x => Value.ref x.2)) := ⟨_, _, rank_alike L, rfl, rd'⟩
    have e0 : W.EachIs (fun v (x : Rule × Addr) => v = Value.ref x.2) (L.map fun x => Value.ref x.2) L := each_refs L
    have I2 : Inv X pins σ Hc { s' with heap := h', toks := tk } := by
      refine I.turnedL (ch := [a, kS]) (fun b o hb e => ?_) (fun b hb => ?_)
      · have n1 : b ≠ a := fun z => hb (by rw [z]; simp)
        have n2 : b ≠ kS := fun z => hb (by rw [z]; simp)
        exact kh b o n1 ((g1 b (decide_eq_true n2)).trans e)
      · rcases List.mem_cons.mp hb with z | hb
        · rw [z]
          exact fa
        · rw [List.mem_singleton.mp hb]
          exact fk
    exact h _ Hc _ I2 sm fa.1 (by rw [ko.length (by rw [List.length_map, vl]), vl]) (W.keyedOut_each (fun p : Rule × Addr => rankD p.1) ko e0) ⟨c, hn⟩ fa
theorem inOrder_len (L : List (Rule × Addr)) : (inOrder L).length = L.length := List.length_mergeSort _
/-- sorted(d, key=f), d a dict of rules, f a def of the text that gives the ranks -/
theorem cr_sortedRank {f : Addr} {fd : FuncData} {k : Nat} (F : FnOk X.prog X.w X.K X.mg X.base CX0 k f fd ["rule"] spRank) (hb : Binds X.K fd ["rule"] []) (hr : Room (k + 2) X.A) (calm : X.calm = true) :
    CallRK X (.builtin "sorted") [Str.ofString "key"] (rSortRank X.prog X.w f) := by
  intro pins s σ H xs zs us ws Q I rx rz h
  obtain ⟨d, L, rfl, rfl, hd, kt, sh, sz, q⟩ := h
  obtain ⟨u, rfl, ru⟩ := rx.one
  cases ru
  obtain ⟨z, rfl, rw'⟩ := rz.one
  cases rw'
  have R := rd_at I.hok hd
  obtain ⟨o, es, ep, ho, hx, hdt, hes⟩ := R.raw
  have len : es.size = L.length := by
    rw [size_of_entries hes]
    unfold rdX
    rw [List.length_map]
  have r1 : Room (k + 1) X.A.in1 := hr.in1
  have r2 : Room k X.A.in1.in1 := r1.in1
  show wpAny _ _ (call (.builtin "sorted") [.ref d] [(Str.ofString "key", .ref f)]) _ _ s
  refine PyProof.Rows.call_function_entry_kw PyProof.Rows.kind_sorted PyProof.Rows.plain_sorted PyProof.Rows.entry_sorted (PyProof.Rows.ksk_s1 _ _) ?_
  unfold Builtin.«sorted»
  refine wpAny_bind (m := checkCount "sorted" 1 1 _) (wpAny_pure ?_)
  refine wpAny_bind (W.kdu_collect (A := X.A.in1) (KdlSrc.rawDict (es := es) (ep := ep) R.lo) (I.ok.hd calm) ⟨o, ho, hx, hdt⟩ (by rw [len, sizeLine_eq]; omega) ?_)
  intro h1 tk1 acc kp1 it
  have eacc : acc.toList = L.map fun x => Value.ref x.2 := by
    apply List.ext_getElem?
    intro j
    have l1 : acc.toList.length = L.length := by rw [Array.length_toList, it.1, len]
    by_cases hj : j < L.length
    · have hv : acc.toList[j]? = some acc.toList[j] := List.getElem?_eq_getElem (by omega)
      obtain ⟨hi, e⟩ := it.2 j acc.toList[j] (by rw [← Array.getElem?_toList]; exact hv)
      have q1 := entry_at hes j
      rw [Array.getElem?_eq_getElem hi] at q1
      unfold rdX at q1
      rw [List.getElem?_map, List.getElem?_eq_getElem hj] at q1
      have q2 : es[j] = entryOfKey (nestedKind X.prog X.w) (ruleK L[j].1, L[j].2, Value.bool true) := Option.some.inj q1
      rw [hv, e, q2, List.getElem?_map, List.getElem?_eq_getElem hj]
      rfl
    · rw [List.getElem?_eq_none (by omega), List.getElem?_eq_none (by rw [List.length_map]; omega)]
  rw [eacc]
  have vl : (L.map fun x => Value.ref x.2).length = L.length := List.length_map ..
  refine wpAny_bind (wpAny_newList ?_ (by rw [vl, sizeLine_eq]; omega))
  generalize ea : h1.objs.size = a
  have I1 : Inv X pins σ H { s with heap := h1, toks := tk1 } := I.kept kp1
  have ha0 : (h1.push (seqObj "list" (L.map fun x => Value.ref x.2).toArray 0)).get? a = some (seqObj "list" (L.map fun x => Value.ref x.2).toArray 0) := by
    rw [← ea]
    exact Heap.get?_push_size _ rfl
  refine wpAny_bind (wpAny_holding (PyProof.Rows.wpAny_call_entry_kw PyProof.Rows.slot_list_sort ⟨_, ha0, rfl⟩ PyProof.Rows.entry_list_sort ?_ (PyProof.Rows.ksk_l1 _ _)))
  rw [ksk_t1]
  unfold ksk_tree
  obtain ⟨e1, ha1⟩ : ∃ e1, ((h1.push (seqObj "list" (L.map fun x => Value.ref x.2).toArray 0)).update a (Obj.mapSeq fun _ => (#[] : Array Value))).get? a = some (seqObj "list" #[] e1) := ⟨_, get?_update_seq ha0 fun _ => #[]⟩
  have sb := Heap.SameBut.update (h1.push (seqObj "list" (L.map fun x => Value.ref x.2).toArray 0)) a (Obj.mapSeq fun _ => (#[] : Array Value))
  generalize eh2 : ((h1.push (seqObj "list" (L.map fun x => Value.ref x.2).toArray 0)).update a (Obj.mapSeq fun _ => (#[] : Array Value))) = h2 at ha1 sb
  have kp2 : ∀ b u, s.heap.get? b = some u → h2.get? b = some u := by
    intro b u e
    have lt := Heap.lt_size (kp1 b u e)
    exact (sb.2 b (Nat.ne_of_lt (by rw [← ea]; exact lt))).trans (Heap.get?_push_of_some _ (kp1 b u e))
  refine wpAny_bind (listItems_at ha0 rfl ?_)
  refine wpAny_bind (listUpdate_at ha0 rfl ?_ (by rw [List.size_toArray, vl, sizeLine_eq]; omega) (Nat.zero_le _))
  simp only [eh2]
  refine wpAny_bind (seqEpoch_at ha1 rfl ?_)
  refine wpAny_bind (wpAny_newTuple ?_ (by show (L.map fun x => Value.ref x.2).length ≤ _; rw [vl, sizeLine_eq]; omega))
  refine wpAny_bind (wpAny_newList ?_ (Nat.zero_le _))
  refine wpAny_holding ?_
  have kp4 : ∀ b u, s.heap.get? b = some u → ((h2.push (seqObj "tuple" (L.map fun x => Value.ref x.2).toArray 0)).push (seqObj "list" #[] 0)).get? b = some u := fun b u e =>
    Heap.get?_push_of_some _ (Heap.get?_push_of_some _ (kp2 b u e))
  have I4 : Inv X pins σ H { s with heap := (h2.push (seqObj "tuple" (L.map fun x => Value.ref x.2).toArray 0)).push (seqObj "list" #[] 0), toks := tk1 } := I.kept kp4
  have lt2 : a < h2.objs.size := Heap.lt_size ha1
  have s2 : (h2.push (seqObj "tuple" (L.map fun x => Value.ref x.2).toArray 0)).objs.size = h2.objs.size + 1 := size_push' ..
  have nH : H a = none := I1.hok.fresh (Nat.le_of_eq ea)
  have fa : FpOk X pins H a := I1.fpOk (Nat.le_of_eq ea) nH
  have I3 : Inv X pins σ H { s with heap := h2.push (seqObj "tuple" (L.map fun x => Value.ref x.2).toArray 0), toks := tk1 } := I.kept fun b u e => Heap.get?_push_of_some _ (kp2 b u e)
  have fk : FpOk X pins H (h2.push (seqObj "tuple" (L.map fun x => Value.ref x.2).toArray 0)).objs.size := I3.fpOk (Nat.le_refl _) (I3.hok.fresh (Nat.le_refl _))
  refine ask_keys (H := H) (L := L) (k := k) (σ := σ) (pins := pins) F hb r2 rfl kt sh (Nat.ne_of_gt (by rw [s2]; exact Nat.lt_succ_of_lt lt2)) sz ⟨⟨H, #[], 0, I4, Same.refl H, fa, fk, Heap.get?_push_of_some _ (Heap.get?_push_of_some _ ha1), Heap.get?_push_size _ rfl, .nil⟩⟩ (by have := r2.units; omega) ?_
  intro s' Hc vs Ic sm na vlen ev ⟨c, hac⟩ fac
  refine ⟨.none, rfl, wpAny_pure ⟨_, rfl, ?_⟩⟩
  have evs : vs = (inOrder L).map fun x => Value.ref x.2 := each_refs_eq ev
  subst evs
  -- the list is tracked from here on
  obtain ⟨G, g1, g2⟩ := restrict s'.heap fun b => decide (b ≠ a)
  have ga : G.get? a = none := g2 a (decide_eq_false fun z => z rfl)
  have gk : ∀ b u, G.get? b = some u → s'.heap.get? b = some u := by
    intro b u e
    by_cases hb : b = a
    · rw [hb, ga] at e
      cases e
    · rw [← g1 b (decide_eq_true hb)]
      exact e
  have Ig : Inv X pins σ Hc { s' with heap := G } := by
    obtain ⟨f0, f1, f2, f3, f4, f5⟩ := fac
    exact Ic.turned (t' := s'.toks) (fun b o hb e => (g1 b (decide_eq_true hb)).trans e) f0 f1 f3 f4 f5
  have Il : Inv X pins σ (upd Hc a (.lst ((inOrder L).map fun x => V.ref x.2))) s' := by
    refine Ig.laidN (h' := s'.heap) (t' := s'.toks) gk ga na ⟨?_, _, c, vals_addrs _, hac⟩
    rw [List.length_map, inOrder_len, sizeLine_eq]
    omega
  exact ⟨.ref a, _, Il, rfl, q a _ (fun b u e => by rw [upd_ne (fun z => by rw [z, nH] at e; cases e)]; exact sm b u e) nH upd_same⟩
end
end Wnd

/-! Windowsteps: sorted of pairs (rank, rule). -/
namespace Wnd
open PySem PySem.Spec PyProof.Rows L2

/-- a pair (rank, rule): its address, the rule, the rule's own address -/
abbrev Pr := Addr × Rule × Addr
def PairAt' (H : Hp) (x : Pr) : Prop := ∃ k, H x.1 = some (.tup [.ref k, .ref x.2.2]) ∧ H k = some (.tup (rankV x.2.1)) ∧ H x.2.2 = some (.tup (ruleV x.2.1))
theorem PairAt'.same {H H' : Hp} {x : Pr} (p : PairAt' H x) (s : ∀ b xs, H b = some (.tup xs) → H' b = some (.tup xs)) : PairAt' H' x := by
  obtain ⟨k, a, b, c⟩ := p
  exact ⟨k, s _ _ a, s _ _ b, s _ _ c⟩
/-- no name is the empty text -/
def Named (r : Rule) : Prop := r.low ≠ some ⟨#[]⟩ ∧ r.high ≠ some ⟨#[]⟩
theorem endS_inj : ∀ {a b : Option Str}, a ≠ some ⟨#[]⟩ → b ≠ some ⟨#[]⟩ → endS a = endS b → a = b
  | none, none, _, _, _ => rfl
  | none, some y, _, h, e => absurd (congrArg some (show y = ⟨#[]⟩ from e.symm)) h
  | some x, none, h, _, e => absurd (congrArg some (show x = ⟨#[]⟩ from e)) h
  | some x, some y, _, _, e => congrArg some e
theorem eqv_rank (a b : Rule) : PyData.eqv (rankD a) (rankD b) = (endS a.low == endS b.low && (endS a.high == endS b.high && (a.gap == b.gap && true))) := by
  simp [rankD, PyData.eqv, PyData.eqvAll]
theorem rank_inj {a b : Rule} (ha : Named a) (hb : Named b) (e : PyData.eqv (rankD a) (rankD b) = true) : a = b := by
  rw [eqv_rank] at e
  simp only [Bool.and_eq_true, beq_iff_eq] at e
  obtain ⟨e1, e2, e3, _⟩ := e
  cases a with | mk l1 h1 g1 =>
  cases b with | mk l2 h2 g2 =>
  have f1 : l1 = l2 := endS_inj ha.1 hb.1 e1
  have f2 : h1 = h2 := endS_inj ha.2 hb.2 e2
  have f3 : g1 = g2 := e3
  rw [f1, f2, f3]
theorem eqv_rank_self (a : Rule) : PyData.eqv (rankD a) (rankD a) = true := by
  rw [eqv_rank]
  simp
theorem alike_rank (a b : Rule) : W.alike (rankD a) (rankD b) = true := by simp [W.alike, W.alikeAll, rankD]

noncomputable def pairKind (L : List Pr) : PyProof.Rows.KeyKind where
  toKeyOrd := listOrd itemOrd
  keyOf v := open Classical in if q : ∃ x, x ∈ L ∧ v = Value.ref x.1 then some (W.keyToks (rankD q.choose.2.1)) else none
  dflt := ([] : List (Int ⊕ List Nat))
section
variable {P : Program} {w : World} {H : Hp} {h : Heap} {L : List Pr}
theorem pair_same {x y : Pr} (hx : PairAt' H x) (hy : PairAt' H y) (nx : Named x.2.1) (ny : Named y.2.1) (e : x.1 = y.1) : x.2.1 = y.2.1 := by
  obtain ⟨k, a, b, c⟩ := hx
  obtain ⟨k', a', b', c'⟩ := hy
  rw [e, a'] at a
  injection a with a
  injection a with a
  injection a with a1 a2
  injection a2 with a2 a3
  injection a2 with a2
  rw [← a2, c'] at c
  injection c with c
  injection c with c
  unfold ruleV at c
  injection c with c1 c
  injection c with c2 c
  injection c with c3 _
  injection c3 with c3
  cases hx : x.2.1 with | mk l1 h1 g1 =>
  cases hy : y.2.1 with | mk l2 h2 g2 =>
  rw [hx, hy] at c1 c2 c3
  have f1 : l2 = l1 := endV_inj c1
  have f2 : h2 = h1 := endV_inj c2
  have f3 : g2 = g1 := c3
  rw [f1, f2, f3]
theorem pairKind_some (hp : ∀ x ∈ L, PairAt' H x) (hn : ∀ x ∈ L, Named x.2.1) {x : Pr} (hx : x ∈ L) : (pairKind L).keyOf (Value.ref x.1) = some (W.keyToks (rankD x.2.1)) := by
  have q : ∃ y, y ∈ L ∧ Value.ref x.1 = Value.ref y.1 := ⟨x, hx, rfl⟩
  have e : (pairKind L).keyOf (Value.ref x.1) = some (W.keyToks (rankD q.choose.2.1)) := by
    show (open Classical in if q : ∃ y, y ∈ L ∧ Value.ref x.1 = Value.ref y.1 then some (W.keyToks (rankD q.choose.2.1)) else none) = _
    rw [dif_pos q]
  obtain ⟨h1, h2⟩ := q.choose_spec
  injection h2 with h2
  rw [e, pair_same (hp _ h1) (hp _ hx) (hn _ h1) (hn _ hx) h2.symm]
theorem pairKind_inv {v : Value} {k : List (Int ⊕ List Nat)} (e : (pairKind L).keyOf v = some k) : ∃ x, x ∈ L ∧ v = Value.ref x.1 ∧ k = W.keyToks (rankD x.2.1) := by
  by_cases q : ∃ y, y ∈ L ∧ v = Value.ref y.1
  · have e' : (pairKind L).keyOf v = some (W.keyToks (rankD q.choose.2.1)) := by
      show (open Classical in if q : ∃ y, y ∈ L ∧ v = Value.ref y.1 then some (W.keyToks (rankD q.choose.2.1)) else none) = _
      rw [dif_pos q]
    obtain ⟨h1, h2⟩ := q.choose_spec
    rw [e'] at e
    exact ⟨_, h1, h2, (Option.some.inj e).symm⟩
  · have e' : (pairKind L).keyOf v = none := by
      show (open Classical in if q : ∃ y, y ∈ L ∧ v = Value.ref y.1 then some (W.keyToks (rankD q.choose.2.1)) else none) = _
      rw [dif_neg q]
      rfl
    rw [e'] at e
    cases e
end
section
variable {X : Cx} {pins : List (Addr × Obj)} {σ : L2.St} {H : Hp} {s : Shared} {L : List Pr} {A : Around}
theorem tup_at {P : Program} {w : World} {h : Heap} {a : Addr} {xs : List V} (ok : HOk P w H h) (e : H a = some (.tup xs)) : ∃ o its n, h.get? a = some o ∧ o.cls = .type "tuple" ∧ o.data = .seq its n ∧ Vals xs its.toList := by
  obtain ⟨_, its, rel, o, h1, h2, n, h3⟩ := (show ObjOk P w H h a (.tup xs) from ok a _ e)
  exact ⟨o, its.toArray, n, h1, h2, h3, by rw [List.toList_toArray]; exact rel⟩
theorem pair_tups {P : Program} {w : World} {h : Heap} (ok : HOk P w H h) : ∀ {L : List Pr}, (∀ x ∈ L, PairAt' H x) → ∃ fs, W.KatTups h (L.map fun x => Value.ref x.1) fs ∧ fs.length = L.length ∧ ∀ f ∈ fs, ∃ k xs, f = Value.ref k ∧ H k = some (.tup xs)
  | [], _ => ⟨[], .nil, rfl, fun f hf => nomatch hf⟩
  | x :: r, hp => by
    obtain ⟨fs, h1, h2, h3⟩ := pair_tups ok (L := r) fun y hy => hp y (List.mem_cons_of_mem _ hy)
    obtain ⟨k, a, b, c⟩ := hp x (List.mem_cons_self ..)
    obtain ⟨o, its, n, q1, q2, q3, rel⟩ := tup_at ok a
    cases hl : its.toList with
    | nil =>
      rw [hl] at rel
      cases rel
    | cons u t =>
      rw [hl] at rel
      cases rel with
      | cons r1 t1 =>
        cases r1
        refine ⟨_ :: fs, .cons q1 q2 q3 (by rw [← Array.getElem?_toList, hl]; rfl) h1, by rw [List.length_cons, List.length_cons, h2], fun f hf => ?_⟩
        rcases List.mem_cons.mp hf with rfl | hf
        · exact ⟨k, _, rfl, b⟩
        · exact h3 f hf
theorem pair_lt (ok : HOk X.prog X.w H s.heap) (hu : A.units + 8 < cLine) {x y : Pr} (hx : PairAt' H x) (hy : PairAt' H y) (nx : Named x.2.1) (ny : Named y.2.1) {E : Value → Shared → Prop} {Q : Bool → Shared → Prop} {b : Bool} (hb : b = false)
    (q : Q (PyProof.Rows.lexLt itemOrd (W.keyToks (rankD x.2.1)) (W.keyToks (rankD y.2.1))) s) : wpAny (model X.prog X.w) A (keyLt' (tuples' b) (.ref x.1) (.ref y.1)) Q E s := by
  subst hb
  obtain ⟨k, a, c, d⟩ := hx
  obtain ⟨k', a', c', d'⟩ := hy
  obtain ⟨o, its, n, q1, q2, q3, rel⟩ := tup_at ok a
  obtain ⟨o', its', n', q1', q2', q3', rel'⟩ := tup_at ok a'
  have sz : its.size = 2 := by rw [← Array.length_toList, ← rel.length]; rfl
  have sz' : its'.size = 2 := by rw [← Array.length_toList, ← rel'.length]; rfl
  refine W.kat_lt q1 q3 q1' q3' ?_
  rw [sz, sz']
  have dx := rank_depth x.2.1
  have rk := rank_reads ok c
  have rk' := rank_reads ok c'
  cases hl : its.toList with
  | nil => rw [hl] at rel; cases rel
  | cons u t =>
    rw [hl] at rel
    cases rel with
    | cons r1 t1 =>
      cases r1
      cases t1 with
      | cons r2 t2 =>
        cases r2
        cases t2
        cases hl' : its'.toList with
        | nil => rw [hl'] at rel'; cases rel'
        | cons u' t' =>
          rw [hl'] at rel'
          cases rel' with
          | cons r1' t1' =>
            cases r1'
            cases t1' with
            | cons r2' t2' =>
              cases r2'
              cases t2'
              rw [List.zip_cons_cons]
              have room : A.units + min (rankD x.2.1).depth (rankD y.2.1).depth < cLine := by rw [rank_depth, rank_depth]; show A.units + 1 < _; omega
              refine W.kat_cons (W.eqAt_alike (rankD x.2.1) (rankD y.2.1) A s _ _ _ _ rk rk' (alike_rank _ _) room X.prog X.w _ _ ?_)
              cases he : PyData.eqv (rankD x.2.1) (rankD y.2.1) with
              | true =>
                have er := rank_inj nx ny he
                refine W.kat_yes ?_
                rw [List.zip_cons_cons]
                refine W.kat_cons ?_
                have k1 : NestedIs s.heap (ruleK x.2.1) (.ref x.2.2) := (rule_is ok d).1
                have k2 : NestedIs s.heap (ruleK y.2.1) (.ref y.2.2) := (rule_is ok d').1
                have ke := eqAt_key (ruleK x.2.1) (ruleK y.2.1) A s _ _ k1 k2 (by rw [ruleK_depth, ruleK_depth]; show A.units + 1 < _; omega) X.prog X.w
                  (fun _ _ => False) (W.KatGo X.prog X.w A false (decide (2 < 2)) Q (.ref x.2.2) (.ref y.2.2) ([].zip []) (0 + 1)) ?_
                · exact ke
                · rw [er, NestedKey.beq_self]
                  refine W.kat_yes ?_
                  refine W.kat_nil ?_
                  rw [er, PyProof.Rows.lex_irrefl] at q
                  exact q
              | false =>
                refine W.kat_no (W.oneLt_alike (fun hbi t => ?_) rk rk' (alike_rank _ _) (fun z => nomatch z) room q)
                rw [Bool.and_eq_true] at hbi
                exact absurd hbi.1 Bool.false_ne_true
/-- the pairs in ascending order -/
def pairsInOrder (L : List Pr) : List Pr := L.mergeSort (W.dataLe false fun x => rankD x.2.1)
theorem pairs_sort (ok : HOk X.prog X.w H s.heap) (hu : A.units + 8 < cLine) (hp : ∀ x ∈ L, PairAt' H x) (hn : ∀ x ∈ L, Named x.2.1) : W.SortsAt X.prog X.w A s (pairKind L) (L.map fun x => Value.ref x.1) := by
  refine ⟨fun v hv => ?_, tuples' (Value.type "tuple" != Value.type "tuple"), fun E x y a b Q ha hb q => ?_, fun h2 E Q q => ?_⟩
  · obtain ⟨x, hx, rfl⟩ := List.mem_map.mp hv
    exact ⟨_, pairKind_some hp hn hx⟩
  · obtain ⟨x', hx, rfl, rfl⟩ := pairKind_inv ha
    obtain ⟨y', hy, rfl, rfl⟩ := pairKind_inv hb
    exact pair_lt ok hu (hp _ hx) (hp _ hy) (hn _ hx) (hn _ hy) (by decide) q
  · obtain ⟨fs, t1, t2, t3⟩ := pair_tups ok hp
    rw [List.length_map] at h2
    refine W.kat_kind (T := .type "tuple") t1 (by omega) (fun f hf => ?_) (beq_self_eq_true _) q
    obtain ⟨k, xs, rfl, e⟩ := t3 f hf
    obtain ⟨o, its, n, q1, q2, _⟩ := tup_at ok e
    show W.Looks _ _ (typeOf (Value.ref k)) (Value.type "tuple")
    exact q2 ▸ (W.Looks.ld q1).andThen .now
def rSortPairs (K : PySem.W.Frag) : List V → Hp → VK → Prop := fun vs H Q => ∃ (a : Addr) (L : List Pr), vs = [.ref a] ∧ SqL K H a (L.map fun x => V.ref x.1) ∧ (∀ x ∈ L, PairAt' H x) ∧ (∀ x ∈ L, Named x.2.1) ∧ L.length < 1000000 ∧
  ∀ p, H p = none → Q (.ref p) (upd H p (.lst ((pairsInOrder L).map fun x => V.ref x.1)))
theorem pairs_refs : ∀ L : List Pr, Vals (L.map fun x => V.ref x.1) (L.map fun x => Value.ref x.1)
  | [] => .nil
  | _ :: r => .cons rfl (pairs_refs r)
theorem pairs_refs_eq : ∀ {L : List Pr} {us : List Value}, Vals (L.map fun x => V.ref x.1) us → us = L.map fun x => Value.ref x.1
  | [], _, .nil => rfl
  | x :: r, _, .cons h t => by
    cases h
    rw [List.map_cons, pairs_refs_eq t]
theorem each_prs : ∀ L : List Pr, W.EachIs (fun v (x : Pr) => v = Value.ref x.1) (L.map fun x => Value.ref x.1) L
  | [] => .nil
  | _ :: r => .cons rfl (each_prs r)
theorem each_prs_eq : ∀ {vs : List Value} {L : List Pr}, W.EachIs (fun v (x : Pr) => v = Value.ref x.1) vs L → vs = L.map fun x => Value.ref x.1
  | _, _, .nil => rfl
  | _, _, .cons h t => by
    rw [List.map_cons, h, each_prs_eq t]
theorem each_keys' {L0 : List Pr} (hp : ∀ x ∈ L0, PairAt' H x) (hn : ∀ x ∈ L0, Named x.2.1) : ∀ {L : List Pr}, (∀ x ∈ L, x ∈ L0) → W.EachIs (fun v (x : Pr) => (pairKind L0).keyOf v = some (W.keyToks (rankD x.2.1))) (L.map fun x => Value.ref x.1) L
  | [], _ => .nil
  | x :: r, h => .cons (pairKind_some hp hn (h x (List.mem_cons_self ..))) (each_keys' hp hn fun y hy => h y (List.mem_cons_of_mem _ hy))
/-- sorted(ps), ps pairs of a rank and a rule -/
theorem cr_sortedPairs {k : Nat} (hr : Room k X.A) : CallR X (.builtin "sorted") (rSortPairs X.K) := by
  intro pins s σ H xs us Q I rx h
  obtain ⟨a, L, rfl, hs, hp, hn, sz, q⟩ := h
  obtain ⟨u, rfl, ru⟩ := rx.one
  cases ru
  obtain ⟨its, rel, pl, hz⟩ := I.list hs
  have hl := pl.isList
  have ei := pairs_refs_eq rel
  subst ei
  have vl : (L.map fun x => Value.ref x.1).length = L.length := List.length_map ..
  have big : ∀ b u, s.heap.get? b = some u → (W.sortingHeap (W.copyHeap s.heap (L.map fun x => Value.ref x.1)) (s.heap.objs.size + 1) (L.map fun x => Value.ref x.1)).get? b = some u := fun b u e => W.sorting_copy_old e
  have ok2 : HOk X.prog X.w H (W.sortingHeap (W.copyHeap s.heap (L.map fun x => Value.ref x.1)) (s.heap.objs.size + 1) (L.map fun x => Value.ref x.1)) := I.hok.kept big
  refine W.sorted_vals hl (pairs_sort (s := { s with heap := _ }) ok2 (by have := hr.un; show X.A.units + 1 + 1 + 8 < _; omega) hp hn) (by rw [vl, sizeLine_eq]; omega) ?_
  have e2 : W.EachIs (fun v (x : Pr) => v = Value.ref x.1) (W.sortVals (pairKind L) false (L.map fun x => Value.ref x.1) (L.map fun x => Value.ref x.1)) (pairsInOrder L) :=
    W.sortVals_each (κ := pairKind L) (fun x : Pr => W.keyToks (rankD x.2.1)) (each_prs L) (each_keys' hp hn fun y hy => hy)
  have e3 := each_prs_eq e2
  rw [e3]
  obtain ⟨ep, he⟩ := PyProof.Rows.sortedAll_at s.heap (L.map fun x => Value.ref x.1) ((pairsInOrder L).map fun x => Value.ref x.1).toArray
  have nH : H (s.heap.objs.size + 1) = none := I.hok.fresh (Nat.le_succ _)
  refine ⟨.ref _, upd H (s.heap.objs.size + 1) (.lst ((pairsInOrder L).map fun x => V.ref x.1)), I.laid (t' := s.toks) (fun _ _ => PyProof.Rows.sortedAll_old) (Nat.le_succ _) ⟨?_, _, ep, pairs_refs _, he⟩, rfl, q _ nH⟩
  have l1 : (pairsInOrder L).length = L.length := List.length_mergeSort _
  rw [List.length_map, l1, sizeLine_eq]
  omega
end
end Wnd

/-! Windowsteps: dict([(rule, True) for ..]); walks over a dict of rules. -/
namespace Wnd
open PySem PySem.Spec PyProof.Rows L2
theorem putAll_nodup : ∀ (rs L : List (Rule × Addr)), (L.map (·.1)).Nodup → ((putAll rs L).map (·.1)).Nodup
  | [], _, h => h
  | _ :: r, _, h => putAll_nodup r _ (putR_nodup h)
theorem putAll_len : ∀ (rs L : List (Rule × Addr)), (putAll rs L).length ≤ L.length + rs.length
  | [], L => Nat.le_refl _
  | p :: r, L => by
    have h1 := putAll_len r (putR L p.1 p.2)
    have h2 := @putR_len L p.1 p.2
    show (putAll r (putR L p.1 p.2)).length ≤ L.length + (r.length + 1)
    omega
theorem putAll_tups {H : Hp} : ∀ (rs L : List (Rule × Addr)), KeyTups H rs → KeyTups H L → KeyTups H (putAll rs L)
  | [], _, _, h => h
  | p :: r, _, k, h => putAll_tups r _ (fun z hz => k z (List.mem_cons_of_mem _ hz)) (h.put (k p (List.mem_cons_self ..)))
theorem storedAll_rdX : ∀ (rs L : List (Rule × Addr)), storedAllH (rdX L) (rdX rs) = rdX (putAll rs L)
  | [], L => rfl
  | p :: r, L => by
    show storedAllH (storedH (rdX L) (ruleK p.1) p.2 (Value.bool true)) (rdX r) = rdX (putAll r (putR L p.1 p.2))
    rw [storedH_rdX, storedAll_rdX r]
/-- a pair (rule, True): its address, the rule, the rule's own address -/
def TrueAt (H : Hp) (x : Pr) : Prop := H x.1 = some (.tup [.ref x.2.2, .bl true]) ∧ H x.2.2 = some (.tup (ruleV x.2.1))
def rDictT (P : Program) (w : World) (K : PySem.W.Frag) : List V → Hp → VK → Prop := fun vs H Q => ∃ (a : Addr) (L : List Pr), vs = [.ref a] ∧ SqL K H a (L.map fun x => V.ref x.1) ∧ (∀ x ∈ L, TrueAt H x) ∧ L.length < 1000000 ∧
  ∀ p, H p = none → Q (.ref p) (upd H p (rdO P w p (putAll (L.map (·.2)) [])))
section
variable {X : Cx}
theorem cr_dictT {k : Nat} (hr : Room k X.A) (calm : X.calm = true) : CallR X (.type "dict") (rDictT X.prog X.w X.K) := by
  intro pins s σ H xs us Q I rx h
  obtain ⟨a, L, rfl, hs, hp, sz, q⟩ := h
  obtain ⟨u, rfl, ru⟩ := rx.one
  cases ru
  obtain ⟨its, rel, pl, hz⟩ := I.list hs
  have ei := pairs_refs_eq rel
  subst ei
  have kt : KeyTups H (L.map (·.2)) := by
    intro p hp'
    obtain ⟨x, hx, rfl⟩ := List.mem_map.mp hp'
    exact (hp x hx).2
  have ok : PlainSeq "list" s.heap a (L.map fun x => Value.ref x.1).toArray ∧ PairItems s.heap (L.map fun x => Value.ref x.1).toArray (fun j => (L.map (·.1)).getD j 0) (L.map fun x => (Value.ref x.2.2, Value.bool true)) := by
    refine ⟨?_, by simp, fun j k v hj => ?_⟩
    · exact pl
    · rw [List.getElem?_map] at hj
      cases hx : L[j]? with
      | none =>
        rw [hx] at hj
        cases hj
      | some x =>
        rw [hx] at hj
        have e := Option.some.inj hj
        have e1 : Value.ref x.2.2 = k := congrArg Prod.fst e
        have e2 : Value.bool true = v := congrArg Prod.snd e
        subst e1 e2
        have g : (L.map (·.1)).getD j 0 = x.1 := by
          rw [List.getD_eq_getElem?_getD, List.getElem?_map, hx]
          rfl
        refine ⟨?_, .inl ?_⟩
        · show (L.map fun x => Value.ref x.1).toArray[j]? = _
          rw [List.getElem?_toArray, List.getElem?_map, hx]
          exact congrArg (fun z => some (Value.ref z)) g.symm
        · show s.heap.IsTuple ((L.map (·.1)).getD j 0) _
          rw [g]
          obtain ⟨o, its, n, q1, q2, q3, rel'⟩ := tup_at I.hok (hp x (List.mem_of_getElem? hx)).1
          have ea : its = #[.ref x.2.2, .bool true] := by
            apply Array.toList_inj.mp
            cases hl : its.toList with
            | nil => rw [hl] at rel'; cases rel'
            | cons u t =>
              rw [hl] at rel'
              cases rel' with
              | cons r1 t1 =>
                cases r1
                cases t1 with
                | cons r2 t2 =>
                  cases r2
                  cases t2
                  rfl
          subst ea
          exact ⟨o, q1, q2, n, q3⟩
  have P := PairArg.list (prog := X.prog) (w := X.w) a (L.map fun x => Value.ref x.1).toArray (fun j => (L.map (·.1)).getD j 0) (L.map fun x => (Value.ref x.2.2, Value.bool true))
  refine call_dict_pairsH (knd := nestedKind X.prog X.w) (ps := rdX (L.map (·.2))) P (I.ok.hd calm) (by have := hr.un; show X.A.units + 1 + 1 + 8 < _; omega) ok ?_ ?_ ?_ ?_
  · refine ⟨by unfold rdX; rw [List.length_map, List.length_map, List.length_map], fun i key v hr' => ?_⟩
    have hr2 : (L.map fun x => (Value.ref x.2.2, Value.bool true))[i]? = some (key, v) := hr'
    rw [List.getElem?_map] at hr2
    cases hx : L[i]? with
    | none =>
      rw [hx] at hr2
      cases hr2
    | some x =>
      rw [hx] at hr2
      have e := Option.some.inj hr2
      have e1 : Value.ref x.2.2 = key := congrArg Prod.fst e
      have e2 : Value.bool true = v := congrArg Prod.snd e
      subst e1 e2
      refine ⟨ruleK x.2.1, x.2.2, ?_, rfl⟩
      unfold rdX
      rw [List.getElem?_map, List.getElem?_map, hx]
      rfl
  · intro h' hk x hx
    obtain ⟨p, hp', rfl⟩ := List.mem_map.mp hx
    have r0 := rule_is I.hok (kt p hp')
    refine (nestedKind_stays (prog := X.prog) (w := X.w)).stays (h := s.heap) (fun b o vs n e d => hk b o (Nat.ne_of_lt (Heap.lt_size e)) (List.not_mem_nil) e) r0
  · rw [List.length_map, sizeLine_eq]
    omega
  · intro h' tk D kp
    have D2 : h'.DictOfH (nestedKind X.prog X.w) s.heap.objs.size (rdX (putAll (L.map (·.2)) [])) := by
      have e := storedAll_rdX (L.map (·.2)) []
      rw [← e]
      exact D
    have big : (s.heap.objs.size == sysModules) = false := beq_eq_false_iff_ne.mpr (Nat.ne_of_gt I.big)
    have len := putAll_len (L.map (·.2)) []
    rw [List.length_map] at len
    have len' : (putAll (L.map (·.2)) []).length ≤ L.length := by
      simpa using len
    have R : RdAt X.prog X.w h' s.heap.objs.size (putAll (L.map (·.2)) []) := RdAt.of D2 big (by rw [sizeLine_eq]; omega) (putAll_nodup _ _ List.nodup_nil)
    refine ⟨.ref _, _, I.laid (t' := tk) (fun b u e => kp b u (List.not_mem_nil) e) (Nat.le_refl _) (rdO_ok R), rfl, q _ (I.hok.fresh (Nat.le_refl _))⟩
/-- the keys of a locked dict of rules -/
def Itr' (P : Program) (w : World) (d : Addr) (o : Obj) (L : List (Rule × Addr)) : It :=
  ⟨fun i H => H d = some (.frz o (rdO P w d L)) ∧ i < L.length, fun i H x H' => H' = H ∧ ∃ p, L[i]? = some p ∧ x = .ref p.2, fun i H => H d = some (.frz o (rdO P w d L)) ∧ L.length ≤ i⟩
theorem frz_rd {pins : List (Addr × Obj)} {σ : L2.St} {H : Hp} {s : Shared} {d : Addr} {o : Obj} {L : List (Rule × Addr)} (I : Inv X pins σ H s) (h : H d = some (.frz o (rdO X.prog X.w d L))) :
    (d == sysModules) = false ∧ s.heap.get? d = some o ∧ o.ExactDict ∧ ∃ (es : Array DictEntry) (ep : Nat), o.data = .dict es ep ∧ es.size = L.length ∧ ∀ (i : Nat) (p : Rule × Addr), L[i]? = some p → ∃ en : DictEntry, es[i]? = some en ∧ en.key = .ref p.2 := by
  obtain ⟨hd, R, _⟩ := I.hok d _ h
  obtain ⟨o', es, ep, ho, hx, hdt, he⟩ := R.raw
  rw [hd] at ho
  cases ho
  refine ⟨R.lo, hd, hx, es, ep, hdt, ?_, fun i p e => ?_⟩
  · rw [size_of_entries he]
    unfold rdX
    rw [List.length_map]
  · have q := entry_at he i
    unfold rdX at q
    rw [List.getElem?_map, e] at q
    exact ⟨_, q, rfl⟩
theorem turn_rd {P : Program} {w : World} {K : PySem.W.Frag} {tg : Expr} {d : Addr} {o : Obj} {es : Array DictEntry} {ep : Nat} {L : List (Rule × Addr)} (it : Addr) (hod : o.data = .dict es ep) :
    Turn P w K tg (Itr' P w d o L) [it] it (fun i h => h.IsKeyIter it d i L.length ep) where
  mem := List.mem_cons_self ..
  obj := fun i h st b hb => by
    rw [List.mem_singleton.mp hb]
    obtain ⟨oi, e, c, dd⟩ := st
    refine ⟨oi, e, fun v z => ?_⟩
    rw [dd] at z
    cases z
  keep := fun i h h' st k => by
    obtain ⟨oi, e, r⟩ := st
    exact ⟨oi, k it (List.mem_cons_self ..) oi e, r⟩
  item := by
    intro X' hP hw hK calm i pins s σ H E I hf st go
    subst hP hw hK
    obtain ⟨f0, f1, f2, f3, f4, f5⟩ := hf it (List.mem_cons_self ..)
    obtain ⟨lo, hg, hx, es', ep', hdt, sz, ent⟩ := frz_rd I go.1
    obtain ⟨rfl, rfl⟩ := dict_ep hod hdt
    have lt : i < L.length := go.2
    obtain ⟨en, hen, hkey⟩ := ent i L[i] (List.getElem?_eq_getElem lt)
    refine next_key_item st hg hdt sz hen fun h' st' sb => ?_
    have I1 : Inv X' pins σ H { s with heap := h' } := I.turned (t' := s.toks) (fun b ob nb e => (sb.2 b nb).trans e) f0 f1 f3 f4 f5
    obtain ⟨oi, e, c, dd⟩ := id st'
    refine ⟨en.key, rfl, go_of (s := { s with heap := h' }) e c dd (by decide) ⟨.ref L[i].2, H, I1, hkey, ⟨rfl, _, List.getElem?_eq_getElem lt, rfl⟩, st', fun b hb => (hf b hb).1⟩⟩
  done := by
    intro X' hP hw hK calm i pins s σ H E I hf st stop
    subst hP hw hK
    obtain ⟨f0, f1, f2, f3, f4, f5⟩ := hf it (List.mem_cons_self ..)
    obtain ⟨lo, hg, hx, es', ep', hdt, sz, ent⟩ := frz_rd I stop.1
    obtain ⟨rfl, rfl⟩ := dict_ep hod hdt
    exact next_key_end (I.ok.hd calm) st hg hdt sz stop.2 fun h' eb => ⟨rfl, I.turned (t' := s.toks) (fun b ob nb e => eb b ob nb e) f0 f1 f3 f4 f5⟩
  self := fun A i s Q E st h => by
    refine wpAny_pyIter_slot st.typeIs F.slot_dict_keyiterator_iter (wpAny_call_entry F.slot_dict_keyiterator_iter st.typeIs F.entry_dict_keyiterator_iter ?_ (F.args_dict_keyiterator_iter_1 _))
    exact wpAny_pure ⟨_, rfl, "dict_keyiterator", _, st.typeIs, F.slot_dict_keyiterator_next.lookup, h⟩
def iRd (P : Program) (w : World) (td : TE) : TI := fun σ H R => td σ H fun x H1 => ∃ (d : Addr) (o : Obj) (L : List (Rule × Addr)), x = .ref d ∧ H1 d = some (.frz o (rdO P w d L)) ∧ R (Itr' P w d o L) H1
theorem pi_rd {tg e : Expr} {td : TE} (he : PE X e td) : PI X tg e (iRd X.prog X.w td) := by
  refine ⟨fun pins s σ H R I h => thn (he.run pins s σ H _ I h) ?_⟩
  rintro u s1 ⟨x, H1, I1, rx, d, o, L, rfl, hd, q⟩
  cases rx
  obtain ⟨lo, hg, hx, es, ep, hdt, sz, ent⟩ := frz_rd I1 hd
  refine iter_keys lo hg hx hdt (pi_one (tk := s1.toks) I1 _ (turn_rd _ hdt) ⟨_, Heap.get?_push_size _ rfl, rfl, ?_⟩ q)
  rw [sz]
  rfl
/-- a list comprehension over a dict of rules that stays locked -/
theorem lc_rd {P : Program} {w : World} {d : Addr} {o : Obj} {L : List (Rule × Addr)} {g : TG} {tt : TT} {te : TE} {vs : List Nat} {σ : L2.St} {H1 : Hp} {D : Addr} {Qd : Hp → Prop} (Pv : Nat → Hp → Prop) (h0 : Pv 0 (upd H1 D (.lst [])))
    (hl : ∀ i H, i ≤ L.length → Pv i H → H d = some (.frz o (rdO P w d L)))
    (hs : ∀ i (hi : i < L.length) H, Pv i H → g (.ref L[i].2) (wipe σ vs) H fun σ2 H2 => wipe σ2 vs = wipe σ vs ∧ tt σ2 H2 fun b H3 =>
      if b = true then te σ2 H3 fun y H4 => ∃ acc, H4 D = some (.lst acc) ∧ acc.length < sizeLine ∧ Pv (i + 1) (upd H4 D (.lst (acc ++ [y]))) else Pv (i + 1) H3) (hd : ∀ H, Pv L.length H → Qd H) :
    ∃ W : Nat → Nat → Hp → Prop, (∃ m, W 0 m (upd H1 D (.lst []))) ∧ ∀ i m H, W i m H →
      ((Itr' P w d o L).stop i H ∧ Qd H) ∨ ((Itr' P w d o L).go i H ∧ ∃ Nx : Hp → Prop, (∀ H', Nx H' → ∃ m', m' < m ∧ W (i + 1) m' H') ∧ ∀ x H', (Itr' P w d o L).yld i H x H' → g x (wipe σ vs) H' fun σ2 H2 => wipe σ2 vs = wipe σ vs ∧ tt σ2 H2 fun b H3 =>
        if b = true then te σ2 H3 fun y H4 => ∃ acc, H4 D = some (.lst acc) ∧ acc.length < sizeLine ∧ Nx (upd H4 D (.lst (acc ++ [y]))) else Nx H3) := by
  refine ⟨fun i m H => m = L.length - i ∧ i ≤ L.length ∧ Pv i H, ⟨L.length, by simp, Nat.zero_le _, h0⟩, ?_⟩
  rintro i m H ⟨rfl, hi, p⟩
  have fz := hl i H hi p
  by_cases lt : i < L.length
  · refine .inr ⟨⟨fz, lt⟩, Pv (i + 1), fun H' p' => ⟨L.length - (i + 1), by omega, rfl, lt, p'⟩, ?_⟩
    rintro x H' ⟨rfl, z, hz, rfl⟩
    rw [List.getElem?_eq_getElem lt] at hz
    cases hz
    exact hs i lt _ p
  · have e : i = L.length := by omega
    subst e
    exact .inl ⟨⟨fz, Nat.le_refl _⟩, hd H p⟩
end
end Wnd

/-! Windowsteps: a == b and a != b, a an instance of an own class that says __eq__ and no __ne__. -/
namespace Wnd
open PySem PySem.Spec PyProof.Rows L2

section
variable {prog : Program} {w : World} {A : Around} {E : Value → Shared → Prop} {s : Shared} {K : W.Frag} {x C L f : Addr} {h₀ : Heap} {m : Str → Option Value} {ox : Obj} {od : Option Obj} {b tb : Value}
/-- the slot that object gives, called on an instance of an own class -/
theorem obj_ne {Q : Value → Shared → Prop} (hu : A.units + 1 < cLine) (X : K.In s.heap) (I : W.InstAt s.heap x ox C od) (ho : W.subIn K (.ref C) (.type "object") = some true)
    (hs : W.findIn K (.ref C) "__eq__" = some (some (.ref f))) (hf : W.isFn K (.ref f) = true)
    (h : wpAny (model prog w) A.in1 (call (.ref f) [.ref x, b]) (fun v s' => ∃ k, v = .bool k ∧ Q (.bool (!k)) s') E s) :
    wpAny (model prog w) A (call (.builtin "object.__ne__") [.ref x, b]) Q E s := by
  refine wpAny_call (codeAny_call_builtin F.cmp_object.ne.plain F.cmpEntry_ne ?_)
  have body : ∀ {R : Result → Shared → Prop}, (∀ v s', Q v s' → R (.ok (.ret v)) s') → (∀ e s', E e s' → R (.error e) s') → wpAny (model prog w) A.in1 (Builtin.«object.__ne__» ⟨[.ref x, b], []⟩)
      (fun fin s' => match fin with | .done f => R (.ok f) s' | .again c' => c'.quiet = true ∧ codeAny (model prog w) A c' R s') (fun e s' => R (.error e) s') s := by
    intro R hR hE
    unfold Builtin.«object.__ne__»
    have ask : wpAny (model prog w) A.in1 (callSpecialIfBound? (.ref x) (Str.ofString "__eq__") [b]) (fun r s' => ∃ k, r = some (.bool k) ∧ Q (.bool (!k)) s') (fun e s' => R (.error e) s') s :=
      W.ifBound_K X I hs hf (wpAny_mono h (fun v s' ⟨k, e, q⟩ => ⟨k, by rw [e], q⟩) hE)
    repeat (first
      | with_reducible refine wpAny_cRoomFor hu ?_
      | (refine wpAny_bind (m := callSpecialIfBound? (.ref x) (Str.ofString "__eq__") [b]) (wpAny_mono ask (fun r s' hr => by
          obtain ⟨k, rfl, q⟩ := hr
          refine wpAny_bind (m := truthy (.bool _)) (wpAny_truthy_bool ?_)
          first
            | exact wpAny_pure (hR _ _ q)
            | exact wpAny_pure (wpAny_pure (hR _ _ q))
            | exact wpAny_bind (wpAny_pure (wpAny_pure (hR _ _ q)))) fun _ _ e => e))
      | wp_step)
  have chk : ∀ {Q' : Unit → Shared → Prop} {E' : Value → Shared → Prop}, Q' () s → wpAny (model prog w) A.in1 (checkBuiltinCall "object.__ne__" ⟨[.ref x, b], []⟩) Q' E' s := by
    intro Q' E' q
    have ha := F.cmpArgs_ne (.ref x) b
    simp only [checkBuiltinCall, F.cmpKind_ne, F.cmpSplit_ne]
    refine wpAny_bind ?_
    unfold isInstance
    refine wpAny_bind (I.type.here ((W.looks_subIn X ho).here ?_))
    show wpAny _ _ (match Manifest.signature? "object.__ne__" with | some sig => Bind.checkArgs "object.__ne__" sig ⟨[.ref x, b], []⟩ | _ => pure ()) _ _ _
    cases hsig : Manifest.signature? "object.__ne__" with
    | none => exact wpAny_pure q
    | some sig =>
      simp only [argsOk, hsig] at ha
      have h2 : Bind.checkArgs "object.__ne__" sig ⟨[.ref x, b], []⟩ = pure () := ha
      show wpAny _ _ (Bind.checkArgs "object.__ne__" sig ⟨[.ref x, b], []⟩) _ _ _
      rw [h2]
      exact wpAny_pure q
  exact chk (body (R := fun r s' => match r with | .ok (.ret v) => Q v s' | .ok _ => False | .error e => E e s') (fun v s' q => q) fun e s' z => z)
theorem ne_own {Q : Value → Shared → Prop} (hu : A.units + 1 < cLine) (F₀ : Fr h₀ L s.heap m) (X₀ : K.In h₀) (I : W.InstAt s.heap x ox C od) (hb : W.Looks (model prog w) s.heap (typeOf b) tb) (hn : W.notFirst K C tb = true)
    (ho : W.subIn K (.ref C) (.type "object") = some true) (hne : W.findIn K (.ref C) "__ne__" = some (some (.builtin "object.__ne__")))
    (hs : W.findIn K (.ref C) "__eq__" = some (some (.ref f))) (hf : W.isFn K (.ref f) = true)
    (h : wpAny (model prog w) A.in1 (call (.ref f) [.ref x, b]) (fun v s' => ∃ k, v = .bool k ∧ Q (.bool (!k)) s') E s) : wpAny (model prog w) A (richCompare .NotEq (.ref x) b) Q E s := by
  have X := X₀.keeps F₀.keep
  have c := obj_ne (E := E) (Q := fun v s' => ∃ k, v = .bool k ∧ Q (.bool k) s') hu X I ho hs hf (wpAny_mono h (fun v s' ⟨k, e, q⟩ => ⟨k, e, !k, rfl, q⟩) fun _ _ z => z)
  have one : wpAny (model prog w) A (tryCompare (.ref x) (cmpInfo .NotEq).2.1 b) (fun r s' => ∃ v, r = some v ∧ Q v s') E s := by
    unfold tryCompare
    refine wpAny_bind ?_
    simp only [callSpecialIfBound?, bindSpecialIfBound?]
    refine wpAny_holding (wpAny_bind (wpAny_bind (wpAny_bind (I.type.here ((W.looks_findIn X hne).here ?_)))))
    simp only [F.cmp_object.ne.bind]
    refine wpAny_bind (wpAny_askSetting (wpAny_ite ?_))
    have fin : wpAny (model prog w) A (call (.builtin "object.__ne__") ([.ref x] ++ [b]) >>= fun v => pure (some v)) (fun a s' => wpAny (model prog w) A (match a with
        | some .notImplemented => pure none
        | none => pure none
        | some v => pure (some v)) (fun r s' => ∃ v, r = some v ∧ Q v s') E s') E s := by
      refine wpAny_bind (wpAny_mono c ?_ fun _ _ z => z)
      rintro v s' ⟨k, rfl, q⟩
      exact wpAny_pure (wpAny_pure ⟨_, rfl, q⟩)
    split
    · exact wpAny_bind (wpAny_pure (wpAny_pure fin))
    · exact wpAny_tryCatch (wpAny_bind (wpAny_pure (wpAny_pure fin)))
  unfold richCompare
  simp only [oneThing_ref]
  refine wpAny_holding (wpAny_bind (wpAny_cRoomFor (Nat.lt_of_succ_lt hu) ?_))
  refine wpAny_bind (I.type.here (wpAny_bind (hb.here ?_)))
  have rest : wpAny (model prog w) A (tryCompare (.ref x) (cmpInfo .NotEq).2.1 b) (fun r s' => ∃ v, r = some v ∧ Q v s') E s := one
  split
  · rename_i q
    have e : W.subIn K tb (.ref C) = some false := by
      rcases Bool.or_eq_true_iff.mp hn with e | e
      · rw [beq_iff_eq.mp e] at q
        simp at q
      · exact beq_iff_eq.mp e
    refine wpAny_bind ((W.looks_subIn X e).here ?_)
    simp only [Bool.false_eq_true, if_false]
    refine wpAny_bind (wpAny_mono rest ?_ fun _ _ z => z)
    rintro r s' ⟨v, rfl, hq⟩
    exact wpAny_pure hq
  · refine wpAny_bind (wpAny_pure ?_)
    simp only [Bool.false_eq_true, if_false]
    refine wpAny_bind (wpAny_mono rest ?_ fun _ _ z => z)
    rintro r s' ⟨v, rfl, hq⟩
    exact wpAny_pure hq
end
/-- what the text has of a class with its own == -/
structure EqC (K : PySem.W.Frag) (C f : Addr) : Prop where
  eq : W.findIn K (.ref C) "__eq__" = some (some (.ref f))
  fn : W.isFn K (.ref f) = true
  ne : W.findIn K (.ref C) "__ne__" = some (some (.builtin "object.__ne__"))
  ob : W.subIn K (.ref C) (.type "object") = some true
/-- a value whose type isn't a subtype of C's own below it -/
def Plain2 (K : PySem.W.Frag) (C : Addr) (H : Hp) (y : V) : Prop := ∃ t, TyX K H y t ∧ W.notFirst K C t = true
def rOwnEq (K : PySem.W.Frag) (C : Addr) (sp : Sp) : R2 := fun x y H Q => ∃ (a dx : Addr) (fs : List (Str × V)), x = .ref a ∧ H a = some (.ins C dx fs) ∧ Plain2 K C H y ∧ sp [.ref a, y] H (fun v H' => ∃ k, v = .bl k ∧ Q (.bl k) H') (fun _ _ _ => False)
def rOwnNe (K : PySem.W.Frag) (C : Addr) (sp : Sp) : R2 := fun x y H Q => ∃ (a dx : Addr) (fs : List (Str × V)), x = .ref a ∧ H a = some (.ins C dx fs) ∧ Plain2 K C H y ∧ sp [.ref a, y] H (fun v H' => ∃ k, v = .bl k ∧ Q (.bl (!k)) H') (fun _ _ _ => False)
section
variable {X : Cx} {C f : Addr} {fd : FuncData} {k : Nat} {ps : List Str} {sp : Sp}
theorem run_eq {A : Around} (F : FnOk X.prog X.w X.K X.mg X.base CX0 k f fd ps sp) (hb : Binds X.K fd ps []) (hr : Room k A) (fr : A.frames = X.A.frames) {pins : List (Addr × Obj)} {σ : L2.St} {H : Hp} {s : Shared} (I : Inv X pins σ H s)
    {vs : List V} {us : List Value} (r : Vals vs us) {Q : VK} {E : Value → Shared → Prop} (h : sp vs H Q (fun _ _ _ => False)) : wpAny (model X.prog X.w) A (call (.ref f) us) (EP X pins σ Q) E s := by
  have env : Env0 X.prog X.w X.K X.mg X.base A X.stack s H := by
    have z := I.env0
    exact ⟨fr.trans z.frames, z.mod, z.bs, z.bsz, z.funs, z.frf, z.hok, z.bare⟩
  have hl := F.len _ _ _ _ h
  refine wpAny_call (codeAny_mono (F.run A X.stack s H ⟨us, []⟩ us vs Q (fun _ _ _ => False) hr env (by
    have z := hb s us I.kIn (by rw [List.append_nil, ← r.length]; exact hl)
    rwa [List.append_nil] at z) r h) fun r s' hq => ?_)
  cases r with
  | error e => exact hq.elim
  | ok fl =>
    cases fl with
    | ret u => exact I.after hq
    | next => exact False.elim hq
    | brk => exact False.elim hq
    | cont => exact False.elim hq
theorem op_ownEq (F : FnOk X.prog X.w X.K X.mg X.base CX0 k f fd ps sp) (hb : Binds X.K fd ps []) (hr : Room k X.A) (T : EqC X.K C f) : OpR X (compareOp .Eq) (rOwnEq X.K C sp) := by
  intro pins s σ H x y v u Q I rx ry h
  obtain ⟨a, dx, fs, rfl, ha, ⟨t, ty, nf⟩, q⟩ := h
  cases rx
  obtain ⟨mA, J, _⟩ := ins_get I.hok ha
  obtain ⟨od, J, _⟩ := J.look
  obtain ⟨m, hF⟩ := I.fr
  obtain ⟨P, Z, p, _⟩ := kit_of I ry ty
  show wpAny _ _ (richCompare .Eq (.ref a) u) _ _ s
  refine PySem.W.cmp_K (op := .Eq) (tb := t) hr.units0 hF I.ok.mod.kin J (Z.ty _ _ I.kIn p) nf T.eq T.fn ?_
  refine wpAny_mono (run_eq F hb hr rfl I (show Vals [V.ref a, y] [Value.ref a, u] from .cons rfl (.cons ry .nil)) q) ?_ fun _ _ z => z
  rintro w s' ⟨z, H', I', rz, k, rfl, q'⟩
  cases rz
  exact ⟨.bl k, H', I', rfl, q'⟩
theorem op_ownNe (F : FnOk X.prog X.w X.K X.mg X.base CX0 k f fd ps sp) (hb : Binds X.K fd ps []) (hr : Room (k + 1) X.A) (T : EqC X.K C f) : OpR X (compareOp .NotEq) (rOwnNe X.K C sp) := by
  intro pins s σ H x y v u Q I rx ry h
  obtain ⟨a, dx, fs, rfl, ha, ⟨t, ty, nf⟩, q⟩ := h
  cases rx
  obtain ⟨mA, J, _⟩ := ins_get I.hok ha
  obtain ⟨od, J, _⟩ := J.look
  obtain ⟨m, hF⟩ := I.fr
  obtain ⟨P, Z, p, _⟩ := kit_of I ry ty
  show wpAny _ _ (richCompare .NotEq (.ref a) u) _ _ s
  refine ne_own (hu_of hr) hF I.ok.mod.kin J (Z.ty _ _ I.kIn p) nf T.ob T.ne T.eq T.fn ?_
  refine wpAny_mono (run_eq F hb hr.in1 rfl I (show Vals [V.ref a, y] [Value.ref a, u] from .cons rfl (.cons ry .nil)) q) ?_ fun _ _ z => z
  rintro w s' ⟨z, H', I', rz, k, rfl, q'⟩
  cases rz
  exact ⟨k, rfl, .bl (!k), H', I', rfl, q'⟩
end
end Wnd

/-! Windowsteps: C.m(..), m a static method. -/
namespace Wnd
open PySem PySem.Spec PyProof.Rows L2
/-- C.m is a static method: its record at p, its def at g -/
structure SMet (K : PySem.W.Frag) (C : Addr) (mc : Value) (m : Str) (p g : Addr) : Prop where
  at_ : W.findCls K (.ref C) mc m = some (.get (.builtin "staticmethod.__get__") (.ref p) .none (.ref C))
  rc : ∃ rest, W.recIn K p "staticmethod" = some (.ref g :: rest)
  kp : W.keepIn K (.ref g) = true
section
variable {X : Cx} {k : Nat} {C p g : Addr} {mc : Value} {sp : Sp} {fd : FuncData} {ps : List Str} {o e : Expr} {es : List Expr} {m : Str} {pos apos : Pos} {ta : TE} {t : TA} {pl : Sem Bool}
theorem getstat_ok {A : Around} {E : Value → Shared → Prop} {pins : List (Addr × Obj)} {σ : L2.St} {H : Hp} {s : Shared} {b : Bool} {Q : Value → Shared → Prop} (I : Inv X pins σ H s) (r : ClX.CRead X.K C mc) (c : SMet X.K C mc m p g)
    (h : ∀ s', Inv X pins σ H s' → Q (.ref g) s') : wpAny (model X.prog X.w) A (getAttr (.ref C) m b) Q E s := by
  obtain ⟨rest, hp⟩ := c.rc
  refine PySem.W.cls_bind I.kIn r.rd c.at_ ?_
  exact wpAny_call (PySem.W.sm_get (s := { s with toks := s.toks + 1 }) I.kIn hp (PySem.W.handed_on rfl (h _ (I.tok _))))
def tStat (C : Addr) (sp : Sp) (ta : TE) (t : TA) : TE := fun σ H Q => ta σ H fun x H1 => x = .ref C ∧ t σ H1 fun vs H2 => sp vs H2 Q E0
theorem pe_stat (he : PE X o ta) (r : ClX.CRead X.K C mc) (c : SMet X.K C mc m p g) (F : FnOk X.prog X.w X.K X.mg X.base CX0 k g fd ps sp) (hb : Binds X.K fd ps []) (hr : Room k X.A) (ha : PA X (e :: es) t)
    (hst : starEach (e :: es) X.env = (false, eval e X.env) :: starEach es X.env := by rfl) (hpl : (backTo pos (starEach es X.env)).any (·.1) = false := by rfl)
    (ht : eval (.Call (.Attribute o m apos) (e :: es) [] pos) X.env = (do
      let ov ← eval o X.env
      standAt apos.atName
      let (f, first) ← holding [ov] (getMethod ov m pl)
      callWith pos f first (backTo pos (starEach (e :: es) X.env)) (backToKw pos (keywordEach [] X.env))) := by rfl) :
    PE X (.Call (.Attribute o m apos) (e :: es) [] pos) (tStat C sp ta t) := by
  refine ⟨fun pins s σ H Q I h => ?_⟩
  refine PySem.W.methodCall_KW (pl := pl) (thn (he.run pins s σ H _ I h) ?_) ht
  rintro u s1 ⟨x, H1, I1, rx, rfl, q⟩
  cases rx
  refine PySem.W.method_cls I1.kIn r.ga (getstat_ok I1 r c fun s2 I2 => ?_)
  refine PySem.W.callWith_K (h₀ := X.base) (first := []) I2.ok.mod.kin c.kp (thn (ha.run pos _ s2 σ H1 _ I2 q) ?_) hst hpl
  rintro us s3 ⟨vs, H2, I3, rv, q2⟩
  refine ⟨I3.kIn, ?_⟩
  exact run_fn F hr hb .nil (pass0 (X := X)) I3 rv (by rw [List.append_nil]; exact q2)
end
end Wnd

/-! Windowsteps: len(set(names)), names all different. -/
namespace Wnd
open PySem PySem.Spec PyProof.Rows L2

/-- what set() has taken of different texts: they, and no more -/
def setOfTexts (xs : List Str) (i : Nat) : Str → Bool := fun y => (xs.take i).any (· == y)
theorem setOfTexts_more {xs : List Str} {i : Nat} (hi : i < xs.length) (y : Str) : (setOfTexts xs i y || decide (y = xs.getD i Str.empty)) = setOfTexts xs (i + 1) y := by
  unfold setOfTexts
  rw [List.take_add_one, List.any_append, List.getElem?_eq_getElem hi, List.getD_eq_getElem?_getD, List.getElem?_eq_getElem hi]
  show (_ || decide (y = xs[i])) = (_ || [xs[i]].any (· == y))
  congr 1
  simp only [List.any_cons, List.any_nil, Bool.or_false]
  by_cases e : y = xs[i]
  · subst e
    simp
  · rw [decide_eq_false e]
    exact (beq_eq_false_iff_ne.mpr fun z => e z.symm).symm
theorem setOfTexts_new {xs : List Str} (nd : xs.Nodup) {i : Nat} (hi : i < xs.length) : setOfTexts xs i (xs.getD i Str.empty) = false := by
  unfold setOfTexts
  rw [List.getD_eq_getElem?_getD, List.getElem?_eq_getElem hi]
  show (xs.take i).any (· == xs[i]) = false
  rw [List.any_eq_false]
  intro z hz e
  have ez : z = xs[i] := by simpa using e
  subst ez
  obtain ⟨j, hj, ej⟩ := List.getElem_of_mem hz
  rw [List.length_take] at hj
  rw [List.getElem_take] at ej
  have := (List.getElem_inj (h₀ := by omega) (h₁ := hi) nd).mp ej
  omega
section
variable {prog : Program} {w : World} {A : Around} {R : Result → Shared → Prop} {I : Addr} {fp wr : List Addr} {G : Array GenState → Array GenState → Prop} {n : Nat} {Pv : Nat → Value → Prop} {St' : Nat → Shared → Prop}
/-- the loop that fills the set: its turns by induction on how many are left -/
theorem fill_texts (W : WalksS prog w A.in1 I fp wr G n Pv St') (D : Addr) (out : D ∉ fp) (xs : List Str) (len : xs.length = n) (nd : xs.Nodup) (few : n < 1000) (val : ∀ i v, Pv i v → ∃ t, v = .str (xs.getD i Str.empty) t) :
    ∀ (left i : Nat) (s : Shared), n - i = left → i ≤ n → St' i s → s.heap.SetOf (PySem.strKind prog w) D (setOfTexts xs i) i →
      (∀ s', Moved (D :: wr) G s s' → s'.heap.SetOf (PySem.strKind prog w) D (setOfTexts xs n) n → R (.ok (.ret .none)) s') →
      codeAny (model prog w) A (.builtin "set.update.loop" ⟨[.ref D, .ref I], []⟩) R s := by
  have outw : D ∉ wr := fun h => out (W.sub _ h)
  have sub : ∀ b ∈ wr, b ∈ D :: wr := fun b hb => List.mem_cons_of_mem _ hb
  intro left
  induction left with
  | zero =>
    intro i s eq le st so done
    obtain rfl : i = n := by omega
    refine codeAny_builtin PyProof.Rows.F.entry_set_update_loop ?_
    rw [Around.under_plainId PyProof.Rows.F.plain_set_update_loop _]
    refine wpAny_bind (W.done s _ _ st fun s' mv => ?_)
    refine wpAny_pure (done s' (mv.mono sub) ?_)
    obtain ⟨o, es, ep, t, ho, more⟩ := so
    exact ⟨o, es, ep, t, mv.heap D _ outw ho, more⟩
  | succ left ih =>
    intro i s eq le st so done
    have lt : i < n := by omega
    refine codeAny_builtin PyProof.Rows.F.entry_set_update_loop ?_
    rw [Around.under_plainId PyProof.Rows.F.plain_set_update_loop _]
    refine wpAny_bind (W.item i s _ _ lt st fun v s' pv st' mv => ?_)
    obtain ⟨t, rfl⟩ := val i v pv
    have so' : s'.heap.SetOf (PySem.strKind prog w) D (setOfTexts xs i) i := by
      obtain ⟨o, es, ep, tb, ho, more⟩ := so
      exact ⟨o, es, ep, tb, mv.heap D _ outw ho, more⟩
    show wpAny _ A.in1 (holding [Value.str (xs.getD i Str.empty) t] (setAdd D (.str (xs.getD i Str.empty) t)) >>= _) _ _ s'
    refine wpAny_bind (wpAny_holding ?_)
    unfold setAdd
    refine wpAny_holding (wpAny_bind ((PySem.strKind prog w).pyHash (k := xs.getD i Str.empty) (strKind_is _ _ _ _) ?_))
    refine wpAny_setAddHashed_of (knd := PySem.strKind prog w) (s := { s' with toks := s'.toks + 1 }) (strKind_is _ _ _ _) rfl so' (by unfold scanBound; omega) fun h' sb s2 => ?_
    have s3 : h'.SetOf (PySem.strKind prog w) D (setOfTexts xs (i + 1)) (i + 1) := by
      refine PyProof.Rows.SetOf_congr s2 (fun y => setOfTexts_more (by omega) y) ?_
      rw [setOfTexts_new nd (by omega)]
      rfl
    refine wpAny_pure ⟨plainId_quiet PyProof.Rows.F.plain_set_update_loop _, ih (i + 1) _ (by omega) lt (W.frame _ s' _ _ st' (Nat.le_succ _) fun b hb o e => ?_) s3 fun s'' mv2 so2 => ?_⟩
    · rw [sb.2 b fun z => out (by rw [← z]; exact hb)]
      exact e
    · refine done s'' (Moved.trans W.gtrans ((mv.mono sub).then_heap (Nat.le_succ _) fun b o hb e => ?_) mv2) so2
      rw [sb.2 b fun z => hb (by rw [z]; exact List.mem_cons_self)]
      exact e
end
section
variable {prog : Program} {w : World} {A : Around} {E : Value → Shared → Prop} {s : Shared}
set_option maxHeartbeats 3200000 in
theorem set_of_texts {l : Addr} {items : Array Value} {xs : List Str} {Q : Value → Shared → Prop} (free : A.handled = none) (isl : s.heap.IsList l items) (are : PyProof.Rows.StrsAre items.toList xs) (nd : xs.Nodup) (few : xs.length < 1000)
    (hq : ∀ (h' : Heap) (tk : Nat), h'.SetOf (PySem.strKind prog w) s.heap.objs.size (setOfTexts xs xs.length) xs.length → (∀ b o, s.heap.get? b = some o → h'.get? b = some o) → Q (.ref s.heap.objs.size) { s with heap := h', toks := tk }) :
    wpAny (model prog w) A (call (.type "set") [.ref l]) Q E s := by
  have len : items.size = xs.length := by
    rw [← Array.length_toList]
    exact StrsAre.len_eq are
  obtain ⟨c, tl, mro⟩ := PySem.F.called_set.mro
  have k1 := PySem.F.called_set.made
  have k2 := PySem.F.called_set.sub
  have k3 := PySem.F.called_set.notType
  have k4 := PySem.F.called_set.canCreate
  have k5 := PySem.F.typeCall_set_1 (.ref l)
  refine wpAny_call (codeAny_of_tree (show wpAny _ _ (callAny (.type "set") _) _ _ _ from wpAny_pure ⟨Code.quiet_builtin _ (by decide +kernel), codeAny_builtin PySem.F.entry_type_call ?_⟩))
  rw [Around.under_plain (weight_type_call_type "set" [.ref l] []) rfl]
  repeat (any_goals (first | assumption | wp_step))
  refine codeAny_mono (code_set_new_1 (.ref l) (E := E)
    (Q₁ := fun obj s₁ => ∃ led : Bool, obj = .ref s.heap.objs.size ∧ s₁ = { s with heap := s.heap.push { cls := .type "set", dict := none, data := .set #[] 0 (.fresh 0 0 led) } })
    fun led => ⟨led, rfl, rfl⟩) ?_
  intro r s₁ hr
  cases r with
  | error e => exact hr
  | ok fl =>
    cases fl with
    | ret obj =>
      obtain ⟨led, rfl, rfl⟩ := hr
      have atS : (s.heap.push { cls := .type "set", dict := none, data := .set #[] 0 (.fresh 0 0 led) }).get? s.heap.objs.size = some { cls := .type "set", dict := none, data := .set #[] 0 (.fresh 0 0 led) } := Heap.get?_push_size _ rfl
      have tyS : Shared.TypeIs { s with heap := s.heap.push { cls := .type "set", dict := none, data := .set #[] 0 (.fresh 0 0 led) } } (.ref s.heap.objs.size) "set" := ⟨_, atS, rfl⟩
      have i1 := PySem.F.called_set.init.lookup
      have i2 := PySem.F.called_set.init.bind (.ref s.heap.objs.size)
      repeat (any_goals (first | assumption | wp_step))
      refine codeAny_mono (codeAny_call_builtin (R := wants (fun r s₂ => r = .none ∧ ∃ h' tk, s₂ = { s with heap := h', toks := tk } ∧
        h'.SetOf (PySem.strKind prog w) s.heap.objs.size (setOfTexts xs xs.length) xs.length ∧
        ∀ b o, s.heap.get? b = some o → h'.get? b = some o) E) PySem.F.called_set.init.plain PySem.F.entry_set_init (check_set_init_1 tyS ?_)) ?_
      · obtain ⟨ol, gl, cl, nl, dl⟩ := isl
        obtain ⟨ocls, odict, odata, oslots⟩ := ol
        simp only at cl dl
        subst cl
        subst dl
        have gl' : (s.heap.push { cls := .type "set", dict := none, data := .set #[] 0 (.fresh 0 0 led) }).get? l = some { cls := .type "list", dict := odict, data := .seq items nl, slots := oslots } := Heap.get?_push_of_some _ gl
        have n1 := PySem.F.sub_list_set
        have n2 := PySem.F.sub_list_frozenset
        have n3 : (Value.type "list" == Value.type "dict") = false := by decide
        have isl' : (s.heap.push { cls := .type "set", dict := none, data := .set #[] 0 (.fresh 0 0 led) }).IsList l items := ⟨_, gl', rfl, nl, rfl⟩
        unfold Builtin.«set.__init__» noKeywords Builtin.Frozenset.updateFrom
        generalize eIt : pyIter = It0
        wp_walk
        subst eIt
        refine wpAny_pyIter_list isl' (wpAny_bind (wpAny_runValue ?_))
        have ltl : l < s.heap.objs.size := Heap.lt_size gl
        have fr3 : A.in1.in1.in1.handled = none := by simp [free]
        have sz1 : (s.heap.push { cls := .type "set", dict := none, data := .set #[] 0 (.fresh 0 0 led) }).objs.size = s.heap.objs.size + 1 := Heap.size_push ..
        have nl1 : l ≠ (s.heap.push { cls := .type "set", dict := none, data := .set #[] 0 (.fresh 0 0 led) }).objs.size := by
          rw [sz1]
          exact Nat.ne_of_lt (Nat.lt_succ_of_lt ltl)
        have outS : s.heap.objs.size ∉ [(s.heap.push { cls := .type "set", dict := none, data := .set #[] 0 (.fresh 0 0 led) }).objs.size, l] := by
          rw [sz1]
          simp only [List.mem_cons, List.not_mem_nil, or_false, not_or]
          exact ⟨Nat.ne_of_lt (Nat.lt_succ_self _), Nat.ne_of_gt ltl⟩
        refine fill_texts ((Walks.list fr3 _ l nl1 items).toS) s.heap.objs.size outS xs len.symm nd (by omega) (fun i v hv => SS.strs_at are i v (by rw [Array.getElem?_toList]; exact hv)) (items.size - 0) 0 _ (by omega) (Nat.zero_le _)
          ⟨⟨_, Heap.get?_push_size _ rfl, rfl, rfl⟩, isl'.push _⟩ ?first ?after
        case first =>
          have g2 : ((s.heap.push { cls := .type "set", dict := none, data := .set #[] 0 (.fresh 0 0 led) }).push { cls := .type "list_iterator", data := .fields #[.ref l, .int 0 0] }).get? s.heap.objs.size
              = some { cls := .type "set", dict := none, data := .set #[] 0 (.fresh 0 0 led) } := Heap.get?_push_of_some _ atS
          exact PyProof.Rows.SetOf_congr ((PyProof.Rows.setObjOf_fresh (knd := PySem.strKind prog w) led).setOf g2 (by unfold scanBound; omega)) (fun _ => rfl) rfl
        case after =>
          intro s' mv so
          obtain ⟨h', g', d', tk', os'⟩ := s'
          obtain rfl : g' = s.gens := mv.gens
          obtain rfl : d' = s.drawn := mv.drawn
          obtain rfl : os' = s.os := mv.os
          refine wpAny_pure (wpAny_pure ⟨rfl, h', tk', rfl, by rw [← len]; exact so, fun b o e => ?_⟩)
          have lt := Heap.lt_size e
          refine mv.heap b o ?_ (Heap.get?_push_of_some _ (Heap.get?_push_of_some _ e))
          simp only [List.mem_cons, List.not_mem_nil, or_false, not_or]
          refine ⟨Nat.ne_of_lt lt, ?_⟩
          rw [sz1]
          exact Nat.ne_of_lt (Nat.lt_succ_of_lt lt)
      · intro r₂ s₂ hr₂
        cases r₂ with
        | error e => exact hr₂
        | ok fl₂ =>
          cases fl₂ with
          | ret r =>
            obtain ⟨rfl, h', tk, rfl, so, kp⟩ := hr₂
            repeat (any_goals (first | assumption | wp_step))
            exact hq _ _ so kp
          | _ => exact hr₂.elim
    | _ => exact hr.elim
end
section
variable {X : Cx}
/-- len(set(names)), different names -/
def tLenSetT (K : PySem.W.Frag) (ta : TE) : TE := fun σ H Q => ta σ H fun x H1 => ∃ (l : Addr) (xs : List Str), x = V.ref l ∧ SqL K H1 l (xs.map V.str) ∧ xs.length < 1000 ∧ xs.Nodup ∧ Q (.int xs.length) H1
theorem pe_lenSetT {a : Expr} {ta : TE} {p p2 q pos : Pos} (calm : X.calm = true) (hm : X.mg "len" = none) (hm2 : X.mg "set" = none) (ha : PE X a ta) (hg : Gl X "len" := by rfl) (hg2 : Gl X "set" := by rfl)
    (na : starEach [a] X.env = (false, eval a X.env) :: starEach [] X.env := by rfl) : PE X (.Call (.Name "len" p) [.Call (.Name "set" p2) [a] [] q] [] pos) (tLenSetT X.K ta) := by
  refine ⟨fun pins s σ H Q I h => Call_ (ld_blt I hg hm PySem.boot_len (PyProof.Rows.callWith_builtin1 (PyProof.Rows.args_cons (Call_ (ld_blt I hg2 hm2 PyProof.Rows.boot_set ?_)) rfl) rfl rfl))⟩
  refine PyProof.Rows.callWith_type1 (PyProof.Rows.args_cons (thn (ha.run pins s σ H _ I h) ?_) na) na rfl
  rintro v s1 ⟨x, H1, I1, r1, l, xs, rfl, hs, few, nd, q1⟩
  refine PyProof.Rows.args_nil ?_
  cases r1
  obtain ⟨its, r, pl, hz⟩ := I1.list hs
  refine set_of_texts (I1.ok.hd calm) pl.isList (xs := xs) (by simpa using r.strs) nd few fun h' tk so kp => ?_
  refine PyProof.Rows.args_nil ?_
  obtain ⟨o, es, ep, t, ho, hex, hd, _, _, _, hf, hn⟩ := so
  have I2 : Inv X pins σ H1 { s1 with heap := h', toks := tk } := I1.kept kp
  exact call_len_set ho hex hd hf (by rw [hn]; omega) ⟨.int xs.length, H1, I2.tok _, ⟨_, by rw [hn]⟩, q1⟩
end
end Wnd

/-! Windowsteps: comprehensions that change nothing that was there. -/
namespace Wnd
open PySem PySem.Spec PyProof.Rows L2
variable {J : It} {n : Nat} {G : Hp → Prop} {Y : Nat → Hp → V → Hp → Prop}
/-- what the list holds is said turn by turn by F; what was there stays -/
theorem lc_acc (w : Walk J n G Y) {g : TG} {tt : TT} {te : TE} {vs : List Nat} {σ : L2.St} {H1 : Hp} {D : Addr} {Qd : Hp → Prop} (hD : H1 D = none) (F : Nat → List V) (h0 : F 0 = []) (hz : n < sizeLine) (hl : ∀ i, (F i).length ≤ i)
    (hG : ∀ H, Same H1 H → G H)
    (hs : ∀ i x H H' (R : V → Hp → Prop) (L : Hp → Prop), i < n → Same H1 H → Y i H x H' → (∀ y H4, F (i + 1) = F i ++ [y] → Same H H4 → R y H4) → (∀ H4, F (i + 1) = F i → Same H H4 → L H4) →
      g x (wipe σ vs) H' fun σ2 H2 => wipe σ2 vs = wipe σ vs ∧ tt σ2 H2 fun b H3 => if b = true then te σ2 H3 R else L H3) (hd : ∀ H, Same H1 H → H D = some (.lst (F n)) → Qd H) :
    ∃ W : Nat → Nat → Hp → Prop, (∃ m, W 0 m (upd H1 D (.lst []))) ∧ ∀ i m H, W i m H →
      (J.stop i H ∧ Qd H) ∨ (J.go i H ∧ ∃ Nx : Hp → Prop, (∀ H', Nx H' → ∃ m', m' < m ∧ W (i + 1) m' H') ∧ ∀ x H', J.yld i H x H' → g x (wipe σ vs) H' fun σ2 H2 => wipe σ2 vs = wipe σ vs ∧ tt σ2 H2 fun b H3 =>
        if b = true then te σ2 H3 fun y H4 => ∃ acc, H4 D = some (.lst acc) ∧ acc.length < sizeLine ∧ Nx (upd H4 D (.lst (acc ++ [y]))) else Nx H3) := by
  refine lc_it w (fun i H => Same H1 H ∧ H D = some (.lst (F i))) ⟨same_new hD, by rw [h0]; exact upd_same⟩ (fun i H _ p => hG H p.1) ?_ (fun H p => hd H p.1 p.2)
  rintro i x H H' hi ⟨s, hd⟩ y
  refine hs i x H H' _ _ hi s y (fun v H4 e s4 => ⟨F i, s4 _ _ hd, by have := hl i; omega, ?_, ?_⟩) fun H4 e s4 => ⟨s.trans s4, by rw [e]; exact s4 _ _ hd⟩
  · intro b o hb
    rw [upd_ne (ne_of_none hb hD)]
    exact s4 _ _ (s _ _ hb)
  · rw [e]
    exact upd_same
/-- one item for each turn -/
theorem lc_map (w : Walk J n G Y) {g : TG} {tt : TT} {te : TE} {vs : List Nat} {σ : L2.St} {H1 : Hp} {D : Addr} {Qd : Hp → Prop} (hD : H1 D = none) (ys : List V) (hn : ys.length = n) (hz : n < sizeLine)
    (hG : ∀ H, Same H1 H → G H)
    (hs : ∀ i x H H' (hi : i < ys.length) (R : V → Hp → Prop) (L : Hp → Prop), Same H1 H → Y i H x H' → (∀ H4, Same H H4 → R ys[i] H4) →
      g x (wipe σ vs) H' fun σ2 H2 => wipe σ2 vs = wipe σ vs ∧ tt σ2 H2 fun b H3 => if b = true then te σ2 H3 R else L H3) (hd : ∀ H, Same H1 H → H D = some (.lst ys) → Qd H) :
    ∃ W : Nat → Nat → Hp → Prop, (∃ m, W 0 m (upd H1 D (.lst []))) ∧ ∀ i m H, W i m H →
      (J.stop i H ∧ Qd H) ∨ (J.go i H ∧ ∃ Nx : Hp → Prop, (∀ H', Nx H' → ∃ m', m' < m ∧ W (i + 1) m' H') ∧ ∀ x H', J.yld i H x H' → g x (wipe σ vs) H' fun σ2 H2 => wipe σ2 vs = wipe σ vs ∧ tt σ2 H2 fun b H3 =>
        if b = true then te σ2 H3 fun y H4 => ∃ acc, H4 D = some (.lst acc) ∧ acc.length < sizeLine ∧ Nx (upd H4 D (.lst (acc ++ [y]))) else Nx H3) := by
  refine lc_acc w hD (fun i => ys.take i) rfl hz (fun i => by rw [List.length_take]; omega) hG ?_ (fun H s h => hd H s (by rw [h, ← hn, List.take_length]))
  intro i x H H' R L hi s y hR hL
  have hi' : i < ys.length := by omega
  exact hs i x H H' hi' R L s y fun H4 s4 => hR _ H4 (by rw [List.take_add_one, List.getElem?_eq_getElem hi']; rfl) s4
/-- in a block: the class's frame said -/
theorem op_inK {X : Cx} (K : PySem.W.Frag) (h : X.K = K := by rfl) : OpR X (compareOp .In) (rIn K false) := by
  subst h
  exact op_in_seq
theorem pg_tupK {X : Cx} {pos : Pos} {es : List Expr} {k : Nat} {t : TGs} (K : PySem.W.Frag) (n : Nat) (hc : X.calm = true) (h : PGs X es t) (hK : X.K = K := by rfl)
    (hn : (assignEach es X.env).length = n := by rfl) (hst : (assignEach es X.env).findIdx? (·.1) = none := by rfl) : PG X (.Tuple es k pos) (gTup K n t) := by
  subst hK
  exact pg_tup hc h hn hst
def rLenSeq (K : PySem.W.Frag) : List V → Hp → VK → Prop := fun xs H Q => ∃ p ys, xs = [.ref p] ∧ (SqL K H p ys ∨ SqT K H p ys) ∧ Q (.int ys.length) H
theorem call_lenK {X : Cx} (K : PySem.W.Frag) (h : X.K = K := by rfl) : CallR X (.builtin "len") (rLenSeq K) := by
  subst h
  exact call_len_seq
theorem op_neDK {X : Cx} (K : PySem.W.Frag) (hu : X.A.units + 64 < cLine) (h : X.K = K := by rfl) : OpR X (compareOp .NotEq) (rNeD K) := by
  subst h
  exact op_neD hu
theorem op_eqDK {X : Cx} (K : PySem.W.Frag) (hu : X.A.units + 64 < cLine) (h : X.K = K := by rfl) : OpR X (compareOp .Eq) (rEqD K) := by
  subst h
  exact op_eqD hu
theorem ix_listK {X : Cx} (K : PySem.W.Frag) (h : X.K = K := by rfl) : IxR X (rIxL K) := by
  subst h
  exact ix_list
theorem ix_tupK {X : Cx} (K : PySem.W.Frag) (h : X.K = K := by rfl) : IxR X (rIxT K) := by
  subst h
  exact ix_tup
theorem cons_erase {α : Type} : ∀ (l : List α) (k : Nat) (h : k < l.length), (l[k] :: l.eraseIdx k).Perm l
  | x :: l, 0, _ => List.Perm.refl _
  | x :: l, k + 1, h => (List.Perm.swap ..).trans ((cons_erase l k (Nat.lt_of_succ_lt_succ h)).cons x)
theorem pe_bmB {X : Cx} {o e : Expr} {es : List Expr} {to : TE} {t : TA} {name : Str} {apos cpos : Pos} {T id : String} {r : V → List V → Hp → VK → Prop} (K : PySem.W.Frag) (pa : PlainAttrs T) (slot : Slot T name id) (hty : typeOf (.builtin id) = pure (.type "method_descriptor")) (hm : MtR X id r) (ho : PE X o to) (ha : PA X (e :: es) t) (hK : X.K = K := by rfl)
    (hbase : attributeBase o name X.env (eval o X.env) = eval o X.env := by rfl)
    (hfew : ((backTo cpos (starEach (e :: es) X.env)).all (fun x => !x.1) && (backToKw cpos (keywordEach [] X.env)).all (fun x => x.1.isSome)
      && decide ((e :: es).length + ([] : List Keyword).length + (if ([] : List Keyword).isEmpty then 0 else 1) < 30)) = true := by rfl)
    (hline : (apos.endLine == cpos.line) = true := by rfl) (hs : starEach (e :: es) X.env = (false, eval e X.env) :: starEach es X.env := by rfl) (hplain : (backTo cpos (starEach es X.env)).any (·.1) = false := by rfl) :
    PE X (.Call (.Attribute o name apos) (e :: es) [] cpos) (tBM K T r to t) := by
  subst hK
  exact pe_bm pa slot hty hm ho ha hbase hfew hline hs hplain
theorem same_back {H H' : Hp} {p : Addr} (s : Same H H') (h : H' p = none) : H p = none := s.free h
end Wnd

/-! Windowsteps: the order of the rules, one answer for each set of them. -/
namespace Wnd
open PySem PySem.Spec PyProof.Rows L2
/-- a comes no later than b -/
def leR (a b : Rule) : Bool := W.dataLe false rankD a b
theorem leR_not (a b : Rule) : leR a b = !W.dataLt (rankD b) (rankD a) := rfl
theorem leR_total (a b : Rule) : (leR a b || leR b a) = true := by
  rw [leR_not, leR_not]
  cases h1 : W.dataLt (rankD b) (rankD a) with
  | false => rfl
  | true =>
    cases h2 : W.dataLt (rankD a) (rankD b) with
    | false => rfl
    | true =>
      have h := PyProof.Rows.lex_trans _ _ _ h1 h2
      rw [PyProof.Rows.lex_irrefl] at h
      cases h
theorem leR_trans (a b c : Rule) (h1 : leR a b = true) (h2 : leR b c = true) : leR a c = true := by
  rw [leR_not, Bool.not_eq_true'] at h1 h2 ⊢
  cases h : W.dataLt (rankD c) (rankD a) with
  | false => rfl
  | true =>
    rcases PyProof.Rows.lex_negTrans _ (W.keyToks (rankD b)) _ h with h | h
    · rw [show W.dataLt (rankD c) (rankD b) = true from h] at h2
      cases h2
    · rw [show W.dataLt (rankD b) (rankD a) = true from h] at h1
      cases h1
theorem leR_anti {a b : Rule} (ha : Named a) (hb : Named b) (h1 : leR a b = true) (h2 : leR b a = true) : a = b := by
  rw [leR_not, Bool.not_eq_true'] at h1 h2
  have h := PyProof.Rows.lex_total _ _ h2 h1
  refine rank_inj ha hb ?_
  cases e : PyData.eqv (rankD a) (rankD b) with
  | true => rfl
  | false =>
    rw [eqv_rank] at e
    simp [W.keyToks, W.keyToksAll, rankD] at h
    obtain ⟨x1, x2, x3⟩ := h
    have sx : ∀ {a b : Str}, a.cps = b.cps → a = b := fun {a b} z => by
      cases a
      cases b
      exact congrArg Str.mk z
    rw [sx x1, sx x2, x3] at e
    simp at e
/-- the rules in ascending order -/
def sortR (rs : List Rule) : List Rule := rs.mergeSort leR
theorem sortR_perm (rs : List Rule) : (sortR rs).Perm rs := List.mergeSort_perm _ _
theorem sortR_pair (rs : List Rule) : (sortR rs).Pairwise fun a b => leR a b = true := List.pairwise_mergeSort leR_trans leR_total rs
theorem sortR_one {a b : List Rule} (ha : ∀ r ∈ a, Named r) (hp : a.Perm b) : sortR a = sortR b := by
  have q : (sortR a).Perm (sortR b) := (sortR_perm a).trans (hp.trans (sortR_perm b).symm)
  refine List.Perm.eq_of_pairwise (fun x y hx hy => leR_anti (ha x ((sortR_perm a).mem_iff.mp hx)) (ha y (hp.mem_iff.mpr ((sortR_perm b).mem_iff.mp hy)))) (sortR_pair a) (sortR_pair b) q
theorem sortR_of {a : List Rule} (h : a.Pairwise fun a b => leR a b = true) : sortR a = a := List.mergeSort_of_pairwise h
theorem inOrder_map (L : List (Rule × Addr)) : (inOrder L).map (·.1) = sortR (L.map (·.1)) := List.map_mergeSort fun _ _ _ _ => rfl
theorem pairs_map (L : List Pr) : (pairsInOrder L).map (·.2.1) = sortR (L.map (·.2.1)) := List.map_mergeSort fun _ _ _ _ => rfl
/-- each rule once -/
def nubR (rs : List Rule) : List Rule := (putAll (rs.map fun r => (r, 0)) []).map (·.1)
theorem putR_map {r : Rule} {q q' : Addr} {L L' : List (Rule × Addr)} (h : L.map (·.1) = L'.map (·.1)) : (putR L r q).map (·.1) = (putR L' r q').map (·.1) := by
  unfold putR
  rw [h]
  split
  · exact h
  · rw [List.map_append, List.map_append, h]
    rfl
theorem putAll_map : ∀ {rs rs' L L' : List (Rule × Addr)}, rs.map (·.1) = rs'.map (·.1) → L.map (·.1) = L'.map (·.1) → (putAll rs L).map (·.1) = (putAll rs' L').map (·.1)
  | [], [], _, _, _, h => h
  | [], _ :: _, _, _, h, _ => nomatch h
  | _ :: _, [], _, _, h, _ => nomatch h
  | r :: rs, r' :: rs', L, L', h, h2 => by
    injection h with h1 h3
    show (putAll rs (putR L r.1 r.2)).map (·.1) = (putAll rs' (putR L' r'.1 r'.2)).map (·.1)
    refine putAll_map h3 ?_
    rw [show r'.1 = r.1 from h1.symm]
    exact putR_map h2
theorem nub_put (rs : List (Rule × Addr)) : (putAll rs []).map (·.1) = nubR (rs.map (·.1)) := by
  refine putAll_map ?_ rfl
  rw [List.map_map, List.map_map]
  rfl
theorem nubR_nodup (rs : List Rule) : (nubR rs).Nodup := putAll_nodup _ _ List.nodup_nil
theorem putR_mem {L : List (Rule × Addr)} {r x : Rule} {q : Addr} : x ∈ (putR L r q).map (·.1) ↔ x ∈ L.map (·.1) ∨ x = r := by
  unfold putR
  split
  · rename_i h
    exact ⟨.inl, fun z => z.elim id fun e => e ▸ h⟩
  · rw [List.map_append, List.mem_append]
    simp
theorem putAll_mem1 : ∀ (rs L : List (Rule × Addr)) (x : Rule), x ∈ (putAll rs L).map (·.1) ↔ x ∈ L.map (·.1) ∨ x ∈ rs.map (·.1)
  | [], L, x => by simp [putAll]
  | r :: rs, L, x => by
    show x ∈ (putAll rs (putR L r.1 r.2)).map (·.1) ↔ _
    rw [putAll_mem1 rs, putR_mem, List.map_cons, List.mem_cons]
    constructor
    · rintro ((h | h) | h)
      · exact .inl h
      · exact .inr (.inl h)
      · exact .inr (.inr h)
    · rintro (h | h | h)
      · exact .inl (.inl h)
      · exact .inl (.inr h)
      · exact .inr h
theorem nubR_mem (rs : List Rule) (x : Rule) : x ∈ nubR rs ↔ x ∈ rs := by
  unfold nubR
  rw [putAll_mem1, List.map_map]
  simp
theorem nubR_of {rs : List Rule} (h : rs.Nodup) : (nubR rs).Perm rs := (List.perm_ext_iff_of_nodup (nubR_nodup rs) h).mpr fun x => nubR_mem rs x
/-- the different rules in ascending order -/
def canon (rs : List Rule) : List Rule := sortR (nubR rs)
theorem canon_mem (rs : List Rule) (x : Rule) : x ∈ canon rs ↔ x ∈ rs := (sortR_perm _).mem_iff.trans (nubR_mem rs x)
theorem canon_nodup (rs : List Rule) : (canon rs).Nodup := (sortR_perm _).nodup_iff.mpr (nubR_nodup rs)
theorem canon_len (rs : List Rule) : (canon rs).length ≤ rs.length := by
  unfold canon
  rw [(sortR_perm _).length_eq, nubR, List.length_map]
  have := putAll_len (rs.map fun r => (r, 0)) []
  rw [List.length_map, List.length_nil] at this
  omega
theorem canon_same {a b : List Rule} (ha : ∀ r ∈ a, Named r) (h : ∀ x, x ∈ a ↔ x ∈ b) : canon a = canon b := by
  refine sortR_one (fun r hr => ha r ((nubR_mem a r).mp hr)) ((List.perm_ext_iff_of_nodup (nubR_nodup a) (nubR_nodup b)).mpr fun x => ?_)
  rw [nubR_mem, nubR_mem, h]
theorem canon_of {a : List Rule} (ha : ∀ r ∈ a, Named r) (nd : a.Nodup) (h : a.Pairwise fun a b => leR a b = true) : canon a = a := by
  have : sortR (nubR a) = sortR a := sortR_one (fun r hr => ha r ((nubR_mem a r).mp hr)) (nubR_of nd)
  rw [canon, this, sortR_of h]
theorem canon_canon {a : List Rule} (ha : ∀ r ∈ a, Named r) : canon (canon a) = canon a := canon_same (fun r hr => ha r ((canon_mem a r).mp hr)) (canon_mem a)
theorem canon_pair (a : List Rule) : (canon a).Pairwise fun a b => leR a b = true := sortR_pair _
theorem inOrder_canon (rs : List (Rule × Addr)) : (inOrder (putAll rs [])).map (·.1) = canon (rs.map (·.1)) := by
  rw [inOrder_map, nub_put]
  rfl

/-! ### names in ascending order -/
def leS (a b : Str) : Bool := !decide (b.cps.toList < a.cps.toList)
theorem leS_iff (a b : Str) : leS a b = true ↔ a.cps.toList ≤ b.cps.toList := by
  unfold leS
  rw [Bool.not_eq_true', decide_eq_false_iff_not]
  exact List.not_lt
theorem leS_total (a b : Str) : (leS a b || leS b a) = true := by
  rw [Bool.or_eq_true, leS_iff, leS_iff]
  exact List.le_total _ _
theorem leS_trans (a b c : Str) (h1 : leS a b = true) (h2 : leS b c = true) : leS a c = true := by
  rw [leS_iff] at h1 h2 ⊢
  exact List.le_trans h1 h2
theorem leS_anti {a b : Str} (h1 : leS a b = true) (h2 : leS b a = true) : a = b := by
  rw [leS_iff] at h1 h2
  have := List.le_antisymm h1 h2
  obtain ⟨⟨x⟩⟩ := a
  obtain ⟨⟨y⟩⟩ := b
  exact congrArg (fun l => Str.mk (Array.mk l)) this
theorem rising_pair : ∀ (p : Str) (l : List Str), PyProof.Rows.risingS p l = true → (p :: l).Pairwise fun a b => leS a b = true
  | p, [], _ => List.pairwise_singleton _ _
  | p, x :: r, h => by
    unfold PyProof.Rows.risingS at h
    rw [Bool.and_eq_true] at h
    have ih := rising_pair x r h.2
    have px : leS p x = true := by
      have h1 := h.1
      rw [PyProof.Rows.ltCps_eq] at h1
      exact h1
    refine List.pairwise_cons.mpr ⟨fun y hy => ?_, ih⟩
    rcases List.mem_cons.mp hy with rfl | hy
    · exact px
    · exact leS_trans p x y px ((List.pairwise_cons.mp ih).1 y hy)
theorem sorted_pair {l : List Str} (h : PyProof.Rows.sortedS l = true) : l.Pairwise fun a b => leS a b = true := by
  cases l with
  | nil => exact List.Pairwise.nil
  | cons x r => exact rising_pair x r h
def sortN (ts : List Str) : List Str := ts.mergeSort leS
theorem sortN_perm (ts : List Str) : (sortN ts).Perm ts := List.mergeSort_perm _ _
theorem sortN_of {ys ts : List Str} (hp : ys.Perm ts) (h : PyProof.Rows.sortedS ys = true) : ys = sortN ts :=
  List.Perm.eq_of_pairwise (fun x y _ _ => leS_anti) (sorted_pair h) (List.pairwise_mergeSort leS_trans leS_total ts) (hp.trans (sortN_perm ts).symm)
theorem sortN_one {a b : List Str} (h : a.Perm b) : sortN a = sortN b :=
  List.Perm.eq_of_pairwise (fun x y _ _ => leS_anti) (List.pairwise_mergeSort leS_trans leS_total a) (List.pairwise_mergeSort leS_trans leS_total b) ((sortN_perm a).trans (h.trans (sortN_perm b).symm))
theorem sortN_sortN (a : List Str) : sortN (sortN a) = sortN a := sortN_one (sortN_perm a)
end Wnd

/-! Windowsteps: l.count(x), items and x data of any depth. -/
namespace Wnd
open PySem PySem.Spec PyProof.Rows L2
variable {X : Cx}
def rCountD (K : PySem.W.Frag) : V → List V → Hp → VK → Prop := fun x xs H Q => ∃ (a : Addr) (y : V) (d : PyData) (ds : List PyData), x = V.ref a ∧ xs = [y] ∧ Dp K H (V.ref a) (.list ds) ∧ Dp K H y d ∧
  SeqAt.shaped (.list ds) = true ∧ SeqAt.shaped d = true ∧ Q (.int (ds.countP fun z => PyData.eqv z d : Nat)) H
theorem mt_countD (hu : X.A.units + 65 < cLine) : MtR X "list.count" (rCountD X.K) := by
  intro pins s σ H x xs v us Q I rx rxs h
  obtain ⟨a, y, d, ds, rfl, rfl, hl, hy, sl, sd, q⟩ := h
  cases rx
  obtain ⟨uy, rfl, ry⟩ := rxs.one
  obtain ⟨bs, r1⟩ := Dp.reads I d y uy hy ry
  have hxs : PyData.canLayAll0 ds = true := SeqAt.canLay_of_shaped sl
  have hroom : X.A.units + 1 + min (PyData.depthAll ds) d.depth < cLine := room_in_shaped sd hu
  cases hl with
  | lst hs ha =>
    obtain ⟨its, rv, ⟨⟨cls, dd, data, sls⟩, n, ho, hc, hdn, hdt⟩, hlen⟩ := I.list hs
    simp only at hc hdt
    subst hc hdt
    obtain ⟨as, h4⟩ := Dp.readsAll I ds _ its ha rv
    have hmap : its.map (SeqAt.readOf s.heap) = ds := SeqAt.readsAll_map ds its as hxs h4
    refine call_meets PySem.F.slot_list_count ⟨_, ho, rfl⟩ PySem.F.entry_list_count (PySem.F.args_list_count_2 _ _)
      (SeqAt.list_countAt a its.toArray n dd sls uy (fun u => PyData.eqv (SeqAt.readOf s.heap u) d)) ⟨ho, SeqAt.items_eqAt (vs := its.toArray) (show ReadsAll s.heap its.toArray.toList ds as from h4) r1 hxs (SeqAt.canLay_of_shaped sd) hroom, ?_⟩
    have ec : its.toArray.toList.countP (fun u => PyData.eqv (SeqAt.readOf s.heap u) d) = ds.countP fun z => PyData.eqv z d := by
      rw [← hmap, List.countP_map]
      rfl
    refine ⟨.int (ds.countP fun z => PyData.eqv z d : Nat), H, I.tok _, ⟨s.toks, ?_⟩, q⟩
    show Value.int ((its.toArray.toList.countP (fun u => PyData.eqv (SeqAt.readOf s.heap u) d) : Nat) : Int) s.toks = Value.int ((ds.countP fun z => PyData.eqv z d : Nat) : Int) s.toks
    rw [ec]
end Wnd

/-! Windowsteps: what the head of a law's proof finds of defs, methods, constants. -/
namespace Wnd
open PySem PySem.Spec PyProof.Rows L2
section
variable {K : PySem.W.Frag} {mg : Str → Option Value} {h : Heap}
/-- a def of the text, where the top has put it -/
def DefRaw (K : PySem.W.Frag) (x : Str) (st : Stmt) : Prop := ∃ (f : Addr) (oc : Value) (od an : Option Addr) (kV dc pm cd ct : Value) (sl : Array (Option Value)), PySem.W.nsIn K mainGlobals x = some (some (.ref f)) ∧
  K.lookup f = some ⟨oc, od, .func (PySem.W.fnOf x x (defArgs st) (defBody st) (defScope st) .none kV dc pm an cd ct), sl⟩ ∧ PySem.W.codeIn K cd x = true ∧ PySem.W.keepIn K (.ref f) = true
theorem defRaw_mk {x : Str} {st : Stmt} {f : Addr} {oc : Value} {od an : Option Addr} {kV dc pm cd ct : Value} {sl : Array (Option Value)} (a : PySem.W.nsIn K mainGlobals x = some (some (.ref f)))
    (b : K.lookup f = some ⟨oc, od, .func (PySem.W.fnOf x x (defArgs st) (defBody st) (defScope st) .none kV dc pm an cd ct), sl⟩) (c : PySem.W.codeIn K cd x = true) (d : PySem.W.keepIn K (.ref f) = true) : DefRaw K x st := ⟨f, oc, od, an, kV, dc, pm, cd, ct, sl, a, b, c, d⟩
theorem DefRaw.at {x : Str} {st : Stmt} {ps : List Str} (R : DefRaw K x st) (X : K.In h) (G : h.Ns mainGlobals mg)
    (hb : ∀ (kV doc pm : Value) (an : Option Addr) (cdv ct : Value) (us : List Value), us.length = ps.length → bindArgs (PySem.W.fnOf x x (defArgs st) (defBody st) (defScope st) .none kV doc pm an cdv ct) ⟨us, []⟩ = pure (ps.zip us)) :
    ∃ (f : Addr) (fd : FuncData), DefAt K mg x st ps f fd := by
  obtain ⟨f, oc, od, an, kV, dc, pm, cd, ct, sl, h1, h2, h3, h4⟩ := R
  have F := fun_mk (st := st) h2 h3 h4
  exact ⟨f, _, F, F.binds hb, PySem.W.mg_of X G h1⟩
/-- a method of a class -/
def MetRaw (K : PySem.W.Frag) (C : Addr) (x q : Str) (st : Stmt) : Prop := ∃ (f : Addr) (oc : Value) (od an : Option Addr) (kV dc pm cd ct : Value) (sl : Array (Option Value)), PySem.W.findIn K (.ref C) x = some (some (.ref f)) ∧ PySem.W.isFn K (.ref f) = true ∧
  K.lookup f = some ⟨oc, od, .func (PySem.W.fnOf x q (defArgs st) (defBody st) (defScope st) .none kV dc pm an cd ct), sl⟩ ∧ PySem.W.codeIn K cd q = true ∧ PySem.W.keepIn K (.ref f) = true
theorem metRaw_mk {C : Addr} {x q : Str} {st : Stmt} {f : Addr} {oc : Value} {od an : Option Addr} {kV dc pm cd ct : Value} {sl : Array (Option Value)} (a : PySem.W.findIn K (.ref C) x = some (some (.ref f))) (b : PySem.W.isFn K (.ref f) = true)
    (c : K.lookup f = some ⟨oc, od, .func (PySem.W.fnOf x q (defArgs st) (defBody st) (defScope st) .none kV dc pm an cd ct), sl⟩) (d : PySem.W.codeIn K cd q = true) (e : PySem.W.keepIn K (.ref f) = true) : MetRaw K C x q st := ⟨f, oc, od, an, kV, dc, pm, cd, ct, sl, a, b, c, d, e⟩
theorem MetRaw.at {C : Addr} {x q : Str} {st : Stmt} {ps : List Str} (R : MetRaw K C x q st)
    (hb : ∀ (kV doc pm : Value) (an : Option Addr) (cdv ct : Value) (us : List Value), us.length = ps.length → bindArgs (PySem.W.fnOf x q (defArgs st) (defBody st) (defScope st) .none kV doc pm an cdv ct) ⟨us, []⟩ = pure (ps.zip us)) :
    ∃ (f : Addr) (fd : FuncData), Fun K x q st f fd ∧ Binds K fd ps [] ∧ PySem.W.findIn K (.ref C) x = some (some (.ref f)) ∧ PySem.W.isFn K (.ref f) = true := by
  obtain ⟨f, oc, od, an, kV, dc, pm, cd, ct, sl, h1, h2, h3, h4, h5⟩ := R
  have F := fun_mk (st := st) h3 h4 h5
  exact ⟨f, _, F, F.binds hb, h1, h2⟩
/-- a static method of a class, as it is read off the class -/
def StatRaw (K : PySem.W.Frag) (C : Addr) (x q : Str) (st : Stmt) : Prop := ∃ (mc : Value) (p f : Addr) (oc : Value) (od an : Option Addr) (kV dc pm cd ct : Value) (sl : Array (Option Value)), PySem.W.readsIn K C mc = true ∧
  PySem.W.specialIn K (.ref C) "__getattribute__" = some (some (.builtin "type.__getattribute__")) ∧ PySem.W.findCls K (.ref C) mc x = some (.get (.builtin "staticmethod.__get__") (.ref p) .none (.ref C)) ∧ (∃ rest, PySem.W.recIn K p "staticmethod" = some (.ref f :: rest)) ∧
  K.lookup f = some ⟨oc, od, .func (PySem.W.fnOf x q (defArgs st) (defBody st) (defScope st) .none kV dc pm an cd ct), sl⟩ ∧ PySem.W.codeIn K cd q = true ∧ PySem.W.keepIn K (.ref f) = true
theorem statRaw_mk {C p : Addr} {x q : Str} {st : Stmt} {f : Addr} {oc : Value} {od an : Option Addr} {kV dc pm cd ct : Value} {sl : Array (Option Value)} {rest : List Value} (a : PySem.W.readsIn K C (.type "type") = true)
    (b : PySem.W.specialIn K (.ref C) "__getattribute__" = some (some (.builtin "type.__getattribute__"))) (c : PySem.W.findCls K (.ref C) (.type "type") x = some (.get (.builtin "staticmethod.__get__") (.ref p) .none (.ref C))) (d : PySem.W.recIn K p "staticmethod" = some (.ref f :: rest))
    (e : K.lookup f = some ⟨oc, od, .func (PySem.W.fnOf x q (defArgs st) (defBody st) (defScope st) .none kV dc pm an cd ct), sl⟩) (g : PySem.W.codeIn K cd q = true) (i : PySem.W.keepIn K (.ref f) = true) : StatRaw K C x q st :=
  ⟨.type "type", p, f, oc, od, an, kV, dc, pm, cd, ct, sl, a, b, c, ⟨rest, d⟩, e, g, i⟩
theorem StatRaw.at {C : Addr} {x q : Str} {st : Stmt} {ps : List Str} (R : StatRaw K C x q st)
    (hb : ∀ (kV doc pm : Value) (an : Option Addr) (cdv ct : Value) (us : List Value), us.length = ps.length → bindArgs (PySem.W.fnOf x q (defArgs st) (defBody st) (defScope st) .none kV doc pm an cdv ct) ⟨us, []⟩ = pure (ps.zip us)) :
    ∃ (mc : Value) (p g : Addr) (fd : FuncData), Fun K x q st g fd ∧ Binds K fd ps [] ∧ ClX.CRead K C mc ∧ SMet K C mc x p g := by
  obtain ⟨mc, p, f, oc, od, an, kV, dc, pm, cd, ct, sl, h1, h2, h3, h4, h5, h6, h7⟩ := R
  have F := fun_mk (st := st) h5 h6 h7
  exact ⟨mc, p, f, _, F, F.binds hb, ⟨h1, h2⟩, ⟨h3, h4, h7⟩⟩
/-- a property of a class: its getter's def -/
def PropRaw (K : PySem.W.Frag) (C : Addr) (x q : Str) (st : Stmt) : Prop := ∃ (p f : Addr) (oc : Value) (od an : Option Addr) (kV dc pm cd ct : Value) (sl : Array (Option Value)), PySem.W.findIn K (.ref C) x = some (some (.ref p)) ∧ PySem.W.specialIn K (.ref p) "__get__" = some (some (.builtin "property.__get__")) ∧
  PySem.W.takesIn K (.ref p) = some true ∧ (∃ rest, PySem.W.recIn K p "property" = some (.ref f :: rest)) ∧ K.lookup f = some ⟨oc, od, .func (PySem.W.fnOf x q (defArgs st) (defBody st) (defScope st) .none kV dc pm an cd ct), sl⟩ ∧ PySem.W.codeIn K cd q = true ∧ PySem.W.keepIn K (.ref f) = true
theorem propRaw_mk {C p : Addr} {x q : Str} {st : Stmt} {f : Addr} {oc : Value} {od an : Option Addr} {kV dc pm cd ct : Value} {sl : Array (Option Value)} {rest : List Value} (a : PySem.W.findIn K (.ref C) x = some (some (.ref p))) (b : PySem.W.specialIn K (.ref p) "__get__" = some (some (.builtin "property.__get__")))
    (c : PySem.W.takesIn K (.ref p) = some true) (d : PySem.W.recIn K p "property" = some (.ref f :: rest)) (e : K.lookup f = some ⟨oc, od, .func (PySem.W.fnOf x q (defArgs st) (defBody st) (defScope st) .none kV dc pm an cd ct), sl⟩) (g : PySem.W.codeIn K cd q = true) (i : PySem.W.keepIn K (.ref f) = true) : PropRaw K C x q st :=
  ⟨p, f, oc, od, an, kV, dc, pm, cd, ct, sl, a, b, c, ⟨rest, d⟩, e, g, i⟩
theorem PropRaw.at {C : Addr} {x q : Str} {st : Stmt} {ps : List Str} (R : PropRaw K C x q st)
    (hb : ∀ (kV doc pm : Value) (an : Option Addr) (cdv ct : Value) (us : List Value), us.length = ps.length → bindArgs (PySem.W.fnOf x q (defArgs st) (defBody st) (defScope st) .none kV doc pm an cdv ct) ⟨us, []⟩ = pure (ps.zip us)) :
    ∃ (p g : Addr) (fd : FuncData), Fun K x q st g fd ∧ Binds K fd ps [] ∧ PropOf K C x p g := by
  obtain ⟨p, f, oc, od, an, kV, dc, pm, cd, ct, sl, h1, h2, h3, h4, h5, h6, h7⟩ := R
  have F := fun_mk (st := st) h5 h6 h7
  exact ⟨p, f, _, F, F.binds hb, ⟨h1, h2, h3, h4⟩⟩
end
end Wnd

namespace Wnd
open PySem PySem.Spec PyProof.Rows L2
def top (i : Nat) : Stmt := PySem.Challenge.pw_windowsteps_k33_prices_made.main.body.getD i (.Pass ⟨0, 0, 0, 0⟩)
abbrev s_law_pen : Stmt := top 14
theorem sc_law_pen : FnScope ["_law_script"] ["_law_script"] (defScope s_law_pen) := ⟨rfl, rfl, rfl, by decide +kernel, rfl, by decide +kernel, by decide +kernel⟩
abbrev s_law_next : Stmt := top 15
theorem sc_law_next : FnScope ["_law_pen_here", "_law_index", "_law_cell", "_law_some", "_law_more", "_law_top"] ["_law_pen_here"] (defScope s_law_next) := ⟨rfl, rfl, rfl, by decide +kernel, rfl, by decide +kernel, by decide +kernel⟩
abbrev s_law_draw : Stmt := top 16
theorem sc_law_draw : FnScope ["_law_pen_here", "_law_under", "_law_digit"] ["_law_pen_here", "_law_under"] (defScope s_law_draw) := ⟨rfl, rfl, rfl, by decide +kernel, rfl, by decide +kernel, by decide +kernel⟩
structure Blt (mg : Str → Option Value) : Prop where
  len : mg "len" = none
  list : mg "list" = none
  range : mg "range" = none
  min : mg "min" = none
  max : mg "max" = none
  dict : mg "dict" = none
  sorted : mg "sorted" = none
section
variable {P : Program} {w : World} {K : PySem.W.Frag} {mg : Str → Option Value} {base : Heap}
theorem ok_pen {f : Addr} {fd : FuncData} (D : DefAt K mg "_law_pen" s_law_pen ["_law_script"] f fd) (B : Blt mg) : Ok P w K mg base 1 "_law_pen" ["_law_script"] (spPen K) := by
  refine D.ok (D.fn.ok sc_law_pen (fun vs H Q E h => ?_) (fun cdv A outer s H vs Q E hr h => ?_))
  · obtain ⟨a, ns, rfl, _⟩ := h
    rfl
  · obtain ⟨a, ns, rfl, hS, hlen, q⟩ := h
    refine ⟨_, (pss_one (ps_ret (pe_lst (pa_cons (pe_callTy call_list_of (by rfl) B.list (by decide +kernel) (pa_cons (pe_slice sl_list (pv 0) po_none (po_some pe_int)) pa_nil)) (pa_cons pe_int (pa_cons pe_int pa_nil)))))), ?_⟩
    refine ⟨_, rfl, 60, rfl, a, _, rfl, hS, fun c1 n1 => ?_⟩
    have s1 : Same H _ := same_new (o := .lst (cutV (ns.map V.int) none (some 60))) n1
    refine ⟨c1, _, rfl, .inl (SqL.of upd_same), fun c n2 => ?_⟩
    have s2 := s1.trans (same_new (o := .lst (cutV (ns.map V.int) none (some 60))) n2)
    refine ⟨by show 3 ≤ sizeLine; decide, fun p n3 => ?_⟩
    have s3 := s2.trans (same_new (o := .lst [.ref c, .int 0, .int 0]) n3)
    have ncp : c ≠ p := fun e => by
      rw [e, upd_same] at n3
      cases n3
    refine q p c _ s3 (s2.free n3) (s1.free n2) ⟨ns.take 60, 0, 0, ?_, Nat.le_refl _, ?_, upd_same⟩
    · rw [List.length_take]
      omega
    · rw [upd_ne ncp, upd_same]
      congr 2
      rw [List.map_take]
      unfold cutV
      rw [HT.sIx_none, show HT.sIx (ns.map V.int).length (ns.map V.int).length (some 60) = min 60 (ns.map V.int).length from HT.sIx_nat _ _ 60, List.drop_zero, Nat.sub_zero]
      by_cases hl : (ns.map V.int).length ≤ 60
      · rw [Nat.min_eq_right hl, List.take_length, List.take_of_length_le hl]
      · rw [Nat.min_eq_left (by omega)]
theorem dp_ints {H : Hp} : ∀ cs : List Int, DpAll K H (cs.map V.int) (cs.map PyData.int)
  | [] => .nil
  | c :: r => .cons (.int c) (dp_ints r)
theorem lay_ints : ∀ cs : List Int, PyData.canLayAll0 (cs.map PyData.int) = true ∧ PyData.depthAll (cs.map PyData.int) = 0
  | [] => ⟨by simp [PyData.canLayAll0], by simp [PyData.depthAll]⟩
  | c :: r => by
    obtain ⟨h1, h2⟩ := lay_ints r
    refine ⟨?_, ?_⟩
    · simp [PyData.canLayAll0, PyData.canLay0, h1]
    · simp [PyData.depthAll, PyData.depth, h2]
theorem shaped_ints (cs : List Int) : SeqAt.shaped (.list (cs.map PyData.int)) = true := by
  obtain ⟨h1, h2⟩ := lay_ints cs
  simp [SeqAt.shaped, PyData.canLay0, h1, PyData.depth, h2]
theorem mod_sm {a m : Int} (h0 : 0 < m) (h : m < 2 ^ 64) : -(2 ^ 64) < a % m ∧ a % m < 2 ^ 64 := by
  have h1 := Int.emod_nonneg a (show m ≠ 0 by omega)
  have h2 := Int.emod_lt_of_pos a h0
  omega
theorem ok_next {f : Addr} {fd : FuncData} (D : DefAt K mg "_law_next" s_law_next ["_law_pen_here"] f fd) (B : Blt mg) : Ok P w K mg base 1 "_law_next" ["_law_pen_here"] spNext := by
  refine D.ok (D.fn.ok sc_law_next (fun vs H Q E h => ?_) (fun cdv A outer s H vs Q E hr h => ?_))
  · obtain ⟨p, c, n, rfl, _⟩ := h
    rfl
  · obtain ⟨p, c, n, rfl, hP, hn, q⟩ := h
    have ncp := hP.ne
    obtain ⟨cs, i, z, hcs, hi, hc, hp⟩ := hP
    have nd := sc_law_next.nd
    refine ⟨_, (pss_cons (ps_set (i := 1) nd rfl (Or.inl rfl) (pe_ix ix_list (pv 0) pe_int (fun _ _ => rfl)))
      (pss_cons (ps_asg (pe_op op_add (pv 1) pe_int) (pg_sub (pv 0) pe_int set_list))
      (pss_cons (ps_set (i := 2) nd rfl (Or.inl rfl) (pe_op op_add (pe_op op_mul (pv 1) pe_int) pe_int))
      (C8.pss_cut (ps_if (pt_cmpR (op_neD (hu_of64 hr)) (pe_ix ix_list (pv 0) pe_int (fun _ _ => rfl)) (pe_lst pa_nil) (nomark _)) (pss_one (ps_set (i := 2) nd rfl (Or.inl rfl) (pe_ix ix_list (pe_ix ix_list (pv 0) pe_int (fun _ _ => rfl)) (pe_op op_mod (pv 1) (pe_callB call_len_seq (by rfl) B.len PySem.boot_len (pa_cons (pe_ix ix_list (pv 0) pe_int (fun _ _ => rfl)) pa_nil))) (fun _ _ => rfl)))) pss_nil)
      (C8.pss_cut (ps_if (PW.pt (pw_and (pt_cmpR op_lt (pv 1) (pe_callB call_len_seq (by rfl) B.len PySem.boot_len (pa_cons (pe_ix ix_list (pv 0) pe_int (fun _ _ => rfl)) pa_nil)) (nomark _)) (pw_and1 (pt_cmpR op_ge (pv 2) (pe_op op_pow pe_int pe_int) (nomark _))))) (pss_one (ps_ret (pv 2))) pss_nil)
      (pss_cons (ps_set (i := 3) nd rfl (Or.inl rfl) (pe_op op_mod (pe_op op_add (pe_op op_add (pe_op op_mod (pv 2) pe_int) (pe_op op_mul (pv 1) pe_int)) pe_int) pe_int))
      (pss_cons (ps_set (i := 4) nd rfl (Or.inl rfl) (pe_op op_mod (pe_op op_add (pe_op op_add (pe_op op_mul (pv 3) (pv 3)) (pe_op op_mul (pv 1) pe_int)) pe_int) pe_int))
      (pss_cons (ps_set (i := 5) nd rfl (Or.inl rfl) (pe_op op_mod (pe_op op_add (pe_op op_add (pe_op op_mul (pv 4) (pv 4)) (pv 3)) (pe_op op_mul (pe_op op_mul (pv 1) (pv 1)) pe_int)) pe_int))
      (pss_one (ps_ret (pe_op op_add (pe_op op_mul (pe_op op_add (pe_op op_mul (pv 5) pe_int) (pv 4)) pe_int) (pv 3)))))))))))), ?_⟩
    -- index
    refine ⟨_, rfl, p, _, 1, _, rfl, rfl, SqL.of hp, rfl, ?_⟩
    -- pen[1] = index + 1
    refine ⟨_, rfl, i, 1, rfl, rfl, _, rfl, p, _, 1, 1, rfl, rfl, hp, rfl, ?_⟩
    -- cell = index * 1061 + 37
    refine ⟨_, rfl, i, 1061, rfl, rfl, .inr ⟨by decide, by decide⟩, _, 37, rfl, rfl, ?_⟩
    have hp1 : (upd H p (.lst [.ref c, .int (i + 1), .int z])) p = some (.lst [.ref c, .int (i + 1), .int z]) := upd_same
    have hc1 : (upd H p (.lst [.ref c, .int (i + 1), .int z])) c = some (.lst (cs.map V.int)) := by
      rw [upd_ne ncp]
      exact hc
    have b1 : But p H (upd H p (.lst [.ref c, .int (i + 1), .int z])) := But.upd
    generalize hH1 : upd H p (.lst [.ref c, .int (i + 1), .int z]) = H1 at hp1 hc1 b1
    -- if pen[0] != []
    refine ⟨fun σ H2 => ∃ cell : Int, σ = [some (.ref p), some (.int i), some (.int cell), none, none, none] ∧ Same H1 H2, ?_, ?_⟩
    · rw [← hH1] at hp1 hc1 ⊢
      refine ⟨_, rfl, p, _, 0, _, rfl, rfl, SqL.of hp1, rfl, Nat.zero_le _, fun t nt => ?_⟩
      have s1 := same_new (o := .lst []) nt
      have hp2 := s1 _ _ hp1
      have hc2 := s1 _ _ hc1
      refine ⟨_, _, .lst (SqL.of hc2) (dp_ints cs), .lst (SqL.of upd_same) (dp_ints []), shaped_ints cs, shaped_ints [], _, rfl, ?_⟩
      cases cs with
      | nil =>
        refine iteF ?_
        exact ⟨_, rfl, s1⟩
      | cons x r =>
        refine iteT ?_
        refine ⟨_, rfl, p, _, 0, _, rfl, rfl, SqL.of hp2, rfl, _, rfl, _, rfl, p, _, 0, _, rfl, rfl, SqL.of hp2, rfl, c, _, rfl, .inl (SqL.of hc2), _, _, rfl, rfl, ?_, ?_⟩
        · show (0 : Int) < (((x :: r).map V.int).length : Nat)
          rw [List.length_map, List.length_cons]
          omega
        · have hm0 : 0 ≤ (i : Int) % (((x :: r).map V.int).length : Nat) := Int.emod_nonneg _ (by rw [List.length_map, List.length_cons]; omega)
          have hm1 : (i : Int) % (((x :: r).map V.int).length : Nat) < (((x :: r).map V.int).length : Nat) := Int.emod_lt_of_pos _ (by rw [List.length_map, List.length_cons]; omega)
          generalize hj : (i : Int) % (((x :: r).map V.int).length : Nat) = j at hm0 hm1
          obtain ⟨k, rfl⟩ := Int.eq_ofNat_of_zero_le hm0
          have hk : k < (x :: r).length := by
            rw [List.length_map] at hm1
            omega
          refine ⟨c, _, k, .int (x :: r)[k], rfl, congrArg V.int hj, SqL.of hc2, atI_nat (by rw [List.getElem?_map, List.getElem?_eq_getElem hk]; rfl), ?_⟩
          exact ⟨_, rfl, s1⟩
    · rintro σ H2 ⟨cell, rfl, s2⟩
      have hp2 := s2 _ _ hp1
      have hc2 := s2 _ _ hc1
      have b2 : But p H H2 := b1.trans (But.of s2)
      have fin : ∀ r : Int, Q (.int r) H2 := fun r => q r H2 b2 ⟨cs, i + 1, z, hcs, by omega, hc2, hp2⟩
      -- if index < len(pen[0]) and cell >= 10 ** 18: return cell
      refine ⟨fun σ H3 => σ = [some (.ref p), some (.int i), some (.int cell), none, none, none] ∧ H3 = H2, ?_, ?_⟩
      · refine ⟨_, rfl, _, rfl, p, _, 0, _, rfl, rfl, SqL.of hp2, rfl, c, _, rfl, .inl (SqL.of hc2), _, _, rfl, rfl, _, rfl, ?_⟩
        refine ite2 (fun _ => ?_) (fun _ => ?_)
        · refine ⟨_, rfl, 10, 18, rfl, rfl, ⟨by decide, by decide, by decide⟩, _, _, rfl, rfl, _, rfl, ?_⟩
          refine ite2 (fun _ => ?_) (fun _ => ⟨rfl, rfl⟩)
          exact ⟨_, rfl, fin _⟩
        · exact iteF ⟨rfl, rfl⟩
      · rintro σ H3 ⟨rfl, rfl⟩
        refine ⟨_, rfl, cell, 2147483587, rfl, rfl, (by show (0 : Int) < 2147483587; decide), _, rfl, i, 50069, rfl, rfl, .inr ⟨by decide, by decide⟩, _, _, rfl, rfl, _, 61, rfl, rfl, _, 2147483587, rfl, rfl, (by show (0 : Int) < 2147483587; decide), ?_⟩
        refine ⟨_, rfl, _, rfl, _, _, rfl, rfl, .inl (mod_sm (by decide) (by decide)), _, rfl, i, 40013, rfl, rfl, .inr ⟨by decide, by decide⟩, _, _, rfl, rfl, _, 43, rfl, rfl, _, 2147483563, rfl, rfl, (by show (0 : Int) < 2147483563; decide), ?_⟩
        refine ⟨_, rfl, _, rfl, _, _, rfl, rfl, .inl (mod_sm (by decide) (by decide)), _, rfl, _, _, rfl, rfl, _, rfl, _, rfl, i, i, rfl, rfl, .inl ⟨by omega, by omega⟩, _, 19, rfl, rfl, .inr ⟨by decide, by decide⟩, _, _, rfl, rfl, _, 2147483549, rfl, rfl, (by show (0 : Int) < 2147483549; decide), ?_⟩
        refine ⟨_, rfl, _, 2147483587, rfl, rfl, .inr ⟨by decide, by decide⟩, _, rfl, _, _, rfl, rfl, _, 2147483563, rfl, rfl, .inr ⟨by decide, by decide⟩, _, rfl, _, _, rfl, rfl, ?_⟩
        exact fin _
theorem ok_draw {f : Addr} {fd : FuncData} (D : DefAt K mg "_law_draw" s_law_draw ["_law_pen_here", "_law_under"] f fd) (O_law_next : Ok P w K mg base 1 "_law_next" ["_law_pen_here"] spNext) : Ok P w K mg base 2 "_law_draw" ["_law_pen_here", "_law_under"] spDraw := by
  refine D.ok (D.fn.ok sc_law_draw (fun vs H Q E h => ?_) (fun cdv A outer s H vs Q E hr h => ?_))
  · obtain ⟨p, c, n, u, rfl, _⟩ := h
    rfl
  · obtain ⟨p, c, n, u, rfl, hP, hn, hu0, hu1, q⟩ := h
    have ncp := hP.ne
    have nd := sc_law_draw.nd
    refine ⟨_, (C8.pss_cut (ps_if (pt_cmpR op_lt (pe_ix ix_list (pv 0) pe_int (fun _ _ => rfl)) (pv 1) (nomark _)) (pss_one (ps_asg (pe_own O_law_next (hr.mono (by decide)) (pa_cons (pv 0) pa_nil)) (pg_sub (pv 0) pe_int set_list))) pss_nil)
      (pss_cons (ps_set (i := 2) nd rfl (Or.inl rfl) (pe_op op_mod (pe_ix ix_list (pv 0) pe_int (fun _ _ => rfl)) (pv 1)))
      (pss_cons (ps_asg (pe_op op_fdiv (pe_ix ix_list (pv 0) pe_int (fun _ _ => rfl)) (pv 1)) (pg_sub (pv 0) pe_int set_list))
      (pss_one (ps_ret (pv 2)))))), ?_⟩
    refine ⟨fun σ H2 => σ = [some (.ref p), some (.int u), none] ∧ But p H H2 ∧ PenAt H2 p c (n + 1), ?_, ?_⟩
    · have hP' := hP
      obtain ⟨cs, i, z, hcs, hi, hc, hp⟩ := hP
      refine ⟨_, rfl, p, _, 2, _, rfl, rfl, SqL.of hp, rfl, _, rfl, _, _, rfl, rfl, _, rfl, ?_⟩
      refine ite2 (fun _ => ?_) (fun _ => ⟨rfl, But.refl _ _, hP'.le (Nat.le_succ _)⟩)
      refine ⟨_, rfl, p, c, n, rfl, hP', hn, fun r H2 b2 hP2 => ?_⟩
      obtain ⟨cs, i, z, hcs, hi, hc, hp⟩ := hP2
      refine ⟨_, rfl, p, _, 2, 2, rfl, rfl, hp, rfl, ?_⟩
      refine ⟨rfl, b2.trans But.upd, cs, i, r, hcs, hi, ?_, upd_same⟩
      rw [upd_ne ncp]
      exact hc
    · rintro σ H2 ⟨rfl, b2, cs, i, z, hcs, hi, hc, hp⟩
      refine ⟨_, rfl, p, _, 2, _, rfl, rfl, SqL.of hp, rfl, _, rfl, z, u, rfl, rfl, hu0, ?_⟩
      refine ⟨_, rfl, p, _, 2, _, rfl, rfl, SqL.of hp, rfl, _, rfl, z, u, rfl, rfl, ⟨hu0, by omega⟩, _, rfl, p, _, 2, 2, rfl, rfl, hp, rfl, ?_⟩
      refine ⟨_, rfl, q _ _ (Int.emod_nonneg _ (by omega)) (Int.emod_lt_of_pos _ hu0) (b2.trans But.upd) ⟨cs, i, z / u, hcs, hi, ?_, upd_same⟩⟩
      rw [upd_ne ncp]
      exact hc
end
end Wnd

namespace Wnd
open PySem PySem.Spec PyProof.Rows L2
abbrev s_is_integer : Stmt := top 6
theorem sc_is_integer : FnScope ["thing"] ["thing"] (defScope s_is_integer) := ⟨rfl, rfl, rfl, by decide +kernel, rfl, by decide +kernel, by decide +kernel⟩
abbrev s_is_integer_within : Stmt := top 7
theorem sc_is_integer_within : FnScope ["thing", "least", "greatest"] ["thing", "least", "greatest"] (defScope s_is_integer_within) := ⟨rfl, rfl, rfl, by decide +kernel, rfl, by decide +kernel, by decide +kernel⟩
abbrev s_is_name : Stmt := top 8
theorem sc_is_name : FnScope ["thing", "letter"] ["thing"] (defScope s_is_name) := ⟨rfl, rfl, rfl, by decide +kernel, rfl, by decide +kernel, by decide +kernel⟩
structure Blt2 (mg : Str → Option Value) : Prop extends Blt mg where
  isinstance : mg "isinstance" = none
  int : mg "int" = none
  bool : mg "bool" = none
  str : mg "str" = none
  tuple : mg "tuple" = none
  all : mg "all" = none
  set : mg "set" = none
section
variable {P : Program} {w : World} {K : PySem.W.Frag} {mg : Str → Option Value} {base : Heap}
/-! ### kinds -/
/-- is x an integer -/
def IntQ (K : PySem.W.Frag) (H : Hp) (x : V) (b : Bool) : Prop := (∃ i, x = .int i ∧ b = true) ∨ (∃ k, x = .bl k ∧ b = false) ∨ (∃ t, TyX K H x t ∧ PySem.W.kitOne K t (.type "int") = some false ∧ b = false)
def spIsInt (K : PySem.W.Frag) : Sp := fun vs H Q _ => ∃ x b, vs = [x] ∧ IntQ K H x b ∧ Q (.bl b) H
theorem ok_is_integer {f : Addr} {fd : FuncData} (D : DefAt K mg "is_integer" s_is_integer ["thing"] f fd) (B : Blt2 mg) : Ok P w K mg base 1 "is_integer" ["thing"] (spIsInt K) := by
  refine D.ok (D.fn.ok sc_is_integer (fun vs H Q E h => ?_) (fun cdv A outer s H vs Q E hr h => ?_))
  · obtain ⟨x, b, rfl, _⟩ := h
    rfl
  · obtain ⟨x, b, rfl, hx, q⟩ := h
    refine ⟨_, (pss_one (ps_ret (pe_and (pe_callB call_isi (by rfl) B.isinstance (by decide +kernel) (pa_cons (pv 0) (pa_cons (pe_bltn (v := .ty "int") (by rfl) B.int (by decide +kernel) rfl) pa_nil))) (pe_one (pe_not (pe_callB call_isi (by rfl) B.isinstance (by decide +kernel) (pa_cons (pv 0) (pa_cons (pe_bltn (v := .ty "bool") (by rfl) B.bool (by decide +kernel) rfl) pa_nil)))))))), ?_⟩
    rcases hx with ⟨i, rfl, rfl⟩ | ⟨k, rfl, rfl⟩ | ⟨t, ty, kt, rfl⟩
    · refine ⟨_, rfl, _, _, _, _, true, rfl, .ty _, .base (.int i), kit_ty (by decide +kernel), true, rfl, ?_⟩
      refine ⟨_, rfl, _, _, _, _, false, rfl, .ty _, .base (.int i), kit_ty (by decide +kernel), false, rfl, ?_⟩
      exact q
    · refine ⟨_, rfl, _, _, _, _, true, rfl, .ty _, .base (.bl k), kit_ty (by decide +kernel), true, rfl, ?_⟩
      refine ⟨_, rfl, _, _, _, _, true, rfl, .ty _, .base (.bl k), kit_ty (by decide +kernel), true, rfl, ?_⟩
      exact q
    · refine ⟨_, rfl, _, _, _, _, false, rfl, .ty _, ty, kt, false, rfl, ?_⟩
      exact q
/-- is x an integer from lo to hi -/
def InQ (K : PySem.W.Frag) (H : Hp) (x : V) (lo hi : Int) (b : Bool) : Prop := (∃ i, x = .int i ∧ b = (decide (lo ≤ i) && decide (i ≤ hi))) ∨ (IntQ K H x false ∧ b = false)
def spIsIn (K : PySem.W.Frag) : Sp := fun vs H Q _ => ∃ x lo hi b, vs = [x, .int lo, .int hi] ∧ InQ K H x lo hi b ∧ Q (.bl b) H
theorem ok_is_integer_within {f : Addr} {fd : FuncData} (D : DefAt K mg "is_integer_within" s_is_integer_within ["thing", "least", "greatest"] f fd) (B : Blt2 mg) (O_is_integer : Ok P w K mg base 1 "is_integer" ["thing"] (spIsInt K)) :
    Ok P w K mg base 2 "is_integer_within" ["thing", "least", "greatest"] (spIsIn K) := by
  refine D.ok (D.fn.ok sc_is_integer_within (fun vs H Q E h => ?_) (fun cdv A outer s H vs Q E hr h => ?_))
  · obtain ⟨x, lo, hi, b, rfl, _⟩ := h
    rfl
  · obtain ⟨x, lo, hi, b, rfl, hx, q⟩ := h
    refine ⟨_, (pss_one (ps_ret (pe_and (pe_own O_is_integer (hr.mono (by decide)) (pa_cons (pv 0) pa_nil)) (pe_one (pe_chain op_le op_le (pv 1) (pv 0) (pv 2)))))), ?_⟩
    rcases hx with ⟨i, rfl, rfl⟩ | ⟨hn, rfl⟩
    · refine ⟨_, rfl, _, true, rfl, .inl ⟨i, rfl, rfl⟩, true, rfl, ?_⟩
      refine ⟨_, rfl, _, rfl, lo, i, rfl, rfl, _, rfl, ?_⟩
      refine ite2 (fun e => ?_) (fun e => ?_)
      · refine ⟨_, rfl, i, hi, rfl, rfl, ?_⟩
        rw [e, Bool.true_and] at q
        exact q
      · rw [Bool.not_eq_true] at e
        rw [e, Bool.false_and] at q
        exact q
    · exact ⟨_, rfl, x, false, rfl, hn, false, rfl, q⟩

/-! ### names -/
def letterOk (c : Nat) : Bool := !decide ([c] < [97]) && !decide ([122] < [c])
def nameB (t : Str) : Bool := decide ((1 : Int) ≤ t.length) && decide ((t.length : Int) ≤ 8) && t.cps.toList.all letterOk
def NamQ (K : PySem.W.Frag) (H : Hp) (x : V) (b : Bool) : Prop := (∃ t : Str, x = .str t ∧ t.length ≤ sizeLine ∧ b = nameB t) ∨ (∃ t, TyX K H x t ∧ PySem.W.kitOne K t (.type "str") = some false ∧ b = false)
def spIsName (K : PySem.W.Frag) : Sp := fun vs H Q _ => ∃ x b, vs = [x] ∧ NamQ K H x b ∧ ∀ H', Same H H' → Q (.bl b) H'
theorem ok_is_name {f : Addr} {fd : FuncData} (D : DefAt K mg "is_name" s_is_name ["thing"] f fd) (B : Blt2 mg) (C_LONGEST_NAME : ∃ t, mg "LONGEST_NAME" = some (.int 8 t)) : Ok P w K mg base 1 "is_name" ["thing"] (spIsName K) := by
  obtain ⟨lt, C_LONGEST_NAME⟩ := C_LONGEST_NAME
  refine D.ok (D.fn.ok sc_is_name (fun vs H Q E h => ?_) (fun cdv A outer s H vs Q E hr h => ?_))
  · obtain ⟨x, b, rfl, _⟩ := h
    rfl
  · obtain ⟨x, b, rfl, hx, q⟩ := h
    have nd := sc_is_name.nd
    refine ⟨_, (pss_cons (ps_if (PW.pt (pw_or (pt_not (pt_val (pe_callB call_isi (by rfl) B.isinstance (by decide +kernel) (pa_cons (pv 0) (pa_cons (pe_bltn (v := .ty "str") (by rfl) B.str (by decide +kernel) rfl) pa_nil))))) (pw_or1 (pt_not (pt_chain op_le op_le pe_int (pe_callB call_len_str (by rfl) B.len PySem.boot_len (pa_cons (pv 0) pa_nil)) (pe_glob (v := .int 8) rfl C_LONGEST_NAME ⟨_, rfl⟩)))))) (pss_one (ps_ret pe_bl)) pss_nil)
      (pss_one (ps_ret (pe_callB (cr_all rfl) (by rfl) B.all (by decide +kernel) (pa_cons (pe_lc (own := [("letter", 1)]) (g := gName 1) (tt := tYes) (by rfl) nd (pi_str (pv 0)) (blkOk_by (own := [("letter", 1)]) (N := ["thing", "letter"]) (sc := defScope s_is_name) (by decide +kernel)) (fun _ _ _ _ _ => (pg_name (i := 1) nd rfl (Or.inl rfl))) (fun _ _ _ _ _ => pts_nil) (fun _ _ _ _ _ => (pe_chain op_le_str op_le_str pe_str (pv 1) pe_str))) pa_nil))))), ?_⟩
    rcases hx with ⟨t, rfl, hz, rfl⟩ | ⟨ty, hty, kt, rfl⟩
    · refine ⟨_, rfl, _, _, _, _, true, rfl, .ty _, .base (.str t), kit_ty (by decide +kernel), true, rfl, ?_⟩
      refine ⟨_, rfl, t, rfl, hz, 1, t.length, rfl, rfl, _, rfl, ?_⟩
      refine ite2 (fun e1 => ?_) (fun e1 => ?_)
      · refine ⟨t.length, 8, rfl, rfl, _, rfl, ?_⟩
        refine ite2 (fun e2 => ?_) (fun e2 => ?_)
        · rw [Bool.not_eq_true'] at e2
          have : nameB t = false := by unfold nameB; rw [e2]; simp
          rw [this] at q
          exact q _ (Same.refl _)
        · rw [Bool.not_eq_true, Bool.not_eq_false'] at e2
          refine ⟨_, rfl, t, rfl, fun D hD => ?_⟩
          refine lc_map walk_str hD (t.cps.toList.map fun c => V.bl (letterOk c)) (by rw [List.length_map, Array.length_toList]) (by
            have h8 := of_decide_eq_true e2
            have : t.length = t.cps.size := rfl
            have : sizeLine > 8 := by decide
            omega) (fun _ _ => True.intro) ?_ ?_
          · rintro i x H2 H' hi R L s1 ⟨rfl, c, hc, rfl⟩ hR
            have hR := hR _ (Same.refl _)
            have ec : (t.cps.toList.map fun c => V.bl (letterOk c))[i] = V.bl (letterOk c) := by
              rw [List.getElem_map]
              have h2 : t.cps.toList[i]? = some c := by rw [← hc]; simp
              obtain ⟨h3, h4⟩ := List.getElem?_eq_some_iff.mp h2
              rw [h4]
            rw [ec] at hR
            refine ⟨rfl, ?_⟩
            refine iteT (B := L H') ?_
            refine ⟨_, rfl, ?_⟩
            refine ⟨_, _, rfl, rfl, _, rfl, ?_⟩
            refine ite2 (fun e3 => ?_) (fun e3 => ?_)
            · refine ⟨_, _, rfl, rfl, ?_⟩
              unfold letterOk at hR
              rw [show (!decide ([c] < [97])) = true from e3, Bool.true_and] at hR
              exact hR
            · rw [Bool.not_eq_true] at e3
              unfold letterOk at hR
              rw [show (!decide ([c] < [97])) = false from e3, Bool.false_and] at hR
              exact hR
          · intro H2 s2 h2
            refine ⟨D, t.cps.toList.map letterOk, rfl, SqL.of (by rw [List.map_map]; exact h2), ?_⟩
            have e : nameB t = (t.cps.toList.map letterOk).all id := by
              unfold nameB
              rw [show decide ((1 : Int) ≤ t.length) = true from e1, show decide ((t.length : Int) ≤ 8) = true from e2, List.all_map]
              rfl
            rw [e] at q
            exact q _ s2
      · rw [Bool.not_eq_true] at e1
        have : nameB t = false := by unfold nameB; rw [e1]; simp
        rw [this] at q
        exact ⟨_, rfl, q _ (Same.refl _)⟩
    · refine ⟨_, rfl, _, _, _, _, false, rfl, .ty _, hty, kt, false, rfl, ?_⟩
      exact q _ (Same.refl _)

/-- is x an end of a rule -/
def EndQ (K : PySem.W.Frag) (H : Hp) (x : V) (b : Bool) : Prop := (x = .non ∧ b = true) ∨ (x ≠ .non ∧ NamQ K H x b)
def spIsEnd (K : PySem.W.Frag) : Sp := fun vs H Q _ => ∃ x b, vs = [x] ∧ EndQ K H x b ∧ ∀ H', Same H H' → Q (.bl b) H'
/-- is x a rule between any names -/
def RulQ (K : PySem.W.Frag) (H : Hp) (x : V) (b : Bool) : Prop := (∃ t, TyX K H x t ∧ PySem.W.kitOne K t (.type "tuple") = some false ∧ b = false) ∨
  (∃ q xs, x = .ref q ∧ H q = some (.tup xs) ∧ xs.length ≠ 3 ∧ b = false) ∨
  (∃ q l h g bl bh bg, x = .ref q ∧ H q = some (.tup [l, h, g]) ∧ (∀ H', Same H H' → EndQ K H' l bl ∧ EndQ K H' h bh ∧ InQ K H' g (-999) 999 bg) ∧ b = (bl && bh && !decide (l = h) && bg))
def spIsRule (K : PySem.W.Frag) : Sp := fun vs H Q _ => ∃ x b, vs = [x] ∧ RulQ K H x b ∧ ∀ H', Same H H' → Q (.bl b) H'
theorem ends_scal {H : Hp} {l h : V} (a : EndQ K H l true) (b : EndQ K H h true) : scal l h = true := by
  rcases a with ⟨rfl, _⟩ | ⟨_, ⟨t, rfl, _⟩ | ⟨_, _, _, e⟩⟩
  · rcases b with ⟨rfl, _⟩ | ⟨_, ⟨t, rfl, _⟩ | ⟨_, _, _, e⟩⟩
    · rfl
    · rfl
    · cases e
  · rcases b with ⟨rfl, _⟩ | ⟨_, ⟨t, rfl, _⟩ | ⟨_, _, _, e⟩⟩
    · rfl
    · rfl
    · cases e
  · cases e
/-! ### lists of names -/
def DiffQ (K : PySem.W.Frag) (H : Hp) (x : V) (b : Bool) : Prop := (∃ t, TyX K H x t ∧ PySem.W.kitOne K t (.type "list") = some false ∧ b = false) ∨
  (∃ (a : Addr) (xs : List V) (bs : List Bool), x = .ref a ∧ TyX K H x (.type "list") ∧ SqL K H a xs ∧ xs.length < 1000 ∧ bs.length = xs.length ∧ (∀ (i : Nat) (y : V) (c : Bool), xs[i]? = some y → bs[i]? = some c → ∀ H', Same H H' → NamQ K H' y c) ∧
    ((bs.all id = false ∧ b = false) ∨ (∃ ts : List Str, xs = ts.map V.str ∧ bs.all id = true ∧ ts.Nodup ∧ b = true)))
def spDiff (K : PySem.W.Frag) : Sp := fun vs H Q _ => ∃ x b, vs = [x] ∧ DiffQ K H x b ∧ ∀ H', Same H H' → Q (.bl b) H'
theorem get_map {α β : Type} {f : α → β} {xs : List α} {i : Nat} {y : β} (h : (xs.map f)[i]? = some y) : ∃ x, xs[i]? = some x ∧ y = f x := by
  rw [List.getElem?_map] at h
  cases e : xs[i]? with
  | none => rw [e] at h; cases h
  | some x => rw [e] at h; cases h; exact ⟨x, rfl, rfl⟩
theorem get_bl {bs : List Bool} {i : Nat} (hi : i < (bs.map V.bl).length) : ∃ c, bs[i]? = some c ∧ (bs.map V.bl)[i] = V.bl c := by
  have h : i < bs.length := by rwa [List.length_map] at hi
  exact ⟨bs[i], List.getElem?_eq_getElem h, by rw [List.getElem_map]⟩
/-! ### the static method, asked off the class -/
structure OkS (P : Program) (w : World) (K : PySem.W.Frag) (mg : Str → Option Value) (base : Heap) (C : Addr) (k : Nat) (m : Str) (ps : List Str) (sp : Sp) : Prop where
  ex : ∃ (mc : Value) (p g : Addr) (fd : FuncData), ClX.CRead K C mc ∧ SMet K C mc m p g ∧ Binds K fd ps [] ∧ FnOk P w K mg base CX0 k g fd ps sp
theorem pe_statO {X : Cx} {C : Addr} {k : Nat} {m x : Str} {ps : List Str} {sp : Sp} {e : Expr} {es : List Expr} {pos apos p : Pos} {t : TA} {pl : Sem Bool} (O : OkS X.prog X.w X.K X.mg X.base C k m ps sp) (hm : X.mg x = some (.ref C)) (hr : Room k X.A) (ha : PA X (e :: es) t)
    (hg : Gl X x := by rfl) (hst : starEach (e :: es) X.env = (false, eval e X.env) :: starEach es X.env := by rfl) (hpl : (backTo pos (starEach es X.env)).any (·.1) = false := by rfl) (hd : (x == ("__debug__" : Str)) = false := by decide)
    (ht : eval (.Call (.Attribute (.Name x p) m apos) (e :: es) [] pos) X.env = (do
      let ov ← eval (.Name x p) X.env
      standAt apos.atName
      let (f, first) ← holding [ov] (getMethod ov m pl)
      callWith pos f first (backTo pos (starEach (e :: es) X.env)) (backToKw pos (keywordEach [] X.env))) := by rfl) :
    PE X (.Call (.Attribute (.Name x p) m apos) (e :: es) [] pos) (tStat C sp (tC (.ref C)) t) := by
  obtain ⟨mc, q, g, fd, h1, h2, h3, h4⟩ := O.ex
  exact pe_stat (pe_glob hg hm rfl hd) h1 h2 h4 h3 hr ha hst hpl ht
/-! ### rules between names -/
def endIn (ts : List Str) : Option Str → Bool
  | none => true
  | some t => ts.any (· == t)
def RulesQ (K : PySem.W.Frag) (H : Hp) (x y : V) (b : Bool) : Prop := (∃ t, TyX K H x t ∧ PySem.W.kitOne K t (.type "list") = some false ∧ b = false) ∨
  (∃ (a : Addr) (xs : List V) (bs : List Bool), x = .ref a ∧ TyX K H x (.type "list") ∧ SqL K H a xs ∧ xs.length < 100000 ∧ bs.length = xs.length ∧ (∀ (i : Nat) (y : V) (c : Bool), xs[i]? = some y → bs[i]? = some c → ∀ H', Same H H' → RulQ K H' y c) ∧
    ((bs.all id = false ∧ b = false) ∨ (∃ (rs : List (Rule × Addr)) (n : Addr) (ts : List Str), xs = rs.map (fun p => V.ref p.2) ∧ KeyTups H rs ∧ bs.all id = true ∧ y = .ref n ∧ SqL K H n (ts.map V.str) ∧ ts.length < 1000 ∧ b = rs.all fun p => endIn ts p.1.low && endIn ts p.1.high)))
def spRules (K : PySem.W.Frag) : Sp := fun vs H Q _ => ∃ x y b, vs = [x, y] ∧ RulesQ K H x y b ∧ ∀ H', Same H H' → Q (.bl b) H'
theorem end_in (ts : List Str) (e : Option Str) : inV (endV e) (V.non :: ts.map V.str) = endIn ts e := by
  cases e with
  | none => rfl
  | some t =>
    show (eqV V.non (V.str t) || (ts.map V.str).any fun y => eqV y (V.str t)) = ts.any (· == t)
    rw [List.any_map, show eqV V.non (V.str t) = false from rfl, Bool.false_or]
    rfl
theorem end_flat (e : Option Str) : flatV (endV e) = true := by cases e <;> rfl
theorem ends_flat (ts : List Str) : (V.non :: ts.map V.str).all flatV = true := by
  rw [List.all_cons, show flatV V.non = true from rfl, Bool.true_and, List.all_map]
  exact List.all_eq_true.mpr fun _ _ => rfl
/-! ### rules in ascending order -/
def spAscending (K : PySem.W.Frag) : Sp := fun vs H Q _ => ∃ (a : Addr) (rs : List (Rule × Addr)), vs = [.ref a] ∧ SqL K H a (rs.map fun p => V.ref p.2) ∧ KeyTups H rs ∧ (∀ p ∈ rs, Short p.1) ∧ rs.length < 100000 ∧
  ∀ p H', Same H H' → H p = none → H' p = some (.lst ((inOrder (putAll rs [])).map fun x => V.ref x.2)) → Q (.ref p) H'
theorem putAll_mem : ∀ (rs L : List (Rule × Addr)) (x : Rule × Addr), x ∈ putAll rs L → x ∈ L ∨ x ∈ rs
  | [], _, _, h => .inl h
  | r :: rs, L, x, h => by
    rcases putAll_mem rs (putR L r.1 r.2) x h with h | h
    · unfold putR at h
      split at h
      · exact .inl h
      · rcases List.mem_append.mp h with h | h
        · exact .inl h
        · exact .inr (List.mem_cons.mpr (.inl (List.mem_singleton.mp h)))
    · exact .inr (List.mem_cons_of_mem _ h)
/-! ### a system -/
theorem ps_never {X : Cx} {st : Stmt} : PS X st (fun _ _ _ => False) := ⟨fun _ _ _ _ _ _ h => h.elim⟩
def NamesOk (ts : List Str) : Prop := ts.Nodup ∧ (∀ t ∈ ts, nameB t = true) ∧ ts.length < 64
structure RuleOk (ts : List Str) (r : Rule) : Prop where
  low : endIn ts r.low = true
  high : endIn ts r.high = true
  ne : r.low ≠ r.high
  ge : -999 ≤ r.gap
  le : r.gap ≤ 999
theorem name_len {t : Str} (h : nameB t = true) : 1 ≤ t.length ∧ t.length ≤ 8 := by
  unfold nameB at h
  rw [Bool.and_eq_true, Bool.and_eq_true, decide_eq_true_iff, decide_eq_true_iff] at h
  omega
theorem name_line {t : Str} (h : nameB t = true) : t.length ≤ sizeLine := by
  have := (name_len h).2
  have : sizeLine > 8 := by decide
  omega
theorem end_name {ts : List Str} (N : NamesOk ts) {e : Option Str} (h : endIn ts e = true) : ∀ t, e = some t → nameB t = true := by
  rintro t rfl
  unfold endIn at h
  obtain ⟨x, hx, e⟩ := List.any_eq_true.mp h
  rw [← eq_of_beq e]
  exact N.2.1 x hx
theorem end_q {ts : List Str} (N : NamesOk ts) {H : Hp} {e : Option Str} (h : endIn ts e = true) : EndQ K H (endV e) true := by
  cases e with
  | none => exact .inl ⟨rfl, rfl⟩
  | some t =>
    have n := end_name N h t rfl
    exact .inr ⟨(fun z => nomatch z), .inl ⟨t, rfl, name_line n, n.symm⟩⟩
theorem RuleOk.short {ts : List Str} {r : Rule} (N : NamesOk ts) (h : RuleOk ts r) : Short r := ⟨fun t e => name_line (end_name N h.low t e), fun t e => name_line (end_name N h.high t e)⟩
theorem RuleOk.named {ts : List Str} {r : Rule} (N : NamesOk ts) (h : RuleOk ts r) : Named r := by
  refine ⟨fun e => ?_, fun e => ?_⟩
  · exact absurd (name_len (end_name N h.low _ e)).1 (by decide)
  · exact absurd (name_len (end_name N h.high _ e)).1 (by decide)
theorem RuleOk.rulQ {ts : List Str} {r : Rule} (N : NamesOk ts) (h : RuleOk ts r) {H : Hp} {q : Addr} (hq : H q = some (.tup (ruleV r))) : RulQ K H (.ref q) true := by
  refine .inr (.inr ⟨q, _, _, _, true, true, true, rfl, hq, fun H' s => ⟨end_q N h.low, end_q N h.high, .inl ⟨r.gap, rfl, ?_⟩⟩, ?_⟩)
  · rw [decide_eq_true h.ge, decide_eq_true h.le]
    rfl
  · rw [decide_eq_false fun e => h.ne (endV_inj e)]
    rfl
theorem diffQ {ts : List Str} (N : NamesOk ts) {H : Hp} {a : Addr} (ty : TyX K H (.ref a) (.type "list")) (hS : SqL K H a (ts.map V.str)) : DiffQ K H (.ref a) true := by
  refine .inr ⟨a, ts.map V.str, ts.map fun _ => true, rfl, ty, hS, ?_, ?_, ?_, .inr ⟨ts, rfl, ?_, N.1, rfl⟩⟩
  · rw [List.length_map]
    have := N.2.2
    omega
  · rw [List.length_map, List.length_map]
  · intro i y c hy hc H' _
    obtain ⟨t, ht, rfl⟩ := get_map hy
    obtain ⟨_, _, rfl⟩ := get_map hc
    have n := N.2.1 t (List.mem_of_getElem? ht)
    exact .inl ⟨t, rfl, name_line n, n.symm⟩
  · rw [List.all_map]
    exact List.all_eq_true.mpr fun _ _ => rfl
theorem rulesQ {ts : List Str} (N : NamesOk ts) {H : Hp} {a b : Addr} {rs : List (Rule × Addr)} (ty : TyX K H (.ref b) (.type "list")) (hS : SqL K H b (rs.map fun p => V.ref p.2)) (hk : KeyTups H rs) (hr : ∀ p ∈ rs, RuleOk ts p.1) (hz : rs.length < 100000)
    (hA : SqL K H a (ts.map V.str)) : RulesQ K H (.ref b) (.ref a) true := by
  refine .inr ⟨b, _, rs.map fun _ => true, rfl, ty, hS, ?_, ?_, ?_, .inr ⟨rs, a, ts, rfl, hk, ?_, rfl, hA, ?_, ?_⟩⟩
  · rwa [List.length_map]
  · rw [List.length_map, List.length_map]
  · intro i y c hy hc H' s
    obtain ⟨t, ht, rfl⟩ := get_map hy
    obtain ⟨_, _, rfl⟩ := get_map hc
    have m := List.mem_of_getElem? ht
    exact (hr t m).rulQ N (s _ _ (hk t m))
  · rw [List.all_map]
    exact List.all_eq_true.mpr fun _ _ => rfl
  · have := N.2.2
    omega
  · refine (List.all_eq_true.mpr fun p hp => ?_).symm
    rw [(hr p hp).low, (hr p hp).high]
    rfl
def sysF (ln lr : Addr) : List (Str × V) := putF "_rules" (.ref lr) (putF "_names" (.ref ln) [])
theorem sysF_names (ln lr : Addr) : (sysF ln lr).lookup ("_names" : Str) = some (.ref ln) := by
  unfold sysF
  rw [lookup_putF, if_neg (by decide +kernel), lookup_putF, if_pos rfl]
theorem sysF_rules (ln lr : Addr) : (sysF ln lr).lookup ("_rules" : Str) = some (.ref lr) := by
  unfold sysF
  rw [lookup_putF, if_pos rfl]
theorem sysF_no {ln lr : Addr} {m : Str} (h1 : ¬ m = "_names") (h2 : ¬ m = "_rules") : (sysF ln lr).lookup m = none := by
  unfold sysF
  rw [lookup_putF, if_neg h2, lookup_putF, if_neg h1]
  rfl
structure SysOk (ns : List Str) (L : List (Rule × Addr)) : Prop where
  names : NamesOk ns
  rules : ∀ p ∈ L, RuleOk ns p.1
  len : L.length < 100000
  ord : sortN ns = ns
  can : canon (L.map (·.1)) = L.map (·.1)
/-- a system with the names ns and the rules L stands at x -/
def SysAt (C : Addr) (H : Hp) (x : Addr) (ns : List Str) (L : List (Rule × Addr)) : Prop :=
  ∃ dx ln lr, H x = some (.ins C dx (sysF ln lr)) ∧ H ln = some (.lst (ns.map V.str)) ∧ H lr = some (.lst (L.map fun p => V.ref p.2)) ∧ KeyTups H L ∧ SysOk ns L
theorem SysAt.same {C x : Addr} {H H' : Hp} {ns : List Str} {L : List (Rule × Addr)} (h : SysAt C H x ns L) (s : Same H H') : SysAt C H' x ns L := by
  obtain ⟨dx, ln, lr, h1, h2, h3, h4, h5⟩ := h
  exact ⟨dx, ln, lr, s _ _ h1, s _ _ h2, s _ _ h3, fun p hp => s _ _ (h4 p hp), h5⟩
theorem NamesOk.perm {a b : List Str} (h : NamesOk a) (p : a.Perm b) : NamesOk b :=
  ⟨p.nodup_iff.mp h.1, fun t ht => h.2.1 t (p.mem_iff.mpr ht), by rw [← p.length_eq]; exact h.2.2⟩
theorem endIn_perm {a b : List Str} (p : ∀ t, t ∈ a → t ∈ b) {e : Option Str} (h : endIn a e = true) : endIn b e = true := by
  cases e with
  | none => rfl
  | some t =>
    unfold endIn at h ⊢
    obtain ⟨x, hx, e⟩ := List.any_eq_true.mp h
    exact List.any_eq_true.mpr ⟨x, p x hx, e⟩
theorem RuleOk.perm {a b : List Str} {r : Rule} (h : RuleOk a r) (p : ∀ t, t ∈ a → t ∈ b) : RuleOk b r := ⟨endIn_perm p h.low, endIn_perm p h.high, h.ne, h.ge, h.le⟩
/-- .. and it and its lists were laid after H -/
def SysNew (C : Addr) (H H' : Hp) (x : Addr) (ns : List Str) (L : List (Rule × Addr)) : Prop :=
  ∃ dx ln lr, H' x = some (.ins C dx (sysF ln lr)) ∧ H' ln = some (.lst (ns.map V.str)) ∧ H' lr = some (.lst (L.map fun p => V.ref p.2)) ∧ KeyTups H' L ∧ SysOk ns L ∧ H ln = none ∧ H lr = none
theorem SysNew.at_ {C x : Addr} {H H' : Hp} {ns : List Str} {L : List (Rule × Addr)} (h : SysNew C H H' x ns L) : SysAt C H' x ns L := by
  obtain ⟨dx, ln, lr, h1, h2, h3, h4, h5, _⟩ := h
  exact ⟨dx, ln, lr, h1, h2, h3, h4, h5⟩
theorem SysNew.from_ {C x : Addr} {H H0 H' : Hp} {ns : List Str} {L : List (Rule × Addr)} (h : SysNew C H H' x ns L) (s : Same H0 H) : SysNew C H0 H' x ns L := by
  obtain ⟨dx, ln, lr, h1, h2, h3, h4, h5, h6, h7⟩ := h
  exact ⟨dx, ln, lr, h1, h2, h3, h4, h5, s.free h6, s.free h7⟩
/-- .. and it, its lists and its rules are elsewhere than F -/
def SysOff (F : Addr → Prop) (C : Addr) (H : Hp) (x : Addr) (ns : List Str) (L : List (Rule × Addr)) : Prop :=
  ∃ dx ln lr, H x = some (.ins C dx (sysF ln lr)) ∧ H ln = some (.lst (ns.map V.str)) ∧ H lr = some (.lst (L.map fun p => V.ref p.2)) ∧ KeyTups H L ∧ SysOk ns L ∧ ¬ F x ∧ ¬ F ln ∧ ¬ F lr ∧ ∀ p ∈ L, ¬ F p.2
theorem SysOff.at_ {F : Addr → Prop} {C x : Addr} {H : Hp} {ns : List Str} {L : List (Rule × Addr)} (h : SysOff F C H x ns L) : SysAt C H x ns L := by
  obtain ⟨dx, ln, lr, h1, h2, h3, h4, h5, _⟩ := h
  exact ⟨dx, ln, lr, h1, h2, h3, h4, h5⟩
/-- nothing outside F has changed -/
def Out (F : Addr → Prop) (H H' : Hp) : Prop := ∀ b o, H b = some o → ¬ F b → H' b = some o
theorem Out.of {F : Addr → Prop} {H H' : Hp} (s : Same H H') : Out F H H' := fun b o h _ => s b o h
theorem Out.trans {F : Addr → Prop} {H H1 H2 : Hp} (a : Out F H H1) (b : Out F H1 H2) : Out F H H2 := fun c o h n => b c o (a c o h n) n
theorem Out.upd {F : Addr → Prop} {H : Hp} {a : Addr} {o : HO} (h : F a) : Out F H (L2.upd H a o) := fun b u e n => by
  rw [upd_ne (show b ≠ a from fun z => n (by rw [z]; exact h))]
  exact e
theorem Out.but {F : Addr → Prop} {H H' : Hp} {p : Addr} (b : But p H H') (hp : F p) : Out F H H' := fun c o h n => b c o h fun z => n (by rw [z]; exact hp)
theorem SysOff.out {F : Addr → Prop} {C x : Addr} {H H' : Hp} {ns : List Str} {L : List (Rule × Addr)} (h : SysOff F C H x ns L) (s : Out F H H') : SysOff F C H' x ns L := by
  obtain ⟨dx, ln, lr, h1, h2, h3, h4, h5, n1, n2, n3, n4⟩ := h
  exact ⟨dx, ln, lr, s _ _ h1 n1, s _ _ h2 n2, s _ _ h3 n3, fun p hp => s _ _ (h4 p hp) (n4 p hp), h5, n1, n2, n3, n4⟩
/-- F holds lists that stood before it was made -/
theorem SysNew.off {F : Addr → Prop} {C x : Addr} {H H' : Hp} {ns : List Str} {L : List (Rule × Addr)} (h : SysNew C H H' x ns L) (s : Same H H') (hF : ∀ a, F a → ∃ xs, H a = some (.lst xs)) : SysOff F C H' x ns L := by
  obtain ⟨dx, ln, lr, h1, h2, h3, h4, h5, n2, n3⟩ := h
  refine ⟨dx, ln, lr, h1, h2, h3, h4, h5, fun z => ?_, fun z => ?_, fun z => ?_, fun p hp z => ?_⟩
  · obtain ⟨xs, e⟩ := hF _ z
    rw [s _ _ e] at h1
    cases h1
  · obtain ⟨xs, e⟩ := hF _ z
    rw [n2] at e
    cases e
  · obtain ⟨xs, e⟩ := hF _ z
    rw [n3] at e
    cases e
  · obtain ⟨xs, e⟩ := hF _ z
    have := h4 p hp
    rw [s _ _ e] at this
    cases this
structure SysC (K : PySem.W.Frag) (mg : Str → Option Value) (C : Addr) : Prop where
  cl : Cls K C
  nN : NoAttr K C "_names"
  nR : NoAttr K C "_rules"
  mgC : mg "System" = some (.ref C)
def spInit (C : Addr) : Sp := fun vs H Q _ => ∃ (x a b dx : Addr) (ts : List Str) (rs : List (Rule × Addr)), vs = [.ref x, .ref a, .ref b] ∧ H x = some (.ins C dx []) ∧ H a = some (.lst (ts.map V.str)) ∧ NamesOk ts ∧
  H b = some (.lst (rs.map fun p => V.ref p.2)) ∧ KeyTups H rs ∧ (∀ p ∈ rs, RuleOk ts p.1) ∧ rs.length < 100000 ∧ ∀ H', But x H H' → SysNew C H H' x (sortN ts) (inOrder (putAll rs [])) → Q .non H'
/-! ### == -/
def endD : Option Str → PyData
  | none => .none
  | some t => .str t
def ruleD (r : Rule) : PyData := .tuple [endD r.low, endD r.high, .int r.gap]
theorem dp_end {H : Hp} : ∀ e : Option Str, Dp K H (endV e) (endD e)
  | none => .non
  | some t => .str t
theorem dp_rules {H : Hp} : ∀ {L : List (Rule × Addr)}, KeyTups H L → DpAll K H (L.map fun p => V.ref p.2) (L.map fun p => ruleD p.1)
  | [], _ => .nil
  | p :: r, h => .cons (.tup (SqT.of (h p (List.mem_cons_self ..))) (.cons (dp_end _) (.cons (dp_end _) (.cons (.int _) .nil)))) (dp_rules fun q hq => h q (List.mem_cons_of_mem _ hq))
theorem dp_strs {H : Hp} : ∀ ts : List Str, DpAll K H (ts.map V.str) (ts.map PyData.str)
  | [] => .nil
  | t :: r => .cons (.str t) (dp_strs r)
theorem name_strOk {t : Str} (h : nameB t = true) : PyData.strOk t = true := by
  unfold nameB at h
  rw [Bool.and_eq_true, List.all_eq_true] at h
  unfold PyData.strOk
  rw [← Array.all_toList, List.all_eq_true]
  intro c hc
  have := h.2 c hc
  unfold letterOk at this
  rw [Bool.and_eq_true, Bool.not_eq_true', Bool.not_eq_true', decide_eq_false_iff_not, decide_eq_false_iff_not] at this
  rw [decide_eq_true_iff]
  have h2 : ¬ (122 < c) := fun z => this.2 (List.Lex.rel z)
  omega
theorem lay_strs : ∀ ts : List Str, (∀ t ∈ ts, PyData.strOk t = true) → PyData.canLayAll0 (ts.map PyData.str) = true ∧ PyData.depthAll (ts.map PyData.str) = 0
  | [], _ => ⟨by simp [PyData.canLayAll0], by simp [PyData.depthAll]⟩
  | c :: r, h => by
    obtain ⟨h1, h2⟩ := lay_strs r fun t ht => h t (List.mem_cons_of_mem _ ht)
    have h3 := h c (List.mem_cons_self ..)
    refine ⟨?_, ?_⟩
    · simp [PyData.canLayAll0, PyData.canLay0, h1, h3]
    · simp [PyData.depthAll, PyData.depth, h2]
theorem shaped_strs (ts : List Str) (h : ∀ t ∈ ts, PyData.strOk t = true) : SeqAt.shaped (.list (ts.map PyData.str)) = true := by
  obtain ⟨h1, h2⟩ := lay_strs ts h
  simp [SeqAt.shaped, PyData.canLay0, h1, PyData.depth, h2]
/-- its texts can be laid -/
def ROk (r : Rule) : Prop := (∀ t, r.low = some t → PyData.strOk t = true) ∧ ∀ t, r.high = some t → PyData.strOk t = true
theorem RuleOk.rok {ts : List Str} {r : Rule} (N : NamesOk ts) (h : RuleOk ts r) : ROk r := ⟨fun t e => name_strOk (end_name N h.low t e), fun t e => name_strOk (end_name N h.high t e)⟩
theorem lay_rule (r : Rule) (h : ROk r) : PyData.canLay0 (ruleD r) = true ∧ (ruleD r).depth = 1 := by
  obtain ⟨l, g, n⟩ := r
  obtain ⟨h1, h2⟩ := h
  have hl : PyData.canLay0 (endD l) = true ∧ (endD l).depth = 0 := by
    cases l with
    | none => exact ⟨by simp [endD, PyData.canLay0], by simp [endD, PyData.depth]⟩
    | some t => exact ⟨by simp [endD, PyData.canLay0, h1 t rfl], by simp [endD, PyData.depth]⟩
  have hg : PyData.canLay0 (endD g) = true ∧ (endD g).depth = 0 := by
    cases g with
    | none => exact ⟨by simp [endD, PyData.canLay0], by simp [endD, PyData.depth]⟩
    | some t => exact ⟨by simp [endD, PyData.canLay0, h2 t rfl], by simp [endD, PyData.depth]⟩
  refine ⟨?_, ?_⟩
  · simp [ruleD, PyData.canLay0, PyData.canLayAll0, hl.1, hg.1]
  · simp [ruleD, PyData.depth, PyData.depthAll, hl.2, hg.2]
theorem lay_rules : ∀ L : List (Rule × Addr), (∀ p ∈ L, ROk p.1) → PyData.canLayAll0 (L.map fun p => ruleD p.1) = true ∧ PyData.depthAll (L.map fun p => ruleD p.1) ≤ 1
  | [], _ => ⟨by simp [PyData.canLayAll0], by simp [PyData.depthAll]⟩
  | c :: r, h => by
    obtain ⟨h1, h2⟩ := lay_rules r fun t ht => h t (List.mem_cons_of_mem _ ht)
    obtain ⟨h3, h4⟩ := lay_rule c.1 (h c (List.mem_cons_self ..))
    refine ⟨?_, ?_⟩
    · simp [PyData.canLayAll0, h1, h3]
    · simp only [List.map_cons, PyData.depthAll, h4]
      omega
theorem shaped_rules (L : List (Rule × Addr)) (h : ∀ p ∈ L, ROk p.1) : SeqAt.shaped (.list (L.map fun p => ruleD p.1)) = true := by
  obtain ⟨h1, h2⟩ := lay_rules L h
  simp [SeqAt.shaped, PyData.canLay0, h1, PyData.depth]
  omega
theorem eqv_strs : ∀ a b : List Str, PyData.eqvAll (a.map PyData.str) (b.map PyData.str) = decide (a = b)
  | [], [] => by simp [PyData.eqvAll]
  | [], _ :: _ => by simp [PyData.eqvAll]
  | _ :: _, [] => by simp [PyData.eqvAll]
  | x :: a, y :: b => by
    rw [List.map_cons, List.map_cons, PyData.eqvAll, eqv_strs a b]
    rw [Bool.eq_iff_iff]
    simp [PyData.eqv]
theorem eqv_end (a b : Option Str) : PyData.eqv (endD a) (endD b) = decide (a = b) := by
  rw [Bool.eq_iff_iff]
  cases a <;> cases b <;> simp [endD, PyData.eqv]
theorem eqv_rule (a b : Rule) : PyData.eqv (ruleD a) (ruleD b) = decide (a = b) := by
  unfold ruleD
  rw [PyData.eqv, PyData.eqvAll, PyData.eqvAll, PyData.eqvAll, PyData.eqvAll, eqv_end, eqv_end]
  rw [Bool.eq_iff_iff]
  obtain ⟨a1, a2, a3⟩ := a
  obtain ⟨b1, b2, b3⟩ := b
  simp [PyData.eqv]
theorem eqv_rules : ∀ a b : List (Rule × Addr), PyData.eqvAll (a.map fun p => ruleD p.1) (b.map fun p => ruleD p.1) = decide (a.map (·.1) = b.map (·.1))
  | [], [] => by simp [PyData.eqvAll]
  | [], _ :: _ => by simp [PyData.eqvAll]
  | _ :: _, [] => by simp [PyData.eqvAll]
  | x :: a, y :: b => by
    rw [List.map_cons, List.map_cons, PyData.eqvAll, eqv_rules a b, eqv_rule]
    rw [Bool.eq_iff_iff]
    simp

/-- the answer of == to a system with the names ns and the rules L -/
def EqAns (K : PySem.W.Frag) (C : Addr) (H : Hp) (ns : List Str) (L : List (Rule × Addr)) (y : V) (b : Bool) : Prop :=
  (∃ (z : Addr) (ns' : List Str) (L' : List (Rule × Addr)), y = .ref z ∧ SysAt C H z ns' L' ∧ b = (decide (ns = ns') && decide (L.map (·.1) = L'.map (·.1)))) ∨ (∃ t, TyX K H y t ∧ PySem.W.kitOne K t (.ref C) = some false ∧ b = false)
def spEq (K : PySem.W.Frag) (C : Addr) : Sp := fun vs H Q _ => ∃ (x : Addr) (y : V) (ns : List Str) (L : List (Rule × Addr)) (b : Bool), vs = [.ref x, y] ∧ SysAt C H x ns L ∧ EqAns K C H ns L y b ∧ Q (.bl b) H
end
end Wnd

namespace Wnd
open PySem PySem.Spec PyProof.Rows L2
section
variable {P : Program} {w : World} {K : PySem.W.Frag} {mg : Str → Option Value} {base : Heap}
/-- the pool at a keeps as it is -/
def spSome (K : PySem.W.Frag) : Sp := fun vs H Q _ => ∃ (p c a : Addr) (n m : Nat) (xs : List V), vs = [.ref p, .ref a, .int m] ∧ PenAt H p c n ∧ n ≤ 900000 ∧ SqL K H a xs ∧ xs.length < 1000 ∧ m ≤ 1000 ∧
  ∀ r H' n' (ys rest : List V), But p H H' → H r = none → H' r = some (.lst ys) → (ys ++ rest).Perm xs → ys.length ≤ m → PenAt H' p c n' → n' ≤ n + m + 1 → Q (.ref r) H'
theorem perm_pop {ys rest xs : List V} {k : Nat} (hk : k < rest.length) (h : (ys ++ rest).Perm xs) : ((ys ++ [rest[k]]) ++ rest.eraseIdx k).Perm xs := by
  refine List.Perm.trans ?_ h
  rw [List.append_assoc]
  refine List.Perm.append_left ys ?_
  rw [List.singleton_append]
  exact cons_erase rest k hk
theorem PenAt.upd {H : Hp} {p c a : Addr} {n : Nat} {o : HO} (h : PenAt H p c n) (hp : a ≠ p) (hc : a ≠ c) : PenAt (L2.upd H a o) p c n := by
  obtain ⟨cs, i, z, g1, g2, g3, g4⟩ := h
  exact ⟨cs, i, z, g1, g2, by rw [upd_ne hc.symm]; exact g3, by rw [upd_ne hp.symm]; exact g4⟩
theorem PenAt.cells {H : Hp} {p c : Addr} {n : Nat} (h : PenAt H p c n) : ∃ o, H c = Option.some o := by
  obtain ⟨cs, i, z, g1, g2, g3, g4⟩ := h
  exact ⟨_, g3⟩
theorem PenAt.out {H : Hp} {p c a : Addr} {n : Nat} (h : PenAt H p c n) (ha : H a = none) : a ≠ p ∧ a ≠ c := by
  obtain ⟨o, ho⟩ := h.some
  obtain ⟨o', ho'⟩ := h.cells
  exact ⟨(ne_of_none ho ha).symm, (ne_of_none ho' ha).symm⟩
theorem PenAt.ne_strs {H : Hp} {p c a : Addr} {n : Nat} {ts : List Str} (h : PenAt H p c n) (ha : H a = Option.some (.lst (ts.map V.str))) : a ≠ p := by
  obtain ⟨cs, i, z, g1, g2, g3, g4⟩ := h
  refine L2.ne_of ha g4 fun e => ?_
  cases ts with
  | nil => cases e
  | cons x r => cases e
theorem PenAt.ne_refs {H : Hp} {p c a : Addr} {n : Nat} {L : List Addr} (h : PenAt H p c n) (ha : H a = Option.some (.lst (L.map V.ref))) : a ≠ p := by
  obtain ⟨cs, i, z, g1, g2, g3, g4⟩ := h
  refine L2.ne_of ha g4 fun e => ?_
  cases L with
  | nil => cases e
  | cons x r =>
    cases r with
    | nil => cases e
    | cons y r => cases e
theorem PenAt.ne_of {H : Hp} {p c a : Addr} {n : Nat} {o : HO} (h : PenAt H p c n) (ha : H a = Option.some o) (no : ∀ xs, o ≠ .lst xs) : a ≠ p := by
  obtain ⟨cs, i, z, g1, g2, g3, g4⟩ := h
  exact L2.ne_of ha g4 fun e => no _ e
theorem seqIx_nat {k n : Nat} (h : k < n) : seqIndex? (k : Int) n = some k := by
  unfold seqIndex?
  have h0 : ¬ ((k : Int) < 0) := by omega
  simp [h0, h]
def nymPool : List Str := ["a", "ab", "b", "c", "none", "x", "abcdefgh", "settings", "zz"]
theorem pool_nodup : nymPool.Nodup := by decide +kernel
theorem pool_names : ∀ t ∈ nymPool, nameB t = true := by decide +kernel
def spNyms : Sp := fun vs H Q _ => ∃ (p c : Addr) (n m : Nat), vs = [.ref p, .int m] ∧ PenAt H p c n ∧ n ≤ 900000 ∧ m ≤ 1000 ∧
  ∀ r H' n' (ts : List Str), But p H H' → H r = none → H' r = some (.lst (ts.map V.str)) → ts.Nodup → (∀ t ∈ ts, t ∈ nymPool) → ts.length ≤ m → PenAt H' p c n' → n' ≤ n + m + 1 → Q (.ref r) H'
theorem map_of_perm {ys rest : List V} {ts : List Str} (h : (ys ++ rest).Perm (ts.map V.str)) (nd : ts.Nodup) : ∃ us : List Str, ys = us.map V.str ∧ us.Nodup ∧ ∀ t ∈ us, t ∈ ts := by
  have all : ∀ y ∈ ys, ∃ t ∈ ts, V.str t = y := fun y hy => List.mem_map.mp (h.mem_iff.mp (List.mem_append_left _ hy))
  have ndm : (ys ++ rest).Nodup := h.nodup_iff.mpr (by
    refine List.Pairwise.map V.str (fun a b ne e => ne (by injection e)) nd)
  have ndy := (List.nodup_append.mp ndm).1
  clear h ndm
  induction ys with
  | nil => exact ⟨[], rfl, List.nodup_nil, fun _ h => nomatch h⟩
  | cons y r ih =>
    obtain ⟨us, rfl, h1, h2⟩ := ih (fun y hy => all y (List.mem_cons_of_mem _ hy)) (List.nodup_cons.mp ndy).2
    obtain ⟨t, ht, rfl⟩ := all y (List.mem_cons_self ..)
    refine ⟨t :: us, rfl, List.nodup_cons.mpr ⟨fun m => (List.nodup_cons.mp ndy).1 (List.mem_map.mpr ⟨t, m, rfl⟩), h1⟩, fun x hx => ?_⟩
    rcases List.mem_cons.mp hx with rfl | hx
    · exact ht
    · exact h2 x hx
/-! ### numbers of the settings -/
def goalKV (g : List (Str × Int)) : List (Key × V) := g.map fun x => (Sum.inr x.1, V.int x.2)
theorem mergeK_app : ∀ (more acc : List (Key × V)), ((acc ++ more).map (·.1)).Nodup → mergeK acc more = acc ++ more
  | [], acc, _ => (List.append_nil acc).symm
  | x :: r, acc, h => by
    have h2 : acc ++ x :: r = (acc ++ [x]) ++ r := by rw [List.append_assoc]; rfl
    rw [h2] at h ⊢
    have e : putK acc x.1 x.2 = acc ++ [x] := by
      unfold putK
      rw [if_neg]
      intro z
      obtain ⟨y, hy, e⟩ := List.any_eq_true.mp z
      have e := of_decide_eq_true e
      rw [List.map_append, List.map_append] at h
      have h3 := (List.nodup_append.mp (List.nodup_append.mp h).1).2.2
      exact h3 y.1 (List.mem_map.mpr ⟨y, hy, rfl⟩) x.1 (List.mem_singleton.mpr rfl) e
    show mergeK (putK acc x.1 x.2) r = _
    rw [e]
    exact mergeK_app r (acc ++ [x]) h
theorem goal_keys (g : List (Str × Int)) : (goalKV g).map (·.1) = (g.map (·.1)).map Sum.inr := by
  unfold goalKV
  rw [List.map_map, List.map_map]
  rfl
theorem goal_merge {g : List (Str × Int)} (h : (g.map (·.1)).Nodup) : mergeK [] (goalKV g) = goalKV g := by
  refine (mergeK_app (goalKV g) [] ?_).trans (List.nil_append _)
  rw [List.nil_append, goal_keys]
  exact List.Pairwise.map Sum.inr (fun a b ne e => ne (by injection e)) h
def spGoal (K : PySem.W.Frag) : Sp := fun vs H Q _ => ∃ (p c a : Addr) (n : Nat) (ts : List Str), vs = [.ref p, .ref a] ∧ PenAt H p c n ∧ n ≤ 900000 ∧ H a = some (.lst (ts.map V.str)) ∧ ts.Nodup ∧ ts.length < 1000 ∧
  ∀ r H' n' (g : List (Str × Int)), But p H H' → H r = none → H' r = some (.dK (goalKV g)) → g.map (·.1) = ts → (∀ x ∈ g, -900 ≤ x.2 ∧ x.2 ≤ 900) → PenAt H' p c n' → n' ≤ n + ts.length + 1 → Q (.ref r) H'
theorem pick {xs : List Int} {d : Int} (h0 : 0 ≤ d) (h1 : d < xs.length) : ∃ w, w ∈ xs ∧ atI (xs.map V.int) d = some (.int w) := by
  obtain ⟨k, rfl⟩ := Int.eq_ofNat_of_zero_le h0
  have hk : k < xs.length := by omega
  exact ⟨xs[k], List.getElem_mem hk, atI_nat (by rw [List.getElem?_map, List.getElem?_eq_getElem hk]; rfl)⟩
/-- the number of an end -/
def valG (g : List (Str × Int)) : Option Str → Int
  | none => 0
  | some t => (g.lookup t).getD 0
def spAt : Sp := fun vs H Q _ => ∃ (d : Addr) (g : List (Str × Int)) (e : Option Str), vs = [.ref d, endV e] ∧ H d = some (.dK (goalKV g)) ∧ (∀ t, e = some t → t ∈ g.map (·.1)) ∧ Q (.int (valG g e)) H
theorem goal_val {t : Str} : ∀ {g : List (Str × Int)}, t ∈ g.map (·.1) → valV (goalKV g) (Sum.inr t) = some (.int (valG g (some t)))
  | [], h => nomatch h
  | (a, b) :: r, h => by
    by_cases e : a = t
    · have h1 : valV (goalKV ((a, b) :: r)) (Sum.inr t) = some (.int b) := valV_pos (κ := Key) (p := (Sum.inr a, V.int b)) (r := goalKV r) (congrArg Sum.inr e)
      rw [h1]
      show some (V.int b) = some (V.int ((List.lookup t ((a, b) :: r)).getD 0))
      rw [List.lookup_cons, show (t == a) = true from beq_iff_eq.mpr e.symm]
      rfl
    · have h2 : t ∈ r.map (·.1) := by
        rcases List.mem_cons.mp h with h | h
        · exact absurd h.symm e
        · exact h
      have h1 : valV (goalKV ((a, b) :: r)) (Sum.inr t) = valV (goalKV r) (Sum.inr t) := by
        unfold goalKV valV
        rw [List.map_cons, List.find?_cons]
        have : decide ((Sum.inr a : Key) = Sum.inr t) = false := decide_eq_false fun z => e (by injection z)
        simp only [this]
      rw [h1, goal_val h2]
      show some (V.int ((List.lookup t r).getD 0)) = some (V.int ((List.lookup t ((a, b) :: r)).getD 0))
      rw [List.lookup_cons, show (t == a) = false from beq_eq_false_iff_ne.mpr fun z => e z.symm]
/-! ### rules that all of some numbers keep -/
def Holds (g : List (Str × Int)) (r : Rule) : Prop := valG g r.low + r.gap ≤ valG g r.high
def GoalsAt (H : Hp) (b : Addr) (gs : List (Addr × List (Str × Int))) : Prop := H b = some (.lst (gs.map fun x => V.ref x.1)) ∧ ∀ x ∈ gs, H x.1 = some (.dK (goalKV x.2))
def spGaps : Sp := fun vs H Q _ => ∃ (p c a b : Addr) (n m : Nat) (ts : List Str) (gs : List (Addr × List (Str × Int))), vs = [.ref p, .ref a, .ref b, .int m] ∧ PenAt H p c n ∧ n ≤ 800000 ∧ H a = some (.lst (ts.map V.str)) ∧ NamesOk ts ∧
  GoalsAt H b gs ∧ (∀ x ∈ gs, x.2.map (·.1) = ts) ∧ 0 < gs.length ∧ gs.length ≤ 60 ∧ m ≤ 1000 ∧
  ∀ r H' n' (rs : List (Rule × Addr)), But p H H' → H r = none → H' r = some (.lst (rs.map fun x => V.ref x.2)) → KeyTups H' rs → (∀ x ∈ rs, RuleOk ts x.1) → (∀ x ∈ rs, ∀ g ∈ gs, Holds g.2 x.1) → rs.length ≤ 2 * m → PenAt H' p c n' → n' ≤ n + 1 + 4 * m → Q (.ref r) H'
def endsOf (ts : List Str) : List (Option Str) := none :: ts.map some
theorem map_erase {α β : Type} (f : α → β) : ∀ (l : List α) (k : Nat), (l.eraseIdx k).map f = (l.map f).eraseIdx k
  | [], _ => rfl
  | _ :: _, 0 => rfl
  | x :: l, k + 1 => congrArg (f x :: ·) (map_erase f l k)
theorem ends_eq (ts : List Str) : [V.non] ++ ts.map V.str = (endsOf ts).map endV := by
  unfold endsOf
  rw [List.map_cons, List.map_map]
  rfl
/-- where the loop stands before its turn i: rs are found -/
structure GapsAt (p c a b : Addr) (n m : Nat) (ts : List Str) (gs : List (Addr × List (Str × Int))) (fo th : Addr) (H : Hp) (i : Nat) (rs : List (Rule × Addr)) (Hc : Hp) : Prop where
  found : Hc fo = some (.lst (rs.map fun x => V.ref x.2))
  keys : KeyTups Hc rs
  ok : ∀ x ∈ rs, RuleOk ts x.1
  holds : ∀ x ∈ rs, ∀ g ∈ gs, Holds g.2 x.1
  len : rs.length ≤ 2 * i
  but : But p H Hc
  things : Hc th = some (.lst ([V.non] ++ ts.map V.str))
  pen : PenAt Hc p c (n + 1 + 4 * i)
/-- what is found, the things and the spans, at a heap in the turn -/
structure Fnd (p c fo th D : Addr) (H : Hp) (tl sl : List V) (k : Nat) (rs : List (Rule × Addr)) (X : Hp) : Prop where
  found : X fo = some (.lst (rs.map fun x => V.ref x.2))
  keys : KeyTups X rs
  but : But p H X
  things : X th = some (.lst tl)
  spans : X D = some (.lst sl)
  pen : PenAt X p c k
theorem Fnd.but' {p c fo th D : Addr} {H X Y : Hp} {tl sl : List V} {j k : Nat} {rs : List (Rule × Addr)} (F : Fnd p c fo th D H tl sl k rs X) (b : But p X Y) (P : PenAt Y p c j) (nfp : fo ≠ p) (ntp : th ≠ p) (nDp : D ≠ p) : Fnd p c fo th D H tl sl j rs Y :=
  ⟨b _ _ F.found nfp, fun x hx => b _ _ (F.keys x hx) (F.pen.ne_of (F.keys x hx) fun xs z => nomatch z), F.but.trans b, b _ _ F.things ntp, b _ _ F.spans nDp, P⟩
theorem Fnd.more {p c fo th D T : Addr} {H X : Hp} {tl sl : List V} {k : Nat} {rs : List (Rule × Addr)} {r : Rule} (F : Fnd p c fo th D H tl sl k rs X) (hT : X T = none) (hfo : H fo = none) (nfp : fo ≠ p) (nfc : fo ≠ c) (nft : fo ≠ th) (nfD : fo ≠ D) :
    Fnd p c fo th D H tl sl k (rs ++ [(r, T)]) (upd (upd X T (.tup (ruleV r))) fo (.lst (rs.map (fun x => V.ref x.2) ++ [.ref T]))) := by
  have sT : Same X (upd X T (.tup (ruleV r))) := same_new hT
  refine ⟨?_, fun x hx => ?_, fun z o hz nz => ?_, ?_, ?_, (F.pen.same sT).upd nfp nfc⟩
  · rw [upd_same, List.map_append]
    rfl
  · have h : (upd X T (.tup (ruleV r))) x.2 = some (.tup (ruleV x.1)) := by
      rcases List.mem_append.mp hx with hx | hx
      · exact sT _ _ (F.keys x hx)
      · rw [List.mem_singleton.mp hx]
        exact upd_same
    rw [upd_ne (ne_of h (sT _ _ F.found) fun z => nomatch z)]
    exact h
  · rw [upd_ne (ne_of_none hz hfo)]
    exact sT _ _ (F.but _ _ hz nz)
  · rw [upd_ne nft.symm]
    exact sT _ _ F.things
  · rw [upd_ne nfD.symm]
    exact sT _ _ F.spans
theorem twoWays {Goal : Prop} {G C : Int → Hp → Prop} (h1 : (∀ j He, C j He → G j He) → Goal) (h2 : ∀ j He, C j He → G j He) : Goal := h1 h2
end
end Wnd

namespace Wnd
open PySem PySem.Spec PyProof.Rows L2
section
variable {P : Program} {w : World} {K : PySem.W.Frag} {mg : Str → Option Value} {base : Heap}
/-! ### systems made and compared in a def of the law -/
structure OkMk (P : Program) (w : World) (K : PySem.W.Frag) (mg : Str → Option Value) (base : Heap) (C : Addr) (k : Nat) (ps : List Str) (sp : Sp) : Prop where
  ex : ∃ (f : Addr) (fd : FuncData), Mk K C f ∧ Binds K fd ps [] ∧ FnOk P w K mg base CX0 k f fd ps sp
theorem pe_mk {X : Cx} {C : Addr} {k : Nat} {x : Str} {ps : List Str} {sp : Sp} {e : Expr} {es : List Expr} {p pos : Pos} {t : TA} (O : OkMk X.prog X.w X.K X.mg X.base C k ps sp) (hr : Room (k + 1) X.A) (hm : X.mg x = some (.ref C)) (ha : PA X (e :: es) t)
    (hg : Gl X x := by rfl) (hd : (x == ("__debug__" : Str)) = false := by decide) (he : starEach (e :: es) X.env = (false, eval e X.env) :: starEach es X.env := by rfl) (hpl : (backTo pos (starEach es X.env)).any (·.1) = false := by rfl) :
    PE X (.Call (.Name x p) (e :: es) [] pos) (tMake C sp [] E0 t) := by
  obtain ⟨f, fd, h1, h2, h3⟩ := O.ex
  exact pe_make h1 h3 hr hg hm h2 .nil pass0 ha hd he hpl
/-- what a def of the text that compares systems has of their class -/
structure OkEq (P : Program) (w : World) (K : PySem.W.Frag) (mg : Str → Option Value) (base : Heap) (C : Addr) (k : Nat) (sp : Sp) : Prop where
  ex : ∃ (f : Addr) (fd : FuncData) (ps : List Str), EqC K C f ∧ Binds K fd ps [] ∧ FnOk P w K mg base CX0 k f fd ps sp
theorem op_eqO {X : Cx} {C : Addr} {k : Nat} {sp : Sp} (O : OkEq X.prog X.w X.K X.mg X.base C k sp) (hr : Room k X.A) : OpR X (compareOp .Eq) (rOwnEq X.K C sp) := by
  obtain ⟨f, fd, ps, h1, h2, h3⟩ := O.ex
  exact op_ownEq h3 h2 hr h1
theorem op_neO {X : Cx} {C : Addr} {k : Nat} {sp : Sp} (O : OkEq X.prog X.w X.K X.mg X.base C k sp) (hr : Room (k + 1) X.A) : OpR X (compareOp .NotEq) (rOwnNe X.K C sp) := by
  obtain ⟨f, fd, ps, h1, h2, h3⟩ := O.ex
  exact op_ownNe h3 h2 hr h1
/-- C beside the built-in types, for isinstance and for comparing -/
structure Beside (K : PySem.W.Frag) (C : Addr) (T : String) : Prop where
  no : PySem.W.kitOne K (.type T) (.ref C) = some false
  nf : PySem.W.notFirst K C (.type T) = true
structure SysF (K : PySem.W.Frag) (mg : Str → Option Value) (C : Addr) : Prop extends SysC K mg C where
  isC : C8.InsC K C
  nf : PySem.W.notFirst K C (.ref C) = true
  bList : Beside K C "list"
  bTuple : Beside K C "tuple"
  bNone : Beside K C "NoneType"
  bStr : Beside K C "str"
  bInt : Beside K C "int"
theorem SysF.ty {C : Addr} (T : SysF K mg C) {H : Hp} {x : Addr} {ns : List Str} {L : List (Rule × Addr)} (h : SysAt C H x ns L) : TyX K H (.ref x) (.ref C) := by
  obtain ⟨dx, ln, lr, h1, _⟩ := h
  exact .base (.ins h1 T.cl T.isC.ha T.isC.hn T.isC.htk T.isC.hm)
/-- x == y, both systems -/
theorem eq_sys {C : Addr} (T : SysF K mg C) {H : Hp} {x y : Addr} {ns ns' : List Str} {L L' : List (Rule × Addr)} {Q : VK} (hx : SysAt C H x ns L) (hy : SysAt C H y ns' L') (q : Q (.bl (decide (ns = ns') && decide (L.map (·.1) = L'.map (·.1)))) H) :
    rOwnEq K C (spEq K C) (.ref x) (.ref y) H Q := by
  have hx' := hx
  obtain ⟨dx, ln, lr, h1, _⟩ := hx'
  exact ⟨x, dx, _, rfl, h1, ⟨_, T.ty hy, T.nf⟩, x, .ref y, ns, L, _, rfl, hx, .inl ⟨y, ns', L', rfl, hy, rfl⟩, _, rfl, q⟩
theorem ne_sys {C : Addr} (T : SysF K mg C) {H : Hp} {x y : Addr} {ns ns' : List Str} {L L' : List (Rule × Addr)} {Q : VK} (hx : SysAt C H x ns L) (hy : SysAt C H y ns' L') (q : Q (.bl (!(decide (ns = ns') && decide (L.map (·.1) = L'.map (·.1))))) H) :
    rOwnNe K C (spEq K C) (.ref x) (.ref y) H Q := by
  have hx' := hx
  obtain ⟨dx, ln, lr, h1, _⟩ := hx'
  exact ⟨x, dx, _, rfl, h1, ⟨_, T.ty hy, T.nf⟩, x, .ref y, ns, L, _, rfl, hx, .inl ⟨y, ns', L', rfl, hy, rfl⟩, _, rfl, q⟩
/-- x == y, y no system -/
theorem eq_no {C : Addr} {H : Hp} {x : Addr} {y : V} {t : String} {ns : List Str} {L : List (Rule × Addr)} {Q : VK} (hx : SysAt C H x ns L) (ty : TyX K H y (.type t)) (b : Beside K C t) (q : Q (.bl false) H) : rOwnEq K C (spEq K C) (.ref x) y H Q := by
  have hx' := hx
  obtain ⟨dx, ln, lr, h1, _⟩ := hx'
  exact ⟨x, dx, _, rfl, h1, ⟨_, ty, b.nf⟩, x, y, ns, L, _, rfl, hx, .inr ⟨_, ty, b.no, rfl⟩, _, rfl, q⟩
theorem ne_no {C : Addr} {H : Hp} {x : Addr} {y : V} {t : String} {ns : List Str} {L : List (Rule × Addr)} {Q : VK} (hx : SysAt C H x ns L) (ty : TyX K H y (.type t)) (b : Beside K C t) (q : Q (.bl true) H) : rOwnNe K C (spEq K C) (.ref x) y H Q := by
  have hx' := hx
  obtain ⟨dx, ln, lr, h1, _⟩ := hx'
  exact ⟨x, dx, _, rfl, h1, ⟨_, ty, b.nf⟩, x, y, ns, L, _, rfl, hx, .inr ⟨_, ty, b.no, rfl⟩, _, rfl, q⟩
/-- System(names, rules) from lists that stand -/
theorem init_sys {C : Addr} {H : Hp} {a b x dx : Addr} {ts : List Str} {rs : List (Rule × Addr)} {R : VK} (nx : H x = none) (ndx : H dx = none) (hA : H a = some (.lst (ts.map V.str))) (N : NamesOk ts) (hB : H b = some (.lst (rs.map fun p => V.ref p.2))) (hk : KeyTups H rs) (hro : ∀ p ∈ rs, RuleOk ts p.1) (hz : rs.length < 100000)
    (q : ∀ H', Same H H' → SysNew C H H' x (sortN ts) (inOrder (putAll rs [])) → R .non H') : spInit C [.ref x, .ref a, .ref b] (upd (upd H dx (.own x)) x (.ins C dx [])) R E0 := by
  have s : Same H (upd (upd H dx (.own x)) x (.ins C dx [])) := fun z o hz => by
    rw [upd_ne (ne_of_none hz nx), upd_ne (ne_of_none hz ndx)]
    exact hz
  exact ⟨x, a, b, dx, ts, rs, rfl, upd_same, s _ _ hA, N, s _ _ hB, fun p hp => s _ _ (hk p hp), hro, hz, fun H' bt hS => q H' (fun z o hz => bt _ _ (s _ _ hz) (ne_of_none hz nx)) (hS.from_ s)⟩
theorem decide_sym {α : Type} [DecidableEq α] (x y : α) : decide (x = y) = decide (y = x) := by
  rw [Bool.eq_iff_iff, decide_eq_true_iff, decide_eq_true_iff]
  exact eq_comm
theorem flip_ne (b : Bool) : ¬ (V.bl (!b) = V.bl b) := fun z => by
  injection z with z
  cases b <;> cases z
theorem names_here {us : List Str} (nd : us.Nodup) (m : ∀ t ∈ us, t ∈ nymPool) (l : us.length ≤ 5) : NamesOk (("mid" : Str) :: us) ∧ NamesOk ((("mid" : Str) :: us) ++ [("late" : Str)]) ∧ endIn (("mid" : Str) :: us) (some "mid") = true := by
  have n1 : ("mid" : Str) ∉ us := fun h => absurd (m _ h) (by decide +kernel)
  have n2 : ("late" : Str) ∉ us := fun h => absurd (m _ h) (by decide +kernel)
  have n3 : ("late" : Str) ≠ ("mid" : Str) := by decide +kernel
  have nm : nameB ("mid" : Str) = true := by decide +kernel
  have nl : nameB ("late" : Str) = true := by decide +kernel
  have nd1 : (("mid" : Str) :: us).Nodup := List.nodup_cons.mpr ⟨n1, nd⟩
  have al : ∀ t ∈ ("mid" : Str) :: us, nameB t = true := fun t ht => by
    rcases List.mem_cons.mp ht with rfl | ht
    · exact nm
    · exact pool_names t (m t ht)
  refine ⟨⟨nd1, al, by rw [List.length_cons]; omega⟩, ⟨List.nodup_append.mpr ⟨nd1, List.nodup_cons.mpr ⟨List.not_mem_nil, List.nodup_nil⟩, fun x hx y hy e => ?_⟩, fun t ht => ?_, by rw [List.length_append, List.length_cons, List.length_singleton]; omega⟩, ?_⟩
  · rw [List.mem_singleton.mp hy] at e
    rcases List.mem_cons.mp hx with h | h
    · exact n3 (e.symm.trans h)
    · exact n2 (e ▸ h)
  · rcases List.mem_append.mp ht with ht | ht
    · exact al t ht
    · rw [List.mem_singleton.mp ht]
      exact nl
  · exact List.any_eq_true.mpr ⟨"mid", List.mem_cons_self .., beq_self_eq_true _⟩
end
end Wnd

/-! lists that are drawn, cut, summed -/
namespace Wnd
open PySem PySem.Spec PyProof.Rows L2
structure Blt3 (mg : Str → Option Value) : Prop extends Blt2 mg where
  sum : mg "sum" = none
  repr : mg "repr" = none
theorem map_of_permF {α : Type} {f : α → V} (inj : ∀ a b, f a = f b → a = b) {ys rest : List V} {ts : List α} (h : (ys ++ rest).Perm (ts.map f)) (nd : ts.Nodup) : ∃ us : List α, ys = us.map f ∧ us.Nodup ∧ ∀ t ∈ us, t ∈ ts := by
  have all : ∀ y ∈ ys, ∃ t ∈ ts, f t = y := fun y hy => List.mem_map.mp (h.mem_iff.mp (List.mem_append_left _ hy))
  have ndm : (ys ++ rest).Nodup := h.nodup_iff.mpr (List.Pairwise.map f (fun a b ne e => ne (inj a b e)) nd)
  have ndy := (List.nodup_append.mp ndm).1
  clear h ndm
  induction ys with
  | nil => exact ⟨[], rfl, List.nodup_nil, fun _ h => nomatch h⟩
  | cons y r ih =>
    obtain ⟨us, rfl, h1, h2⟩ := ih (fun y hy => all y (List.mem_cons_of_mem _ hy)) (List.nodup_cons.mp ndy).2
    obtain ⟨t, ht, rfl⟩ := all y (List.mem_cons_self ..)
    refine ⟨t :: us, rfl, List.nodup_cons.mpr ⟨fun m => (List.nodup_cons.mp ndy).1 (List.mem_map.mpr ⟨t, m, rfl⟩), h1⟩, fun x hx => ?_⟩
    rcases List.mem_cons.mp hx with rfl | hx
    · exact ht
    · exact h2 x hx
theorem ends_nodup {ts : List Str} (h : ts.Nodup) : (endsOf ts).Nodup := List.nodup_cons.mpr ⟨(fun z => by
  obtain ⟨y, _, z⟩ := List.mem_map.mp z
  cases z), List.Pairwise.map some (fun a b ne (e : some a = some b) => ne (by injection e)) h⟩
theorem ends_in {ts : List Str} : ∀ e ∈ endsOf ts, endIn ts e = true := by
  intro e he
  rcases List.mem_cons.mp he with z | z
  · rw [z]
    rfl
  · obtain ⟨y, hy, z⟩ := List.mem_map.mp z
    rw [← z]
    exact List.any_eq_true.mpr ⟨y, hy, beq_self_eq_true y⟩
theorem sum_bound : ∀ {S : List Int}, (∀ x ∈ S, -4 ≤ x ∧ x ≤ 4) → -4 * (S.length : Int) ≤ S.sum ∧ S.sum ≤ 4 * (S.length : Int)
  | [], _ => ⟨by decide, by decide⟩
  | x :: S, h => by
    obtain ⟨h1, h2⟩ := sum_bound fun y hy => h y (List.mem_cons_of_mem _ hy)
    have := h x (List.mem_cons_self ..)
    rw [List.sum_cons, List.length_cons]
    omega
theorem cut_tail (xs : List V) : cutV xs (some 1) none = xs.drop 1 := by
  unfold cutV
  rw [HT.sIx_none, show HT.sIx xs.length 0 (some 1) = min 1 xs.length from HT.sIx_nat _ _ 1]
  cases xs with
  | nil => rfl
  | cons x r =>
    rw [show min 1 (x :: r).length = 1 by rw [List.length_cons]; omega]
    rw [List.take_of_length_le (by rw [List.length_drop]; omega)]
theorem cut_head (xs : List V) (k : Nat) : cutV xs none (some k) = xs.take k := by
  unfold cutV
  rw [HT.sIx_none, show HT.sIx xs.length xs.length (some (k : Int)) = min k xs.length from HT.sIx_nat _ _ k, List.drop_zero, Nat.sub_zero]
  by_cases hl : xs.length ≤ k
  · rw [Nat.min_eq_right hl, List.take_length, List.take_of_length_le hl]
  · rw [Nat.min_eq_left (by omega)]
theorem atI_last {xs : List V} (h : 0 < xs.length) : atI xs (-1) = xs[xs.length - 1]? := by
  unfold atI ixN
  rw [if_neg (by decide), if_pos (by omega)]
  show xs[((-1 : Int) + xs.length).toNat]? = _
  rw [show ((-1 : Int) + xs.length).toNat = xs.length - 1 by omega]
end Wnd

namespace Wnd
open PySem PySem.Spec PyProof.Rows L2
section
variable {P : Program} {w : World} {K : PySem.W.Frag} {mg : Str → Option Value} {base : Heap}
/-! ### properties -/
structure OkP (P : Program) (w : World) (K : PySem.W.Frag) (mg : Str → Option Value) (base : Heap) (C : Addr) (k : Nat) (m : Str) (sp : Sp) : Prop where
  ex : ∃ (p g : Addr) (fd : FuncData) (ps : List Str), Cls K C ∧ PropOf K C m p g ∧ Binds K fd ps [] ∧ FnOk P w K mg base CX0 k g fd ps sp
theorem pe_propO {X : Cx} {C : Addr} {k : Nat} {m : Str} {sp : Sp} {e : Expr} {ta : TE} {pos : Pos} (O : OkP X.prog X.w X.K X.mg X.base C k m sp) (hr : Room (k + 1) X.A) (he : PE X e ta) (hab : attributeBase e m X.env (eval e X.env) = eval e X.env := by rfl) :
    PE X (.Attribute e m pos) (tProp C sp [] E0 ta) := by
  obtain ⟨p, g, fd, ps, h1, h2, h3, h4⟩ := O.ex
  exact pe_prop he h1 h2 h4 hr h3 .nil pass0 hab
def spNames (C : Addr) : Sp := fun vs H Q _ => ∃ (x : Addr) (ns : List Str) (L : List (Rule × Addr)), vs = [.ref x] ∧ SysAt C H x ns L ∧ ∀ l, H l = none → Q (.ref l) (upd H l (.lst (ns.map V.str)))
def spRulesP (C : Addr) : Sp := fun vs H Q _ => ∃ (x : Addr) (ns : List Str) (L : List (Rule × Addr)), vs = [.ref x] ∧ SysAt C H x ns L ∧ ∀ l, H l = none → Q (.ref l) (upd H l (.lst (L.map fun p => V.ref p.2)))
/-- reading a property of a system -/
theorem prop_at {C : Addr} {H : Hp} {x : Addr} {ns : List Str} {L : List (Rule × Addr)} (h : SysAt C H x ns L) : ∃ dx fs, H x = some (.ins C dx fs) := by
  obtain ⟨dx, ln, lr, h1, _⟩ := h
  exact ⟨dx, _, h1⟩
theorem dp_rule {X : Hp} (x : Rule × Addr) (hx : X x.2 = some (.tup (ruleV x.1))) : Dp K X (.ref x.2) (ruleD x.1) := .tup (SqT.of hx) (.cons (dp_end _) (.cons (dp_end _) (.cons (.int _) .nil)))
theorem shaped_rule' (r : Rule) (h : ROk r) : SeqAt.shaped (ruleD r) = true := by
  obtain ⟨h1, h2⟩ := lay_rule r h
  simp [SeqAt.shaped, h1, h2]
theorem hu65 {A : Around} {k : Nat} (hr : Room k A) : A.units + 65 < cLine := by
  have := hr.un
  omega
end
end Wnd

/-! Windowsteps: the law's def run where the row itself calls it: nothing is being shown there, so repr may be asked of lists and dicts. -/
namespace Wnd
open PySem PySem.Spec PyProof.Rows L2
section
variable {P : Program} {w : World} {K : PySem.W.Frag} {mg : Str → Option Value} {base : Heap}
/-- a def run from the row's own call -/
theorem top_run {x q : Str} {st : Stmt} {f : Addr} {fd : FuncData} {N ps : List Str} {k : Nat} {sp : Sp} (F : Fun K x q st f fd) (S : FnScope N ps (defScope st)) (bd : Binds K fd ps []) (room : Room (k + 1) callerA)
    (body : ∀ (cdv : Value) (s : Shared) (H : Hp) (vs : List V) (Q : VK) (E : XK), Room k (callerA.deeper (envOfC q (defScope st) s.heap.objs.size f cdv)) → sp vs H Q E →
      ∃ t, PSs (cxOf CX0 P w K mg base N q (defScope st) f cdv callerA [] s H E).nox (defBody st) t ∧ t { nx := fun _ H' => Q .non H', rt := Q } (L2.start N vs) H)
    {s : Shared} {H : Hp} {us : List Value} {vs : List V} {Q : VK} {E : XK} (env : Env0 P w K mg base callerA [] s H) (len : vs.length = ps.length) (rel : Vals vs us) (h : sp vs H Q E) : codeAny (model P w) callerA (.call (.ref f) ⟨us, []⟩) (CR CX0 [] P w H s Q E) s := by
  obtain ⟨oc, od, kV, doc, pm, an, cdv, ct, osl, rfl, lk, hcd⟩ := F.ex
  have kin : K.In s.heap := env.mod.kin.keeps fun b o e => (env.bs b o e).1
  refine StX.run_bnd (G := fun ws H2 => ws = vs ∧ H2 = H ∧ sp ws H2 Q E) lk hcd S room env (fun A' Ex R next => ?_) fun s2 H2 ws g hr => ?_
  · have z := bd s us kin (by rw [List.append_nil, ← rel.length]; exact len)
    rw [List.append_nil] at z
    exact z _ A' Ex R (next s H vs us env Un.refl rfl (fun _ _ z => z) rel len ⟨rfl, rfl, h⟩)
  · obtain ⟨rfl, rfl, h2⟩ := g
    obtain ⟨t, ht, hq⟩ := body cdv s2 _ _ Q E hr h2
    exact ⟨t, ht.nox, hq⟩
/-- the row's call, from what the def does there -/
theorem top_call {mb : Str → Option Value} {fa a : Addr} {s₁ : Shared} {vs : List Value} {ns : List Int} (kin : K.In s₁.heap) (glob : s₁.heap.Ns mainGlobals mg) (blt : s₁.heap.Ns builtinsNs mb) (boot : ∀ x : Str, x ≠ "__name__" → mb x = bootBuiltins x)
    (free : s₁.heap.NoLimit) (nogen : s₁.gens = #[]) (at_ : s₁.heap.get? a = some { cls := .type "list", data := .seq vs.toArray }) (are : IntsAre vs ns) (few : ns.length ≤ sizeLine)
    (run : ∀ (base : Heap) (H : Hp), K.In base → base.Ns mainGlobals mg → Env0 P w K mg base callerA [] s₁ H → SqL K H a (ns.map V.int) →
      codeAny (model P w) callerA (.call (.ref fa) ⟨[.ref a], []⟩) (CR CX0 [] P w H s₁ (fun v _ => v = .bl true) fun _ _ _ => False) s₁) :
    codeAny (model P w) callerA (.call (.ref fa) ⟨[.ref a], []⟩) (fun r s' => r = .ok (.ret (.bool true)) ∧ OldK s₁.heap s'.heap ∧ s'.os = s₁.os ∧ AllBare s'.gens) s₁ := by
  have vals := vals_ints are
  have size := are.length
  have from_ : ∀ H : Hp, L2.Only H → SqL K H a (ns.map V.int) → HOk P w H s₁.heap → (∀ b, H b ≠ none → b = a) → (H a ≠ none → K.lookup a = none) →
      codeAny (model P w) callerA (.call (.ref fa) ⟨[.ref a], []⟩) (fun r s' => r = .ok (.ret (.bool true)) ∧ OldK s₁.heap s'.heap ∧ s'.os = s₁.os ∧ AllBare s'.gens) s₁ := by
    intro H only seq hok one notK
    have still : ∀ {b : Addr} {o : Obj}, s₁.heap.get? b = some o → H b = none → (hidT s₁.heap H).get? b = some o := fun e n => hidT_get e n
    have notDict : ∀ {b : Addr} {o : Obj} {es : Array DictEntry} {ep : Nat}, s₁.heap.get? b = some o → o.data = .dict es ep → H b = none := by
      intro b o es ep e d
      cases hb : H b with
      | none => rfl
      | some u =>
        have same : b = a := one b (by rw [hb]; exact fun z => nomatch z)
        rw [same, at_] at e
        cases e
        cases (show Data.seq vs.toArray _ = Data.dict es ep from d)
    have nsOn : ∀ {b : Addr} {m : Str → Option Value}, s₁.heap.Ns b m → (hidT s₁.heap H).Ns b m := by
      rintro b m ⟨o, es, ep, e, d, r⟩
      exact ⟨o, es, ep, still e (notDict e d), d, r⟩
    have kinH : K.In (hidT s₁.heap H) := by
      intro b o e
      refine still (kin b o e) ?_
      cases hb : H b with
      | none => rfl
      | some u =>
        have same : b = a := one b (by rw [hb]; exact fun z => nomatch z)
        rw [same] at hb e
        rw [notK (by rw [hb]; exact fun z => nomatch z)] at e
        cases e
    obtain ⟨mc, l1, l2⟩ := free
    have env : Env0 P w K mg (hidT s₁.heap H) callerA [] s₁ H :=
      ⟨rfl, ⟨kinH, nsOn glob, ⟨mb, nsOn blt, boot⟩, ⟨mc, nsOn l1, l2⟩⟩, fun b o e => of_hidT e, Nat.le_of_eq (hidT_size _ _), trivial, fun b hb => (List.not_mem_nil (show b ∈ ([] : List Addr) from hb)).elim, hok, .of_eq nogen⟩
    refine codeAny_mono (run _ H kinH (nsOn glob) env seq) fun r s' res => ?_
    cases r with
    | error e => exact False.elim res
    | ok fl =>
      cases fl with
      | ret u =>
        obtain ⟨v, H', os, bare, un, hok', rel, val⟩ := res
        have val : v = .bl true := val
        subst val
        cases (show u = Value.bool true from rel)
        refine ⟨rfl, OldK.of_keep fun b o e => ?_, os, bare⟩
        cases hb : H b with
        | none => exact un.keep b o e hb (fun z => (List.not_mem_nil (show b ∈ ([] : List Addr) from z)).elim) (List.not_mem_nil)
        | some u =>
          rcases only b with z | ⟨ob, xs, z⟩
          · rw [hb] at z
            cases z
          · obtain ⟨old, _⟩ := hok b _ z
            obtain ⟨new, _⟩ := hok' b _ (un.frzs b ob _ z)
            rw [e] at old
            cases old
            exact new
      | next => exact False.elim res
      | brk => exact False.elim res
      | cont => exact False.elim res
  cases known : K.lookup a with
  | some o =>
    have e := kin a o known
    rw [at_] at e
    cases e
    refine from_ (fun _ => none) (fun _ => .inl rfl) (.inr ⟨_, vs.toArray, _, known, rfl, rfl, rfl, ?_, ?_⟩) (fun b u z => nomatch (show (none : Option HO) = some u from z)) (fun b z => (z rfl).elim) fun z => (z rfl).elim
    · rw [List.size_toArray, size]
      exact few
    · simpa using vals
  | none =>
    have at2 : (fun b => if b = a then some (HO.frz { cls := .type "list", data := .seq vs.toArray } (.lst (ns.map V.int))) else none : Hp) a = some (HO.frz { cls := .type "list", data := .seq vs.toArray } (.lst (ns.map V.int))) := if_pos rfl
    refine from_ (fun b => if b = a then some (.frz { cls := .type "list", data := .seq vs.toArray } (.lst (ns.map V.int))) else none) (fun b => ?_) (.inl (.inr ⟨_, at2⟩)) (fun b u z => ?_) (fun b z => ?_) fun _ => known
    · by_cases hb : b = a
      · exact .inr ⟨_, _, if_pos hb⟩
      · exact .inl (if_neg hb)
    · by_cases hb : b = a
      · subst hb
        cases at2.symm.trans z
        refine ⟨at_, ?_, vs, _, vals, at_⟩
        rw [List.length_map]
        exact few
      · cases (if_neg hb).symm.trans z
    · by_cases hb : b = a
      · exact hb
      · exact (z (if_neg hb)).elim
end
/-- the law's row, from what its def does at the row's call -/
theorem top_walk {l : PySem.W.OpenLaw} {n : Nat} {q : Program} {loose : List Str} {XP : (Str → Option Value) → Heap → Prop} {YP : World → Heap → Prop} {d : DefRec} {K : Params → PySem.W.Frag} (hn : l.most = some n) (few : n ≤ sizeLine) (hdf : d.params.defaults = [])
    (hY : ∀ (w : World) (h : Heap), YP w h → (K w.params).In h)
    (F : ∀ (w : World) (mg : Str → Option Value) (fa : Addr) (h : Heap), (K w.params).In h → h.Ns mainGlobals mg → mg d.name = some (.ref fa) →
      ∀ (base : Heap) (H : Hp) (s : Shared) (a : Addr) (ns : List Int), ns.length ≤ n → (K w.params).In base → base.Ns mainGlobals mg → Env0 l.prog w (K w.params) mg base callerA [] s H → SqL (K w.params) H a (ns.map V.int) →
        codeAny (model l.prog w) callerA (.call (.ref fa) ⟨[.ref a], []⟩) (CR CX0 [] l.prog w H s (fun v _ => v = .bl true) fun _ _ _ => False) s) :
    PySem.W.WalkO q loose XP YP l.row.toRowW d [] (fun f vs => PySem.call f vs) := by
  refine Att.attach_call hn hdf fun w s₀ s₁ mg mb fa o pm cd doc a vs ns G Y _ _ _ hmg at_ are len nogen => ?_
  have kin := hY w _ Y
  exact top_call kin G.T.g G.T.b G.T.builtins G.T.nolimit nogen at_ are (Nat.le_trans len few) fun base H k1 k2 env seq => F w mg fa _ kin G.T.g hmg base H s₁ a ns len k1 k2 env seq
end Wnd

/-! Windowsteps: repr(x) where nothing is being shown: plain data, and a dict of texts and ints. -/
namespace Wnd
open PySem PySem.Spec PyProof.Rows L2
def goalD (g : List (Str × Int)) : PyData := .dict (g.map fun x => (PyData.str x.1, PyData.int x.2))
/-- the value x shows as d does -/
inductive Sh (K : PySem.W.Frag) (H : Hp) : V → PyData → Prop where
  | dp {x : V} {d : PyData} (h : Dp K H x d) : Sh K H x d
  | goal {a : Addr} {g : List (Str × Int)} (h : H a = some (.dK (g.map fun x => (Sum.inr x.1, V.int x.2)))) : Sh K H (.ref a) (goalD g)
def rRepr (K : PySem.W.Frag) : List V → Hp → VK → Prop := fun xs H Q => ∃ (x : V) (d : PyData), xs = [x] ∧ Sh K H x d ∧ d.canLay0 = (match d with | .dict _ => d.canLay0 | _ => true) ∧ d.showable = true ∧ d.shown.length ≤ sizeLine ∧ d.depth ≤ 60 ∧ Q (.str d.shown) H
theorem goal_reads {P : Program} {w : World} {h : Heap} : ∀ {g : List (Str × Int)} {vs : List (Key × Value)} {es : List DictEntry}, KV (g.map fun x => ((Sum.inr x.1 : Key), V.int x.2)) vs → Pairs (mixKind P w) es vs →
    ReadsAll h (es.map (·.key)) ((g.map fun x => (PyData.str x.1, PyData.int x.2)).map (·.1)) [] ∧ ReadsAll h (es.map (·.val)) ((g.map fun x => (PyData.str x.1, PyData.int x.2)).map (·.2)) []
  | [], _, _, .nil, .nil => ⟨.nil, .nil⟩
  | x :: g, _, _, .cons r1 r2, .cons k1 k2 k3 => by
    obtain ⟨i1, i2⟩ := goal_reads (h := h) r2 k3
    obtain ⟨e1, t1, e2⟩ := r1
    rename_i kv tail ent es'
    obtain ⟨key, val⟩ := kv
    have e1 : Sum.inr x.1 = key := e1
    subst e1
    have e2 : val = Value.int x.2 t1 := e2
    subst e2
    have k1 : keyIs (Sum.inr x.1) ent.key = true := k1
    rcases keyIs_shape k1 with ⟨i, t, z, z2⟩ | ⟨y, t, z, z2⟩
    · cases z
    · injection z with z
      subst z
      refine ⟨?_, ?_⟩
      · show ReadsAll h (ent.key :: es'.map (·.key)) (PyData.str x.1 :: _) ([] ++ [])
        rw [z2]
        exact .cons (.str x.1 t) i1
      · show ReadsAll h (ent.val :: es'.map (·.val)) (PyData.int x.2 :: _) ([] ++ [])
        rw [show ent.val = Value.int x.2 t1 from k2]
        exact .cons (.int x.2 t1) i2
section
variable {X : Cx}
theorem call_reprD (free : X.A.guards = some []) (hu : X.A.units + 65 < cLine) : CallR X (.builtin "repr") (rRepr X.K) := by
  intro pins s σ H xs us Q I r h
  obtain ⟨x, d, rfl, sh, lay, sw, sz, dp, q⟩ := h
  obtain ⟨u, rfl, ru⟩ := vals1 r
  have last : ∀ (h' : Heap) (t : Tok) (tk : Nat), (∀ b o, s.heap.get? b = some o → h'.get? b = some o) → EP X pins σ Q (.str d.shown t) { s with heap := h', toks := tk } := fun h' t tk kp => ⟨.str d.shown, H, I.kept (t' := tk) kp, ⟨t, rfl⟩, q⟩
  cases sh with
  | dp hd =>
    obtain ⟨as, rd⟩ := Dp.reads I d x u hd ru
    cases hd with
    | non =>
      cases (show u = Value.none from ru)
      exact PySem.P.repr_of_none (last s.heap _ _ fun _ _ e => e)
    | bl b =>
      cases (show u = Value.bool b from ru)
      have := PySem.P.repr_of_bool (prog := X.prog) (w := X.w) (A := X.A) (E := X.xe) (s := s) (b := b) (Q := EP X pins σ Q) (by
        cases b <;> exact last s.heap _ _ fun _ _ e => e)
      exact this
    | int i =>
      obtain ⟨t, rfl⟩ := (show ∃ t, u = Value.int i t from ru)
      exact PySem.P.repr_of_int (of_decide_eq_true (by simpa [PyData.showable] using sw)) (last s.heap _ _ fun _ _ e => e)
    | str y =>
      obtain ⟨t, rfl⟩ := (show ∃ t, u = Value.str y t from ru)
      exact PySem.P.repr_of_str (last s.heap _ _ fun _ _ e => e) (hsz := sz)
    | lst hs ha =>
      cases (show u = Value.ref _ from ru)
      exact repr_of_reads' rd sw (PyData.noDict_hsm (PyData.hasDict_of_canLay _ lay)) free (by omega) (fun _ _ e => e) last sz
    | tup hs ha =>
      cases (show u = Value.ref _ from ru)
      exact repr_of_reads' rd sw (PyData.noDict_hsm (PyData.hasDict_of_canLay _ lay)) free (by omega) (fun _ _ e => e) last sz
  | @goal a g hg =>
    cases (show u = Value.ref a from ru)
    obtain ⟨_, lo, vs, kv, o, es, ep, h1, h2, h3, _, h5, _⟩ := dk_of I.hok hg
    obtain ⟨r1, r2⟩ := goal_reads (P := X.prog) (w := X.w) (h := s.heap) (es := es.toList) kv h5
    have rd : Reads s.heap (.ref a) (goalD g) (a :: [] ++ []) := .dict h1 h2.1 h3 r1 r2
    refine repr_of_reads' rd sw (fun _ hm => ?_) free (by omega) (fun _ _ e => e) last sz
    have : sysModules = a := by simpa using hm
    rw [this] at lo
    simp at lo
end
end Wnd

/-! Windowsteps: how long repr(x) is, numbers of settings. -/
namespace Wnd
open PySem PySem.Spec PyProof.Rows L2
theorem int_shown_len {i : Int} (h : i.natAbs < 10 ^ 12) : (PyData.shown (.int i)).length ≤ 13 := by
  have e := PySem.int_text_length_le10 (a := i) (k := 12) (by decide) h
  show (Str.ofString (toString i)).length ≤ 13
  rw [PySem.ofString_length]
  exact e
theorem log_small {n k : Nat} (hk : 0 < k) (h : n < 2 ^ k) : n.log2 < k := by
  by_cases z : n = 0
  · subst z
    rw [show Nat.log2 0 = 0 from by decide]
    exact hk
  · exact (Nat.log2_lt z).mpr h
/-- one text and one int -/
structure Small (x : Str × Int) : Prop where
  len : x.1.length ≤ 8
  sign : ∀ c ∈ x.1.cps.toList, c < 16 ^ 8
  ge : -99999 ≤ x.2
  le : x.2 ≤ 99999
theorem Small.abs {x : Str × Int} (h : Small x) : x.2.natAbs < 10 ^ 12 := by
  have := h.ge
  have := h.le
  omega
theorem Small.log {x : Str × Int} (h : Small x) : x.2.natAbs.log2 < 17 := by
  have := h.ge
  have := h.le
  exact log_small (by decide) (by omega)
theorem goal_kv : ∀ {g : List (Str × Int)}, (∀ x ∈ g, Small x) → PyData.leavesShortKv 13 (g.map fun x => (PyData.str x.1, PyData.int x.2)) = true ∧ PyData.showableKv (g.map fun x => (PyData.str x.1, PyData.int x.2)) = true ∧
    PyData.weightKv (g.map fun x => (PyData.str x.1, PyData.int x.2)) ≤ 27 * g.length ∧ PyData.depthKv (g.map fun x => (PyData.str x.1, PyData.int x.2)) = 0
  | [], _ => ⟨by simp [PyData.leavesShortKv], by simp [PyData.showableKv], by simp [PyData.weightKv], by simp [PyData.depthKv]⟩
  | x :: g, h => by
    obtain ⟨h1, h2, h3, h4⟩ := goal_kv fun y hy => h y (List.mem_cons_of_mem _ hy)
    have hx := h x (List.mem_cons_self ..)
    have lg := hx.log
    have ln : x.1.cps.size ≤ 8 := hx.len
    refine ⟨?_, ?_, ?_, ?_⟩
    · rw [List.map_cons, PyData.leavesShortKv, h1, PyData.leavesShort, PyData.leavesShort, Bool.and_true, Bool.and_eq_true, List.all_eq_true, decide_eq_true_iff]
      exact ⟨fun c hc => decide_eq_true (hx.sign c hc), int_shown_len hx.abs⟩
    · rw [List.map_cons, PyData.showableKv, h2, PyData.showable, PyData.showable, Bool.true_and, Bool.and_true, decide_eq_true_iff]
      omega
    · rw [List.map_cons, PyData.weightKv, PyData.weight, PyData.weight, List.length_cons]
      split <;> omega
    · rw [List.map_cons, PyData.depthKv, h4, PyData.depth, PyData.depth]
      rfl
theorem goal_show {g : List (Str × Int)} (h : ∀ x ∈ g, Small x) (hz : g.length ≤ 1000) : (goalD g).showable = true ∧ (goalD g).shown.length ≤ sizeLine ∧ (goalD g).depth ≤ 60 := by
  obtain ⟨h1, h2, h3, h4⟩ := goal_kv h
  refine ⟨?_, ?_, ?_⟩
  · rw [goalD, PyData.showable]
    exact h2
  · have e := PyData.shown_le 13 (by decide) (goalD g) (by rw [goalD, PyData.leavesShort]; exact h1)
    have ew : (goalD g).weight ≤ 27 * g.length := by
      rw [goalD, PyData.weight]
      exact h3
    have : sizeLine = 16777216 := by decide
    omega
  · rw [goalD, PyData.depth, h4]
    decide
theorem int_show {i : Int} (h : i.natAbs < 10 ^ 12) : (PyData.int i).canLay0 = true ∧ (PyData.int i).showable = true ∧ (PyData.int i).shown.length ≤ sizeLine ∧ (PyData.int i).depth ≤ 60 := by
  have z : i.natAbs.log2 < 1920 := Nat.lt_trans (log_small (k := 40) (by decide) (Nat.lt_trans h (by decide))) (by decide)
  have len := int_shown_len h
  have : sizeLine = 16777216 := by decide
  exact ⟨by simp [PyData.canLay0], by simp [PyData.showable, z], by omega, by simp [PyData.depth]⟩
/-- repr of an int -/
theorem repr_int {K : PySem.W.Frag} {H : Hp} {i : Int} {Q : VK} (h : i.natAbs < 10 ^ 12) (q : Q (.str (PyData.shown (.int i))) H) : rRepr K [.int i] H Q := by
  have z : i.natAbs.log2 < 1920 := Nat.lt_trans (log_small (k := 40) (by decide) (Nat.lt_trans h (by decide))) (by decide)
  have len := int_shown_len h
  have : sizeLine = 16777216 := by decide
  exact ⟨_, .int i, rfl, .dp (.int i), by simp [PyData.canLay0], by simp [PyData.showable, z], by omega, by simp [PyData.depth], q⟩
/-- repr of numbers -/
theorem repr_goal {K : PySem.W.Frag} {H : Hp} {a : Addr} {g : List (Str × Int)} {Q : VK} (ha : H a = some (.dK (g.map fun x => (Sum.inr x.1, V.int x.2)))) (h : ∀ x ∈ g, Small x) (hz : g.length ≤ 1000) (q : Q (.str (goalD g).shown) H) : rRepr K [.ref a] H Q := by
  obtain ⟨h1, h2, h3⟩ := goal_show h hz
  exact ⟨_, goalD g, rfl, .goal ha, rfl, h1, h2, h3, q⟩
end Wnd

/-! Windowsteps: repr of a number or None, asked anywhere; defs called by keywords alone. -/
namespace Wnd
open PySem PySem.Spec PyProof.Rows L2
def optV (o : Option Int) : V := match o with
  | none => .non
  | some i => .int i
def optD (o : Option Int) : PyData := match o with
  | none => .none
  | some i => .int i
def rReprI : List V → Hp → VK → Prop := fun xs H Q => ∃ o : Option Int, xs = [optV o] ∧ (∀ i, o = some i → i.natAbs < 10 ^ 12) ∧ Q (.str (optD o).shown) H
theorem call_reprI {X : Cx} : CallR X (.builtin "repr") rReprI := by
  intro pins s σ H xs us Q I r h
  obtain ⟨o, rfl, sm, q⟩ := h
  obtain ⟨u, rfl, ru⟩ := vals1 r
  have last : ∀ (h' : Heap) (t : Tok) (tk : Nat), (∀ b o, s.heap.get? b = some o → h'.get? b = some o) → EP X pins σ Q (.str (optD o).shown t) { s with heap := h', toks := tk } := fun h' t tk kp => ⟨.str (optD o).shown, H, I.kept (t' := tk) kp, ⟨t, rfl⟩, q⟩
  cases o with
  | none =>
    cases (show u = Value.none from ru)
    exact PySem.P.repr_of_none (last s.heap _ _ fun _ _ e => e)
  | some i =>
    obtain ⟨t, rfl⟩ := (show ∃ t, u = Value.int i t from ru)
    have sw := (int_show (sm i rfl)).2.1
    exact PySem.P.repr_of_int (of_decide_eq_true (by simpa [PyData.showable] using sw)) (last s.heap _ _ fun _ _ e => e)
/-! ### f(a = x, b = y) -/
structure OkK (P : Program) (w : World) (K : PySem.W.Frag) (mg : Str → Option Value) (base : Heap) (k : Nat) (x : Str) (ps ks : List Str) (gV : List V → List V → List V) (sp : Sp) : Prop where
  ex : ∃ (f : Addr) (fd : FuncData) (g : List Value → List Value → List Value), mg x = some (.ref f) ∧ PySem.W.keepIn K (.ref f) = true ∧ KBinds K fd ps ks g gV ∧ FnOk P w K mg base CX0 k f fd ps sp
def tCallK0 (sp : Sp) (gV : List V → List V → List V) (tk : TA) : TE := fun σ H Q => tk σ H fun zs H1 => sp (gV [] zs) H1 Q E0
theorem pe_ownK0 {X : Cx} {k : Nat} {x : Str} {ps ks : List Str} {gV : List V → List V → List V} {sp : Sp} {p pos : Pos} {kws : List Keyword} {tk : TA} (O : OkK X.prog X.w X.K X.mg X.base k x ps ks gV sp) (hr : Room k X.A) (hkw : PK X kws tk) (hg : Gl X x := by rfl)
    (hall : (backToKw pos (keywordEach kws X.env)).all (·.1.isSome) = true := by rfl) (hks : (backToKw pos (keywordEach kws X.env)).filterMap (·.1) = ks := by rfl) (hdb : (x == ("__debug__" : Str)) = false := by decide)
    (hpl : ((backTo pos (starEach [] X.env)).any (·.1) || (backToKw pos (keywordEach kws X.env)).any (·.1.isNone)) = false := by rfl) : PE X (.Call (.Name x p) [] kws pos) (tCallK0 sp gV tk) := by
  obtain ⟨f, fd, g, h1, h2, hb, F⟩ := O.ex
  refine ⟨fun pins s σ H Q I h => ?_⟩
  refine wpAny_Call_Name_kw (ld_glob I hg h1 ?_ hdb)
  refine PySem.W.callWith_KW0 (h₀ := X.base) (first := []) I.ok.mod.kin h2 hall (thn (hkw.run pos pins s σ H _ I h) ?_) hpl
  rintro ws s2 ⟨zs, H2, I2, rz, q2⟩
  refine ⟨I2.kIn, ?_⟩
  rw [hks]
  exact run_fnk (us := []) F hr hb pass0 I2 .nil rz q2
end Wnd

/-! repr of any nest of lists, tuples and dicts (keys: ints and texts), where nothing is being shown. -/
namespace Wnd
open PySem PySem.Spec PyProof.Rows L2
def keyD : Key → PyData
  | .inl i => .int i
  | .inr t => .str t
mutual
/-- the value x is the data d; its lists lie at none of the places B (where the modules are kept; what changes) -/
inductive Da (K : PySem.W.Frag) (B : List Addr) (H : Hp) : V → PyData → Prop
  | non : Da K B H .non .none
  | bl (b : Bool) : Da K B H (.bl b) (.bool b)
  | int (i : Int) : Da K B H (.int i) (.int i)
  | str (x : Str) : Da K B H (.str x) (.str x)
  | lst {a : Addr} {xs : List V} {ds : List PyData} : H a = some (.lst xs) → a ∉ B → DaAll K B H xs ds → Da K B H (.ref a) (.list ds)
  | tup {a : Addr} {xs : List V} {ds : List PyData} : SqT K H a xs → DaAll K B H xs ds → Da K B H (.ref a) (.tuple ds)
  | dic {a : Addr} {kvs : List (Key × V)} {ps : List (PyData × PyData)} : H a = some (.dK kvs) → DaKv K B H kvs ps → Da K B H (.ref a) (.dict ps)
inductive DaAll (K : PySem.W.Frag) (B : List Addr) (H : Hp) : List V → List PyData → Prop
  | nil : DaAll K B H [] []
  | cons {v : V} {vs : List V} {d : PyData} {ds : List PyData} : Da K B H v d → DaAll K B H vs ds → DaAll K B H (v :: vs) (d :: ds)
inductive DaKv (K : PySem.W.Frag) (B : List Addr) (H : Hp) : List (Key × V) → List (PyData × PyData) → Prop
  | nil : DaKv K B H [] []
  | cons {k : Key} {v : V} {kvs : List (Key × V)} {d : PyData} {ps : List (PyData × PyData)} : Da K B H v d → DaKv K B H kvs ps → DaKv K B H ((k, v) :: kvs) ((keyD k, d) :: ps)
end
section
variable {K : PySem.W.Frag} {B : List Addr} {H H' : Hp}
theorem sqT_same {a : Addr} {xs : List V} (h : SqT K H a xs) (s : Same H H') : SqT K H' a xs := by
  rcases h with (h | ⟨o, h⟩) | h
  · exact .inl (.inl (s _ _ h))
  · exact .inl (.inr ⟨o, s _ _ h⟩)
  · exact .inr h
mutual
theorem Da.same : ∀ {x : V} {d : PyData}, Da K B H x d → Same H H' → Da K B H' x d
  | _, _, .non, _ => .non
  | _, _, .bl b, _ => .bl b
  | _, _, .int i, _ => .int i
  | _, _, .str x, _ => .str x
  | _, _, .lst h n r, s => .lst (s _ _ h) n (r.same s)
  | _, _, .tup h r, s => .tup (sqT_same h s) (r.same s)
  | _, _, .dic h r, s => .dic (s _ _ h) (r.same s)
theorem DaAll.same : ∀ {xs : List V} {ds : List PyData}, DaAll K B H xs ds → Same H H' → DaAll K B H' xs ds
  | _, _, .nil, _ => .nil
  | _, _, .cons h r, s => .cons (h.same s) (r.same s)
theorem DaKv.same : ∀ {xs : List (Key × V)} {ds : List (PyData × PyData)}, DaKv K B H xs ds → Same H H' → DaKv K B H' xs ds
  | _, _, .nil, _ => .nil
  | _, _, .cons h r, s => .cons (h.same s) (r.same s)
end
mutual
/-- one list changes, at one of these places -/
theorem Da.but {p : Addr} (hp : p ∈ B) (hl : ∃ ys, H p = some (.lst ys)) (b : But p H H') : ∀ {x : V} {d : PyData}, Da K B H x d → Da K B H' x d
  | _, _, .non => .non
  | _, _, .bl b => .bl b
  | _, _, .int i => .int i
  | _, _, .str x => .str x
  | _, _, .lst h n r => .lst (b _ _ h fun z => n (z ▸ hp)) n (DaAll.but hp hl b r)
  | _, _, .tup h r => .tup (by
      obtain ⟨ys, hl⟩ := hl
      rcases h with (h | ⟨o, h⟩) | h
      · exact .inl (.inl (b _ _ h fun z => by rw [z, hl] at h; cases h))
      · exact .inl (.inr ⟨o, b _ _ h fun z => by rw [z, hl] at h; cases h⟩)
      · exact .inr h) (DaAll.but hp hl b r)
  | _, _, .dic h r => .dic (by
      obtain ⟨ys, hl⟩ := hl
      exact b _ _ h fun z => by rw [z, hl] at h; cases h) (DaKv.but hp hl b r)
theorem DaAll.but {p : Addr} (hp : p ∈ B) (hl : ∃ ys, H p = some (.lst ys)) (b : But p H H') : ∀ {xs : List V} {ds : List PyData}, DaAll K B H xs ds → DaAll K B H' xs ds
  | _, _, .nil => .nil
  | _, _, .cons h r => .cons (Da.but hp hl b h) (DaAll.but hp hl b r)
theorem DaKv.but {p : Addr} (hp : p ∈ B) (hl : ∃ ys, H p = some (.lst ys)) (b : But p H H') : ∀ {xs : List (Key × V)} {ds : List (PyData × PyData)}, DaKv K B H xs ds → DaKv K B H' xs ds
  | _, _, .nil => .nil
  | _, _, .cons h r => .cons (Da.but hp hl b h) (DaKv.but hp hl b r)
end
end
section
variable {X : Cx} {B : List Addr} {pins : List (Addr × Obj)} {σ : L2.St} {H : Hp} {s : Shared}
mutual
theorem Da.reads (hB : sysModules ∈ B) (I : Inv X pins σ H s) : ∀ (d : PyData) (v : V) (u : Value), Da X.K B H v d → RelV v u → ∃ as, Reads s.heap u d as ∧ sysModules ∉ as
  | .none, _, _, h, r => by
    cases h
    cases (show _ = Value.none from r)
    exact ⟨_, .none, List.not_mem_nil⟩
  | .bool b, _, _, h, r => by
    cases h
    cases (show _ = Value.bool b from r)
    exact ⟨_, .bool b, List.not_mem_nil⟩
  | .int i, _, _, h, r => by
    cases h
    obtain ⟨t, rfl⟩ := r
    exact ⟨_, .int i t, List.not_mem_nil⟩
  | .str x, _, _, h, r => by
    cases h
    obtain ⟨t, rfl⟩ := r
    exact ⟨_, .str x t, List.not_mem_nil⟩
  | .list ds, _, u, h, r => by
    cases h with
    | @lst a xs _ ha na hr =>
      cases (show u = Value.ref a from r)
      obtain ⟨_, its, n, rv, ho⟩ := (show ObjOk X.prog X.w H s.heap a (.lst xs) from I.hok a _ ha)
      obtain ⟨as, ra, n2⟩ := DaAll.reads hB I ds xs its hr rv
      refine ⟨a :: as, .list ho rfl rfl ra, fun hm => ?_⟩
      rcases List.mem_cons.mp hm with e | e
      · exact na (e ▸ hB)
      · exact n2 e
  | .tuple ds, _, u, h, r => by
    cases h with
    | @tup a xs _ ha hr =>
      cases (show u = Value.ref a from r)
      obtain ⟨its, rv, ⟨o, ho, hcl, n, hd⟩, _⟩ := I.tuple ha
      obtain ⟨as, ra, n2⟩ := DaAll.reads hB I ds xs its hr rv
      exact ⟨as, .tuple ho hcl hd ra, n2⟩
  | .dict ps, _, u, h, r => by
    cases h with
    | @dic a kvs _ ha hr =>
      cases (show u = Value.ref a from r)
      obtain ⟨_, lo, vs, kv, o, es, ep, h1, h2, h3, _, h5, _⟩ := dk_of I.hok ha
      obtain ⟨bs, r1, r2, n2⟩ := DaKv.reads hB I ps kvs vs es.toList hr kv h5
      refine ⟨_, .dict h1 h2.1 h3 r1 r2, fun hm => ?_⟩
      rcases List.mem_cons.mp hm with e | e
      · rw [e] at lo
        simp at lo
      · exact n2 e
theorem DaAll.reads (hB : sysModules ∈ B) (I : Inv X pins σ H s) : ∀ (ds : List PyData) (vs : List V) (us : List Value), DaAll X.K B H vs ds → Vals vs us → ∃ as, ReadsAll s.heap us ds as ∧ sysModules ∉ as
  | [], _, _, h, r => by
    cases h
    cases r
    exact ⟨_, .nil, List.not_mem_nil⟩
  | d :: ds, _, _, h, r => by
    cases h with
    | cons h1 h2 =>
      cases r with
      | cons r1 r2 =>
        obtain ⟨as, ra, na⟩ := Da.reads hB I d _ _ h1 r1
        obtain ⟨bs, rb, nb⟩ := DaAll.reads hB I ds _ _ h2 r2
        exact ⟨_, .cons ra rb, fun hm => (List.mem_append.mp hm).elim na nb⟩
theorem DaKv.reads (hB : sysModules ∈ B) (I : Inv X pins σ H s) : ∀ (ps : List (PyData × PyData)) (kvs : List (Key × V)) (vs : List (Key × Value)) (es : List DictEntry), DaKv X.K B H kvs ps → KV kvs vs → Pairs (mixKind X.prog X.w) es vs →
    ∃ bs, ReadsAll s.heap (es.map (·.key)) (ps.map (·.1)) [] ∧ ReadsAll s.heap (es.map (·.val)) (ps.map (·.2)) bs ∧ sysModules ∉ bs
  | [], _, _, _, h, r, k => by
    cases h
    cases r
    cases k
    exact ⟨[], .nil, .nil, List.not_mem_nil⟩
  | p :: ps, _, _, _, h, r, k => by
    cases h with
    | @cons key v kvs d _ h1 h2 =>
      cases r with
      | cons r1 r2 =>
        cases k with
        | cons k1 k2 k3 =>
          rename_i kv tail ent es'
          obtain ⟨kk, val⟩ := kv
          have e1 : key = kk := r1.1
          subst e1
          have rv : RelV v val := r1.2
          have k1 : keyIs key ent.key = true := k1
          have k2 : ent.val = val := k2
          obtain ⟨as, ra, na⟩ := Da.reads hB I d v val h1 rv
          obtain ⟨bs, rk, rb, nb⟩ := DaKv.reads hB I ps _ _ _ h2 r2 k3
          refine ⟨as ++ bs, ?_, ?_, fun hm => (List.mem_append.mp hm).elim na nb⟩
          · show ReadsAll s.heap (ent.key :: es'.map (·.key)) (keyD key :: _) ([] ++ [])
            rcases keyIs_shape k1 with ⟨i, t, z, z2⟩ | ⟨y, t, z, z2⟩
            · subst z
              rw [z2]
              exact .cons (.int i t) rk
            · subst z
              rw [z2]
              exact .cons (.str y t) rk
          · show ReadsAll s.heap (ent.val :: es'.map (·.val)) (d :: _) (as ++ bs)
            rw [k2]
            exact .cons ra rb
end
end
/-- repr(x), x a list, a tuple or a dict -/
def rReprA (K : PySem.W.Frag) (B : List Addr) : List V → Hp → VK → Prop := fun xs H Q => ∃ (a : Addr) (d : PyData), xs = [.ref a] ∧ Da K B H (.ref a) d ∧ d.showable = true ∧ d.shown.length ≤ sizeLine ∧ d.depth ≤ 60 ∧ Q (.str d.shown) H
theorem call_reprA {X : Cx} (B : List Addr) (hB : sysModules ∈ B) (free : X.A.guards = some []) (hu : X.A.units + 65 < cLine) : CallR X (.builtin "repr") (rReprA X.K B) := by
  intro pins s σ H xs us Q I r h
  obtain ⟨a, d, rfl, hd, sw, sz, dp, q⟩ := h
  obtain ⟨u, rfl, ru⟩ := vals1 r
  cases (show u = Value.ref a from ru)
  obtain ⟨as, rd, na⟩ := Da.reads hB I d _ _ hd ru
  exact repr_of_reads' rd sw (fun _ hm => na hm) free (by omega) (fun _ _ e => e) (fun h' t tk kp => ⟨.str d.shown, H, I.kept (t' := tk) kp, ⟨t, rfl⟩, q⟩) sz
end Wnd

/-! nests of bounded size: their repr fits. -/
namespace Wnd
open PySem PySem.Spec PyProof.Rows L2
/-- a nest no deeper than m, no heavier than w -/
structure Nice (m w : Nat) (d : PyData) : Prop where
  short : d.leavesShort 45 = true
  shows : d.showable = true
  weight : d.weight ≤ w
  depth : d.depth ≤ m
theorem Nice.le {m w m' w' : Nat} {d : PyData} (h : Nice m w d) (h1 : m ≤ m') (h2 : w ≤ w') : Nice m' w' d := ⟨h.short, h.shows, Nat.le_trans h.weight h2, Nat.le_trans h.depth h1⟩
theorem nice_all {m w : Nat} : ∀ {ds : List PyData}, (∀ d ∈ ds, Nice m w d) → PyData.leavesShortAll 45 ds = true ∧ PyData.showableAll ds = true ∧ PyData.weightAll ds ≤ ds.length * (w + 1) ∧ PyData.depthAll ds ≤ m
  | [], _ => ⟨by simp [PyData.leavesShortAll], by simp [PyData.showableAll], by simp [PyData.weightAll], by simp [PyData.depthAll]⟩
  | d :: ds, h => by
    obtain ⟨h1, h2, h3, h4⟩ := nice_all fun x hx => h x (List.mem_cons_of_mem _ hx)
    have hd := h d List.mem_cons_self
    have a := hd.weight
    have b := hd.depth
    refine ⟨by simp [PyData.leavesShortAll, hd.short, h1], by simp [PyData.showableAll, hd.shows, h2], ?_, ?_⟩
    · simp only [PyData.weightAll, List.length_cons, Nat.succ_mul]
      omega
    · simp only [PyData.depthAll]
      omega
theorem nice_list {m w : Nat} {ds : List PyData} (h : ∀ d ∈ ds, Nice m w d) : Nice (m + 1) (ds.length * (w + 1)) (.list ds) := by
  obtain ⟨h1, h2, h3, h4⟩ := nice_all h
  refine ⟨by simp [PyData.leavesShort, h1], by simp [PyData.showable, h2], by simp only [PyData.weight]; exact h3, ?_⟩
  simp only [PyData.depth]
  omega
theorem nice_tuple {m w : Nat} {ds : List PyData} (h : ∀ d ∈ ds, Nice m w d) : Nice (m + 1) (ds.length * (w + 1)) (.tuple ds) := by
  obtain ⟨h1, h2, h3, h4⟩ := nice_all h
  refine ⟨by simp [PyData.leavesShort, h1], by simp [PyData.showable, h2], by simp only [PyData.weight]; exact h3, ?_⟩
  simp only [PyData.depth]
  omega
theorem nice_kv {m w : Nat} : ∀ {ps : List (PyData × PyData)}, (∀ p ∈ ps, Nice m w p.1 ∧ Nice m w p.2) → PyData.leavesShortKv 45 ps = true ∧ PyData.showableKv ps = true ∧ PyData.weightKv ps ≤ ps.length * (2 * w + 2) ∧ PyData.depthKv ps ≤ m
  | [], _ => ⟨by simp [PyData.leavesShortKv], by simp [PyData.showableKv], by simp [PyData.weightKv], by simp [PyData.depthKv]⟩
  | (a, b) :: ps, h => by
    obtain ⟨h1, h2, h3, h4⟩ := nice_kv fun x hx => h x (List.mem_cons_of_mem _ hx)
    obtain ⟨ha, hb⟩ := h (a, b) List.mem_cons_self
    have a1 := ha.weight
    have a2 := ha.depth
    have b1 := hb.weight
    have b2 := hb.depth
    have a3 := ha.short
    have b3 := hb.short
    have a4 := ha.shows
    have b4 := hb.shows
    dsimp only at a1 a2 b1 b2 a3 b3 a4 b4
    refine ⟨by simp [PyData.leavesShortKv, a3, b3, h1], by simp [PyData.showableKv, a4, b4, h2], ?_, ?_⟩
    · rw [List.length_cons, Nat.succ_mul]
      simp only [PyData.weightKv]
      omega
    · simp only [PyData.depthKv]
      omega
theorem nice_dict {m w : Nat} {ps : List (PyData × PyData)} (h : ∀ p ∈ ps, Nice m w p.1 ∧ Nice m w p.2) : Nice (m + 1) (ps.length * (2 * w + 2)) (.dict ps) := by
  obtain ⟨h1, h2, h3, h4⟩ := nice_kv h
  refine ⟨by simp [PyData.leavesShort, h1], by simp [PyData.showable, h2], by simp only [PyData.weight]; exact h3, ?_⟩
  simp only [PyData.depth]
  omega
/-- its repr fits a line -/
theorem Nice.fits {m w : Nat} {d : PyData} (h : Nice m w d) (hm : m ≤ 60) (hw : w ≤ 300000) : d.showable = true ∧ d.shown.length ≤ sizeLine ∧ d.depth ≤ 60 := by
  refine ⟨h.shows, ?_, Nat.le_trans h.depth hm⟩
  have e := PyData.shown_le 45 (by decide) d h.short
  have a := h.weight
  have : sizeLine = 16777216 := by decide
  omega
theorem nice_none : Nice 0 0 .none := ⟨by simp [PyData.leavesShort], by simp [PyData.showable], by simp [PyData.weight], by simp [PyData.depth]⟩
theorem nice_bool (b : Bool) : Nice 0 0 (.bool b) := ⟨by simp [PyData.leavesShort], by simp [PyData.showable], by simp [PyData.weight], by simp [PyData.depth]⟩
theorem nice_str {t : Str} (h : ∀ c ∈ t.cps.toList, c < 16 ^ 8) : Nice 0 t.length (.str t) := ⟨by
  simp only [PyData.leavesShort, List.all_eq_true, decide_eq_true_eq]
  exact h, by simp [PyData.showable], by simp only [PyData.weight]; exact Nat.le_refl _, by simp [PyData.depth]⟩
theorem nice_int {i : Int} (h : i.natAbs < 10 ^ 12) : Nice 0 64 (.int i) := by
  have l := log_small (k := 40) (by decide) (Nat.lt_trans h (by decide))
  refine ⟨?_, ?_, ?_, by simp [PyData.depth]⟩
  · have := int_shown_len h
    simp only [PyData.leavesShort, decide_eq_true_eq]
    omega
  · simp only [PyData.showable, decide_eq_true_eq]
    omega
  · simp only [PyData.weight]
    split
    · omega
    · omega
section
variable {K : PySem.W.Frag} {B : List Addr} {H : Hp}
/-- whether it is an integer within bounds is known of all that a nest holds -/
theorem da_in {x : V} {d : PyData} (h : Da K B H x d) (lo hi : Int) : ∃ b, (∃ i, x = .int i ∧ b = (decide (lo ≤ i) && decide (i ≤ hi))) ∨ (((∃ k, x = .bl k) ∨ ∃ t, TyX K H x t ∧ PySem.W.kitOne K t (.type "int") = some false) ∧ b = false) := by
  cases h with
  | non => exact ⟨false, .inr ⟨.inr ⟨_, .base .non, kit_ty (by decide +kernel)⟩, rfl⟩⟩
  | bl b => exact ⟨false, .inr ⟨.inl ⟨b, rfl⟩, rfl⟩⟩
  | int i => exact ⟨_, .inl ⟨i, rfl, rfl⟩⟩
  | str x => exact ⟨false, .inr ⟨.inr ⟨_, .base (.str x), kit_ty (by decide +kernel)⟩, rfl⟩⟩
  | lst ha _ _ => exact ⟨false, .inr ⟨.inr ⟨_, .base (.lst ha), kit_ty (by decide +kernel)⟩, rfl⟩⟩
  | tup ha _ =>
    rcases ha with (ha | ⟨o, ha⟩) | ⟨o, its, n, hk, hc, _⟩
    · exact ⟨false, .inr ⟨.inr ⟨_, .base (.tup ha), kit_ty (by decide +kernel)⟩, rfl⟩⟩
    · exact ⟨false, .inr ⟨.inr ⟨_, .fTuple ha, kit_ty (by decide +kernel)⟩, rfl⟩⟩
    · exact ⟨false, .inr ⟨.inr ⟨_, .kTuple hk hc, kit_ty (by decide +kernel)⟩, rfl⟩⟩
  | dic ha _ => exact ⟨false, .inr ⟨.inr ⟨_, .base (.dK ha), kit_ty (by decide +kernel)⟩, rfl⟩⟩
end
end Wnd

/-! prices of one's own: names, each with a number or None -/
namespace Wnd
open PySem PySem.Spec PyProof.Rows L2
abbrev Own := List (Str × Option Int)
def ownKV (g : Own) : List (Key × V) := g.map fun x => (Sum.inr x.1, optV x.2)
def valO (g : Own) (t : Str) : Option (Option Int) := (g.find? fun x => decide (x.1 = t)).map (·.2)
def putO (g : Own) (t : Str) (o : Option Int) : Own := if (g.any fun x => decide (x.1 = t)) = true then g.map (fun x => if x.1 = t then (x.1, o) else x) else g ++ [(t, o)]
def sortO (g : Own) : Own := (sortN (g.map (·.1))).map fun t => (t, (valO g t).getD none)
theorem own_keys (g : Own) : (ownKV g).map (·.1) = (g.map (·.1)).map Sum.inr := by
  unfold ownKV
  rw [List.map_map, List.map_map]
  rfl
theorem val_own (t : Str) : ∀ g : Own, valV (ownKV g) (Sum.inr t : Key) = (valO g t).map optV
  | [] => rfl
  | x :: g => by
    have ih := val_own t g
    by_cases e : x.1 = t
    · rw [show ownKV (x :: g) = (Sum.inr x.1, optV x.2) :: ownKV g from rfl, valV_pos (by rw [e])]
      simp [valO, List.find?_cons, e]
    · rw [show ownKV (x :: g) = (Sum.inr x.1, optV x.2) :: ownKV g from rfl, valV_neg (fun z => e (by injection z)), ih]
      simp [valO, List.find?_cons, e]
theorem any_own (t : Str) (g : Own) : ((ownKV g).any fun kv => decide (kv.1 = (Sum.inr t : Key))) = g.any fun x => decide (x.1 = t) := by
  unfold ownKV
  rw [List.any_map]
  congr 1
  funext x
  rw [Bool.eq_iff_iff]
  simp
theorem put_own (g : Own) (t : Str) (o : Option Int) : putK (ownKV g) (Sum.inr t : Key) (optV o) = ownKV (putO g t o) := by
  unfold putK putO
  rw [any_own]
  by_cases e : (g.any fun x => decide (x.1 = t)) = true
  · rw [if_pos e, if_pos e]
    unfold ownKV
    rw [List.map_map, List.map_map]
    refine List.map_congr_left fun x _ => ?_
    by_cases ex : x.1 = t
    · simp [ex]
    · have : ¬ ((Sum.inr x.1 : Key) = Sum.inr t) := fun z => ex (by injection z)
      simp [ex]
  · rw [if_neg e, if_neg e]
    unfold ownKV
    rw [List.map_append]
    rfl
theorem any_mem {g : Own} {t : Str} : (g.any fun x => decide (x.1 = t)) = true ↔ t ∈ g.map (·.1) := by
  rw [List.any_eq_true, List.mem_map]
  exact ⟨fun ⟨x, h, e⟩ => ⟨x, h, of_decide_eq_true e⟩, fun ⟨x, h, e⟩ => ⟨x, h, decide_eq_true e⟩⟩
theorem put_keys (g : Own) (t : Str) (o : Option Int) : (putO g t o).map (·.1) = if t ∈ g.map (·.1) then g.map (·.1) else g.map (·.1) ++ [t] := by
  unfold putO
  by_cases e : t ∈ g.map (·.1)
  · rw [if_pos (any_mem.mpr e), if_pos e, List.map_map]
    refine List.map_congr_left fun x _ => ?_
    by_cases ex : x.1 = t <;> simp [ex]
  · rw [if_neg (fun z => e (any_mem.mp z)), if_neg e, List.map_append]
    rfl
theorem put_nodup {g : Own} {t : Str} {o : Option Int} (h : (g.map (·.1)).Nodup) : ((putO g t o).map (·.1)).Nodup := by
  rw [put_keys]
  by_cases e : t ∈ g.map (·.1)
  · rw [if_pos e]; exact h
  · rw [if_neg e]
    exact List.nodup_append.mpr ⟨h, by simp, fun a ha b hb z => by
      rw [List.mem_singleton.mp hb] at z
      exact e (z ▸ ha)⟩
theorem put_len {g : Own} {t : Str} {o : Option Int} : (putO g t o).length ≤ g.length + 1 := by
  have h : (putO g t o).length = ((putO g t o).map (·.1)).length := (List.length_map _).symm
  rw [h, put_keys]
  split
  · rw [List.length_map]; omega
  · rw [List.length_append, List.length_map]; exact Nat.le_refl _
theorem val_put (t : Str) (o : Option Int) (s : Str) : ∀ g : Own, valO (putO g t o) s = if s = t then some o else valO g s := by
  intro g
  unfold putO
  by_cases e : (g.any fun x => decide (x.1 = t)) = true
  · rw [if_pos e]
    induction g with
    | nil => cases e
    | cons x g ih =>
      rw [List.map_cons]
      by_cases ex : x.1 = t
      · rw [if_pos ex]
        by_cases es : s = t
        · simp [valO, List.find?_cons, ex, es]
        · rw [if_neg es]
          have h1 : ¬ x.1 = s := fun z => es (by rw [← z, ex])
          by_cases e2 : (g.any fun x => decide (x.1 = t)) = true
          · have := ih e2
            rw [if_neg es] at this
            have a1 : ∀ r : Own, valO ((x.1, o) :: r) s = valO r s := fun r => by simp [valO, List.find?_cons, h1]
            have a2 : ∀ r : Own, valO (x :: r) s = valO r s := fun r => by simp [valO, List.find?_cons, h1]
            rw [a1, a2, this]
          · have idm : g.map (fun x => if x.1 = t then (x.1, o) else x) = g := by
              conv => rhs; rw [← List.map_id g]
              refine List.map_congr_left fun y hy => ?_
              have : ¬ y.1 = t := fun z => e2 (List.any_eq_true.mpr ⟨y, hy, decide_eq_true z⟩)
              rw [if_neg this]; rfl
            rw [idm]
            simp [valO, List.find?_cons, h1]
      · rw [if_neg ex]
        have e2 : (g.any fun x => decide (x.1 = t)) = true := by
          rw [List.any_cons, decide_eq_false ex, Bool.false_or] at e
          exact e
        have := ih e2
        by_cases exs : x.1 = s
        · have es : ¬ s = t := fun z => ex (by rw [exs, z])
          rw [if_neg es]
          simp [valO, List.find?_cons, exs]
        · have a2 : ∀ r : Own, valO (x :: r) s = valO r s := fun r => by simp [valO, List.find?_cons, exs]
          rw [a2, a2, this]
  · rw [if_neg e]
    have no : ∀ x ∈ g, ¬ x.1 = t := fun x hx z => e (List.any_eq_true.mpr ⟨x, hx, decide_eq_true z⟩)
    by_cases es : s = t
    · rw [if_pos es]
      unfold valO
      rw [List.find?_append, List.find?_eq_none.mpr (fun x hx => by simpa [es] using no x hx)]
      simp [es]
    · rw [if_neg es]
      unfold valO
      rw [List.find?_append]
      have : List.find? (fun x => decide (x.1 = s)) [(t, o)] = none := by
        rw [List.find?_eq_none]
        intro x hx
        rw [List.mem_singleton.mp hx]
        simpa using fun z => es z.symm
      rw [this, Option.or_none]
theorem val_mem {g : Own} {t : Str} : (valO g t).isSome = true ↔ t ∈ g.map (·.1) := by
  unfold valO
  rw [Option.isSome_map, List.find?_isSome]
  constructor
  · rintro ⟨x, hx, e⟩
    exact List.mem_map.mpr ⟨x, hx, of_decide_eq_true e⟩
  · intro h
    obtain ⟨x, hx, e⟩ := List.mem_map.mp h
    exact ⟨x, hx, decide_eq_true e⟩
theorem val_of_map (f : Str → Option Int) (t : Str) : ∀ ks : List Str, valO (ks.map fun k => (k, f k)) t = if t ∈ ks then some (f t) else none
  | [] => rfl
  | k :: ks => by
    by_cases e : k = t
    · subst e
      simp [valO, List.find?_cons]
    · have ih := val_of_map f t ks
      have a : valO (((k :: ks).map fun k => (k, f k))) t = valO (ks.map fun k => (k, f k)) t := by
        rw [List.map_cons]
        simp [valO, List.find?_cons, e]
      rw [a, ih]
      have : (t ∈ k :: ks) ↔ t ∈ ks := by
        rw [List.mem_cons]
        exact ⟨fun h => h.elim (fun z => absurd z.symm e) id, .inr⟩
      simp only [this]
theorem sortO_keys (g : Own) : (sortO g).map (·.1) = sortN (g.map (·.1)) := by
  unfold sortO
  rw [List.map_map]
  exact List.map_id' _
theorem sortO_len (g : Own) : (sortO g).length = g.length := by
  unfold sortO
  rw [List.length_map, (sortN_perm _).length_eq, List.length_map]
theorem sortO_nodup {g : Own} (h : (g.map (·.1)).Nodup) : ((sortO g).map (·.1)).Nodup := by
  rw [sortO_keys]
  exact (sortN_perm _).nodup_iff.mpr h
theorem val_sort (g : Own) (t : Str) : valO (sortO g) t = valO g t := by
  unfold sortO
  rw [val_of_map]
  by_cases h : t ∈ sortN (g.map (·.1))
  · rw [if_pos h]
    have h2 := (val_mem (g := g)).mpr ((sortN_perm _).mem_iff.mp h)
    cases e : valO g t with
    | none => rw [e] at h2; cases h2
    | some o => rfl
  · rw [if_neg h]
    cases e : valO g t with
    | none => rfl
    | some o => exact absurd ((sortN_perm _).mem_iff.mpr ((val_mem (g := g)).mp (by rw [e]; rfl))) h
theorem sortO_ext {g g' : Own} (hk : (g.map (·.1)).Perm (g'.map (·.1))) (hv : ∀ t, valO g t = valO g' t) : sortO g = sortO g' := by
  unfold sortO
  rw [sortN_one hk]
  exact List.map_congr_left fun t _ => by rw [hv]
theorem sortO_put {g : Own} (h : (g.map (·.1)).Nodup) (t : Str) (o : Option Int) : sortO (putO (sortO g) t o) = sortO (putO g t o) := by
  refine sortO_ext ?_ fun s => by rw [val_put, val_put, val_sort]
  rw [put_keys, put_keys, sortO_keys]
  have mi : t ∈ sortN (g.map (·.1)) ↔ t ∈ g.map (·.1) := (sortN_perm _).mem_iff
  by_cases e : t ∈ g.map (·.1)
  · rw [if_pos e, if_pos (mi.mpr e)]
    exact sortN_perm _
  · rw [if_neg e, if_neg (fun z => e (mi.mp z))]
    exact (sortN_perm _).append_right _
theorem mem_put {g : Own} {t : Str} {o : Option Int} {x : Str × Option Int} (h : x ∈ putO g t o) : x ∈ g ∨ x = (t, o) := by
  unfold putO at h
  split at h
  · obtain ⟨y, hy, e⟩ := List.mem_map.mp h
    by_cases ey : y.1 = t
    · rw [if_pos ey] at e
      exact .inr (by rw [← e, ey])
    · rw [if_neg ey] at e
      exact .inl (e ▸ hy)
  · rcases List.mem_append.mp h with h | h
    · exact .inl h
    · exact .inr (List.mem_singleton.mp h)
theorem val_in {g : Own} {t : Str} {o : Option Int} (h : valO g t = some o) : (t, o) ∈ g := by
  unfold valO at h
  obtain ⟨x, hx, e⟩ := Option.map_eq_some_iff.mp h
  have h1 := List.mem_of_find?_eq_some hx
  have h2 := List.find?_some hx
  have : x = (t, o) := by rw [← e, ← of_decide_eq_true h2]
  exact this ▸ h1
theorem mem_sort {g : Own} {x : Str × Option Int} (h : x ∈ sortO g) : x ∈ g := by
  unfold sortO at h
  obtain ⟨t, ht, rfl⟩ := List.mem_map.mp h
  have := (val_mem (g := g)).mpr ((sortN_perm _).mem_iff.mp ht)
  cases e : valO g t with
  | none => rw [e] at this; cases this
  | some o => exact val_in e
theorem sort_sort {g : Own} : sortO (sortO g) = sortO g := sortO_ext (by rw [sortO_keys]; exact sortN_perm _) (val_sort g)
/-! how they show -/
def ownD (g : Own) : PyData := .dict (g.map fun x => (PyData.str x.1, optD x.2))
theorem da_own {K : PySem.W.Frag} {B : List Addr} {H : Hp} {a : Addr} {g : Own} (h : H a = some (.dK (ownKV g))) : Da K B H (.ref a) (ownD g) := by
  refine .dic h ?_
  clear h
  unfold ownKV
  induction g with
  | nil => exact .nil
  | cons x g ih =>
    refine .cons (k := Sum.inr x.1) ?_ ih
    cases x.2 with
    | none => exact .non
    | some i => exact .int i
theorem put_noneKV {g : Own} {t : Str} {o : Option Int} (h : t ∉ g.map (·.1)) : putK (ownKV g) (Sum.inr t : Key) (optV o) = ownKV (g ++ [(t, o)]) := by
  rw [put_own]
  unfold putO
  rw [if_neg (fun z => h (any_mem.mp z))]
end Wnd

/-! A dict display {**d, k: v}. The merge follows the library's wpAny_mergeDict. -/
namespace Wnd
open PySem PySem.Spec PyProof.Rows L2
section
variable {prog : Program} {w : World} {Key' : Type} [DecidableEq Key'] {knd : KeyKind prog w Key'} {A : Around} {E : Value → Shared → Prop} {s : Shared}
theorem wpAny_dictPut_pairs {d : Addr} {kvs : List (Key' × Value)} {k : Key'} {key v : Value} {Q : Unit → Shared → Prop} (hkey : knd.is k key = true) (hm : s.heap.DictOf knd d kvs)
    (hQ : ∀ h', h'.DictOf knd d (stored kvs k v) → Heap.SameBut d s.heap h' → Q () { s with heap := h' })
    (hsz : kvs.length ≤ sizeLine := by size_fits) :
    wpAny (model prog w) A (dictPut d (knd.hash k) key v) Q E s := by
  obtain ⟨o, es, ep, ho, hc, hd, hk, hp, hn⟩ := hm
  have hes : es.size ≤ sizeLine := by have e1 := hp.length; have e2 : es.toList.length = es.size := by simp
                                      omega
  unfold dictPut
  refine wpAny_bind (wpAny_dictFind_of hkey ho hd hk ?_)
  have hidx : (es.findIdx? fun e => knd.is k e.key) = kvs.findIdx? fun kv => decide (kv.1 = k) := by
    rw [← hp.findIdx k]; obtain ⟨l⟩ := es; simp
  cases hi : es.findIdx? fun e => knd.is k e.key with
  | some i =>
    refine wpAny_updateDict ho hd (hQ _ ⟨_, _, ep, Heap.get?_update_self _ ho (Obj.isFreed_of_dict (Obj.data_mapDict hd _)),
      hc.mapDict _, Obj.data_mapDict hd _, hk.modify _ _, ?_, ?_⟩ (Heap.SameBut.update ..))
    · rw [stored, if_pos (any_of_findIdx_some (hidx ▸ hi))]
      have hl : (es.toList.findIdx? fun e => knd.is k e.key) = some i := by rw [← hi]; obtain ⟨l⟩ := es; simp
      have := hp.modify hn hl v
      obtain ⟨l⟩ := es
      simpa using this
    · rw [stored, if_pos (any_of_findIdx_some (hidx ▸ hi)), keys_map_store]; exact hn
  | none =>
    have hnot : k ∉ kvs.map (·.1) := not_mem_of_findIdx_none (hidx ▸ hi)
    have hany : ¬ (kvs.any fun kv => decide (kv.1 = k)) = true := by
      rw [List.any_eq_true]; rintro ⟨kv, hkv, he⟩
      exact hnot (List.mem_map.mpr ⟨kv, hkv, of_decide_eq_true he⟩)
    refine wpAny_updateDictKeys (hz := hes) ho hd (hQ _ ⟨_, _, ep + 1, Heap.get?_update_self _ ho (Obj.isFreed_of_dict (Obj.data_mapDictKeys hd _)),
      hc.mapDictKeys _, Obj.data_mapDictKeys hd _, hk.push hkey _, ?_, ?_⟩ (Heap.SameBut.update ..))
    · rw [stored, if_neg hany]
      have := hp.append hkey (knd.hash k) v
      obtain ⟨l⟩ := es
      simpa using this
    · rw [stored, if_neg hany, List.map_append, List.nodup_append]
      refine ⟨hn, by simp, ?_⟩
      intro a ha b hb
      simp only [List.map_cons, List.map_nil, List.mem_singleton] at hb
      subst hb
      exact fun e => hnot (e ▸ ha)
theorem wpAny_mergeMapping {d o : Addr} {kvs more : List (Key' × Value)} {Q : Unit → Shared → Prop} (hdo : d ≠ o) (hoS : (o == sysModules) = false)
    (hd : s.heap.DictOf knd d kvs) (ho : s.heap.DictOf knd o more)
    (hQ : ∀ h', h'.DictOf knd d (merged kvs more) → h'.DictOf knd o more → Heap.SameBut d s.heap h' → Q () { s with heap := h' })
    (hsz : kvs.length + more.length ≤ sizeLine := by size_fits) :
    wpAny (model prog w) A (mergeMapping d (.ref o) false) Q E s := by
  obtain ⟨od, esd, epd, hod, hcd, hdd, hkd, hpd, hnd⟩ := id hd
  obtain ⟨oo, eso, epo, hoo, hco, hdo', hko, hpo, hno⟩ := id ho
  have hlen : more.length = eso.size := by rw [← hpo.length]; simp
  have loop : wpAny (model prog w) A (do
      let l ← dictEntries o
      let epoch ← dictEpoch o
      forIn (List.range l.size) PUnit.unit fun i (_ : PUnit) => (do
          let l' ← dictEntries o
          match l'[i]? with
            | some e => do
              holding [e.key, e.val] (dictPut d e.hash e.key e.val)
              let ep' ← dictEpoch o
              if (ep' != epoch) = true then do
                  (unsupported "dict.changed-during-merge" : Sem PUnit)
                  pure (ForInStep.yield PUnit.unit)
                else pure (ForInStep.yield PUnit.unit)
            | _ => do
              (unsupported "dict.changed-during-merge" : Sem PUnit)
              pure (ForInStep.yield PUnit.unit) : Sem (ForInStep PUnit))
      pure ()) Q E s := by
    refine wpAny_bind (wpAny_dictEntries hoo hdo' ?_)
    refine wpAny_bind (wpAny_dictEpoch hoo hdo' ?_)
    refine wpAny_bind ?_
    rw [List.range_eq_range']
    refine wpAny_forIn_list _
      (fun rest _ s' => ∃ h' i, s' = { s with heap := h' } ∧ rest = List.range' i (eso.size - i) ∧ i ≤ eso.size ∧ h'.DictOf knd d (merged kvs (more.take i)) ∧ h'.get? o = some oo ∧ Heap.SameBut d s.heap h')
      _ ?_ ?_ _ _ ⟨s.heap, 0, rfl, by simp, Nat.zero_le _, by simpa [merged] using hd, hoo, Heap.SameBut.refl _ _⟩
    · rintro x rest b s' ⟨h', i, rfl, hr, hi, hd', hoo', hs'⟩
      have hlt : i < eso.size := by
        rcases Nat.lt_or_ge i eso.size with h | h
        · exact h
        · rw [Nat.sub_eq_zero_of_le h] at hr; simp at hr
      obtain ⟨rfl, hrest⟩ : x = i ∧ rest = List.range' (i + 1) (eso.size - (i + 1)) := by
        have e : eso.size - i = (eso.size - (i + 1)) + 1 := by omega
        rw [e, List.range'_succ] at hr
        injection hr with h1 h2
        exact ⟨h1, h2⟩
      refine wpAny_bind (wpAny_dictEntries hoo' hdo' ?_)
      rw [Array.getElem?_eq_getElem hlt]
      obtain ⟨kv, hkv⟩ : ∃ kv, more[x]? = some kv := ⟨more[x]'(by rw [hlen]; exact hlt), List.getElem?_eq_getElem _⟩
      obtain ⟨k, v⟩ := kv
      obtain ⟨hkey, hval⟩ := hpo.get? (e := eso[x]) (by simp [hlt]) hkv
      obtain ⟨k', hkey', hhash⟩ := hko eso[x] (Array.getElem_mem hlt)
      obtain rfl : k' = k := knd.inj _ _ _ hkey' hkey
      show wpAny _ _ (holding [eso[x].key, eso[x].val] (dictPut d eso[x].hash eso[x].key eso[x].val) >>= _) _ _ _
      rw [hhash, hval]
      have hmx : (merged kvs (more.take x)).length ≤ sizeLine := by
        have e1 := merged_length_le kvs (more.take x)
        have e2 : (more.take x).length ≤ more.length := by rw [List.length_take]; omega
        omega
      refine wpAny_bind (wpAny_holding (wpAny_dictPut_pairs (hsz := hmx) hkey hd' fun h'' hd'' hs'' => ?_))
      have hoo'' : h''.get? o = some oo := (hs''.2 o (Ne.symm hdo)).trans hoo'
      refine wpAny_bind (wpAny_dictEpoch hoo'' hdo' ?_)
      rw [if_neg (by simp)]
      exact wpAny_pure ⟨h'', x + 1, rfl, hrest, hlt, by rw [merged_take_succ kvs more x (k', v) hkv]; exact hd'', hoo'', hs'.trans hs''⟩
    · rintro b s' ⟨h', i, rfl, hr, hi, hd', hoo', hs'⟩
      have hin : i = eso.size := by
        rcases Nat.lt_or_ge i eso.size with h | h
        · have e : eso.size - i = (eso.size - (i + 1)) + 1 := by omega
          rw [e, List.range'_succ] at hr; exact nomatch hr
        · exact Nat.le_antisymm hi h
      refine wpAny_pure (hQ h' ?_ ⟨oo, eso, epo, hoo', hco, hdo', hko, hpo, hno⟩ hs')
      rw [hin, ← hlen, List.take_length] at hd'; exact hd'
  unfold mergeMapping
  refine wpAny_bind (wpAny_isInstance ho.typeIs isSubtype_dict_dict ?_)
  simp only [if_true]
  refine wpAny_bind (wpAny_specialOf ho.typeIs F.slot_dict_iter.lookup ?_)
  simp only [beq_self_eq_true]
  refine wpAny_bind (wpAny_pure ?_)
  dsimp only
  rw [if_neg (by rw [hoS]; exact Bool.false_ne_true)]
  refine wpAny_bind (wpAny_dictEntries hod hdd ?_)
  by_cases hemp : esd.isEmpty = true
  · rw [if_pos hemp]
    refine wpAny_bind (wpAny_dictEntries hoo hdo' ?_)
    have hloop : (forIn eso PUnit.unit fun e (_ : PUnit) => (
        match e.key with
        | .ref a => do
          let __do_lift ← specialOf e.key "__eq__"
          if (__do_lift != some (Value.builtin "object.__eq__")) = true then
              if (Array.filter (fun x => x.hash == e.hash) eso).size > 1 then do
                let _ ← (unsupported "dict.merge-into-an-empty-dict:keys-of-equal-hash" : Sem PUnit)
                pure (ForInStep.yield PUnit.unit)
              else pure (ForInStep.yield PUnit.unit)
            else pure (ForInStep.yield PUnit.unit)
        | x => pure (ForInStep.yield PUnit.unit) : Sem (ForInStep PUnit))) = pure PUnit.unit := by
      rw [← Array.forIn_toList]
      refine forIn_yield_id _ fun e he c => ?_
      obtain ⟨k, hkey, _⟩ := hko e (Array.mem_toList_iff.mp he)
      have := knd.byValue k _ hkey
      cases hk : e.key with
      | ref a => rw [hk] at this; cases this
      | _ => rfl
    refine wpAny_bind (wpAny_of_eq hloop ?_)
    exact loop
  · rw [if_neg hemp]
    exact loop
end
theorem dictDisplay_star1 (e k v : Sem Value) : dictDisplay [(none, e), (some k, v)] = (do
   let d ← alloc { cls := .type "dict", data := .dict #[] }
   let m ← holding [.ref d] e
   (((holding [.ref d, m] (mergeMapping d m false)).onRaise fun x => do let _ ← holding [.ref d, m, x] (runValue (.builtin "proto.let_go" {}))).tryCatch fun e => do
        if ← isInstance e (.type "AttributeError") then
          rule "dict.display.not-a-mapping"; raiseError "TypeError" s!"'{← typeNameOf m}' object is not a mapping"
        throw e).onRaise fun x => do let _ ← holding [.ref d, x] (runValue (.builtin "proto.let_go" {}))
   let sub ← holding [.ref d] (subDict [(k, v)])
   (holding [.ref d, .ref sub] (mergeMapping d (.ref sub) false)).onRaise fun x => do let _ ← holding [.ref d, x] (runValue (.builtin "proto.let_go" {}))
   pure (.ref d)) := by
  unfold dictDisplay
  simp [List.forIn_cons]
/-- {**e, k: v}: the new dict at p, the one of its last pair at q -/
def tDispS (te tk tv : TE) : TE := fun σ H Q => ∀ p, H p = none → te σ (upd H p (.dK [])) fun m H1 => H1 p = some (.dK []) ∧ ∃ (a : Addr) (more : List (Key × V)), m = .ref a ∧ a ≠ p ∧ H1 a = some (.dK more) ∧ more.length + 1 ≤ sizeLine ∧
  ∀ q, H1 q = none → q ≠ p → tk σ (upd (upd H1 p (.dK more)) q (.dK [])) fun y H2 => tv σ H2 fun v H3 => ∃ (key : Key) (v' : V), [(y, v)] = [(kV key, v')] ∧ H3 q = some (.dK []) ∧ H3 p = some (.dK more) ∧ Q (.ref p) (upd (upd H3 q (.dK [(key, v')])) p (.dK (putK more key v')))
theorem pe_dispS {X : Cx} {pos : Pos} {e k v : Expr} {te tk tv : TE} (he : PE X e te) (hk : PE X k tk) (hv : PE X v tv)
    (hsh : (evalEachOpt [none, some k] X.env).zip ((evalEach [e, v] X.env).map fun t => do let x ← t; standAt pos; pure x) = [(none, do let x ← eval e X.env; standAt pos; pure x), (some (eval k X.env), do let x ← eval v X.env; standAt pos; pure x)] := by rfl) :
    PE X (.Dict [none, some k] [e, v] pos) (tDispS te tk tv) := by
  refine ⟨fun pins s σ H Q I q => ?_⟩
  rw [arm_eval_Dict, hsh, dictDisplay_star1]
  refine wpAny_bind (wpAny_standAt (wpAny_bind (wpAny_alloc ?_)))
  have hn := I.hok.fresh (Nat.le_refl s.heap.objs.size)
  have I1 := I.laid (a := s.heap.objs.size) (o := .dK []) (h' := s.heap.push { cls := .type "dict", data := .dict #[] }) (t' := s.toks) (fun _ _ q => Heap.get?_push_of_some _ q) (Nat.le_refl _) (dk_empty s.heap I.big)
  refine wpAny_bind (wpAny_holding (wpAny_bind (thn (he.run pins _ σ _ _ I1 (q _ hn)) fun u s2 ⟨m, H1, I2, rm, e1, a, more, em, ap, ea, z, q2⟩ => wpAny_bind (wpAny_standAt (wpAny_pure ?_)))))
  subst em
  obtain rfl : u = Value.ref a := rm
  generalize s.heap.objs.size = p at e1 ap q2 ⊢
  refine wpAny_bind (wpAny_onRaise (wpAny_tryCatch (wpAny_onRaise (wpAny_holding ?_))))
  obtain ⟨z0, hd, vs0, r0, dd⟩ := dk_of I2.hok e1
  cases r0
  obtain ⟨z1, ha, vs1, r1, da⟩ := dk_of I2.hok ea
  have l1 : vs1.length = more.length := r1.length.symm
  refine wpAny_mergeMapping (knd := mixKind X.prog X.w) (Ne.symm ap) ha dd da (fun h' hd' ha' hs => ?_) (by rw [List.length_nil]; omega)
  have nd1 : (vs1.map (·.1)).Nodup := by
    obtain ⟨o, es, ep, ho, hc, hdat, hk, hp, hn⟩ := id da
    exact hn
  rw [merged_nil_of_nodup _ nd1] at hd'
  have he' : ∃ q, h'.get? p = some q := let ⟨q, _, _, hq, _⟩ := hd'; ⟨q, hq⟩
  have I3 : Inv X pins σ (upd H1 p (.dK more)) { s2 with heap := h' } := d_write (t' := s2.toks) I2 (by rw [e1]; exact True.intro) hs he' (dk_new z1 hd r1 hd')
  generalize hs3 : ({ s2 with heap := h' } : Shared) = s3 at I3 ⊢
  have hd3 : s3.heap.DictOf (mixKind X.prog X.w) p vs1 := by rw [← hs3]; exact hd'
  have hn3 := I3.hok.fresh (Nat.le_refl s3.heap.objs.size)
  have qp : s3.heap.objs.size ≠ p := fun e => by
    rw [e, upd_same] at hn3
    cases hn3
  have hn1 : H1 s3.heap.objs.size = none := by
    rw [upd_ne qp] at hn3
    exact hn3
  refine wpAny_bind (wpAny_holding (wpAny_subDict (knd := mixKind X.prog X.w) (by show 1 ≤ 15; decide) ?_))
  have I4 := I3.laid (a := s3.heap.objs.size) (o := .dK []) (h' := s3.heap.push { cls := .type "dict", data := .dict #[] }) (t' := s3.toks) (fun _ _ q => Heap.get?_push_of_some _ q) (Nat.le_refl _) (dk_empty s3.heap I3.big)
  refine thn ((pps_cons hk hv pps_nil).run pins _ σ _ (fun ps H3 => ∃ (key : Key) (v : V), ps = [(kV key, v)] ∧ H3 s3.heap.objs.size = some (.dK []) ∧ H3 p = some (.dK more) ∧ Q (.ref p) (upd (upd H3 s3.heap.objs.size (.dK [(key, v)])) p (.dK (putK more key v)))) I4 ?_) ?_
  · exact q2 _ hn1 qp
  · rintro ws s5 ⟨ps, H5, I5, rel, key, v, eps, hq5, hp5, fin⟩
    subst eps
    obtain ⟨rs, c, rk⟩ := carries_of (P := X.prog) (w := X.w) (kvs := [(key, v)]) rel
    obtain ⟨zq, hdq, vq, rq, dq⟩ := dk_of I5.hok hq5
    cases rq
    refine ⟨rs, c, dq, fun h' dd' hs' => ?_⟩
    have z2 : (mergeK [] [(key, v)]).length ≤ sizeLine := by
      rw [sizeLine_eq]
      show 1 ≤ _
      decide
    have heq : ∃ q, h'.get? s3.heap.objs.size = some q := let ⟨q, _, _, hq, _⟩ := dd'; ⟨q, hq⟩
    have I6 : Inv X pins σ (upd H5 s3.heap.objs.size (.dK [(key, v)])) { s5 with heap := h', toks := s5.toks + ws.length } := d_write I5 (by rw [hq5]; exact True.intro) hs' heq (dk_new z2 hdq (rk.merge .nil) dd')
    refine wpAny_bind (wpAny_onRaise (wpAny_holding ?_))
    have hp6 : (upd H5 s3.heap.objs.size (.dK [(key, v)])) p = some (.dK more) := by
      rw [upd_ne (Ne.symm qp)]
      exact hp5
    obtain ⟨z6, hd6, vs6, r6, dd6⟩ := dk_of I6.hok hp6
    obtain ⟨z7, hd7, vs7, r7, dd7⟩ := dk_of I6.hok (upd_same (H := H5) (a := s3.heap.objs.size) (o := .dK [(key, v)]))
    have l6 : vs6.length = more.length := r6.length.symm
    have l7 : vs7.length = 1 := r7.length.symm
    refine wpAny_mergeMapping (knd := mixKind X.prog X.w) (Ne.symm qp) hd7 dd6 dd7 (fun h'' hd'' hq'' hs'' => ?_) (by omega)
    have he'' : ∃ q, h''.get? p = some q := let ⟨q, _, _, hq, _⟩ := hd''; ⟨q, hq⟩
    have zp : (putK more key v).length ≤ sizeLine := by
      have := length_putK more key v
      omega
    have I8 : Inv X pins σ (upd (upd H5 s3.heap.objs.size (.dK [(key, v)])) p (.dK (putK more key v))) _ := d_write (t' := s5.toks + ws.length) I6 (by rw [hp6]; exact True.intro) hs'' he'' (dk_new zp hd6 (show KV (mergeK more [(key, v)]) (merged vs6 vs7) from r7.merge r6) hd'')
    exact wpAny_pure ⟨.ref p, _, I8, rfl, fin⟩
end Wnd

/-! Windowsteps: dict comprehensions over anything that is walked. -/
namespace Wnd
open PySem PySem.Spec PyProof.Rows L2
variable {J : It} {n : Nat} {G : Hp → Prop} {Y : Nat → Hp → V → Hp → Prop}
theorem dc_it (w : Walk J n G Y) {g : TG} {tt : TT} {tk tv : TE} {vs : List Nat} {σ : L2.St} {H1 : Hp} {D : Addr} {Qd : Hp → Prop} (Pv : Nat → Hp → Prop) (h0 : Pv 0 (upd H1 D (.dK []))) (hG : ∀ i H, i ≤ n → Pv i H → G H)
    (hs : ∀ i x H H', i < n → Pv i H → Y i H x H' → g x (wipe σ vs) H' fun σ2 H2 => wipe σ2 vs = wipe σ vs ∧ tt σ2 H2 fun b H3 =>
      if b = true then tk σ2 H3 fun y H4 => tv σ2 H4 fun z H5 => ∃ kvs k, y = kV k ∧ H5 D = some (.dK kvs) ∧ kvs.length < sizeLine ∧ Pv (i + 1) (upd H5 D (.dK (putK kvs k z))) else Pv (i + 1) H3) (hd : ∀ H, Pv n H → Qd H) :
    ∃ W : Nat → Nat → Hp → Prop, (∃ m, W 0 m (upd H1 D (.dK []))) ∧ ∀ i m H, W i m H →
      (J.stop i H ∧ Qd H) ∨ (J.go i H ∧ ∃ Nx : Hp → Prop, (∀ H', Nx H' → ∃ m', m' < m ∧ W (i + 1) m' H') ∧ ∀ x H', J.yld i H x H' → g x (wipe σ vs) H' fun σ2 H2 => wipe σ2 vs = wipe σ vs ∧ tt σ2 H2 fun b H3 =>
        if b = true then tk σ2 H3 fun y H4 => tv σ2 H4 fun z H5 => ∃ kvs k, y = kV k ∧ H5 D = some (.dK kvs) ∧ kvs.length < sizeLine ∧ Nx (upd H5 D (.dK (putK kvs k z))) else Nx H3) := by
  refine ⟨fun i m H => m = n - i ∧ i ≤ n ∧ Pv i H, ⟨n, by simp, Nat.zero_le _, h0⟩, ?_⟩
  rintro i m H ⟨rfl, hi, p⟩
  have q := hG i H hi p
  by_cases hlt : i < n
  · refine .inr ⟨w.goes i H hlt q, Pv (i + 1), fun H' p' => ⟨n - (i + 1), by omega, rfl, hlt, p'⟩, fun x H' y => hs i x H H' hlt p (w.yields i H x H' hlt q y)⟩
  · have e : i = n := by omega
    subst e
    exact .inl ⟨w.stops H q, hd H p⟩
/-! in a block: the class's frame said -/
def rDictPK (K : PySem.W.Frag) : List V → Hp → VK → Prop := fun xs H Q => ∃ (a : Addr) (ps : List Addr) (kvs : List (Key × V)), xs = [.ref a] ∧ SqL K H a (ps.map V.ref) ∧ Paired (fun p kv => SqT K H p [kV kv.1, kv.2]) ps kvs ∧ ∀ p, H p = none → Q (.ref p) (upd H p (.dK (mergeK [] kvs)))
theorem call_dictPK {X : Cx} (K : PySem.W.Frag) (hcalm : X.calm = true) (h : X.K = K := by rfl) : CallR X (.type "dict") (rDictPK K) := by
  subst h
  exact call_dictP hcalm
theorem pe_revLK {X : Cx} {e : Expr} {te : TE} {k : Nat} {p1 p2 p3 pos : Pos} (K : PySem.W.Frag) (he : PE X e te) (h : X.K = K := by rfl) : PE X (.Subscript e (.Slice none none (some (.UnaryOp .USub (.Constant (.int 1) k p1) p2)) p3) pos) (tRevL K te) := by
  subst h
  exact pe_revL he
end Wnd

/-! the class Prices -/
namespace Wnd
open PySem PySem.Spec PyProof.Rows L2
abbrev s_Prices___init : Stmt := inClass (top 11) 0
theorem sc_Prices___init : FnScope ["self", "raising", "lowering"] ["self", "raising", "lowering"] (defScope s_Prices___init) := ⟨rfl, rfl, rfl, by decide +kernel, rfl, by decide +kernel, by decide +kernel⟩
abbrev s_Prices_raising : Stmt := inClass (top 11) 1
theorem sc_Prices_raising : FnScope ["self"] ["self"] (defScope s_Prices_raising) := ⟨rfl, rfl, rfl, by decide +kernel, rfl, by decide +kernel, by decide +kernel⟩
abbrev s_Prices_lowering : Stmt := inClass (top 11) 2
theorem sc_Prices_lowering : FnScope ["self"] ["self"] (defScope s_Prices_lowering) := ⟨rfl, rfl, rfl, by decide +kernel, rfl, by decide +kernel, by decide +kernel⟩
abbrev s_Prices_single : Stmt := inClass (top 11) 3
theorem sc_Prices_single : FnScope ["self"] ["self"] (defScope s_Prices_single) := ⟨rfl, rfl, rfl, by decide +kernel, rfl, by decide +kernel, by decide +kernel⟩
abbrev s_Prices_with_price : Stmt := inClass (top 11) 4
theorem sc_Prices_with_price : FnScope ["self", "name", "price", "single", "prices", "other"] ["self", "name", "price"] (defScope s_Prices_with_price) := ⟨rfl, rfl, rfl, by decide +kernel, rfl, by decide +kernel, by decide +kernel⟩
abbrev s_is_price : Stmt := top 12
theorem sc_is_price : FnScope ["thing"] ["thing"] (defScope s_is_price) := ⟨rfl, rfl, rfl, by decide +kernel, rfl, by decide +kernel, by decide +kernel⟩
/-! keyword-only parameters, bound -/
section
variable {K : PySem.W.Frag} {f : Addr} {fd : FuncData}
abbrev kwPr : List (Str × V) := [("raising", .int 1), ("lowering", .int 1)]
abbrev PrInit (K : PySem.W.Frag) (f : Addr) (fd : FuncData) : Prop := FunD K "__init__" "Prices.__init__" (defArgs s_Prices___init) (defBody s_Prices___init) (defScope s_Prices___init) [] kwPr f fd
theorem pr_k0 (F : PrInit K f fd) : ∃ mv : List Value, KBn K fd ["self", "raising", "lowering"] 1 [] (fun us ws => us ++ mv) (fun vs zs => vs ++ [.int 1, .int 1]) :=
  F.kbinds0 (ps := ["self", "raising", "lowering"]) 1 [] kwPr (fun us mv ws => us ++ mv) (fun z => nomatch z) (fun q h => h) (fun r1 r2 r3 => r1.append r2) fun D doc pm an cdv ct us mv ws l1 l2 l3 =>
    match us, mv, ws, l1, l2, l3 with
    | [a], [b, c], [], _, _, _ => ⟨_, _, _, _, _, _, rfl, rfl, _, _, _, _, _, _, rfl, rfl, rfl⟩
theorem pr_kR (F : PrInit K f fd) : ∃ mv : List Value, KBn K fd ["self", "raising", "lowering"] 1 ["raising"] (fun us ws => us ++ (ws ++ mv)) (fun vs zs => vs ++ (zs ++ [.int 1])) :=
  F.kbinds0 (ps := ["self", "raising", "lowering"]) 1 ["raising"] [("lowering", .int 1)] (fun us mv ws => us ++ (ws ++ mv)) (fun z => nomatch z) (fun q h => .tail _ h) (fun r1 r2 r3 => r1.append (r3.append r2)) fun D doc pm an cdv ct us mv ws l1 l2 l3 =>
    match us, mv, ws, l1, l2, l3 with
    | [a], [b], [c], _, _, _ => ⟨_, _, _, _, _, _, rfl, rfl, rfl⟩
theorem pr_kL (F : PrInit K f fd) : ∃ mv : List Value, KBn K fd ["self", "raising", "lowering"] 1 ["lowering"] (fun us ws => us ++ (mv ++ ws)) (fun vs zs => vs ++ ([.int 1] ++ zs)) :=
  F.kbinds0 (ps := ["self", "raising", "lowering"]) 1 ["lowering"] [("raising", .int 1)] (fun us mv ws => us ++ (mv ++ ws)) (fun z => nomatch z) (fun q h => by rw [List.mem_singleton.mp h]; exact List.mem_cons_self) (fun r1 r2 r3 => r1.append (r2.append r3)) fun D doc pm an cdv ct us mv ws l1 l2 l3 =>
    match us, mv, ws, l1, l2, l3 with
    | [a], [b], [c], _, _, _ => ⟨_, _, _, _, _, _, rfl, rfl, rfl⟩
theorem pr_kRL (F : PrInit K f fd) : ∃ mv : List Value, KBn K fd ["self", "raising", "lowering"] 1 ["raising", "lowering"] (fun us ws => us ++ ws) (fun vs zs => vs ++ zs) :=
  F.kbinds0 (ps := ["self", "raising", "lowering"]) 1 ["raising", "lowering"] [] (fun us mv ws => us ++ ws) (fun z => nomatch z) (fun q h => nomatch h) (fun r1 r2 r3 => r1.append r3) fun D doc pm an cdv ct us mv ws l1 l2 l3 =>
    match us, mv, ws, l1, l2, l3 with
    | [a], [], [b, c], _, _, _ => rfl
theorem pr_kLR (F : PrInit K f fd) : ∃ mv : List Value, KBn K fd ["self", "raising", "lowering"] 1 ["lowering", "raising"] (fun us ws => us ++ (ws.drop 1 ++ ws.take 1)) (fun vs zs => vs ++ (zs.drop 1 ++ zs.take 1)) :=
  F.kbinds0 (ps := ["self", "raising", "lowering"]) 1 ["lowering", "raising"] [] (fun us mv ws => us ++ (ws.drop 1 ++ ws.take 1)) (fun z => nomatch z) (fun q h => nomatch h) (fun r1 r2 r3 => r1.append ((r3.drop 1).append (r3.take 1))) fun D doc pm an cdv ct us mv ws l1 l2 l3 =>
    match us, mv, ws, l1, l2, l3 with
    | [a], [], [b, c], _, _, _ => rfl
end
section
variable {P : Program} {w : World} {K : PySem.W.Frag} {mg : Str → Option Value} {base : Heap}
def prF (r l : Int) (ls : Addr) : List (Str × V) := putF "_single" (.ref ls) (putF "_lowering" (.int l) (putF "_raising" (.int r) []))
theorem prF_single (r l : Int) (ls : Addr) : (prF r l ls).lookup ("_single" : Str) = some (.ref ls) := by
  unfold prF
  rw [lookup_putF, if_pos rfl]
theorem prF_low (r l : Int) (ls : Addr) : (prF r l ls).lookup ("_lowering" : Str) = some (.int l) := by
  unfold prF
  rw [lookup_putF, if_neg (by decide +kernel), lookup_putF, if_pos rfl]
theorem prF_rais (r l : Int) (ls : Addr) : (prF r l ls).lookup ("_raising" : Str) = some (.int r) := by
  unfold prF
  rw [lookup_putF, if_neg (by decide +kernel), lookup_putF, if_neg (by decide +kernel), lookup_putF, if_pos rfl]
theorem prF_put (r l : Int) (ls ls' : Addr) : putF ("_single" : Str) (.ref ls') (prF r l ls) = prF r l ls' := rfl
theorem prF_no {r l : Int} {ls : Addr} {m : Str} (h1 : ¬ m = "_single") (h2 : ¬ m = "_lowering") (h3 : ¬ m = "_raising") : (prF r l ls).lookup m = none := by
  unfold prF
  rw [lookup_putF, if_neg h1, lookup_putF, if_neg h2, lookup_putF, if_neg h3]
  rfl
def Pr9 (i : Int) : Prop := 1 ≤ i ∧ i ≤ 999
/-- own prices that may stand in an object Prices -/
structure OwnOk (g : Own) : Prop where
  nodup : (g.map (·.1)).Nodup
  names : ∀ x ∈ g, nameB x.1 = true
  vals : ∀ x ∈ g, ∀ i, x.2 = some i → Pr9 i
theorem ownOk_nil : OwnOk [] := ⟨List.nodup_nil, (fun _ h => nomatch h), fun _ h => nomatch h⟩
theorem OwnOk.put {g : Own} (h : OwnOk g) {t : Str} {o : Option Int} (ht : nameB t = true) (ho : ∀ i, o = some i → Pr9 i) : OwnOk (putO g t o) := by
  refine ⟨put_nodup h.nodup, fun x hx => ?_, fun x hx i e => ?_⟩
  · rcases mem_put hx with hx | rfl
    · exact h.names x hx
    · exact ht
  · rcases mem_put hx with hx | rfl
    · exact h.vals x hx i e
    · exact ho i e
theorem OwnOk.sort {g : Own} (h : OwnOk g) : OwnOk (sortO g) := ⟨sortO_nodup h.nodup, fun x hx => h.names x (mem_sort hx), fun x hx => h.vals x (mem_sort hx)⟩
/-- prices r, l, g stand at x -/
structure PrV (r l : Int) (g : Own) : Prop where
  r : Pr9 r
  l : Pr9 l
  own : OwnOk g
  len : g.length ≤ 60
def PrAt (C : Addr) (H : Hp) (x : Addr) (r l : Int) (g : Own) : Prop := ∃ dx ls, H x = some (.ins C dx (prF r l ls)) ∧ H ls = some (.dK (ownKV g)) ∧ PrV r l g
/-- .. and they were laid after H -/
def PrNew (C : Addr) (H H' : Hp) (x : Addr) (r l : Int) (g : Own) : Prop := ∃ dx ls, H' x = some (.ins C dx (prF r l ls)) ∧ H' ls = some (.dK (ownKV g)) ∧ PrV r l g ∧ H x = none ∧ H ls = none
theorem PrNew.at_ {C : Addr} {H H' : Hp} {x : Addr} {r l : Int} {g : Own} (h : PrNew C H H' x r l g) : PrAt C H' x r l g := by
  obtain ⟨dx, ls, h1, h2, h3, _⟩ := h
  exact ⟨dx, ls, h1, h2, h3⟩
theorem PrAt.same {C : Addr} {H H' : Hp} {x : Addr} {r l : Int} {g : Own} (h : PrAt C H x r l g) (s : Same H H') : PrAt C H' x r l g := by
  obtain ⟨dx, ls, h1, h2, h3⟩ := h
  exact ⟨dx, ls, s _ _ h1, s _ _ h2, h3⟩
theorem PrNew.from_ {C : Addr} {H0 H H' : Hp} {x : Addr} {r l : Int} {g : Own} (h : PrNew C H H' x r l g) (s : Same H0 H) : PrNew C H0 H' x r l g := by
  obtain ⟨dx, ls, h1, h2, h3, h4, h5⟩ := h
  exact ⟨dx, ls, h1, h2, h3, s.free h4, s.free h5⟩
theorem PrNew.same {C : Addr} {H H' H2 : Hp} {x : Addr} {r l : Int} {g : Own} (h : PrNew C H H' x r l g) (s : Same H' H2) : PrNew C H H2 x r l g := by
  obtain ⟨dx, ls, h1, h2, h3, h4, h5⟩ := h
  exact ⟨dx, ls, s _ _ h1, s _ _ h2, h3, h4, h5⟩
theorem PrAt.v {C : Addr} {H : Hp} {x : Addr} {r l : Int} {g : Own} (h : PrAt C H x r l g) : PrV r l g := by
  obtain ⟨dx, ls, h1, h2, h3⟩ := h
  exact h3
theorem PrAt.ins {C : Addr} {H : Hp} {x : Addr} {r l : Int} {g : Own} (h : PrAt C H x r l g) : ∃ dx fs, H x = some (.ins C dx fs) := by
  obtain ⟨dx, ls, h1, h2, h3⟩ := h
  exact ⟨dx, _, h1⟩
structure PrC (K : PySem.W.Frag) (mg : Str → Option Value) (C : Addr) : Prop where
  cl : Cls K C
  nR : NoAttr K C "_raising"
  nL : NoAttr K C "_lowering"
  nS : NoAttr K C "_single"
  mgC : mg "Prices" = some (.ref C)
def spIsPrice (K : PySem.W.Frag) : Sp := fun vs H Q _ => ∃ (x : V) (b : Bool), vs = [x] ∧ InQ K H x 1 999 b ∧ Q (.bl b) H
theorem ok_is_price {f : Addr} {fd : FuncData} (D : DefAt K mg "_is_price" s_is_price ["thing"] f fd) (C_GREATEST_PRICE : ∃ t, mg "GREATEST_PRICE" = some (.int 999 t)) (O_is_integer_within : Ok P w K mg base 2 "is_integer_within" ["thing", "least", "greatest"] (spIsIn K)) : Ok P w K mg base 3 "_is_price" ["thing"] (spIsPrice K) := by
  obtain ⟨gt, C_GREATEST_PRICE⟩ := C_GREATEST_PRICE
  refine D.ok (D.fn.ok sc_is_price (fun vs H Q E h => ?_) (fun cdv A outer s H vs Q E hr h => ?_))
  · obtain ⟨i, b, rfl, _⟩ := h
    rfl
  · obtain ⟨x, b, rfl, hx, q⟩ := h
    refine ⟨_, (pss_one (ps_ret (pe_own O_is_integer_within (hr.mono (by decide)) (pa_cons (pv 0) (pa_cons pe_int (pa_cons (pe_glob (v := .int 999) rfl C_GREATEST_PRICE ⟨_, rfl⟩) pa_nil)))))), ?_⟩
    exact ⟨_, rfl, x, 1, 999, _, rfl, hx, q⟩
theorem inq_price {H : Hp} {i : Int} (h : Pr9 i) : InQ K H (.int i) 1 999 true := .inl ⟨i, rfl, by rw [decide_eq_true h.1, decide_eq_true h.2]; rfl⟩
def spPrInit (C : Addr) : Sp := fun vs H Q _ => ∃ (x dx : Addr) (r l : Int), vs = [.ref x, .int r, .int l] ∧ H x = some (.ins C dx []) ∧ Pr9 r ∧ Pr9 l ∧ ∀ ls H', But x H H' → H ls = none → H' x = some (.ins C dx (prF r l ls)) → H' ls = some (.dK []) → Q .non H'
theorem ok_prInit {C f : Addr} {fd : FuncData} (F : PrInit K f fd) (T : PrC K mg C) (O_is_price : Ok P w K mg base 3 "_is_price" ["thing"] (spIsPrice K)) : FnOk P w K mg base CX0 4 f fd ["self", "raising", "lowering"] (spPrInit C) := by
  refine F.ok sc_Prices___init (fun vs H Q E h => ?_) (fun cdv A outer s H vs Q E hr h => ?_)
  · obtain ⟨x, dx, r, l, rfl, _⟩ := h
    rfl
  · obtain ⟨x, dx, r, l, rfl, hx, hr9, hl9, q⟩ := h
    have nd := sc_Prices___init.nd
    refine ⟨_, (pss_cons (ps_if (PW.pt (pw_or (pt_not (pt_val (pe_own O_is_price (hr.mono (by decide)) (pa_cons (pv 1) pa_nil)))) (pw_or1 (pt_not (pt_val (pe_own O_is_price (hr.mono (by decide)) (pa_cons (pv 2) pa_nil))))))) (pss_one ps_never) pss_nil)
      (pss_cons (ps_fld (pv 0) (pv 1) rfl)
      (pss_cons (ps_fld (pv 0) (pv 2) rfl)
      (pss_one (ps_fld (pv 0) pe_dnewK rfl))))), ?_⟩
    refine ⟨_, rfl, _, true, rfl, inq_price hr9, _, rfl, ?_⟩
    refine iteF ⟨_, rfl, _, true, rfl, inq_price hl9, _, rfl, ?_⟩
    refine ⟨_, rfl, _, rfl, x, C, dx, [], rfl, hx, T.cl, T.nR, by show 0 < 1000; decide, ?_⟩
    have hx1 : (upd H x (.ins C dx (putF (Str.ofString "_raising") (.int r) []))) x = some (.ins C dx (putF (Str.ofString "_raising") (.int r) [])) := upd_same
    have b1 : But x H (upd H x (.ins C dx (putF (Str.ofString "_raising") (.int r) []))) := But.upd
    generalize upd H x (.ins C dx (putF (Str.ofString "_raising") (.int r) [])) = H1 at hx1 b1 ⊢
    refine ⟨_, rfl, _, rfl, x, C, dx, _, rfl, hx1, T.cl, T.nL, by show 1 < 1000; decide, ?_⟩
    have b2 : But x H (upd H1 x (.ins C dx (putF (Str.ofString "_lowering") (.int l) (putF (Str.ofString "_raising") (.int r) [])))) := b1.trans But.upd
    have hx2 : (upd H1 x (.ins C dx (putF (Str.ofString "_lowering") (.int l) (putF (Str.ofString "_raising") (.int r) [])))) x = some (.ins C dx (putF (Str.ofString "_lowering") (.int l) (putF (Str.ofString "_raising") (.int r) []))) := upd_same
    generalize upd H1 x (.ins C dx (putF (Str.ofString "_lowering") (.int l) (putF (Str.ofString "_raising") (.int r) []))) = H2 at hx2 b2 ⊢
    refine fun ls nls => ?_
    have lx : ls ≠ x := (ne_of_none hx2 nls).symm
    refine ⟨_, rfl, x, C, dx, _, rfl, same_new nls _ _ hx2, T.cl, T.nS, by show 2 < 1000; decide, ?_⟩
    refine q ls _ ((b2.trans (But.new nls)).trans But.upd) (b2.free lx nls) upd_same ?_
    rw [upd_ne lx, upd_same]
def spPrR (C : Addr) : Sp := fun vs H Q _ => ∃ (x : Addr) (r l : Int) (g : Own), vs = [.ref x] ∧ PrAt C H x r l g ∧ Q (.int r) H
def spPrL (C : Addr) : Sp := fun vs H Q _ => ∃ (x : Addr) (r l : Int) (g : Own), vs = [.ref x] ∧ PrAt C H x r l g ∧ Q (.int l) H
def spPrS (C : Addr) : Sp := fun vs H Q _ => ∃ (x : Addr) (r l : Int) (g : Own), vs = [.ref x] ∧ PrAt C H x r l g ∧ ∀ d, H d = none → Q (.ref d) (upd H d (.dK (ownKV g)))
theorem ok_prR {C : Addr} {qn : Str} {f : Addr} {fd : FuncData} (F : Fun K "raising" qn s_Prices_raising f fd) (T : PrC K mg C) : FnOk P w K mg base CX0 1 f fd ["self"] (spPrR C) := by
  refine F.ok sc_Prices_raising (fun vs H Q E h => ?_) (fun cdv A outer s H vs Q E hr h => ?_)
  · obtain ⟨x, r, l, g, rfl, _⟩ := h
    rfl
  · obtain ⟨x, r, l, g, rfl, ⟨dx, ls, h1, h2, h3⟩, q⟩ := h
    refine ⟨_, (pss_one (ps_ret (pe_fld (pv 0) rfl))), ?_⟩
    exact ⟨_, rfl, x, C, dx, _, _, rfl, h1, T.cl, T.nR, prF_rais _ _ _, q⟩
theorem ok_prL {C : Addr} {qn : Str} {f : Addr} {fd : FuncData} (F : Fun K "lowering" qn s_Prices_lowering f fd) (T : PrC K mg C) : FnOk P w K mg base CX0 1 f fd ["self"] (spPrL C) := by
  refine F.ok sc_Prices_lowering (fun vs H Q E h => ?_) (fun cdv A outer s H vs Q E hr h => ?_)
  · obtain ⟨x, r, l, g, rfl, _⟩ := h
    rfl
  · obtain ⟨x, r, l, g, rfl, ⟨dx, ls, h1, h2, h3⟩, q⟩ := h
    refine ⟨_, (pss_one (ps_ret (pe_fld (pv 0) rfl))), ?_⟩
    exact ⟨_, rfl, x, C, dx, _, _, rfl, h1, T.cl, T.nL, prF_low _ _ _, q⟩
theorem ok_prS {C : Addr} {qn : Str} {f : Addr} {fd : FuncData} (F : Fun K "single" qn s_Prices_single f fd) (T : PrC K mg C) (Bd : mg "dict" = none) : FnOk P w K mg base CX0 1 f fd ["self"] (spPrS C) := by
  refine F.ok sc_Prices_single (fun vs H Q E h => ?_) (fun cdv A outer s H vs Q E hr h => ?_)
  · obtain ⟨x, r, l, g, rfl, _⟩ := h
    rfl
  · obtain ⟨x, r, l, g, rfl, ⟨dx, ls, h1, h2, h3⟩, q⟩ := h
    refine ⟨_, (pss_one (ps_ret (pe_callTy call_dictD (by rfl) Bd (by decide +kernel) (pa_cons (pe_fld (pv 0) rfl) pa_nil)))), ?_⟩
    exact ⟨_, rfl, x, C, dx, _, _, rfl, h1, T.cl, T.nS, prF_single _ _ _, ls, _, rfl, Rd.of h2, q⟩
/-! Prices made -/
structure OkPr (P : Program) (w : World) (K : PySem.W.Frag) (mg : Str → Option Value) (base : Heap) (C : Addr) (k : Nat) : Prop where
  ex : ∃ (f : Addr) (fd : FuncData), Mk K C f ∧ PrInit K f fd ∧ FnOk P w K mg base CX0 k f fd ["self", "raising", "lowering"] (spPrInit C)
  at_ : mg "Prices" = some (.ref C)
end
section
variable {P : Program} {w : World} {K : PySem.W.Frag} {mg : Str → Option Value} {base : Heap}
theorem mkpr {C : Addr} {H : Hp} {Q : VK} {r l : Int} (hr : Pr9 r) (hl : Pr9 l) (h : ∀ x H', Same H H' → PrNew C H H' x r l [] → Q (.ref x) H') : ∀ x dx, H x = none → H dx = none → dx ≠ x →
    spPrInit C [.ref x, .int r, .int l] (upd (upd H dx (.own x)) x (.ins C dx [])) (fun v H2 => v = .non ∧ Q (.ref x) H2) E0 := by
  intro x dx nx ndx ne
  refine ⟨x, dx, r, l, rfl, upd_same, hr, hl, fun ls H' b nls h1 h2 => ⟨rfl, ?_⟩⟩
  have lx : ls ≠ x := fun e => by
    rw [e, upd_same] at nls
    cases nls
  have nls0 : H ls = none := by
    rw [upd_ne lx] at nls
    by_cases ed : ls = dx
    · rw [ed]; exact ndx
    · rw [upd_ne ed] at nls; exact nls
  refine h x H' (fun b' o hb => b _ _ ?_ (ne_of_none hb nx)) ⟨dx, ls, h1, h2, ⟨hr, hl, ownOk_nil, Nat.zero_le _⟩, nx, nls0⟩
  rw [upd_ne (ne_of_none hb nx), upd_ne (ne_of_none hb ndx)]
  exact hb
end
/-- Prices(..): the prices of raising and of lowering, then the object -/
def tMkPr (C : Addr) (n : Nat) (fv : List V → List V) (tk : TA) : TE := fun σ H Q => tk σ H fun zs H2 => zs.length = n ∧ ∃ r l : Int, fv zs = [.int r, .int l] ∧ Pr9 r ∧ Pr9 l ∧ ∀ x H', Same H2 H' → PrNew C H2 H' x r l [] → Q (.ref x) H'
section
variable {X : Cx} {C : Addr} {k : Nat} {p pos : Pos} {kws : List Keyword} {tk : TA}
theorem pe_prK {f : Addr} {fd : FuncData} {ks : List Str} {fv : List V → List V} {g : List Value → List Value → List Value} {gV : List V → List V → List V} (M : Mk X.K C f) (F : FnOk X.prog X.w X.K X.mg X.base CX0 k f fd ["self", "raising", "lowering"] (spPrInit C)) (hm : X.mg "Prices" = some (.ref C)) (hb : KBn X.K fd ["self", "raising", "lowering"] 1 ks g gV)
    (hgv : ∀ v zs, gV [v] zs = v :: fv zs) (hr : Room (k + 1) X.A) (hkw : PK X kws tk) (hall : (backToKw pos (keywordEach kws X.env)).all (·.1.isSome) = true) (hks : (backToKw pos (keywordEach kws X.env)).filterMap (·.1) = ks)
    (hpl : ((backTo pos (starEach [] X.env)).any (·.1) || (backToKw pos (keywordEach kws X.env)).any (·.1.isNone)) = false) (hg : Gl X "Prices") : PE X (.Call (.Name "Prices" p) [] kws pos) (tMkPr C ks.length fv tk) := by
  refine ⟨fun pins s σ H Q I h => ?_⟩
  refine wpAny_Call_Name_kw (ld_glob I hg hm ?_ (by decide))
  refine PySem.W.callWith_KW0 (h₀ := X.base) I.ok.mod.kin M.kp hall ?_ hpl
  refine thn (hkw.run pos pins s σ H _ I h) fun ws s2 ⟨zs, H2, I2, rz, l2, r, l, e, h1, h2, q2⟩ => ⟨I2.kIn, ?_⟩
  rw [hks]
  refine run_makeK (us := []) (vs := []) M F hr hb pass0 I2 .nil rz rfl l2 fun x dx nx ndx ne => ?_
  rw [hgv, e]
  exact mkpr h1 h2 q2 x dx nx ndx ne
theorem pe_pr0 (O : OkPr X.prog X.w X.K X.mg X.base C k) (hr : Room (k + 1) X.A) (hg : Gl X "Prices" := by rfl) : PE X (.Call (.Name "Prices" p) [] [] pos) (tMkPr C 0 (fun _ => [.int 1, .int 1]) tNil) := by
  obtain ⟨f, fd, M, I, F⟩ := O.ex
  obtain ⟨mv, hb⟩ := pr_k0 I
  exact pe_prK M F O.at_ hb (fun _ _ => rfl) hr pk_nil rfl rfl rfl hg
theorem pe_prR (O : OkPr X.prog X.w X.K X.mg X.base C k) (hr : Room (k + 1) X.A) (hkw : PK X kws tk) (hall : (backToKw pos (keywordEach kws X.env)).all (·.1.isSome) = true := by rfl) (hks : (backToKw pos (keywordEach kws X.env)).filterMap (·.1) = (["raising"] : List Str) := by rfl)
    (hpl : ((backTo pos (starEach [] X.env)).any (·.1) || (backToKw pos (keywordEach kws X.env)).any (·.1.isNone)) = false := by rfl) (hg : Gl X "Prices" := by rfl) : PE X (.Call (.Name "Prices" p) [] kws pos) (tMkPr C 1 (fun zs => zs ++ [.int 1]) tk) := by
  obtain ⟨f, fd, M, I, F⟩ := O.ex
  obtain ⟨mv, hb⟩ := pr_kR I
  exact pe_prK M F O.at_ hb (fun _ _ => rfl) hr hkw hall hks hpl hg
theorem pe_prL (O : OkPr X.prog X.w X.K X.mg X.base C k) (hr : Room (k + 1) X.A) (hkw : PK X kws tk) (hall : (backToKw pos (keywordEach kws X.env)).all (·.1.isSome) = true := by rfl) (hks : (backToKw pos (keywordEach kws X.env)).filterMap (·.1) = (["lowering"] : List Str) := by rfl)
    (hpl : ((backTo pos (starEach [] X.env)).any (·.1) || (backToKw pos (keywordEach kws X.env)).any (·.1.isNone)) = false := by rfl) (hg : Gl X "Prices" := by rfl) : PE X (.Call (.Name "Prices" p) [] kws pos) (tMkPr C 1 (fun zs => .int 1 :: zs) tk) := by
  obtain ⟨f, fd, M, I, F⟩ := O.ex
  obtain ⟨mv, hb⟩ := pr_kL I
  exact pe_prK M F O.at_ hb (fun _ _ => rfl) hr hkw hall hks hpl hg
theorem pe_prRL (O : OkPr X.prog X.w X.K X.mg X.base C k) (hr : Room (k + 1) X.A) (hkw : PK X kws tk) (hall : (backToKw pos (keywordEach kws X.env)).all (·.1.isSome) = true := by rfl) (hks : (backToKw pos (keywordEach kws X.env)).filterMap (·.1) = (["raising", "lowering"] : List Str) := by rfl)
    (hpl : ((backTo pos (starEach [] X.env)).any (·.1) || (backToKw pos (keywordEach kws X.env)).any (·.1.isNone)) = false := by rfl) (hg : Gl X "Prices" := by rfl) : PE X (.Call (.Name "Prices" p) [] kws pos) (tMkPr C 2 id tk) := by
  obtain ⟨f, fd, M, I, F⟩ := O.ex
  obtain ⟨mv, hb⟩ := pr_kRL I
  exact pe_prK M F O.at_ hb (fun _ _ => rfl) hr hkw hall hks hpl hg
theorem pe_prLR (O : OkPr X.prog X.w X.K X.mg X.base C k) (hr : Room (k + 1) X.A) (hkw : PK X kws tk) (hall : (backToKw pos (keywordEach kws X.env)).all (·.1.isSome) = true := by rfl) (hks : (backToKw pos (keywordEach kws X.env)).filterMap (·.1) = (["lowering", "raising"] : List Str) := by rfl)
    (hpl : ((backTo pos (starEach [] X.env)).any (·.1) || (backToKw pos (keywordEach kws X.env)).any (·.1.isNone)) = false := by rfl) (hg : Gl X "Prices" := by rfl) : PE X (.Call (.Name "Prices" p) [] kws pos) (tMkPr C 2 (fun zs => zs.drop 1 ++ zs.take 1) tk) := by
  obtain ⟨f, fd, M, I, F⟩ := O.ex
  obtain ⟨mv, hb⟩ := pr_kLR I
  exact pe_prK M F O.at_ hb (fun _ _ => rfl) hr hkw hall hks hpl hg
end
section
variable {P : Program} {w : World} {K : PySem.W.Frag} {mg : Str → Option Value} {base : Heap}
def spWithPr (C : Addr) : Sp := fun vs H Q _ => ∃ (x : Addr) (t : Str) (o : Option Int) (r l : Int) (g : Own), vs = [.ref x, .str t, optV o] ∧ PrAt C H x r l g ∧ nameB t = true ∧ (∀ i, o = some i → Pr9 i) ∧ g.length ≤ 58 ∧
  ∀ y H', Same H H' → PrNew C H H' y r l (sortO (putO g t o)) → Q (.ref y) H'
theorem ok_withPr {C : Addr} {qn : Str} {f : Addr} {fd : FuncData} (F : Fun K "with_price" qn s_Prices_with_price f fd) (T : PrC K mg C) (B : Blt mg) (O_is_price : Ok P w K mg base 3 "_is_price" ["thing"] (spIsPrice K)) (O_is_name : Ok P w K mg base 1 "is_name" ["thing"] (spIsName K))
    (OM : OkPr P w K mg base C 4) : FnOk P w K mg base CX0 6 f fd ["self", "name", "price"] (spWithPr C) := by
  refine F.ok sc_Prices_with_price (fun vs H Q E h => ?_) (fun cdv A outer s H vs Q E hr h => ?_)
  · obtain ⟨x, t, o, r, l, g, rfl, _⟩ := h
    rfl
  · obtain ⟨x, t, o, r, l, g, rfl, hx, ht, ho, hz, q⟩ := h
    have nd := sc_Prices_with_price.nd
    have hu := hu_of hr
    have big : sizeLine > 100000 := by decide
    refine ⟨_, (pss_cons (ps_if (pt_not (pt_val (pe_own O_is_name (hr.mono (by decide)) (pa_cons (pv 1) pa_nil)))) (pss_one ps_never) pss_nil)
      (C8.pss_cut (ps_if (PW.pt (pw_and (pt_cmpR op_notN (pv 2) pe_non (nomark _)) (pw_and1 (pt_not (pt_val (pe_own O_is_price (hr.mono (by decide)) (pa_cons (pv 2) pa_nil))))))) (pss_one ps_never) pss_nil)
      (pss_cons (ps_set (i := 3) nd rfl (Or.inr rfl) (pe_dispS (pe_fld (pv 0) rfl) (pv 1) (pv 2)))
      (pss_cons (ps_set (i := 4) nd rfl (Or.inl rfl) (pe_prRL OM (hr.mono (by decide)) (pk_cons (pe_fld (pv 0) rfl) (pk_cons (pe_fld (pv 0) rfl) pk_nil))))
      (pss_cons (ps_fld (pv 4) (pe_dc (own := [("other", 5)]) (g := gName 5) (tt := tYes) rfl nd (pi_list (pe_callB (call_sortedD rfl) (by rfl) B.sorted (by decide +kernel) (pa_cons (pv 3) pa_nil))) (blkOk_by (own := [("other", 5)]) (N := ["self", "name", "price", "single", "prices", "other"]) (sc := defScope s_Prices_with_price) (by decide +kernel)) (fun _ _ _ _ _ => (pg_name (i := 5) nd rfl (Or.inl rfl))) (fun _ _ _ _ _ => pts_nil) (fun _ _ _ _ _ => (pv 5)) (fun _ _ _ _ _ => (pe_dget hu (pv 3) (pv 5) (fun _ _ => rfl)))) rfl)
      (pss_one (ps_ret (pv 4)))))))), ?_⟩
    obtain ⟨dx, ls, h1, h2, h3⟩ := hx
    refine ⟨_, rfl, .str t, true, rfl, .inl ⟨t, rfl, name_line ht, ht.symm⟩, fun H1 s1 => ⟨_, rfl, iteF ?_⟩⟩
    refine ⟨fun σ X => σ = [some (.ref x), some (.str t), some (optV o), none, none, none] ∧ X = H1, ?_, ?_⟩
    · refine ⟨_, rfl, rfl, _, rfl, ?_⟩
      cases o with
      | none => exact iteF ⟨rfl, rfl⟩
      | some i => exact iteT ⟨_, rfl, _, true, rfl, inq_price (ho i rfl), _, rfl, iteF ⟨rfl, rfl⟩⟩
    · rintro σ X ⟨rfl, eX⟩
      rw [← eX] at s1
      clear eX
      replace h1 := s1 _ _ h1
      replace h2 := s1 _ _ h2
      refine fun pd npd => ⟨_, rfl, x, C, dx, _, _, rfl, same_new npd _ _ h1, T.cl, T.nS, prF_single _ _ _, upd_same, ls, ownKV g, rfl, ne_of_none h2 npd, same_new npd _ _ h2, by unfold ownKV; rw [List.length_map]; omega, fun qd nqd nq => ?_⟩
      refine ⟨_, rfl, _, rfl, Sum.inr t, optV o, rfl, upd_same, by rw [upd_ne (Ne.symm nq), upd_same], ?_⟩
      rw [put_own]
      have nqd1 : X qd = none := by
        rw [upd_ne nq] at nqd
        exact nqd
      generalize hH2 : upd (upd (upd (upd (upd X pd (.dK [])) pd (.dK (ownKV g))) qd (.dK [])) qd (.dK [(Sum.inr t, optV o)])) pd (.dK (ownKV (putO g t o))) = H2
      have s2 : Same X H2 := fun b' o' hb => by
        rw [← hH2, upd_ne (ne_of_none hb npd), upd_ne (ne_of_none hb nqd1), upd_ne (ne_of_none hb nqd1), upd_ne (ne_of_none hb npd), upd_ne (ne_of_none hb npd)]
        exact hb
      have hpd : H2 pd = some (.dK (ownKV (putO g t o))) := by rw [← hH2, upd_same]
      clear hH2 nqd nqd1 nq npd
      refine ⟨_, rfl, x, C, dx, _, _, rfl, s2 _ _ h1, T.cl, T.nR, prF_rais _ _ _, _, rfl, x, C, dx, _, _, rfl, s2 _ _ h1, T.cl, T.nL, prF_low _ _ _, rfl, r, l, rfl, h3.r, h3.l, fun y H3 s3 hy => ?_⟩
      obtain ⟨dy, ly, y1, y2, y3, y4, y5⟩ := hy
      have hpd3 := s3 _ _ hpd
      have lk : ((putO g t o).map (·.1)).length ≤ 59 := by
        have := put_len (g := g) (t := t) (o := o)
        rw [List.length_map]
        omega
      refine ⟨_, rfl, pd, _, (putO g t o).map (·.1), rfl, Rd.of hpd3, own_keys _, by omega, fun ys lsx pys sys nl => ?_⟩
      have eys := sortN_of pys sys
      subst eys
      obtain ⟨ks, eks⟩ : ∃ ks, sortN ((putO g t o).map (·.1)) = ks := ⟨_, rfl⟩
      have lks : ks.length ≤ 59 := by
        rw [← eks, (sortN_perm _).length_eq]
        exact lk
      have nks : ks.Nodup := by
        rw [← eks]
        exact (sortN_perm _).nodup_iff.mpr (put_nodup h3.own.nodup)
      have eso : sortO (putO g t o) = ks.map fun s => (s, (valO (putO g t o) s).getD none) := by
        unfold sortO
        rw [eks]
      have mks : ∀ s ∈ ks, ∃ o', valO (putO g t o) s = some o' := fun s hs => by
        rw [← eks] at hs
        exact Option.isSome_iff_exists.mp (val_mem.mpr ((sortN_perm _).mem_iff.mp hs))
      rw [eks]
      have s4 := same_new (o := .lst (ks.map V.str)) nl
      have hl4 : (upd H3 lsx (.lst (ks.map V.str))) lsx = some (.lst (ks.map V.str)) := upd_same
      generalize upd H3 lsx (.lst (ks.map V.str)) = H4 at s4 hl4 ⊢
      refine ⟨lsx, rfl, ⟨_, SqL.of hl4⟩, fun D hD => ?_⟩
      refine dc_it (walk_list (xs := ks.map V.str)) (fun i Hc => Same H4 Hc ∧ Hc D = some (.dK (ownKV ((ks.take i).map fun s => (s, (valO (putO g t o) s).getD none))))) ⟨same_new hD, upd_same⟩ (fun i Hc _ h => SqL.of (h.1 _ _ hl4)) ?_ ?_
      · rintro i v Hc H' hi ⟨sc, hd⟩ ⟨rfl, hv⟩
        obtain ⟨s', hs', rfl⟩ := get_map hv
        have mt := List.mem_of_getElem? hs'
        have hi' : i < ks.length := by rwa [List.length_map] at hi
        obtain ⟨o', ho'⟩ := mks s' mt
        have dg : DGet H' pd (V.str s') (some (optV o')) := by
          have := DGet.k (k := Sum.inr s') (sc _ _ (s4 _ _ hpd3))
          rwa [val_own, ho'] at this
        refine ⟨rfl, _, rfl, _, rfl, _, rfl, pd, _, rfl, dg, ownKV ((ks.take i).map fun s => (s, (valO (putO g t o) s).getD none)), Sum.inr s', rfl, hd, ?_, ?_, ?_⟩
        · unfold ownKV
          rw [List.length_map, List.length_map, List.length_take]
          omega
        · intro b o hb
          rw [upd_ne (ne_of_none hb hD)]
          exact sc _ _ hb
        · have ne : s' ∉ ((ks.take i).map fun s => (s, (valO (putO g t o) s).getD none)).map (·.1) := by
            rw [List.map_map]
            intro m
            obtain ⟨z, hz, e⟩ := List.mem_map.mp m
            have e : z = s' := e
            subst e
            obtain ⟨j, hj, e⟩ := List.getElem_of_mem hz
            rw [List.length_take] at hj
            rw [List.getElem_take] at e
            rw [List.getElem?_eq_getElem hi'] at hs'
            have := (List.getElem_inj (h₀ := by omega) (h₁ := hi') nks).mp (e.trans (Option.some.inj hs').symm)
            omega
          rw [put_noneKV ne, upd_same]
          congr 3
          rw [List.take_add_one, hs', List.map_append]
          show _ ++ [(s', o')] = _ ++ [(s', (valO (putO g t o) s').getD none)]
          rw [ho']
          rfl
      · rintro Hc ⟨sc, hd⟩
        rw [List.length_map, List.take_length, ← eso] at hd
        have s34 := s4.trans sc
        refine ⟨_, rfl, y, C, dy, _, rfl, s34 _ _ y1, T.cl, T.nS, by show 3 < 1000; decide, ?_⟩
        have s24 := s2.trans s3
        have yH : H y = none := (s1.trans s2).free y4
        refine ⟨_, rfl, q y _ (fun b' o' hb => ?_) ⟨dy, D, upd_same, ?_, ⟨h3.r, h3.l, (h3.own.put ht ho).sort, ?_⟩, yH, ?_⟩⟩
        · rw [upd_ne (ne_of_none hb yH)]
          exact s34 _ _ (s24 _ _ (s1 _ _ hb))
        · rw [upd_ne (ne_of hd (s34 _ _ y1) fun z => nomatch z)]
          exact hd
        · rw [sortO_len]
          have := put_len (g := g) (t := t) (o := o)
          omega
        · exact ((s1.trans s24).trans s4).free hD
end
end Wnd

/-! Windowsteps: repr of a list of two numbers of settings. -/
namespace Wnd
open PySem PySem.Spec PyProof.Rows L2
variable {X : Cx}
/-- a new list, and where it is not -/
def tLstN (t : TA) : TE := fun σ H Q => t σ H fun xs H1 => xs.length ≤ sizeLine ∧ ∀ p, H1 p = none → p ≠ sysModules → Q (.ref p) (upd H1 p (.lst xs))
theorem pe_lstN {es : List Expr} {pos : Pos} {t : TA} (h : PA X es t) : PE X (.List es pos) (tLstN t) := by
  refine ⟨fun pins s σ H Q I hq => ?_⟩
  refine wpAny_List_spliced (thn (h.run pos pins s σ H _ I hq) fun us s1 ⟨xs, H1, I1, r, z, q⟩ => ⟨by rw [← r.length]; exact z, ?_⟩)
  have hf : H1 s1.heap.objs.size = none := I1.hok.fresh (Nat.le_refl _)
  refine ⟨.ref s1.heap.objs.size, upd H1 s1.heap.objs.size (.lst xs), I1.laid (t' := s1.toks) (fun b u e => Heap.get?_push_of_some _ e) (Nat.le_refl _) ?_, rfl, q _ hf (Nat.ne_of_gt I1.big)⟩
  exact ⟨z, us, 0, r, Heap.get?_push_size _ rfl⟩
def pairD (g g' : List (Str × Int)) : PyData := .list [goalD g, goalD g']
def rReprL : List V → Hp → VK → Prop := fun xs H Q => ∃ (a l1 l2 : Addr) (g1 g2 : List (Str × Int)), xs = [.ref a] ∧ a ≠ sysModules ∧ H a = some (.lst [.ref l1, .ref l2]) ∧ H l1 = some (.dK (g1.map fun x => (Sum.inr x.1, V.int x.2))) ∧ H l2 = some (.dK (g2.map fun x => (Sum.inr x.1, V.int x.2))) ∧
  (∀ x ∈ g1, Small x) ∧ (∀ x ∈ g2, Small x) ∧ g1.length ≤ 1000 ∧ g2.length ≤ 1000 ∧ Q (.str (pairD g1 g2).shown) H
theorem pair_show {g1 g2 : List (Str × Int)} (h1 : ∀ x ∈ g1, Small x) (h2 : ∀ x ∈ g2, Small x) (z1 : g1.length ≤ 1000) (z2 : g2.length ≤ 1000) : (pairD g1 g2).showable = true ∧ (pairD g1 g2).shown.length ≤ sizeLine ∧ (pairD g1 g2).depth ≤ 60 := by
  obtain ⟨a1, a2, a3, a4⟩ := goal_kv h1
  obtain ⟨b1, b2, b3, b4⟩ := goal_kv h2
  refine ⟨?_, ?_, ?_⟩
  · simp [pairD, goalD, PyData.showable, PyData.showableAll, a2, b2]
  · have e := PyData.shown_le 13 (by decide) (pairD g1 g2) (by simp [pairD, goalD, PyData.leavesShort, PyData.leavesShortAll, a1, b1])
    have ew : (pairD g1 g2).weight ≤ 60000 := by
      simp only [pairD, goalD, PyData.weight, PyData.weightAll]
      omega
    have : sizeLine = 16777216 := by decide
    omega
  · simp only [pairD, goalD, PyData.depth, PyData.depthAll, a4, b4]
    decide
theorem goal_readsAt {P : Program} {w : World} {H : Hp} {h : Heap} {a : Addr} {g : List (Str × Int)} (ok : HOk P w H h) (hg : H a = some (.dK (g.map fun x => (Sum.inr x.1, V.int x.2)))) : ∃ as, Reads h (.ref a) (goalD g) as ∧ sysModules ∉ as := by
  obtain ⟨_, lo, vs, kv, o, es, ep, h1, h2, h3, _, h5, _⟩ := dk_of ok hg
  obtain ⟨r1, r2⟩ := goal_reads (P := P) (w := w) (h := h) (es := es.toList) kv h5
  refine ⟨_, .dict h1 h2.1 h3 r1 r2, fun hm => ?_⟩
  have : sysModules = a := by simpa using hm
  rw [this] at lo
  simp at lo
theorem call_reprL (free : X.A.guards = some []) (hu : X.A.units + 65 < cLine) : CallR X (.builtin "repr") rReprL := by
  intro pins s σ H xs us Q I r h
  obtain ⟨a, l1, l2, g1, g2, rfl, na, ha, hl1, hl2, s1, s2, z1, z2, q⟩ := h
  obtain ⟨u, rfl, ru⟩ := vals1 r
  cases (show u = Value.ref a from ru)
  obtain ⟨sw, sz, dp⟩ := pair_show s1 s2 z1 z2
  obtain ⟨as, ra, na1⟩ := goal_readsAt I.hok hl1
  obtain ⟨bs, rb, nb1⟩ := goal_readsAt I.hok hl2
  obtain ⟨_, its, n, rv, ho⟩ := (show ObjOk X.prog X.w H s.heap a (.lst [.ref l1, .ref l2]) from I.hok a _ ha)
  have e : its = [.ref l1, .ref l2] := by
    cases rv with
    | cons h1 t =>
      cases t with
      | cons h2 t2 =>
        cases t2
        rw [show _ = Value.ref l1 from h1, show _ = Value.ref l2 from h2]
  subst e
  have rd : Reads s.heap (.ref a) (pairD g1 g2) (a :: (as ++ (bs ++ []))) := .list ho rfl rfl (.cons ra (.cons rb .nil))
  refine repr_of_reads' rd sw (fun _ hm => ?_) free (by omega) (fun _ _ e => e) (fun h' t tk kp => ⟨.str (pairD g1 g2).shown, H, I.kept (t' := tk) kp, ⟨t, rfl⟩, q⟩) sz
  simp only [List.mem_cons, List.mem_append, List.not_mem_nil, or_false] at hm
  rcases hm with hm | hm | hm
  · exact na hm.symm
  · exact na1 hm
  · exact nb1 hm
end Wnd

/-! a method called by keywords; lists added, the new one told not to lie where the modules are kept -/
namespace Wnd
open PySem PySem.Spec PyProof.Rows L2
/-- o.m(k = v, ..) -/
def tMethN (C : Addr) (m : Str) (n : Nat) (sp : Sp) (gV : List V → List V → List V) (ta : TE) (tk : TA) : TE := fun σ H Q => ta σ H fun x H1 => ∃ (a dx : Addr) (fs : List (Str × V)), x = .ref a ∧ H1 a = some (.ins C dx fs) ∧ fs.lookup m = none ∧
  tk σ H1 fun zs H2 => zs.length = n ∧ sp (gV [.ref a] zs) H2 Q E0
section
variable {X : Cx} {k : Nat} {f C : Addr} {fd : FuncData} {ps ks : List Str} {sp : Sp} {m : Str} {apos pos : Pos} {o : Expr} {kws : List Keyword} {ta : TE} {tk : TA} {g : List Value → List Value → List Value} {gV : List V → List V → List V}
theorem pe_methN {pl : Sem Bool} (he : PE X o ta) (c : Cls X.K C) (hm : Meth X.K C m f) (F : FnOk X.prog X.w X.K X.mg X.base CX0 k f fd ps sp) (hr : Room k X.A) (hb : KBn X.K fd ps 1 ks g gV) (hkw : PK X kws tk)
    (hall : (backToKw pos (keywordEach kws X.env)).all (·.1.isSome) = true) (hks : (backToKw pos (keywordEach kws X.env)).filterMap (·.1) = ks)
    (hpl : ((backTo pos (starEach [] X.env)).any (·.1) || (backToKw pos (keywordEach kws X.env)).any (·.1.isNone)) = false)
    (ht : eval (.Call (.Attribute o m apos) [] kws pos) X.env = (do
      let ov ← eval o X.env
      standAt apos.atName
      let (f, first) ← holding [ov] (getMethod ov m pl)
      callWith pos f first (backTo pos (starEach [] X.env)) (backToKw pos (keywordEach kws X.env)))) :
    PE X (.Call (.Attribute o m apos) [] kws pos) (tMethN C m ks.length sp gV ta tk) := by
  refine ⟨fun pins s σ H Q I h => ?_⟩
  refine PySem.W.methodCall_KW (pl := pl) (thn (he.run pins s σ H _ I h) fun u s1 ⟨x, H1, I1, rx, a, dx, fs, ex, ea, l, q⟩ => ?_) ht
  subst ex
  obtain rfl : u = Value.ref a := rx
  refine getmeth_ok I1 ea c hm l ?_
  refine PySem.W.callWith_KW0 (first := [.ref a]) (h₀ := X.base) I.ok.mod.kin hm.kp hall (thn (hkw.run pos pins s1 σ H1 _ I1 q) fun ws s2 ⟨zs, H2, I2, rz, l2, q2⟩ => ⟨I2.kIn, ?_⟩) hpl
  rw [hks]
  exact run_fnN (us := [.ref a]) (vs := [.ref a]) F hr hb pass0 I2 (.cons rfl .nil) rz rfl l2 q2
end
section
variable {X : Cx}
def rCatN : R2 := fun x y H Q => ∃ l b xs zs, x = .ref l ∧ y = .ref b ∧ H l = some (.lst xs) ∧ H b = some (.lst zs) ∧ xs.length + zs.length ≤ sizeLine ∧ ∀ p, H p = none → p ≠ sysModules → Q (.ref p) (upd H p (.lst (xs ++ zs)))
theorem op_catN : OpR X (binaryOp .Add) rCatN := by
  intro pins s σ H x y v u Q I rx ry h
  obtain ⟨l, b, xs, zs, rfl, rfl, hH, hB, hz, q⟩ := h
  cases rx
  cases ry
  obtain ⟨z, its, n, r, hl, e⟩ := I.lstM hH
  obtain ⟨z2, its2, n2, r2, hl2, e2⟩ := I.lstM hB
  refine PySem.P.add_list e e2 ?_ (by rw [List.size_toArray, List.size_toArray]; omega)
  have ea : its.toArray ++ its2.toArray = (its ++ its2).toArray := by simp
  rw [ea]
  exact ⟨.ref _, _, I.lnew (t' := s.toks) (r.append r2) (by rw [List.length_append]; omega), rfl, q _ I.fresh (Nat.ne_of_gt I.big)⟩
end
/-- pairs of texts and values, laid one by one -/
theorem lc_mapV {K : PySem.W.Frag} {l D : Addr} {ns : List Str} (F : Str → V) {H1 : Hp} {gT : TG} {tt : TT} {te : TE} {vs : List Nat} {σ : L2.St} {Qd : Hp → Prop} (hl : H1 l = some (.lst (ns.map V.str))) (hz : ns.length < 1000) (hD : H1 D = none)
    (hs : ∀ (i : Nat) (hi : i < ns.length) (Hc : Hp) (Nx : Hp → Prop), Same H1 Hc → (∀ H', Same Hc H' → ∀ T, H' T = none → ∃ acc, (upd H' T (.tup [.str ns[i], F ns[i]])) D = some (.lst acc) ∧ acc.length < sizeLine ∧ Nx (upd (upd H' T (.tup [.str ns[i], F ns[i]])) D (.lst (acc ++ [.ref T])))) →
      gT (V.str ns[i]) (wipe σ vs) Hc fun σ2 H2 => wipe σ2 vs = wipe σ vs ∧ tt σ2 H2 fun b H3 => if b = true then te σ2 H3 fun y H4 => ∃ acc, H4 D = some (.lst acc) ∧ acc.length < sizeLine ∧ Nx (upd H4 D (.lst (acc ++ [y]))) else Nx H3)
    (hd : ∀ Hc ps, Same H1 Hc → Hc D = some (.lst (ps.map V.ref)) → Paired (fun u x => Hc u = some (.tup [.str x, F x])) ps ns → Qd Hc) :
    ∃ W : Nat → Nat → Hp → Prop, (∃ m, W 0 m (upd H1 D (.lst []))) ∧ ∀ i m H, W i m H →
      ((Itl K l).stop i H ∧ Qd H) ∨ ((Itl K l).go i H ∧ ∃ Nx : Hp → Prop, (∀ H', Nx H' → ∃ m', m' < m ∧ W (i + 1) m' H') ∧ ∀ x H', (Itl K l).yld i H x H' → gT x (wipe σ vs) H' fun σ2 H2 => wipe σ2 vs = wipe σ vs ∧ tt σ2 H2 fun b H3 =>
        if b = true then te σ2 H3 fun y H4 => ∃ acc, H4 D = some (.lst acc) ∧ acc.length < sizeLine ∧ Nx (upd H4 D (.lst (acc ++ [y]))) else Nx H3) := by
  have big : sizeLine > 100000 := by decide
  refine lc_it (walk_list (xs := ns.map V.str)) (fun i Hc => ∃ ps, Same H1 Hc ∧ Hc D = some (.lst (ps.map V.ref)) ∧ Paired (fun u x => Hc u = some (.tup [.str x, F x])) ps (ns.take i)) ⟨[], same_new hD, upd_same, .nil⟩ (fun i Hc _ ⟨_, s, _⟩ => SqL.of (s _ _ hl)) ?_ ?_
  · rintro i v Hc H' hi ⟨ps, sc, hd, hp⟩ ⟨rfl, hv⟩
    have hi' : i < ns.length := by rwa [List.length_map] at hi
    rw [List.getElem?_map, List.getElem?_eq_getElem hi'] at hv
    cases hv
    have hpl : ps.length = i := by
      have := hp.length
      rw [List.length_take] at this
      omega
    refine hs i hi' H' (fun H => ∃ ps, Same H1 H ∧ H D = some (.lst (ps.map V.ref)) ∧ Paired (fun u x => H u = some (.tup [.str x, F x])) ps (ns.take (i + 1))) sc fun H'' s'' T nT => ?_
    have h2 := s'' _ _ hd
    have nDT : D ≠ T := ne_of_none h2 nT
    refine ⟨ps.map V.ref, by rw [upd_ne nDT]; exact h2, by rw [List.length_map]; omega, ps ++ [T], fun b o hb => ?_, by rw [upd_same, List.map_append]; rfl, ?_⟩
    · rw [upd_ne (ne_of_none hb hD), upd_ne (ne_of_none (s'' _ _ (sc _ _ hb)) nT)]
      exact s'' _ _ (sc _ _ hb)
    · rw [List.take_add_one, List.getElem?_eq_getElem hi']
      refine Paired.snoc (Paired.mono (fun u x hu => ?_) hp) ?_
      · have hu2 := s'' _ _ hu
        rw [upd_ne (ne_of hu2 h2 fun z => nomatch z), upd_ne (ne_of_none hu2 nT)]
        exact hu2
      · rw [upd_ne nDT.symm]
        exact upd_same
  · rintro Hc ⟨ps, sc, hd', hp⟩
    rw [List.length_map, List.take_length] at hp
    exact hd Hc ps sc hd' hp
end Wnd

namespace Wnd
open PySem PySem.Spec PyProof.Rows L2
section
variable {P : Program} {w : World} {K : PySem.W.Frag} {mg : Str → Option Value} {base : Heap}
/-! ### numbers of a system -/
def NumsOk (ns : List Str) (g : List (Str × Int)) : Prop := (g.map (·.1)).Perm ns ∧ ∀ x ∈ g, -99999 ≤ x.2 ∧ x.2 ≤ 99999
def spIsNum : Sp := fun vs H Q _ => ∃ i : Int, vs = [.int i] ∧ Q (.bl (decide (-99999 ≤ i) && decide (i ≤ 99999))) H
theorem valG_mem {t : Str} : ∀ {g : List (Str × Int)}, t ∈ g.map (·.1) → (t, valG g (some t)) ∈ g
  | [], h => nomatch h
  | (a, b) :: r, h => by
    by_cases e : a = t
    · have : valG ((a, b) :: r) (some t) = b := by
        show (List.lookup t ((a, b) :: r)).getD 0 = b
        rw [List.lookup_cons, show (t == a) = true from beq_iff_eq.mpr e.symm]
        rfl
      rw [this, e]
      exact List.mem_cons_self ..
    · have h2 : t ∈ r.map (·.1) := (List.mem_cons.mp h).elim (fun z => absurd z.symm e) id
      have : valG ((a, b) :: r) (some t) = valG r (some t) := by
        show (List.lookup t ((a, b) :: r)).getD 0 = (List.lookup t r).getD 0
        rw [List.lookup_cons, show (t == a) = false from beq_eq_false_iff_ne.mpr fun z => e z.symm]
      rw [this]
      exact List.mem_cons_of_mem _ (valG_mem h2)
def spCheck (C : Addr) : Sp := fun vs H Q _ => ∃ (x d : Addr) (ns : List Str) (L : List (Rule × Addr)) (g : List (Str × Int)), vs = [.ref x, .ref d] ∧ SysAt C H x ns L ∧ H d = some (.dK (goalKV g)) ∧ NumsOk ns g ∧ ∀ H', Same H H' → Q .non H'
def spAre (C : Addr) : Sp := fun vs H Q _ => ∃ (x d : Addr) (ns : List Str) (L : List (Rule × Addr)) (g : List (Str × Int)), vs = [.ref x, .ref d] ∧ SysAt C H x ns L ∧ H d = some (.dK (goalKV g)) ∧ NumsOk ns g ∧ ∀ H', Same H H' → Q (.bl true) H'
def spNumOf : Sp := fun vs H Q _ => ∃ (d : Addr) (g : List (Str × Int)) (e : Option Str), vs = [endV e, .ref d] ∧ H d = some (.dK (goalKV g)) ∧ (∀ t, e = some t → t ∈ g.map (·.1)) ∧ Q (.int (valG g e)) H
/-- how much the high of a rule is missing -/
def shortB (g : List (Str × Int)) (r : Rule) : Int := valG g r.low + r.gap - valG g r.high
def EndsIn (g : List (Str × Int)) (r : Rule) : Prop := (∀ t, r.low = some t → t ∈ g.map (·.1)) ∧ ∀ t, r.high = some t → t ∈ g.map (·.1)
def spShortOf : Sp := fun vs H Q _ => ∃ (q d : Addr) (r : Rule) (g : List (Str × Int)), vs = [.ref q, .ref d] ∧ H q = some (.tup (ruleV r)) ∧ H d = some (.dK (goalKV g)) ∧ EndsIn g r ∧ Q (.int (shortB g r)) H
end
end Wnd

namespace Wnd
open PySem PySem.Spec PyProof.Rows L2
/-- what the head finds of the class System -/
structure SysRaw (K : PySem.W.Frag) (C : Addr) : Prop where
  at_ : PySem.W.nsIn K mainGlobals "System" = some (some (.ref C))
  pg : PySem.W.plainGet K C Str.empty = true
  hd : PySem.W.hasDictIn K C = true
  po : PySem.W.plainOver K C = true
  sa : PySem.W.findIn K (.ref C) "__setattr__" = some (some (.builtin "object.__setattr__"))
  nN : PySem.W.findIn K (.ref C) "_names" = some none
  nR : PySem.W.findIn K (.ref C) "_rules" = some none
  ha : PySem.W.findIn K (.ref C) "__class__" = some (some (.builtin "object.__class__"))
  hn : PySem.W.specialIn K (.builtin "object.__class__") "__get__" = some (some (.builtin "getset_descriptor.__get__"))
  htk : PySem.W.takesIn K (.builtin "object.__class__") = some true
  hm : PySem.W.mroIn K C (.type "object") = some true
  ic : PySem.W.isClsIn K C = true
  tc : PySem.W.typeIn K (.ref C) = some (.type "type")
  nf : PySem.W.notFirst K C (.ref C) = true
  kList : PySem.W.subIn K (.type "list") (.ref C) = some false
  kTuple : PySem.W.subIn K (.type "tuple") (.ref C) = some false
  kNone : PySem.W.subIn K (.type "NoneType") (.ref C) = some false
  kStr : PySem.W.subIn K (.type "str") (.ref C) = some false
  kInt : PySem.W.subIn K (.type "int") (.ref C) = some false
  fList : PySem.W.notFirst K C (.type "list") = true
  fTuple : PySem.W.notFirst K C (.type "tuple") = true
  fNone : PySem.W.notFirst K C (.type "NoneType") = true
  fStr : PySem.W.notFirst K C (.type "str") = true
  fInt : PySem.W.notFirst K C (.type "int") = true
  ne : PySem.W.findIn K (.ref C) "__ne__" = some (some (.builtin "object.__ne__"))
  ob : PySem.W.subIn K (.ref C) (.type "object") = some true
  mks : PySem.W.makesIn K C = true
  kc : PySem.W.keepIn K (.ref C) = true
theorem SysRaw.kit {K : PySem.W.Frag} {C : Addr} {T : String} (R : SysRaw K C) (h : PySem.W.subIn K (.type T) (.ref C) = some false) : PySem.W.kitOne K (.type T) (.ref C) = some false := by
  have h1 : (PySem.W.clsIn K C).isSome = true := R.ic
  have h2 : ((Value.type T) == (Value.ref C)) = false := rfl
  unfold PySem.W.kitOne PySem.W.kitCls
  rw [h2, if_neg Bool.false_ne_true]
  show (if ((PySem.W.clsIn K C).isSome && PySem.W.typeIn K (.ref C) == some (.type "type")) = true then PySem.W.subIn K (.type T) (.ref C) else none) = some false
  rw [h1, R.tc, if_pos (by simp)]
  exact h
theorem SysRaw.me {K : PySem.W.Frag} {C : Addr} (R : SysRaw K C) : PySem.W.kitOne K (.ref C) (.ref C) = some true := by
  unfold PySem.W.kitOne
  rw [if_pos (by simp)]
theorem SysRaw.f {K : PySem.W.Frag} {C : Addr} {mg : Str → Option Value} {h : Heap} (R : SysRaw K C) (X : K.In h) (G : h.Ns mainGlobals mg) : SysF K mg C :=
  { cl := ⟨R.pg, R.hd, R.po, R.sa⟩, nN := R.nN, nR := R.nR, mgC := PySem.W.mg_of X G R.at_, isC := ⟨⟨R.pg, R.hd, R.po, R.sa⟩, R.ha, R.hn, R.htk, R.hm, R.me⟩, nf := R.nf,
    bList := ⟨R.kit R.kList, R.fList⟩, bTuple := ⟨R.kit R.kTuple, R.fTuple⟩, bNone := ⟨R.kit R.kNone, R.fNone⟩, bStr := ⟨R.kit R.kStr, R.fStr⟩, bInt := ⟨R.kit R.kInt, R.fInt⟩ }
end Wnd

/-! the shortfall of a rule, as the program and as the law find it -/
namespace Wnd
open PySem PySem.Spec PyProof.Rows L2
section
variable {P : Program} {w : World} {K : PySem.W.Frag} {mg : Str → Option Value} {base : Heap}
theorem EndsIn.of {ts : List Str} {g : List (Str × Int)} {r : Rule} (h : RuleOk ts r) (hg : ∀ t ∈ ts, t ∈ g.map (·.1)) : EndsIn g r := by
  have e_ : ∀ {e : Option Str}, endIn ts e = true → ∀ t, e = some t → t ∈ g.map (·.1) := by
    rintro e he t rfl
    obtain ⟨x, hx, e⟩ := List.any_eq_true.mp he
    exact hg t (eq_of_beq e ▸ hx)
  exact ⟨e_ h.low, e_ h.high⟩
def spLawShort : Sp := fun vs H Q _ => ∃ (d q : Addr) (r : Rule) (g : List (Str × Int)), vs = [.ref d, .ref q] ∧ H d = some (.dK (goalKV g)) ∧ H q = some (.tup (ruleV r)) ∧ EndsIn g r ∧ Q (.int (shortB g r)) H
end
end Wnd

/-! numbers of settings: in another order, shown -/
namespace Wnd
open PySem PySem.Spec PyProof.Rows L2
theorem lookup_nodup {t : Str} {v : Int} : ∀ {g : List (Str × Int)}, (g.map (·.1)).Nodup → (t, v) ∈ g → g.lookup t = some v
  | (a, b) :: r, nd, h => by
    rw [List.map_cons, List.nodup_cons] at nd
    rcases List.mem_cons.mp h with e | h
    · cases e
      rw [List.lookup_cons, show (t == t) = true from beq_self_eq_true t]
    · have : a ≠ t := fun e => nd.1 (e ▸ List.mem_map.mpr ⟨_, h, rfl⟩)
      rw [List.lookup_cons, show (t == a) = false from beq_eq_false_iff_ne.mpr fun z => this z.symm]
      exact lookup_nodup nd.2 h
theorem valG_perm {g g' : List (Str × Int)} (p : g.Perm g') (nd : (g.map (·.1)).Nodup) {e : Option Str} (h : ∀ t, e = some t → t ∈ g.map (·.1)) : valG g' e = valG g e := by
  cases e with
  | none => rfl
  | some t =>
    have m := valG_mem (h t rfl)
    show (g'.lookup t).getD 0 = valG g (some t)
    rw [lookup_nodup ((p.map (·.1)).nodup_iff.mp nd) (p.mem_iff.mp m)]
    rfl
theorem shortB_perm {g g' : List (Str × Int)} {r : Rule} (p : g.Perm g') (nd : (g.map (·.1)).Nodup) (h : EndsIn g r) : shortB g' r = shortB g r := by
  unfold shortB
  rw [valG_perm p nd h.1, valG_perm p nd h.2]
theorem EndsIn.perm {g g' : List (Str × Int)} {r : Rule} (p : g.Perm g') (h : EndsIn g r) : EndsIn g' r := ⟨fun t e => (p.map (·.1)).mem_iff.mp (h.1 t e), fun t e => (p.map (·.1)).mem_iff.mp (h.2 t e)⟩
theorem valG_bound {g : List (Str × Int)} (hb : ∀ x ∈ g, -99999 ≤ x.2 ∧ x.2 ≤ 99999) {e : Option Str} (h : ∀ t, e = some t → t ∈ g.map (·.1)) : -99999 ≤ valG g e ∧ valG g e ≤ 99999 := by
  cases e with
  | none => exact ⟨by show (-99999 : Int) ≤ 0; decide, by show (0 : Int) ≤ 99999; decide⟩
  | some t => exact hb _ (valG_mem (h t rfl))
theorem shortB_abs {g : List (Str × Int)} {ts : List Str} {r : Rule} (hb : ∀ x ∈ g, -99999 ≤ x.2 ∧ x.2 ≤ 99999) (h : EndsIn g r) (ro : RuleOk ts r) : (shortB g r).natAbs < 10 ^ 12 := by
  have h1 := valG_bound hb h.1
  have h2 := valG_bound hb h.2
  have h3 := ro.ge
  have h4 := ro.le
  unfold shortB
  omega
theorem name_sign {t : Str} (h : nameB t = true) : ∀ c ∈ t.cps.toList, c < 16 ^ 8 := by
  unfold nameB at h
  rw [Bool.and_eq_true, List.all_eq_true] at h
  intro c hc
  have := h.2 c hc
  unfold letterOk at this
  rw [Bool.and_eq_true, Bool.not_eq_true', Bool.not_eq_true', decide_eq_false_iff_not, decide_eq_false_iff_not] at this
  have h2 : ¬ (122 < c) := fun z => this.2 (List.Lex.rel z)
  omega
theorem small_of {ts : List Str} {g : List (Str × Int)} (N : NamesOk ts) (hg : (g.map (·.1)).Perm ts) (hb : ∀ x ∈ g, -99999 ≤ x.2 ∧ x.2 ≤ 99999) : ∀ x ∈ g, Small x := fun x hx => by
  have n := N.2.1 x.1 (hg.mem_iff.mp (List.mem_map.mpr ⟨x, hx, rfl⟩))
  have := (name_len n).2
  exact ⟨by omega, name_sign n, (hb x hx).1, (hb x hx).2⟩
theorem len_of {ts : List Str} {g : List (Str × Int)} (N : NamesOk ts) (hg : (g.map (·.1)).Perm ts) : g.length ≤ 1000 := by
  have h1 := hg.length_eq
  have h2 := N.2.2
  rw [List.length_map] at h1
  omega
theorem paired_rev {α β : Type} {F : α → β → Prop} : ∀ {a : List α} {b : List β}, Paired F a b → Paired F a.reverse b.reverse
  | _, _, .nil => .nil
  | _, _, .cons h t => by
    rw [List.reverse_cons, List.reverse_cons]
    exact (paired_rev t).snoc h
theorem goal_paired {K : PySem.W.Frag} {H : Hp} {ps : List Addr} {g : List (Str × Int)} (h : Paired (fun u x => H u = some (.tup [.str x.1, .int x.2])) ps g) : Paired (fun u (kv : Key × V) => SqT K H u [kV kv.1, kv.2]) ps (goalKV g) := by
  induction h with
  | nil => exact .nil
  | cons h1 h2 ih => exact .cons (SqT.of h1) ih
theorem goal_rev (g : List (Str × Int)) : (goalKV g).reverse = goalKV g.reverse := (List.map_reverse ..).symm
section
variable {P : Program} {w : World} {K : PySem.W.Frag} {mg : Str → Option Value} {base : Heap}
/-- dict(list(held.items())[::-1]): the pairs turned -/
theorem turned_at {H' : Hp} {l2 : Addr} {g : List (Str × Int)} {ts : List Addr} (hp : Paired (fun (t : Addr) (q : Key × V) => H' t = some (.tup [kV q.1, q.2])) ts (goalKV g)) (hl2 : H' l2 = none) :
    SqL K (upd H' l2 (.lst (ts.map V.ref).reverse)) l2 (ts.reverse.map V.ref) ∧ Paired (fun p' (kv : Key × V) => SqT K (upd H' l2 (.lst (ts.map V.ref).reverse)) p' [kV kv.1, kv.2]) ts.reverse (goalKV g.reverse) := by
  have s2 := same_new (o := .lst (ts.map V.ref).reverse) hl2
  refine ⟨SqL.of (by rw [upd_same, List.map_reverse]), ?_⟩
  rw [← goal_rev]
  exact Paired.mapP (paired_rev hp) fun t x h => SqT.of (s2 _ _ h)
theorem turned_merge {g : List (Str × Int)} (nodg : (g.map (·.1)).Nodup) : mergeK [] (goalKV g.reverse) = goalKV g.reverse :=
  goal_merge (by rw [List.map_reverse]; exact (List.reverse_perm _).nodup_iff.mpr nodg)
end
end Wnd

/-! Windowsteps: a def called where nothing is being shown: its body may ask repr of lists and dicts. -/
namespace Wnd
open PySem PySem.Spec PyProof.Rows L2
section
variable {P : Program} {w : World} {K : PySem.W.Frag} {mg : Str → Option Value} {base : Heap}
structure FnG (P : Program) (w : World) (K : PySem.W.Frag) (mg : Str → Option Value) (base : Heap) (k : Nat) (f : Addr) (fd : FuncData) (ps : List Str) (sp : Sp) : Prop where
  len : ∀ vs H Q E, sp vs H Q E → vs.length = ps.length
  run : ∀ (A : Around) (outer : List Env) (s : Shared) (H : Hp) (us : List Value) (vs : List V) (Q : VK) (E : XK), Room k A → A.guards = some [] → Env0 P w K mg base A outer s H → Vals vs us → sp vs H Q E →
    codeAny (model P w) A (.call (.ref f) ⟨us, []⟩) (CR CX0 outer P w H s Q E) s
structure OkG (P : Program) (w : World) (K : PySem.W.Frag) (mg : Str → Option Value) (base : Heap) (k : Nat) (x : Str) (ps : List Str) (sp : Sp) : Prop where
  ex : ∃ (f : Addr) (fd : FuncData), mg x = some (.ref f) ∧ PySem.W.keepIn K (.ref f) = true ∧ FnG P w K mg base k f fd ps sp
theorem Fun.okG {x q : Str} {st : Stmt} {f : Addr} {fd : FuncData} {N ps : List Str} {k : Nat} {sp : Sp} (F : Fun K x q st f fd) (S : FnScope N ps (defScope st)) (bd : Binds K fd ps []) (len : ∀ vs H Q E, sp vs H Q E → vs.length = ps.length)
    (body : ∀ (cdv : Value) (A : Around) (outer : List Env) (s : Shared) (H : Hp) (vs : List V) (Q : VK) (E : XK), Room k (A.deeper (envOfC q (defScope st) s.heap.objs.size f cdv)) → A.guards = some [] → sp vs H Q E →
      ∃ t, PSs (cxOf CX0 P w K mg base N q (defScope st) f cdv A outer s H E).nox (defBody st) t ∧ t { nx := fun _ H' => Q .non H', rt := Q } (L2.start N vs) H) : FnG P w K mg base (k + 1) f fd ps sp := by
  refine ⟨len, fun A outer s H us vs Q E room free env rel h => ?_⟩
  have ln := len _ _ _ _ h
  obtain ⟨oc, od, kV, doc, pm, an, cdv, ct, osl, rfl, lk, hcd⟩ := F.ex
  have kin : K.In s.heap := env.mod.kin.keeps fun b o e => (env.bs b o e).1
  refine StX.run_bnd (G := fun ws H2 => ws = vs ∧ H2 = H ∧ sp ws H2 Q E) lk hcd S room env (fun A' Ex R next => ?_) fun s2 H2 ws g hr => ?_
  · have z := bd s us kin (by rw [List.append_nil, ← rel.length]; exact ln)
    rw [List.append_nil] at z
    exact z _ A' Ex R (next s H vs us env Un.refl rfl (fun _ _ z => z) rel ln ⟨rfl, rfl, h⟩)
  · obtain ⟨rfl, rfl, h2⟩ := g
    obtain ⟨t, ht, hq⟩ := body cdv A outer s2 _ _ Q E hr free h2
    exact ⟨t, ht.nox, hq⟩
theorem DefAt.okG {x : Str} {st : Stmt} {ps : List Str} {f : Addr} {fd : FuncData} {k : Nat} {sp : Sp} (D : DefAt K mg x st ps f fd) (F : FnG P w K mg base k f fd ps sp) : OkG P w K mg base k x ps sp := ⟨f, fd, D.at_, D.fn.kp, F⟩
theorem pe_ownG {X : Cx} {k : Nat} {x : Str} {ps : List Str} {sp : Sp} {p pos : Pos} {e : Expr} {es : List Expr} {t : TA} (O : OkG X.prog X.w X.K X.mg X.base k x ps sp) (hr : Room k X.A) (free : X.A.guards = some []) (ha : PA X (e :: es) t) (hg : Gl X x := by rfl) (hdb : (x == ("__debug__" : Str)) = false := by decide)
    (he : starEach (e :: es) X.env = (false, eval e X.env) :: starEach es X.env := by rfl) (hpl : (backTo pos (starEach es X.env)).any (·.1) = false := by rfl) :
    PE X (.Call (.Name x p) (e :: es) [] pos) (tCall sp [] E0 t) := by
  obtain ⟨f, fd, h1, h2, F⟩ := O.ex
  refine ⟨fun pins s σ H Q I h => ?_⟩
  refine wpAny_Call_Name_kw (ld_glob I hg h1 ?_ hdb)
  refine PySem.W.callWith_K (h₀ := X.base) I.ok.mod.kin h2 (thn (ha.run pos pins s σ H _ I h) ?_) he hpl
  rintro us s1 ⟨vs, H1, I1, r, q⟩
  refine ⟨I1.kIn, ?_⟩
  have q : sp vs H1 Q E0 := by
    have q' := q
    rw [List.append_nil] at q'
    exact q'
  refine wpAny_call (codeAny_mono (F.run X.A X.stack s1 H1 us vs Q E0 hr free I1.env0 r q) fun r s' hq => ?_)
  cases r with
  | error e => exact pass0 pins σ _ _ e s' I1 hq
  | ok fl =>
    cases fl with
    | ret u => exact I1.after hq
    | next => exact False.elim hq
    | brk => exact False.elim hq
    | cont => exact False.elim hq
end
end Wnd

/-! prices as the law sees them (k33) -/
namespace Wnd
open PySem PySem.Spec PyProof.Rows L2
abbrev s_law_shown : Stmt := top 17
theorem sc_law_shown : FnScope ["_law_deal"] ["_law_deal"] (defScope s_law_shown) := ⟨rfl, rfl, rfl, by decide +kernel, rfl, by decide +kernel, by decide +kernel⟩
abbrev s_law_right : Stmt := top 18
theorem sc_law_right : FnScope ["_law_deal", "_law_two", "_law_own", "_law_due", "_law_again", "_law_some", "_law_one"] ["_law_deal", "_law_two", "_law_own"] (defScope s_law_right) := ⟨rfl, rfl, rfl, by decide +kernel, rfl, by decide +kernel, by decide +kernel⟩
theorem own_nice {g : Own} (h : OwnOk g) (hz : g.length ≤ 60) : Nice 1 (60 * 150) (ownD g) := by
  have := nice_dict (m := 0) (w := 64) (ps := g.map fun x => (PyData.str x.1, optD x.2)) fun p hp => by
    obtain ⟨x, hx, rfl⟩ := List.mem_map.mp hp
    have nm := h.names x hx
    refine ⟨(nice_str (name_sign nm)).le (Nat.le_refl _) (by have := (name_len nm).2; omega), ?_⟩
    cases e : x.2 with
    | none => exact nice_none.le (Nat.le_refl _) (by decide)
    | some i =>
      have := h.vals x hx i e
      exact nice_int (by have h1 := this.1; have h2 := this.2; omega)
  refine this.le (by decide) ?_
  rw [List.length_map]
  exact Nat.mul_le_mul hz (by decide)
theorem iteFq {A B : Prop} {b : Bool} (h : b = false) (x : B) : if b = true then A else B := by rw [h]; exact x
def showD (r l : Int) (g : Own) : PyData := .list [.int r, .int l, ownD g]
theorem show_fits {r l : Int} {g : Own} (h : PrV r l g) : (showD r l g).showable = true ∧ (showD r l g).shown.length ≤ sizeLine ∧ (showD r l g).depth ≤ 60 := by
  have n := nice_list (m := 1) (w := 60 * 150) (ds := [.int r, .int l, ownD g]) fun d hd => by
    simp only [List.mem_cons, List.not_mem_nil, or_false] at hd
    rcases hd with rfl | rfl | rfl
    · exact (nice_int (by have h1 := h.r.1; have h2 := h.r.2; omega)).le (by decide) (by decide)
    · exact (nice_int (by have h1 := h.l.1; have h2 := h.l.2; omega)).le (by decide) (by decide)
    · exact own_nice h.own h.len
  exact n.fits (by decide) (by show 3 * (60 * 150 + 1) ≤ 300000; decide)
section
variable {P : Program} {w : World} {K : PySem.W.Frag} {mg : Str → Option Value} {base : Heap}
def spShown (C : Addr) : Sp := fun vs H Q _ => ∃ (x : Addr) (r l : Int) (g : Own), vs = [.ref x] ∧ PrAt C H x r l g ∧ ∀ H', Same H H' → Q (.str (showD r l g).shown) H'
theorem ok_shown {C : Addr} {f : Addr} {fd : FuncData} (D : DefAt K mg "_law_shown" s_law_shown ["_law_deal"] f fd) (B3 : Blt3 mg) (PR : OkP P w K mg base C 1 "raising" (spPrR C)) (PL : OkP P w K mg base C 1 "lowering" (spPrL C)) (PS : OkP P w K mg base C 1 "single" (spPrS C)) :
    OkG P w K mg base 3 "_law_shown" ["_law_deal"] (spShown C) := by
  have B := B3
  refine D.okG (Fun.okG D.fn sc_law_shown D.bi (fun vs H Q E h => ?_) (fun cdv A outer s H vs Q E hr free h => ?_))
  · obtain ⟨x, r, l, g, rfl, _⟩ := h
    rfl
  · obtain ⟨x, r, l, g, rfl, hx, q⟩ := h
    refine ⟨_, (pss_one (ps_ret (pe_callB (call_reprA [sysModules] List.mem_cons_self free (hu65 hr)) (by rfl) B.repr (by decide +kernel) (pa_cons (pe_lstN (pa_cons (pe_propO PR (hr.mono (by decide)) (pv 0)) (pa_cons (pe_propO PL (hr.mono (by decide)) (pv 0)) (pa_cons (pe_propO PS (hr.mono (by decide)) (pv 0)) pa_nil)))) pa_nil)))), ?_⟩
    obtain ⟨dx, fs, hi⟩ := hx.ins
    refine ⟨_, rfl, x, dx, fs, rfl, hi, x, r, l, g, rfl, hx, _, rfl, x, dx, fs, rfl, hi, x, r, l, g, rfl, hx, _, rfl, x, dx, fs, rfl, hi, x, r, l, g, rfl, hx, fun d nd0 => ?_⟩
    refine ⟨by show 3 ≤ sizeLine; decide, fun ls nls sls => ?_⟩
    have u1 := same_new (o := .dK (ownKV g)) nd0
    have hd1 : (upd H d (.dK (ownKV g))) d = some (.dK (ownKV g)) := upd_same
    generalize upd H d (.dK (ownKV g)) = H1 at u1 hd1 nls ⊢
    have u2 := u1.trans (same_new (o := .lst [.int r, .int l, .ref d]) nls)
    have hd2 := same_new (o := .lst [.int r, .int l, .ref d]) nls _ _ hd1
    obtain ⟨f1, f2, f3⟩ := show_fits hx.v
    refine ⟨ls, showD r l g, rfl, .lst upd_same (fun z => sls (List.mem_singleton.mp z)) (.cons (.int r) (.cons (.int l) (.cons (da_own hd2) .nil))), f1, f2, f3, ?_⟩
    exact q _ u2
theorem own_merge {g : Own} (h : (g.map (·.1)).Nodup) : mergeK [] (ownKV g) = ownKV g := by
  refine (mergeK_app (ownKV g) [] ?_).trans (List.nil_append _)
  rw [List.nil_append, own_keys]
  exact List.Pairwise.map Sum.inr (fun a b ne e => ne (by injection e)) h
theorem own_paired {H : Hp} {F : Str → Option Int} {ps : List Addr} {ks : List Str} (h : Paired (fun u x => H u = some (.tup [.str x, optV (F x)])) ps ks) : Paired (fun u (kv : Key × V) => SqT K H u [kV kv.1, kv.2]) ps (ownKV (ks.map fun t => (t, F t))) := by
  induction h with
  | nil => exact .nil
  | cons h1 h2 ih => exact .cons (SqT.of h1) ih
/-- due of an object of prices: two numbers in a list, own prices in a dict -/
def spRightPr (C : Addr) : Sp := fun vs H Q _ => ∃ (x tw d : Addr) (r l : Int) (g : Own), vs = [.ref x, .ref tw, .ref d] ∧ PrAt C H x r l (sortO g) ∧ H tw = some (.lst [.int r, .int l]) ∧ H d = some (.dK (ownKV g)) ∧ OwnOk g ∧ g.length ≤ 60 ∧ ∀ H', Same H H' → Q (.bl true) H'
theorem ok_rightPr {C : Addr} {f : Addr} {fd : FuncData} (D : DefAt K mg "_law_right" s_law_right ["_law_deal", "_law_two", "_law_own"] f fd) (B3 : Blt3 mg) (O_law_shown : OkG P w K mg base 3 "_law_shown" ["_law_deal"] (spShown C)) (PS : OkP P w K mg base C 1 "single" (spPrS C)) :
    OkG P w K mg base 4 "_law_right" ["_law_deal", "_law_two", "_law_own"] (spRightPr C) := by
  have B := B3
  refine D.okG (Fun.okG D.fn sc_law_right D.bi (fun vs H Q E h => ?_) (fun cdv A outer s H vs Q E hr free h => ?_))
  · obtain ⟨x, tw, d, r, l, g, rfl, _⟩ := h
    rfl
  · obtain ⟨x, tw, d, r, l, g, rfl, hx, htw, hd, ho, hz, q⟩ := h
    have nd := sc_law_right.nd
    have hu := hu_of hr
    have big : sizeLine > 100000 := by decide
    refine ⟨_, (pss_cons (ps_set (i := 3) nd rfl (Or.inl rfl) (pe_callB (call_reprA [sysModules] List.mem_cons_self free (hu65 hr)) (by rfl) B.repr (by decide +kernel) (pa_cons (pe_op op_catN (pv 1) (pe_lst (pa_cons (pe_callTy (call_dictP rfl) (by rfl) B.dict (by decide +kernel) (pa_cons (pe_lc (own := [("_law_one", 6)]) (g := gName 6) (tt := tYes) (by rfl) nd (pi_list (pe_callB (call_sortedD rfl) (by rfl) B.sorted (by decide +kernel) (pa_cons (pv 2) pa_nil))) (blkOk_by (own := [("_law_one", 6)]) (N := ["_law_deal", "_law_two", "_law_own", "_law_due", "_law_again", "_law_some", "_law_one"]) (sc := defScope s_law_right) (by decide +kernel)) (fun _ _ _ _ _ => (pg_name (i := 6) nd rfl (Or.inl rfl))) (fun _ _ _ _ _ => pts_nil) (fun _ _ _ _ _ => (pe_tup (pa_cons (pv 6) (pa_cons (pe_dget hu (pv 2) (pv 6) (fun _ _ => rfl)) pa_nil))))) pa_nil)) pa_nil))) pa_nil)))
      (pss_cons (ps_for PassesOwn.never rfl (pi_range1 (by rfl) B.range (pa_cons pe_int pa_nil)) (pg_name (i := 4) nd rfl (Or.inl rfl)) (pss_cons (ps_if (pt_cmpR op_ne (pe_ownG O_law_shown (hr.mono (by decide)) free (pa_cons (pv 0) pa_nil)) (pv 3) (nomark _)) (pss_one (ps_ret pe_bl)) pss_nil)
      (pss_cons (ps_set (i := 5) nd rfl (Or.inl rfl) (pe_propO PS (hr.mono (by decide)) (pv 0)))
      (pss_cons (ps_dput hu (pv 5) pe_str pe_int rfl)
      (pss_one (ps_expr (pe_dpop1 (pv 5) (pe_ix ix_list (pe_callB (call_sortedD rfl) (by rfl) B.sorted (by decide +kernel) (pa_cons (pv 5) pa_nil)) pe_int (fun _ _ => rfl)) ⟨rfl, rfl, rfl, rfl⟩)))))))
      (pss_one (ps_ret pe_bl)))), ?_⟩
    -- due
    have lk : (g.map (·.1)).length < 64 := by rw [List.length_map]; omega
    refine ⟨_, rfl, _, rfl, d, _, g.map (·.1), rfl, Rd.of hd, own_keys g, lk, fun ys s1 pys sys nS1 => ?_⟩
    have eys := sortN_of pys sys
    subst eys
    obtain ⟨ks, eks⟩ : ∃ ks, sortN (g.map (·.1)) = ks := ⟨_, rfl⟩
    have lks : ks.length ≤ 60 := by
      rw [← eks, (sortN_perm _).length_eq, List.length_map]
      exact hz
    have eso : sortO g = ks.map fun s => (s, (valO g s).getD none) := by
      unfold sortO
      rw [eks]
    have mks : ∀ s ∈ ks, ∃ o', valO g s = some o' := fun s hs => by
      rw [← eks] at hs
      exact Option.isSome_iff_exists.mp (val_mem.mpr ((sortN_perm _).mem_iff.mp hs))
    rw [eks]
    have u1 := same_new (o := .lst (ks.map V.str)) nS1
    have hs1 : (upd H s1 (.lst (ks.map V.str))) s1 = some (.lst (ks.map V.str)) := upd_same
    generalize upd H s1 (.lst (ks.map V.str)) = H1 at u1 hs1 ⊢
    refine ⟨s1, rfl, ⟨_, SqL.of hs1⟩, fun D hD => ?_⟩
    refine lc_mapV (fun s => optV ((valO g s).getD none)) hs1 (by omega) hD (fun i hi Hc Nx sc hN => ?_) fun H2 ps s2 hD2 hp2 => ?_
    · have sc2 := u1.trans sc
      have m := List.getElem_mem hi
      generalize ks[i] = t at m hN ⊢
      refine ⟨rfl, ?_⟩
      unfold tYes
      dsimp only
      rw [if_pos rfl]
      obtain ⟨o', ho'⟩ := mks t m
      have dg : DGet Hc d (V.str t) (some (optV ((valO g t).getD none))) := by
        have := DGet.k (k := Sum.inr t) (sc2 _ _ hd)
        rw [ho']
        rwa [val_own, ho'] at this
      exact ⟨_, rfl, _, rfl, _, rfl, d, _, rfl, dg, by show 2 ≤ sizeLine; decide, fun T nT => hN _ (Same.refl _) T nT⟩
    have hp3 : Paired (fun p (kv : Key × V) => SqT K H2 p [kV kv.1, kv.2]) ps (ownKV (sortO g)) := by
      rw [eso]
      exact own_paired hp2
    have okS := ho.sort
    refine ⟨D, ps, ownKV (sortO g), rfl, SqL.of hD2, hp3, fun d2 nd2 => ?_⟩
    rw [own_merge okS.nodup]
    have u3 := (u1.trans s2).trans (same_new (o := .dK (ownKV (sortO g))) nd2)
    have hd3 : (upd H2 d2 (.dK (ownKV (sortO g)))) d2 = some (.dK (ownKV (sortO g))) := upd_same
    generalize upd H2 d2 (.dK (ownKV (sortO g))) = H3 at u3 hd3 ⊢
    clear hs1 nS1 hD hD2 hp2 hp3 s2 u1 nd2 H2
    refine ⟨by show 1 ≤ sizeLine; decide, fun l4 nl4 => ?_⟩
    have u4 := u3.trans (same_new (o := .lst [.ref d2]) nl4)
    have hd4 := same_new (o := .lst [.ref d2]) nl4 _ _ hd3
    have hl4 : (upd H3 l4 (.lst [.ref d2])) l4 = some (.lst [.ref d2]) := upd_same
    generalize upd H3 l4 (.lst [.ref d2]) = H4 at u4 hd4 hl4 ⊢
    refine ⟨tw, l4, _, _, rfl, rfl, u4 _ _ htw, hl4, by show 3 ≤ sizeLine; decide, fun l5 nl5 sl5 => ?_⟩
    have u5 := u4.trans (same_new (o := .lst ([.int r, .int l] ++ [.ref d2])) nl5)
    have hd5 := same_new (o := .lst ([.int r, .int l] ++ [.ref d2])) nl5 _ _ hd4
    have hl5 : (upd H4 l5 (.lst ([.int r, .int l] ++ [.ref d2]))) l5 = some (.lst ([.int r, .int l] ++ [.ref d2])) := upd_same
    generalize upd H4 l5 (.lst ([.int r, .int l] ++ [.ref d2])) = H5 at u5 hd5 hl5 ⊢
    obtain ⟨f1, f2, f3⟩ := show_fits hx.v
    refine ⟨l5, showD r l (sortO g), rfl, .lst hl5 (fun z => sl5 (List.mem_singleton.mp z)) (.cons (.int r) (.cons (.int l) (.cons (da_own hd5) .nil))), f1, f2, f3, ?_⟩
    have hx5 := hx.same u5
    clear u3 hd3 u4 hd4 hl4 hd5 hl5 nl5 sl5 nl4 H3 H4
    refine ⟨2, rfl, by decide, by decide, ?_⟩
    refine for_it walk_range (fun i σ Hc => ∃ (o4 o5 o6 : Option V), σ = [some (.ref x), some (.ref tw), some (.ref d), some (.str (showD r l (sortO g)).shown), o4, o5, o6] ∧ Same H5 Hc) ⟨_, _, _, rfl, Same.refl _⟩ (fun _ _ _ _ _ => True.intro) ?_ ?_
    · rintro i v σ Hz Hc hi ⟨o4, o5, o6, rfl, sc⟩ ⟨rfl, rfl⟩
      have hxc := hx5.same sc
      refine ⟨_, rfl, x, r, l, sortO g, rfl, hxc, fun H6 s6 => ?_⟩
      refine ⟨_, rfl, rfl, _, rfl, iteFq (by rw [decide_eq_true rfl]; rfl) ?_⟩
      have hx6 := hxc.same s6
      obtain ⟨dx, fs, hi6⟩ := hx6.ins
      refine ⟨_, rfl, x, dx, fs, rfl, hi6, x, r, l, sortO g, rfl, hx6, fun sg nsg => ?_⟩
      have s7 := s6.trans (same_new (o := .dK (ownKV (sortO g))) nsg)
      have hsg : (upd H6 sg (.dK (ownKV (sortO g)))) sg = some (.dK (ownKV (sortO g))) := upd_same
      have nsg0 : Hc sg = none := s6.free nsg
      generalize upd H6 sg (.dK (ownKV (sortO g))) = H7 at s7 hsg ⊢
      have lsg : (ownKV (sortO g)).length ≤ 60 := by
        unfold ownKV
        rw [List.length_map, sortO_len]
        exact hz
      refine ⟨_, rfl, sg, _, rfl, DPut.k (k := Sum.inr "other") hsg (by omega), ?_⟩
      have e7 : putK (ownKV (sortO g)) (Sum.inr "other" : Key) (V.int 7) = ownKV (putO (sortO g) "other" (some 7)) := put_own _ _ (some 7)
      rw [e7]
      obtain ⟨G, eG⟩ : ∃ G, putO (sortO g) "other" (some 7) = G := ⟨_, rfl⟩
      have mG : ("other" : Str) ∈ G.map (·.1) := by
        rw [← eG]
        exact (val_mem (g := putO (sortO g) "other" (some 7)) (t := "other")).mp (by rw [val_put, if_pos rfl]; rfl)
      have lG : (G.map (·.1)).length < 64 := by
        have := put_len (g := sortO g) (t := "other") (o := some 7)
        rw [List.length_map, ← eG]
        rw [sortO_len] at this
        omega
      rw [eG]
      have hsg8 : (upd H7 sg (.dK (ownKV G))) sg = some (.dK (ownKV G)) := upd_same
      have s8 : Same Hc (upd H7 sg (.dK (ownKV G))) := fun b o hb => by
        rw [upd_ne (ne_of_none hb nsg0)]
        exact s7 _ _ hb
      generalize upd H7 sg (.dK (ownKV G)) = H8 at hsg8 s8 ⊢
      refine ⟨_, rfl, sg, rfl, .inl ⟨_, Rd.of hsg8⟩, _, rfl, sg, _, G.map (·.1), rfl, Rd.of hsg8, own_keys G, lG, fun ys2 p2 pys2 sys2 np2 => ?_⟩
      have my : ∀ y ∈ ys2, y ∈ G.map (·.1) := fun y hy => pys2.mem_iff.mp hy
      cases ys2 with
      | nil =>
        have := pys2.length_eq
        have l0 := List.length_pos_of_mem mG
        rw [List.length_nil] at this
        omega
      | cons y0 ys2 =>
        obtain ⟨v0, hv0⟩ := Option.isSome_iff_exists.mp (val_mem.mpr (my y0 List.mem_cons_self))
        refine ⟨p2, _, 0, .str y0, rfl, rfl, SqL.of upd_same, atI_nat (j := 0) rfl, ownKV G, Sum.inr y0, optV v0, same_new np2 _ _ hsg8, rfl, by rw [val_own, hv0]; rfl, ?_⟩
        refine ⟨_, _, _, rfl, fun b o hb => ?_⟩
        have hb' := sc _ _ hb
        rw [upd_ne (ne_of_none hb' nsg0), upd_ne (ne_of_none (s8 _ _ hb') np2)]
        exact s8 _ _ hb'
    · rintro σ Hc ⟨o4, o5, o6, rfl, sc⟩
      exact q _ (u5.trans sc)
end
end Wnd

/-! Windowsteps: methods and defs with *rest, called. -/
namespace Wnd
open PySem PySem.Spec PyProof.Rows L2
section
variable {P : Program} {w : World} {K : PySem.W.Frag} {mg : Str → Option Value} {base : Heap}
/-- a method, called -/
structure OkM (P : Program) (w : World) (K : PySem.W.Frag) (mg : Str → Option Value) (base : Heap) (C : Addr) (k : Nat) (m : Str) (sp : Sp) : Prop where
  ex : ∃ (g : Addr) (fd : FuncData) (ps : List Str), Cls K C ∧ Meth K C m g ∧ Binds K fd ps [] ∧ FnOk P w K mg base CX0 k g fd ps sp
theorem pe_methM {X : Cx} {C : Addr} {k : Nat} {m : Str} {sp : Sp} {o e : Expr} {es : List Expr} {ta : TE} {t : TA} {apos pos : Pos} {pl : Sem Bool} (O : OkM X.prog X.w X.K X.mg X.base C k m sp) (hr : Room k X.A) (he : PE X o ta) (ha : PA X (e :: es) t)
    (hst : starEach (e :: es) X.env = (false, eval e X.env) :: starEach es X.env := by rfl) (hpl : (backTo pos (starEach es X.env)).any (·.1) = false := by rfl)
    (ht : eval (.Call (.Attribute o m apos) (e :: es) [] pos) X.env = (do
      let ov ← eval o X.env
      standAt apos.atName
      let (f, first) ← holding [ov] (getMethod ov m pl)
      callWith pos f first (backTo pos (starEach (e :: es) X.env)) (backToKw pos (keywordEach [] X.env))) := by rfl) :
    PE X (.Call (.Attribute o m apos) (e :: es) [] pos) (tMeth C m sp [] E0 ta t) := by
  obtain ⟨g, fd, ps, c, hm, hb, F⟩ := O.ex
  exact pe_meth he c hm F hr hb .nil pass0 ha hst hpl ht
/-- a def with *rest, called by its name -/
structure OkV (P : Program) (w : World) (K : PySem.W.Frag) (mg : Str → Option Value) (base : Heap) (k : Nat) (x : Str) (sp : Sp) : Prop where
  ex : ∃ f : Addr, mg x = some (.ref f) ∧ PySem.W.keepIn K (.ref f) = true ∧ FnR P w K mg base CX0 k f sp
theorem pe_ownV {X : Cx} {k : Nat} {x : Str} {sp : Sp} {p pos : Pos} {e : Expr} {es : List Expr} {t : TA} (O : OkV X.prog X.w X.K X.mg X.base k x sp) (hr : Room k X.A) (ha : PA X (e :: es) t) (hg : Gl X x := by rfl) (hdb : (x == ("__debug__" : Str)) = false := by decide)
    (he : starEach (e :: es) X.env = (false, eval e X.env) :: starEach es X.env := by rfl) (hpl : (backTo pos (starEach es X.env)).any (·.1) = false := by rfl) :
    PE X (.Call (.Name x p) (e :: es) [] pos) (fun σ H Q => t σ H fun vs H1 => sp vs H1 Q E0) := by
  obtain ⟨f, h1, h2, F⟩ := O.ex
  refine ⟨fun pins s σ H Q I h => ?_⟩
  refine wpAny_Call_Name_kw (ld_glob I hg h1 ?_ hdb)
  refine PySem.W.callWith_K (h₀ := X.base) I.ok.mod.kin h2 (thn (ha.run pos pins s σ H _ I h) ?_) he hpl
  rintro us s1 ⟨vs, H1, I1, r, q⟩
  exact ⟨I1.kIn, wpAny_call (codeAny_mono (run_fnR F hr pass0 I1 r q) fun r s' z => z)⟩
end
end Wnd

namespace Wnd
open PySem PySem.Spec PyProof.Rows L2
abbrev s_law : Stmt := top 19
theorem sc_law : FnScope ["_law_script", "_law_pen_here", "_law_turn", "_law_k", "_law_two", "_law_deal", "_law_own", "_law_held", "_law_more", "_law_one", "_law_each", "_law_side", "_law_some", "_law_known", "_law_bare", "_law_many", "_law_letters", "_law_nym", "_law_due"] ["_law_script"] (defScope s_law) := ⟨rfl, rfl, rfl, by decide +kernel, rfl, by decide +kernel, by decide +kernel⟩
section
variable {P : Program} {w : World} {K : PySem.W.Frag} {mg : Str → Option Value} {base : Heap}
theorem kbn_with {qn : Str} {f : Addr} {fd : FuncData} (F : Fun K "with_price" qn s_Prices_with_price f fd) : KBn K fd ["self", "name", "price"] 1 ["price", "name"] (fun us ws => us ++ (ws.drop 1 ++ ws.take 1)) (fun vs zs => vs ++ (zs.drop 1 ++ zs.take 1)) := by
  obtain ⟨oc, od, kV, doc, pm, an, cdv, ct, osl, rfl, lk, hcd⟩ := F.ex
  exact ⟨fun s us ws X l1 l2 => match us, ws, l1, l2 with
    | [a], [b, c], _, _ => .of_eq rfl, fun r1 r2 => r1.append ((r2.drop 1).append (r2.take 1))⟩
/-- nothing outside F changes prices that stand outside F -/
def PrOff (F : Addr → Prop) (C : Addr) (H : Hp) (x : Addr) (r l : Int) (g : Own) : Prop := ∃ dx ls, H x = some (.ins C dx (prF r l ls)) ∧ H ls = some (.dK (ownKV g)) ∧ PrV r l g ∧ ¬ F x ∧ ¬ F ls
theorem PrOff.at_ {F : Addr → Prop} {C : Addr} {H : Hp} {x : Addr} {r l : Int} {g : Own} (h : PrOff F C H x r l g) : PrAt C H x r l g := by
  obtain ⟨dx, ls, h1, h2, h3, _⟩ := h
  exact ⟨dx, ls, h1, h2, h3⟩
theorem PrOff.out {F : Addr → Prop} {C : Addr} {H H' : Hp} {x : Addr} {r l : Int} {g : Own} (h : PrOff F C H x r l g) (s : Out F H H') : PrOff F C H' x r l g := by
  obtain ⟨dx, ls, h1, h2, h3, n1, n2⟩ := h
  exact ⟨dx, ls, s _ _ h1 n1, s _ _ h2 n2, h3, n1, n2⟩
/-- what was laid when F was there is outside F -/
theorem PrNew.off {F : Addr → Prop} {C : Addr} {H H' : Hp} {x : Addr} {r l : Int} {g : Own} (h : PrNew C H H' x r l g) (hF : ∀ a, F a → ∃ o, H a = some o) : PrOff F C H' x r l g := by
  obtain ⟨dx, ls, h1, h2, h3, n1, n2⟩ := h
  exact ⟨dx, ls, h1, h2, h3, (fun z => by obtain ⟨o, e⟩ := hF _ z; rw [n1] at e; cases e), (fun z => by obtain ⟨o, e⟩ := hF _ z; rw [n2] at e; cases e)⟩
/-- repr, where the context's library is named -/
theorem call_reprAK {X : Cx} {K' : PySem.W.Frag} (e : X.K = K') (B : List Addr) (hB : sysModules ∈ B) (free : X.A.guards = some []) (hu : X.A.units + 65 < cLine) : CallR X (.builtin "repr") (rReprA K' B) := by
  subst e
  exact call_reprA B hB free hu
/-- a pair of the list held: prices and what is known of them -/
structure Held where
  t : Addr
  x : Addr
  d : Addr
  g : Own
structure HeldAt (F : Addr → Prop) (C : Addr) (r l : Int) (H : Hp) (h : Held) : Prop where
  t : H h.t = some (.tup [.ref h.x, .ref h.d])
  pr : PrOff F C H h.x r l (sortO h.g)
  d : H h.d = some (.dK (ownKV h.g))
  ok : OwnOk h.g
  len : h.g.length ≤ 20
  nt : ¬ F h.t
  nd : ¬ F h.d
theorem HeldAt.out {F : Addr → Prop} {C : Addr} {r l : Int} {H H' : Hp} {h : Held} (a : HeldAt F C r l H h) (s : Out F H H') : HeldAt F C r l H' h :=
  ⟨s _ _ a.t a.nt, a.pr.out s, s _ _ a.d a.nd, a.ok, a.len, a.nt, a.nd⟩
theorem sortO_nil : sortO [] = [] := by simp [sortO, sortN]
theorem let_names : ∀ c ∈ ("zyxwvutsrqponmlkjihgfedcba" : Str).cps.toList, nameB ((⟨#[c]⟩ : Str) ++ ("ab" : Str)) = true := by decide +kernel
theorem let_len : ("zyxwvutsrqponmlkjihgfedcba" : Str).cps.toList.length = 26 := by decide +kernel
def four : List (Int × Int) := [(1, 1), (5, 1), (1, 7), (8, 7)]
theorem four_ok : ∀ t ∈ four.map (fun q => (showD q.1 q.2 []).shown), PyData.strOk t = true := by decide +kernel
theorem four_eqv : PyData.eqv (.list ((four.map fun q => (showD q.1 q.2 []).shown).map PyData.str)) (.list ((four.map fun q => (showD q.1 q.2 []).shown).map PyData.str)) = true := by decide +kernel
theorem four_fits : ∀ q ∈ four, PrV q.1 q.2 [] := by
  intro q hq
  simp only [four, List.mem_cons, List.not_mem_nil, or_false] at hq
  rcases hq with rfl | rfl | rfl | rfl <;> exact ⟨⟨by decide, by decide⟩, ⟨by decide, by decide⟩, ownOk_nil, Nat.zero_le _⟩
theorem single_x : sortO (putO [] ("x" : Str) (some 4)) = ([(("x" : Str), some 4)] : Own) := by simp [sortO, putO, sortN, valO]
structure B33 (F : Addr → Prop) (C : Addr) (r l : Int) (tw x hl : Addr) (g : Own) (hs : List Held) (X : Hp) : Prop where
  pr : PrOff F C X x r l (sortO g)
  atT : X tw = some (.lst [.int r, .int l])
  ntw : ¬ F tw
  atL : X hl = some (.lst (hs.map fun h => V.ref h.t))
  nhl : ¬ F hl
  hs : ∀ h ∈ hs, HeldAt F C r l X h
theorem B33.out {F : Addr → Prop} {C : Addr} {r l : Int} {tw x hl : Addr} {g : Own} {hs : List Held} {X Y : Hp} (b : B33 F C r l tw x hl g hs X) (s : Out F X Y) : B33 F C r l tw x hl g hs Y :=
  ⟨b.pr.out s, s _ _ b.atT b.ntw, b.ntw, s _ _ b.atL b.nhl, b.nhl, fun h hm => (b.hs h hm).out s⟩
theorem pickV {xs : List V} {d : Int} (h0 : 0 ≤ d) (h1 : d < xs.length) : ∃ w, w ∈ xs ∧ atI xs d = some w := by
  obtain ⟨k, rfl⟩ := Int.eq_ofNat_of_zero_le h0
  have hk : k < xs.length := by omega
  exact ⟨xs[k], List.getElem_mem hk, atI_nat (List.getElem?_eq_getElem hk)⟩
def spLaw (K : PySem.W.Frag) : Sp := fun vs H Q _ => ∃ (a : Addr) (ns : List Int), vs = [.ref a] ∧ SqL K H a (ns.map V.int) ∧ ns.length ≤ 63 ∧ ∀ H', Q (.bl true) H'
theorem run_law {C fW : Addr} {fdW : FuncData} {qW : Str} {f : Addr} {fd : FuncData} (F : Fun K "law" "law" s_law f fd) (bd : Binds K fd ["_law_script"] []) (room : Room 9 callerA) (T : PrC K mg C) (B3 : Blt3 mg) (O_law_pen : Ok P w K mg base 1 "_law_pen" ["_law_script"] (spPen K)) (O_law_draw : Ok P w K mg base 2 "_law_draw" ["_law_pen_here", "_law_under"] spDraw)
    (O_law_shown : OkG P w K mg base 3 "_law_shown" ["_law_deal"] (spShown C)) (O_law_right : OkG P w K mg base 4 "_law_right" ["_law_deal", "_law_two", "_law_own"] (spRightPr C)) (OPr : OkPr P w K mg base C 4) (OW : OkM P w K mg base C 6 "with_price" (spWithPr C)) (mW : Meth K C "with_price" fW) (FW : FnOk P w K mg base CX0 6 fW fdW ["self", "name", "price"] (spWithPr C)) (FFW : Fun K "with_price" qW s_Prices_with_price fW fdW)
    (PS : OkP P w K mg base C 1 "single" (spPrS C))
    {s : Shared} {H : Hp} {us : List Value} {vs : List V} {Q : VK} {E : XK} (env : Env0 P w K mg base callerA [] s H) (len : vs.length = 1) (rel : Vals vs us) (h : spLaw K vs H Q E) : codeAny (model P w) callerA (.call (.ref f) ⟨us, []⟩) (CR CX0 [] P w H s Q E) s := by
  have B := B3
  refine top_run (k := 8) F sc_law bd room (fun cdv s H vs Q E hr h => ?_) env len rel h
  obtain ⟨a, ns, rfl, hS, hlen, q⟩ := h
  have nd := sc_law.nd
  have hu := hu_of hr
  have big : sizeLine > 1000000 := by decide
  refine ⟨_, (pss_cons (ps_set (i := 1) nd rfl (Or.inr rfl) (pe_own O_law_pen (hr.mono (by decide)) (pa_cons (pv 0) pa_nil)))
      (pss_cons (ps_for PassesOwn.never rfl (pi_range1 (by rfl) B.range (pa_cons pe_int pa_nil)) (pg_name (i := 2) nd rfl (Or.inl rfl)) (pss_cons (ps_setLc (i := 4) (own := [("_law_k", 3)]) (g := gName 3) (tt := tYes) (by rfl) nd rfl rfl (sw_true rfl rfl rfl (by decide +kernel)) (pi_range1 (by rfl) B.range (pa_cons pe_int pa_nil)) (blkOk_by (own := [("_law_k", 3)]) (N := ["_law_script", "_law_pen_here", "_law_turn", "_law_k", "_law_two", "_law_deal", "_law_own", "_law_held", "_law_more", "_law_one", "_law_each", "_law_side", "_law_some", "_law_known", "_law_bare", "_law_many", "_law_letters", "_law_nym", "_law_due"]) (sc := defScope s_law) (by decide +kernel)) (fun _ _ _ _ _ => (pg_name (i := 3) nd rfl (Or.inl rfl))) (fun _ _ _ _ _ => pts_nil) (fun _ _ _ _ _ => (pe_ix (ix_listK K) (pe_lst (pa_cons pe_int (pa_cons pe_int (pa_cons pe_int (pa_cons (pe_op op_add pe_int (pe_own O_law_draw (hr.mono (by decide)) (pa_cons (pv 1) (pa_cons pe_int pa_nil)))) pa_nil))))) (pe_own O_law_draw (hr.mono (by decide)) (pa_cons (pv 1) (pa_cons pe_int pa_nil))) (fun _ _ => rfl))))
      (pss_cons (ps_par3 (i := 5) (j := 6) (l := 7) rfl nd rfl rfl rfl (by decide) (by decide) (by decide) rfl rfl rfl (pa_cons (pe_prLR OPr (hr.mono (by decide)) (pk_cons (pe_ix ix_list (pv 4) pe_int (fun _ _ => rfl)) (pk_cons (pe_ix ix_list (pv 4) pe_int (fun _ _ => rfl)) pk_nil))) (pa_cons pe_dnewK (pa_cons (pe_lst pa_nil) pa_nil))) (by rfl))
      (pss_cons (ps_for PassesOwn.never rfl (pi_range1 (by rfl) B.range (pa_cons (pe_own O_law_draw (hr.mono (by decide)) (pa_cons (pv 1) (pa_cons pe_int pa_nil))) pa_nil)) (pg_name (i := 8) nd rfl (Or.inl rfl)) (pss_cons (ps_set (i := 9) nd rfl (Or.inl rfl) (pe_ix ix_list (pe_lst (pa_cons pe_str (pa_cons pe_str (pa_cons pe_str (pa_cons pe_str (pa_cons pe_str (pa_cons pe_str (pa_cons pe_str pa_nil)))))))) (pe_own O_law_draw (hr.mono (by decide)) (pa_cons (pv 1) (pa_cons pe_int pa_nil))) (fun _ _ => rfl)))
      (pss_cons (ps_set (i := 10) nd rfl (Or.inl rfl) (pe_ix ix_list (pe_lst (pa_cons pe_non (pa_cons pe_int (pa_cons pe_int (pa_cons (pe_op op_add pe_int (pe_own O_law_draw (hr.mono (by decide)) (pa_cons (pv 1) (pa_cons pe_int pa_nil)))) pa_nil))))) (pe_own O_law_draw (hr.mono (by decide)) (pa_cons (pv 1) (pa_cons pe_int pa_nil))) (fun _ _ => rfl)))
      (pss_cons (ps_set (i := 11) nd rfl (Or.inl rfl) (pe_callTy call_dictD (by rfl) B.dict (by decide +kernel) (pa_cons (pv 6) pa_nil)))
      (pss_cons (ps_dput hu (pv 11) pe_str pe_int rfl)
      (pss_cons (ps_set (i := 7) nd rfl (Or.inl rfl) (pe_op op_cat (pv 7) (pe_lst (pa_cons (pe_tup (pa_cons (pv 5) (pa_cons (pe_callTy call_dictD (by rfl) B.dict (by decide +kernel) (pa_cons (pv 6) pa_nil)) pa_nil))) (pa_cons (pe_tup (pa_cons (pe_methM OW (hr.mono (by decide)) (pv 5) (pa_cons pe_str (pa_cons pe_int pa_nil))) (pa_cons (pv 11) pa_nil))) pa_nil)))))
      (pss_cons (ps_set (i := 5) nd rfl (Or.inl rfl) (pe_methM OW (hr.mono (by decide)) (pv 5) (pa_cons (pv 9) (pa_cons (pv 10) pa_nil))))
      (pss_one (ps_dput hu (pv 6) (pv 9) (pv 10) rfl)))))))))
      (pss_one (ps_for PassesOwn.never rfl (pi_list (pe_op op_cat (pv 7) (pe_lst (pa_cons (pe_tup (pa_cons (pv 5) (pa_cons (pv 6) pa_nil))) pa_nil)))) (pg_tup rfl (pgs_cons (pg_name (i := 12) nd rfl (Or.inl rfl)) (pgs_cons (pg_name (i := 13) nd rfl (Or.inl rfl)) pgs_nil))) (pss_one (ps_if (pt_not (pt_val (pe_ownG O_law_right (hr.mono (by decide)) rfl (pa_cons (pv 12) (pa_cons (pv 4) (pa_cons (pv 13) pa_nil)))))) (pss_one (ps_ret pe_bl)) pss_nil))))))))
      (pss_cons (ps_set (i := 14) nd rfl (Or.inl rfl) (pe_pr0 OPr (hr.mono (by decide))))
      (pss_cons (ps_set (i := 12) nd rfl (Or.inl rfl) (pe_propO PS (hr.mono (by decide)) (pv 14)))
      (pss_cons (ps_dput hu (pv 12) pe_str pe_non rfl)
      (pss_cons (ps_if (pt_cmpR (op_ne_dictA (Nat.lt_of_succ_lt hu)) (pe_propO PS (hr.mono (by decide)) (pv 14)) pe_dnewK (nomark _)) (pss_one (ps_ret pe_bl)) pss_nil)
      (pss_cons (ps_par3 (i := 15) (j := 6) (l := 16) rfl nd rfl rfl rfl (by decide) (by decide) (by decide) rfl rfl rfl (pa_cons (pe_pr0 OPr (hr.mono (by decide))) (pa_cons pe_dnewK (pa_cons pe_str pa_nil))) (by rfl))
      (pss_cons (ps_for PassesOwn.never rfl (pi_range1 (by rfl) B.range (pa_cons pe_int pa_nil)) (pg_name (i := 3) nd rfl (Or.inl rfl)) (pss_cons (ps_set (i := 17) nd rfl (Or.inl rfl) (pe_op op_add_str (pe_ix ix_str (pv 16) (pv 3) (fun _ _ => rfl)) pe_str))
      (pss_cons (ps_dput hu (pv 6) (pv 17) (pe_ix ix_list (pe_lst (pa_cons pe_non (pa_cons (pe_op op_add pe_int (pe_own O_law_draw (hr.mono (by decide)) (pa_cons (pv 1) (pa_cons pe_int pa_nil)))) pa_nil))) (pe_own O_law_draw (hr.mono (by decide)) (pa_cons (pv 1) (pa_cons pe_int pa_nil))) (fun _ _ => rfl)) rfl)
      (pss_one (ps_set (i := 15) nd rfl (Or.inl rfl) (pe_methM OW (hr.mono (by decide)) (pv 15) (pa_cons (pv 17) (pa_cons (pe_dget hu (pv 6) (pv 17) (fun _ _ => rfl)) pa_nil))))))))
      (pss_cons (ps_if (pt_not (pt_val (pe_ownG O_law_right (hr.mono (by decide)) rfl (pa_cons (pv 15) (pa_cons (pe_lst (pa_cons pe_int (pa_cons pe_int pa_nil))) (pa_cons (pv 6) pa_nil)))))) (pss_one (ps_ret pe_bl)) pss_nil)
      (pss_cons (ps_set (i := 12) nd rfl (Or.inl rfl) (pe_lst (pa_cons (pe_pr0 OPr (hr.mono (by decide))) (pa_cons (pe_prR OPr (hr.mono (by decide)) (pk_cons pe_int pk_nil)) (pa_cons (pe_prL OPr (hr.mono (by decide)) (pk_cons pe_int pk_nil)) (pa_cons (pe_prLR OPr (hr.mono (by decide)) (pk_cons pe_int (pk_cons pe_int pk_nil))) pa_nil))))))
      (pss_cons (ps_set (i := 18) nd rfl (Or.inl rfl) (pe_lst (pa_cons (pe_lstN (pa_cons pe_int (pa_cons pe_int (pa_cons pe_dnewK pa_nil)))) (pa_cons (pe_lstN (pa_cons pe_int (pa_cons pe_int (pa_cons pe_dnewK pa_nil)))) (pa_cons (pe_lstN (pa_cons pe_int (pa_cons pe_int (pa_cons pe_dnewK pa_nil)))) (pa_cons (pe_lstN (pa_cons pe_int (pa_cons pe_int (pa_cons pe_dnewK pa_nil)))) pa_nil))))))
      (pss_cons (ps_if (pt_cmpR (op_neD (hu_of64 hr)) (pe_lc (own := [("_law_one", 9)]) (g := gName 9) (tt := tYes) (by rfl) nd (pi_list (pv 12)) (blkOk_by (own := [("_law_one", 9)]) (N := ["_law_script", "_law_pen_here", "_law_turn", "_law_k", "_law_two", "_law_deal", "_law_own", "_law_held", "_law_more", "_law_one", "_law_each", "_law_side", "_law_some", "_law_known", "_law_bare", "_law_many", "_law_letters", "_law_nym", "_law_due"]) (sc := defScope s_law) (by decide +kernel)) (fun _ _ _ _ _ => (pg_name (i := 9) nd rfl (Or.inl rfl))) (fun _ _ _ _ _ => pts_nil) (fun _ _ _ _ _ => (pe_ownG O_law_shown (hr.mono (by decide)) rfl (pa_cons (pv 9) pa_nil)))) (pe_lc (own := [("_law_one", 9)]) (g := gName 9) (tt := tYes) (by rfl) nd (pi_list (pv 18)) (blkOk_by (own := [("_law_one", 9)]) (N := ["_law_script", "_law_pen_here", "_law_turn", "_law_k", "_law_two", "_law_deal", "_law_own", "_law_held", "_law_more", "_law_one", "_law_each", "_law_side", "_law_some", "_law_known", "_law_bare", "_law_many", "_law_letters", "_law_nym", "_law_due"]) (sc := defScope s_law) (by decide +kernel)) (fun _ _ _ _ _ => (pg_name (i := 9) nd rfl (Or.inl rfl))) (fun _ _ _ _ _ => pts_nil) (fun _ _ _ _ _ => (pe_callB (call_reprAK (K' := K) rfl [sysModules] List.mem_cons_self rfl (hu65 hr)) (by rfl) B.repr (by decide +kernel) (pa_cons (pv 9) pa_nil)))) (nomark _)) (pss_one (ps_ret pe_bl)) pss_nil)
      (pss_one (ps_ret (pe_cmpR (op_eq_dictA (Nat.lt_of_succ_lt hu)) (pe_propO PS (hr.mono (by decide)) (pe_methN (pe_pr0 OPr (hr.mono (by decide))) T.cl mW FW (hr.mono (by decide)) (kbn_with FFW) (pk_cons pe_int (pk_cons pe_str pk_nil)) rfl rfl rfl rfl)) (pe_disp (pps_cons pe_str pe_int pps_nil) rfl rfl (fun z => nomatch z) (by decide)) (nomark _)))))))))))))))), ?_⟩
  refine ⟨_, rfl, a, ns, rfl, hS, hlen, fun p c H0 s0 np nc hP0 => ?_⟩
  refine ⟨8, rfl, by decide, by decide, ?_⟩
  refine for_it walk_range (fun i σ Hc => ∃ (o2 o3 o4 o5 o6 o7 o8 o9 o10 o11 o12 o13 o14 o15 o16 o17 o18 : Option V), σ = [some (.ref a), some (.ref p), o2, o3, o4, o5, o6, o7, o8, o9, o10, o11, o12, o13, o14, o15, o16, o17, o18] ∧ PenAt Hc p c (200 * i))
    ⟨_, _, _, _, _, _, _, _, _, _, _, _, _, _, _, _, _, rfl, hP0⟩ (fun _ _ _ _ _ => True.intro) ?_ ?_
  · clear hP0 np nc
    rintro i x σ Hz Hc hi ⟨o2, o3, o4, o5, o6, o7, o8, o9, o10, o11, o12, o13, o14, o15, o16, o17, o18, rfl, Pc⟩ ⟨rfl, rfl⟩
    have hi : i < 8 := hi
    -- two
    refine ⟨2, rfl, by decide, by decide, fun tw ntw => ?_⟩
    obtain ⟨twp, twc⟩ := Pc.out ntw
    refine lc_it walk_range (fun k H' => ∃ vs : List Int, vs.length = k ∧ (∀ v ∈ vs, Pr9 v) ∧ H' tw = some (.lst (vs.map V.int)) ∧ But p Hc H' ∧ PenAt H' p c (200 * i + 2 * k)) ⟨[], rfl, (fun _ h => nomatch h), upd_same, But.new ntw, Pc.same (same_new ntw)⟩ (fun _ _ _ _ => True.intro) ?_ ?_
    · rintro k x Hc2 H' hk ⟨vs, lv, h9, htw, b, Pk⟩ ⟨rfl, rfl⟩
      have hk : k < 2 := hk
      refine ⟨rfl, ?_⟩
      refine ⟨_, rfl, p, c, _, 999, rfl, Pk, by omega, by decide, by decide, fun e H3 he0 he1 b3 P3 => ⟨_, _, rfl, rfl, by show 4 ≤ sizeLine; decide, fun l nl => ?_⟩⟩
      have b03 := b.trans b3
      have htw3 := b3 _ _ htw twp
      have u4 := same_new (o := .lst [V.int 1, V.int 2, V.int 999, V.int (1 + e)]) nl
      have lp := (P3.out nl).1
      have hl4 : (upd H3 l (.lst [V.int 1, V.int 2, V.int 999, V.int (1 + e)])) l = some (.lst ([1, 2, 999, 1 + e].map V.int)) := upd_same
      have P4 := P3.same u4
      have htw4 := u4 _ _ htw3
      have b04 := b03.trans (But.of u4)
      change tCall spDraw [] E0 _ _ (upd H3 l (.lst [V.int 1, V.int 2, V.int 999, V.int (1 + e)])) _
      generalize upd H3 l (.lst [V.int 1, V.int 2, V.int 999, V.int (1 + e)]) = H4 at u4 hl4 P4 htw4 b04 ⊢
      refine ⟨_, rfl, p, c, _, 4, rfl, P4, by omega, by decide, by decide, fun e2 H5 f0 f1 b5 P5 => ?_⟩
      obtain ⟨wd, hw, he⟩ := pick (xs := [1, 2, 999, 1 + e]) f0 f1
      have hw9 : Pr9 wd := by
        simp only [List.mem_cons, List.not_mem_nil, or_false] at hw
        unfold Pr9
        omega
      refine ⟨l, _, e2, _, rfl, rfl, SqL.of (b5 _ _ hl4 lp), he, ?_⟩
      have htw5 := b5 _ _ htw4 twp
      refine ⟨vs.map V.int, htw5, by rw [List.length_map]; omega, vs ++ [wd], by rw [List.length_append, lv]; rfl, fun v hv => ?_, by rw [upd_same, List.map_append]; rfl, fun b' o' hb n => ?_, (P5.upd twp (fun z => twc z)).le (by omega)⟩
      · rcases List.mem_append.mp hv with hv | hv
        · exact h9 v hv
        · rw [List.mem_singleton.mp hv]
          exact hw9
      · rw [upd_ne (ne_of_none hb ntw)]
        exact b5 _ _ (b04 _ _ hb n) n
    · rintro H1 ⟨vs, lv, h9, htw, b1, P1⟩
      match vs, lv, h9 with
      | [r, l], _, h9 =>
      have hr9 := h9 r List.mem_cons_self
      have hl9 := h9 l (.tail _ List.mem_cons_self)
      refine ⟨_, rfl, tw, _, 1, .int l, rfl, rfl, SqL.of htw, atI_nat (j := 1) rfl, _, rfl, tw, _, 0, .int r, rfl, rfl, SqL.of htw, atI_nat (j := 0) rfl, rfl, r, l, rfl, hr9, hl9, fun x0 H2 s2 hx0 => ?_⟩
      refine fun w1 nw1 => ⟨by show 0 ≤ sizeLine; decide, fun hl0 nhl0 => ⟨_, _, _, rfl, ?_⟩⟩
      have b2 := b1.trans (But.of s2)
      have P2 := P1.same s2
      have htw2 := s2 _ _ htw
      obtain ⟨dx0, ls0, hx1, hx2, hx3, hx4, hx5⟩ := hx0
      have w1p := (P2.out nw1).1
      have u3 := same_new (o := .dK []) nw1
      have hw3 : (upd H2 w1 (.dK [])) w1 = some (.dK (ownKV [])) := upd_same
      have x0w : x0 ≠ w1 := ne_of_none hx1 nw1
      have l0w : ls0 ≠ w1 := ne_of_none hx2 nw1
      have tww : tw ≠ w1 := ne_of_none htw2 nw1
      have u4 := same_new (o := .lst []) nhl0
      have hlp := ((P2.same u3).out nhl0).1
      have hlw : hl0 ≠ w1 := (ne_of_none hw3 nhl0).symm
      have u34 := u3.trans u4
      obtain ⟨F, hF⟩ : ∃ F : Addr → Prop, F = fun z => z = p ∨ z = w1 := ⟨_, rfl⟩
      have Fp : F p := by rw [hF]; exact .inl rfl
      have Fw : F w1 := by rw [hF]; exact .inr rfl
      have nF : ∀ z, z ≠ p → z ≠ w1 → ¬ F z := fun z h1 h2 h => by
        rw [hF] at h
        exact h.elim h1 h2
      have x0p : x0 ≠ p := fun e => by
        obtain ⟨o, ho⟩ := P1.some
        rw [e, ho] at hx4
        cases hx4
      have l0p : ls0 ≠ p := fun e => by
        obtain ⟨o, ho⟩ := P1.some
        rw [e, ho] at hx5
        cases hx5
      have B4 : B33 F C r l tw x0 hl0 [] [] (upd (upd H2 w1 (.dK [])) hl0 (.lst [])) := ⟨by rw [sortO_nil]; exact ⟨dx0, ls0, u34 _ _ hx1, u34 _ _ hx2, hx3, nF _ x0p x0w, nF _ l0p l0w⟩, u34 _ _ htw2, nF _ twp tww, upd_same, nF _ hlp hlw, fun h hm => nomatch hm⟩
      have hw4 := u4 _ _ hw3
      have P4 := (P2.same u3).same u4
      have b4 := b2.trans (But.of u34)
      generalize upd (upd H2 w1 (.dK [])) hl0 (.lst []) = H4 at B4 hw4 P4 b4 ⊢
      clear hx1 hx2 hx3 hx4 hx5 hF u34 u4 u3 hw3 nhl0 nw1 htw2 htw P2 P1 s2 b2 H2
      refine ⟨_, rfl, p, c, _, 9, rfl, P4, by omega, by decide, by decide, fun mm H5 m0 m1 b5 P5 => ⟨mm, rfl, by omega, by omega, ?_⟩⟩
      have B5 := B4.out (Out.but b5 Fp)
      have hw5 := b5 _ _ hw4 w1p
      have b05 := b4.trans b5
      clear B4 hw4 P4 b4 b5 H4
      refine for_it walk_range (fun k σ Hk => ∃ (o3 o8 o9 o10 o11 o12 o13 o14 o15 o16 o17 o18 : Option V) (x hl : Addr) (g : Own) (hs : List Held), σ = [some (.ref a), some (.ref p), some (.int (0 + (i : Nat))), o3, some (.ref tw), some (.ref x), some (.ref w1), some (.ref hl), o8, o9, o10, o11, o12, o13, o14, o15, o16, o17, o18] ∧ Out F H5 Hk ∧ B33 F C r l tw x hl g hs Hk ∧ Hk w1 = some (.dK (ownKV g)) ∧ OwnOk g ∧ g.length ≤ k ∧ hs.length ≤ 2 * k ∧ PenAt Hk p c (200 * i + 6 + 4 * k))
        ⟨_, _, _, _, _, _, _, _, _, _, _, _, _, _, [], [], rfl, Out.of (Same.refl _), B5, hw5, ownOk_nil, Nat.le_refl _, Nat.le_refl _, P5.le (by omega)⟩ (fun _ _ _ _ _ => True.intro) ?_ ?_
      · rintro k v σ Hz Hk hk ⟨o3, o8, o9, o10, o11, o12, o13, o14, o15, o16, o17, o18, x, hl, g, hs, rfl, ok, Bk, hwk, okg, lg, lhs, Pk⟩ ⟨rfl, rfl⟩
        have hk : k < mm.toNat := hk
        -- one
        refine ⟨by show 7 ≤ sizeLine; decide, fun l7 nl7 => ?_⟩
        have u6 := same_new (o := .lst [V.str "x", V.str "xy", V.str "a", V.str "none", V.str "abcdefgh", V.str "zz", V.str "settings"]) nl7
        have hl7 : (upd Hk l7 (.lst [V.str "x", V.str "xy", V.str "a", V.str "none", V.str "abcdefgh", V.str "zz", V.str "settings"])) l7 = some (.lst [V.str "x", V.str "xy", V.str "a", V.str "none", V.str "abcdefgh", V.str "zz", V.str "settings"]) := upd_same
        have l7p := (Pk.out nl7).1
        have B6 := Bk.out (Out.of u6)
        have hw6 := u6 _ _ hwk
        have P6 := Pk.same u6
        have o6' := ok.trans (Out.of u6)
        generalize upd Hk l7 (.lst [V.str "x", V.str "xy", V.str "a", V.str "none", V.str "abcdefgh", V.str "zz", V.str "settings"]) = H6 at u6 hl7 B6 hw6 P6 o6' ⊢
        refine ⟨_, rfl, p, c, _, 7, rfl, P6, by omega, by decide, by decide, fun e H7 e0 e1 b7 P7 => ?_⟩
        obtain ⟨w7, hm7, hat7⟩ := pickV (xs := [V.str "x", V.str "xy", V.str "a", V.str "none", V.str "abcdefgh", V.str "zz", V.str "settings"]) e0 e1
        obtain ⟨t, rfl, nmt⟩ : ∃ t : Str, w7 = .str t ∧ nameB t = true := by
          simp only [List.mem_cons, List.not_mem_nil, or_false] at hm7
          rcases hm7 with rfl | rfl | rfl | rfl | rfl | rfl | rfl <;> exact ⟨_, rfl, by decide +kernel⟩
        refine ⟨l7, _, e, _, rfl, rfl, SqL.of (b7 _ _ hl7 l7p), hat7, ?_⟩
        have B7 := B6.out (Out.but b7 Fp)
        have hw7 := b7 _ _ hw6 w1p
        have o7' := o6'.trans (Out.but b7 Fp)
        clear u6 hl7 B6 hw6 P6 o6' b7 nl7 l7p
        -- each
        refine ⟨_, rfl, p, c, _, 50, rfl, P7, by omega, by decide, by decide, fun e2 H8 f0 f1 b8 P8 => ⟨_, _, rfl, rfl, by show 4 ≤ sizeLine; decide, fun l4 nl4 => ?_⟩⟩
        have B8 := B7.out (Out.but b8 Fp)
        have hw8 := b8 _ _ hw7 w1p
        have o8' := o7'.trans (Out.but b8 Fp)
        have u9 := same_new (o := .lst [V.non, V.int 1, V.int 999, V.int (1 + e2)]) nl4
        have hl9 : (upd H8 l4 (.lst [V.non, V.int 1, V.int 999, V.int (1 + e2)])) l4 = some (.lst [V.non, V.int 1, V.int 999, V.int (1 + e2)]) := upd_same
        have l4p := (P8.out nl4).1
        have B9 := B8.out (Out.of u9)
        have hw9 := u9 _ _ hw8
        have P9 := P8.same u9
        have o9' := o8'.trans (Out.of u9)
        change tCall spDraw [] E0 _ _ (upd H8 l4 (.lst [V.non, V.int 1, V.int 999, V.int (1 + e2)])) _
        generalize upd H8 l4 (.lst [V.non, V.int 1, V.int 999, V.int (1 + e2)]) = H9 at u9 hl9 B9 hw9 P9 o9' ⊢
        refine ⟨_, rfl, p, c, _, 4, rfl, P9, by omega, by decide, by decide, fun e3 H10 g0 g1 b10 P10 => ?_⟩
        obtain ⟨w10, hm10, hat10⟩ := pickV (xs := [V.non, V.int 1, V.int 999, V.int (1 + e2)]) g0 g1
        obtain ⟨o, rfl, hov⟩ : ∃ o : Option Int, w10 = optV o ∧ ∀ i, o = some i → Pr9 i := by
          simp only [List.mem_cons, List.not_mem_nil, or_false] at hm10
          rcases hm10 with rfl | rfl | rfl | rfl
          · exact ⟨none, rfl, fun _ z => nomatch z⟩
          · exact ⟨some 1, rfl, fun _ z => by cases z; exact ⟨by decide, by decide⟩⟩
          · exact ⟨some 999, rfl, fun _ z => by cases z; exact ⟨by decide, by decide⟩⟩
          · exact ⟨some (1 + e2), rfl, fun _ z => by cases z; exact ⟨by omega, by omega⟩⟩
        refine ⟨l4, _, e3, _, rfl, rfl, SqL.of (b10 _ _ hl9 l4p), hat10, ?_⟩
        have B10 := B9.out (Out.but b10 Fp)
        have hw10 := b10 _ _ hw9 w1p
        have o10' := o9'.trans (Out.but b10 Fp)
        clear B7 hw7 P7 o7' B8 hw8 P8 o8' u9 hl9 l4p B9 hw9 P9 o9' b8 b10 nl4 hm10 hat10 hat7
        -- side
        refine ⟨_, rfl, w1, _, rfl, Rd.of hw10, fun d1 nd1 => ?_⟩
        have u11 := same_new (o := .dK (ownKV g)) nd1
        have hd11 : (upd H10 d1 (.dK (ownKV g))) d1 = some (.dK (ownKV g)) := upd_same
        have d1p := (P10.out nd1).1
        have d1w : d1 ≠ w1 := (ne_of_none hw10 nd1).symm
        have lkv : (ownKV g).length ≤ 9 := by unfold ownKV; rw [List.length_map]; omega
        refine ⟨_, rfl, d1, _, rfl, DPut.k (k := Sum.inr "b") hd11 (by omega), ?_⟩
        have e11 : putK (ownKV g) (Sum.inr "b" : Key) (V.int 9) = ownKV (putO g "b" (some 9)) := put_own _ _ (some 9)
        rw [e11]
        have s11 : Same H10 (upd (upd H10 d1 (.dK (ownKV g))) d1 (.dK (ownKV (putO g "b" (some 9))))) := fun b' o' hb => by
          rw [upd_ne (ne_of_none hb nd1), upd_ne (ne_of_none hb nd1)]
          exact hb
        have hd12 : (upd (upd H10 d1 (.dK (ownKV g))) d1 (.dK (ownKV (putO g "b" (some 9))))) d1 = some (.dK (ownKV (putO g "b" (some 9)))) := upd_same
        have B12 := B10.out (Out.of s11)
        have hw12 := s11 _ _ hw10
        have P12 := P10.same s11
        have o12' := o10'.trans (Out.of s11)
        generalize upd (upd H10 d1 (.dK (ownKV g))) d1 (.dK (ownKV (putO g "b" (some 9)))) = H12 at s11 hd12 B12 hw12 P12 o12' ⊢
        clear u11 hd11 e11 s11 B10 hw10 P10 o10' nd1
        -- held
        refine ⟨_, rfl, _, rfl, _, rfl, w1, _, rfl, Rd.of hw12, fun d2 nd2 => ?_⟩
        have u13 := same_new (o := .dK (ownKV g)) nd2
        have hd13 : (upd H12 d2 (.dK (ownKV g))) d2 = some (.dK (ownKV g)) := upd_same
        have d2p := (P12.out nd2).1
        have d2w : d2 ≠ w1 := (ne_of_none hw12 nd2).symm
        have B13 := B12.out (Out.of u13)
        have hw13 := u13 _ _ hw12
        have P13 := P12.same u13
        have o13' := o12'.trans (Out.of u13)
        have hd1_13 := u13 _ _ hd12
        generalize upd H12 d2 (.dK (ownKV g)) = H13 at u13 hd13 B13 hw13 P13 o13' hd1_13 ⊢
        clear B12 hw12 P12 o12' hd12 nd2 u13
        refine ⟨by show 2 ≤ sizeLine; decide, fun t1 nt1 => ?_⟩
        have u14 := same_new (o := .tup [.ref x, .ref d2]) nt1
        have ht14 : (upd H13 t1 (.tup [.ref x, .ref d2])) t1 = some (.tup [.ref x, .ref d2]) := upd_same
        have t1p := (P13.out nt1).1
        have t1w : t1 ≠ w1 := (ne_of_none hw13 nt1).symm
        have B14 := B13.out (Out.of u14)
        have hw14 := u14 _ _ hw13
        have P14 := P13.same u14
        have o14' := o13'.trans (Out.of u14)
        have hd1_14 := u14 _ _ hd1_13
        have hd2_14 := u14 _ _ hd13
        change tMeth C (Str.ofString "with_price") (spWithPr C) [] E0 (tVar 5) _ _ (upd H13 t1 (.tup [.ref x, .ref d2])) _
        generalize upd H13 t1 (.tup [.ref x, .ref d2]) = H14 at u14 ht14 B14 hw14 P14 o14' hd1_14 hd2_14 ⊢
        clear B13 hw13 P13 o13' hd1_13 hd13 nt1 u14
        have F14 : ∀ z, F z → ∃ o, H14 z = some o := fun z hz => by
          by_cases e : z = p
          · rw [e]; exact P14.some
          · by_cases e' : z = w1
            · rw [e']; exact ⟨_, hw14⟩
            · exact absurd hz (nF z e e')
        have insx : ∀ X, B33 F C r l tw x hl g hs X → ∃ dx ls, X x = some (.ins C dx (prF r l ls)) := fun X b => by
          obtain ⟨dx, ls, h1, _⟩ := b.pr
          exact ⟨dx, ls, h1⟩
        have nb : nameB "b" = true := by decide +kernel
        have lgs : (sortO g).length ≤ 58 := by rw [sortO_len]; omega
        obtain ⟨dx, ls, hi14⟩ := insx _ B14
        refine ⟨_, rfl, x, dx, _, rfl, hi14, prF_no (by decide) (by decide) (by decide), x, "b", some 9, r, l, sortO g, rfl, B14.pr.at_, nb, (fun i z => by cases z; exact ⟨by decide, by decide⟩), lgs, fun x2 H15 s15 new15 => ?_⟩
        rw [sortO_put okg.nodup] at new15
        have off15 := new15.off F14
        have B15 := B14.out (Out.of s15)
        have hw15 := s15 _ _ hw14
        have P15 := P14.same s15
        have o15' := o14'.trans (Out.of s15)
        have hd1_15 := s15 _ _ hd1_14
        have hd2_15 := s15 _ _ hd2_14
        have ht15 := s15 _ _ ht14
        clear B14 hw14 P14 o14' hd1_14 hd2_14 ht14 s15 new15 hi14 F14
        refine ⟨_, rfl, by show 2 ≤ sizeLine; decide, fun t2 nt2 => ?_⟩
        have u16 := same_new (o := .tup [.ref x2, .ref d1]) nt2
        have ht2_16 : (upd H15 t2 (.tup [.ref x2, .ref d1])) t2 = some (.tup [.ref x2, .ref d1]) := upd_same
        have t2p := (P15.out nt2).1
        have t2w : t2 ≠ w1 := (ne_of_none hw15 nt2).symm
        have B16 := B15.out (Out.of u16)
        have hw16 := u16 _ _ hw15
        have P16 := P15.same u16
        have o16' := o15'.trans (Out.of u16)
        have hd1_16 := u16 _ _ hd1_15
        have hd2_16 := u16 _ _ hd2_15
        have ht_16 := u16 _ _ ht15
        have off16 := off15.out (Out.of u16)
        generalize upd H15 t2 (.tup [.ref x2, .ref d1]) = H16 at u16 ht2_16 B16 hw16 P16 o16' hd1_16 hd2_16 ht_16 off16 ⊢
        clear B15 hw15 P15 o15' hd1_15 hd2_15 ht15 off15 u16 nt2
        refine ⟨by show 2 ≤ sizeLine; decide, fun ll nll => ?_⟩
        have u17 := same_new (o := .lst [.ref t1, .ref t2]) nll
        have hll17 : (upd H16 ll (.lst [.ref t1, .ref t2])) ll = some (.lst [.ref t1, .ref t2]) := upd_same
        have B17 := B16.out (Out.of u17)
        have hw17 := u17 _ _ hw16
        have P17 := P16.same u17
        have o17' := o16'.trans (Out.of u17)
        have hd1_17 := u17 _ _ hd1_16
        have hd2_17 := u17 _ _ hd2_16
        have ht_17 := u17 _ _ ht_16
        have ht2_17 := u17 _ _ ht2_16
        have off17 := off16.out (Out.of u17)
        generalize upd H16 ll (.lst [.ref t1, .ref t2]) = H17 at u17 hll17 B17 hw17 P17 o17' hd1_17 hd2_17 ht_17 ht2_17 off17 ⊢
        clear B16 hw16 P16 o16' hd1_16 hd2_16 ht_16 ht2_16 off16 u17 nll
        refine ⟨hl, ll, _, _, rfl, rfl, B17.atL, hll17, by rw [List.length_map]; show _ + 2 ≤ _; omega, fun hl2 nhl2 => ?_⟩
        have u18 := same_new (o := .lst ((hs.map fun h => V.ref h.t) ++ [.ref t1, .ref t2])) nhl2
        have hl18 : (upd H17 hl2 (.lst ((hs.map fun h => V.ref h.t) ++ [.ref t1, .ref t2]))) hl2 = some (.lst ((hs.map fun h => V.ref h.t) ++ [.ref t1, .ref t2])) := upd_same
        have hl2p := (P17.out nhl2).1
        have hl2w : hl2 ≠ w1 := (ne_of_none hw17 nhl2).symm
        have B18 := B17.out (Out.of u18)
        have hw18 := u18 _ _ hw17
        have P18 := P17.same u18
        have o18' := o17'.trans (Out.of u18)
        have hd1_18 := u18 _ _ hd1_17
        have hd2_18 := u18 _ _ hd2_17
        have ht_18 := u18 _ _ ht_17
        have ht2_18 := u18 _ _ ht2_17
        have off18 := off17.out (Out.of u18)
        generalize upd H17 hl2 (.lst ((hs.map fun h => V.ref h.t) ++ [.ref t1, .ref t2])) = H18 at u18 hl18 B18 hw18 P18 o18' hd1_18 hd2_18 ht_18 ht2_18 off18 ⊢
        clear B17 hw17 P17 o17' hd1_17 hd2_17 ht_17 ht2_17 off17 u18 nhl2 hll17
        -- deal
        have F18 : ∀ z, F z → ∃ o, H18 z = some o := fun z hz => by
          by_cases e : z = p
          · rw [e]; exact P18.some
          · by_cases e' : z = w1
            · rw [e']; exact ⟨_, hw18⟩
            · exact absurd hz (nF z e e')
        obtain ⟨dx, ls, hi18⟩ := insx _ B18
        refine ⟨_, rfl, x, dx, _, rfl, hi18, prF_no (by decide) (by decide) (by decide), _, rfl, _, rfl, x, t, o, r, l, sortO g, rfl, B18.pr.at_, nmt, hov, lgs, fun x3 H19 s19 new19 => ?_⟩
        rw [sortO_put okg.nodup] at new19
        have off3 := new19.off F18
        have B19 := B18.out (Out.of s19)
        have hw19 := s19 _ _ hw18
        have P19 := P18.same s19
        have o19' := o18'.trans (Out.of s19)
        have hd1_19 := s19 _ _ hd1_18
        have hd2_19 := s19 _ _ hd2_18
        have ht_19 := s19 _ _ ht_18
        have ht2_19 := s19 _ _ ht2_18
        have hl19 := s19 _ _ hl18
        have off19 := off18.out (Out.of s19)
        clear B18 hw18 P18 o18' hd1_18 hd2_18 ht_18 ht2_18 off18 hl18 s19 new19 hi18 F18
        -- own
        refine ⟨_, rfl, _, rfl, _, rfl, w1, _, rfl, DPut.k (k := Sum.inr t) hw19 (by omega), ?_⟩
        rw [put_own]
        have sX : Out F H19 (upd H19 w1 (.dK (ownKV (putO g t o)))) := Out.upd Fw
        have hwX : (upd H19 w1 (.dK (ownKV (putO g t o)))) w1 = some (.dK (ownKV (putO g t o))) := upd_same
        have PX : PenAt (upd H19 w1 (.dK (ownKV (putO g t o)))) p c (200 * i + 6 + 4 * (k + 1)) := (P19.upd w1p (fun e => by
          obtain ⟨_, _, _, _, _, hc, _⟩ := P19
          rw [e, hc] at hw19
          cases hw19)).le (by omega)
        have lput := put_len (g := g) (t := t) (o := o)
        have lputb := put_len (g := g) (t := "b") (o := some 9)
        have h9 : OwnOk (putO g "b" (some 9)) := okg.put nb fun i z => by cases z; exact ⟨by decide, by decide⟩
        have hh1 : HeldAt F C r l (upd H19 w1 (.dK (ownKV (putO g t o)))) ⟨t1, x, d2, g⟩ := HeldAt.out ⟨ht_19, B19.pr, hd2_19, okg, by show g.length ≤ 20; omega, nF _ t1p t1w, nF _ d2p d2w⟩ sX
        have hh2 : HeldAt F C r l (upd H19 w1 (.dK (ownKV (putO g t o)))) ⟨t2, x2, d1, putO g "b" (some 9)⟩ := HeldAt.out ⟨ht2_19, off19, hd1_19, h9, by show (putO g "b" (some 9)).length ≤ 20; omega, nF _ t2p t2w, nF _ d1p d1w⟩ sX
        refine ⟨_, _, _, _, _, _, _, _, _, _, _, _, x3, hl2, putO g t o, hs ++ [⟨t1, x, d2, g⟩, ⟨t2, x2, d1, putO g "b" (some 9)⟩], rfl, o19'.trans sX, ⟨off3.out sX, sX _ _ B19.atT B19.ntw, B19.ntw, ?_, nF _ hl2p hl2w, fun h hm => ?_⟩, hwX, okg.put nmt hov, by omega, by rw [List.length_append]; show _ + 2 ≤ _; omega, PX⟩
        · rw [sX _ _ hl19 (nF _ hl2p hl2w), List.map_append]
          rfl
        · rcases List.mem_append.mp hm with hm | hm
          · exact (B19.hs h hm).out sX
          · simp only [List.mem_cons, List.not_mem_nil, or_false] at hm
            rcases hm with rfl | rfl
            · exact hh1
            · exact hh2
      · rintro σ Hk ⟨o3, o8, o9, o10, o11, o12, o13, o14, o15, o16, o17, o18, x, hl, g, hs, rfl, ok, Bk, hwk, okg, lg, lhs, Pk⟩
        have mm8 : mm.toNat ≤ 8 := by omega
        refine ⟨_, rfl, _, rfl, _, rfl, by show 2 ≤ sizeLine; decide, fun t9 nt9 => ?_⟩
        have v1 := same_new (o := .tup [.ref x, .ref w1]) nt9
        have ht9 : (upd Hk t9 (.tup [.ref x, .ref w1])) t9 = some (.tup [.ref x, .ref w1]) := upd_same
        generalize upd Hk t9 (.tup [.ref x, .ref w1]) = H6 at v1 ht9 ⊢
        refine ⟨by show 1 ≤ sizeLine; decide, fun l9 nl9 => ?_⟩
        have v2 := v1.trans (same_new (o := .lst [.ref t9]) nl9)
        have ht9' := same_new (o := .lst [.ref t9]) nl9 _ _ ht9
        have hl9 : (upd H6 l9 (.lst [.ref t9])) l9 = some (.lst [.ref t9]) := upd_same
        generalize upd H6 l9 (.lst [.ref t9]) = H7 at v2 ht9' hl9 ⊢
        refine ⟨hl, l9, _, _, rfl, rfl, v2 _ _ Bk.atL, hl9, by rw [List.length_map]; show _ + 1 ≤ _; omega, fun la nla => ?_⟩
        have v3 := v2.trans (same_new (o := .lst ((hs.map fun h => V.ref h.t) ++ [.ref t9])) nla)
        have ht9a := same_new (o := .lst ((hs.map fun h => V.ref h.t) ++ [.ref t9])) nla _ _ ht9'
        have hla : (upd H7 la (.lst ((hs.map fun h => V.ref h.t) ++ [.ref t9]))) la = some (.lst (((hs ++ [⟨t9, x, w1, g⟩] : List Held)).map fun h => V.ref h.t)) := by
          rw [upd_same, List.map_append]
          rfl
        generalize upd H7 la (.lst ((hs.map fun h => V.ref h.t) ++ [.ref t9])) = H8 at v3 ht9a hla ⊢
        have all : ∀ h ∈ (hs ++ [⟨t9, x, w1, g⟩] : List Held), H8 h.t = some (.tup [.ref h.x, .ref h.d]) ∧ PrAt C H8 h.x r l (sortO h.g) ∧ H8 h.d = some (.dK (ownKV h.g)) ∧ OwnOk h.g ∧ h.g.length ≤ 60 := fun h hm => by
          rcases List.mem_append.mp hm with hm | hm
          · have A := (Bk.hs h hm).out (Out.of v3)
            have := A.len
            exact ⟨A.t, A.pr.at_, A.d, A.ok, by omega⟩
          · rw [List.mem_singleton.mp hm]
            exact ⟨ht9a, (Bk.pr.at_).same v3, v3 _ _ hwk, okg, by show g.length ≤ 60; omega⟩
        have htw8 := v3 _ _ Bk.atT
        have P8 := Pk.same v3
        generalize (hs ++ [⟨t9, x, w1, g⟩] : List Held) = items at hla all
        clear v1 v2 ht9 ht9' hl9 nl9 nt9 nla
        refine ⟨la, rfl, ⟨_, SqL.of hla⟩, ?_⟩
        refine for_it (walk_list (xs := items.map fun h => V.ref h.t)) (fun k σ Hc => ∃ (o3 o8 o9 o10 o11 o12 o13 o14 o15 o16 o17 o18 : Option V), σ = [some (.ref a), some (.ref p), some (.int (0 + (i : Nat))), o3, some (.ref tw), some (.ref x), some (.ref w1), some (.ref hl), o8, o9, o10, o11, o12, o13, o14, o15, o16, o17, o18] ∧ Same H8 Hc) ⟨_, _, _, _, _, _, _, _, _, _, _, _, rfl, Same.refl _⟩ (fun k σ Hc _ h => by
          obtain ⟨_, _, _, _, _, _, _, _, _, _, _, _, _, b⟩ := h
          exact SqL.of (b _ _ hla)) ?_ ?_
        · rintro k v σ Hz Hd hk ⟨o3, o8, o9, o10, o11, o12, o13, o14, o15, o16, o17, o18, rfl, sd⟩ ⟨rfl, hv⟩
          rw [List.length_map] at hk
          rw [List.getElem?_map, List.getElem?_eq_getElem hk] at hv
          cases hv
          obtain ⟨a1, a2, a3, a4, a5⟩ := all _ (List.getElem_mem hk)
          generalize items[k] = h at a1 a2 a3 a4 a5 ⊢
          refine ⟨h.t, _, rfl, SqT.of (sd _ _ a1), rfl, _, _, rfl, _, _, rfl, rfl, ?_⟩
          refine ⟨_, rfl, _, rfl, _, rfl, h.x, tw, h.d, r, l, h.g, rfl, a2.same sd, sd _ _ htw8, sd _ _ a3, a4, a5, fun H9 s9 => ?_⟩
          exact ⟨_, rfl, iteF ⟨_, _, _, _, _, _, _, _, _, _, _, _, rfl, sd.trans s9⟩⟩
        · rintro σ Hd ⟨o3, o8, o9, o10, o11, o12, o13, o14, o15, o16, o17, o18, rfl, sd⟩
          exact ⟨_, _, _, _, _, _, _, _, _, _, _, _, _, _, _, _, _, rfl, (P8.same sd).le (by omega)⟩
  · clear hP0 np nc
    rintro σ Hc ⟨o2, o3, o4, o5, o6, o7, o8, o9, o10, o11, o12, o13, o14, o15, o16, o17, o18, rfl, Pc⟩
    have p1 : Pr9 1 := ⟨by decide, by decide⟩
    refine ⟨rfl, 1, 1, rfl, p1, p1, fun xb H1 s1 newb => ?_⟩
    have atb := newb.at_
    obtain ⟨dxb, fsb, hib⟩ := atb.ins
    refine ⟨_, rfl, xb, dxb, fsb, rfl, hib, xb, 1, 1, [], rfl, atb, fun sd nsd => ?_⟩
    have s2 := s1.trans (same_new (o := .dK (ownKV [])) nsd)
    have hsd : (upd H1 sd (.dK (ownKV []))) sd = some (.dK (ownKV [])) := upd_same
    have atb2 := atb.same (same_new (o := .dK (ownKV [])) nsd)
    have nsd0 : Hc sd = none := s1.free nsd
    refine ⟨_, rfl, sd, _, rfl, DPut.k (k := Sum.inr "a") hsd (by show 0 < sizeLine; decide), ?_⟩
    have e3 : putK (ownKV []) (Sum.inr "a" : Key) V.non = ownKV (putO [] "a" none) := put_own _ _ none
    rw [e3]
    obtain ⟨H3, eH3⟩ : ∃ H3, upd (upd H1 sd (.dK (ownKV []))) sd (.dK (ownKV (putO [] "a" none))) = H3 := ⟨_, rfl⟩
    have sb3 : Same H1 H3 := fun b' o' hb => by
      rw [← eH3, upd_ne (ne_of_none hb nsd), upd_ne (ne_of_none hb nsd)]
      exact hb
    have P3 := (Pc.same s1).same sb3
    have atb3 := atb.same sb3
    rw [eH3]
    clear eH3 e3 hsd s2 atb2
    obtain ⟨dxc, fsc, hic⟩ := atb3.ins
    refine ⟨_, rfl, xb, dxc, fsc, rfl, hic, xb, 1, 1, [], rfl, atb3, fun q1 nq1 => ?_⟩
    refine fun q2 nq2 => ⟨q1, q2, [], [], rfl, rfl, by rw [upd_ne (ne_of_none upd_same nq2), upd_same]; rfl, upd_same, rfl, (fun _ h => nomatch h), _, rfl, iteF ?_⟩
    have s4 : Same H3 (upd (upd H3 q1 (.dK (ownKV []))) q2 (.dK [])) := (same_new nq1).trans (same_new nq2)
    have P4 := P3.same s4
    generalize upd (upd H3 q1 (.dK (ownKV []))) q2 (.dK []) = H4 at P4 ⊢
    clear s4 nq1 nq2 hic P3 atb3 sb3 atb hib newb nsd nsd0 s1 Pc
    -- many
    refine ⟨rfl, 1, 1, rfl, p1, p1, fun x0 H5 s5 hx0 => ?_⟩
    refine fun w1 nw1 => ⟨_, _, _, rfl, ?_⟩
    obtain ⟨dx0, ls0, hx1, hx2, hx3, hx4, hx5⟩ := hx0
    have P5 := P4.same s5
    have w1p := (P5.out nw1).1
    have u6 := same_new (o := .dK []) nw1
    have hw6 : (upd H5 w1 (.dK [])) w1 = some (.dK (ownKV [])) := upd_same
    have x0w : x0 ≠ w1 := ne_of_none hx1 nw1
    have l0w : ls0 ≠ w1 := ne_of_none hx2 nw1
    obtain ⟨F, hF⟩ : ∃ F : Addr → Prop, F = fun z => z = p ∨ z = w1 := ⟨_, rfl⟩
    have Fp : F p := by rw [hF]; exact .inl rfl
    have Fw : F w1 := by rw [hF]; exact .inr rfl
    have nF : ∀ z, z ≠ p → z ≠ w1 → ¬ F z := fun z h1 h2 h => by
      rw [hF] at h
      exact h.elim h1 h2
    have x0p : x0 ≠ p := fun e => by
      obtain ⟨o, ho⟩ := P4.some
      rw [e, ho] at hx4
      cases hx4
    have l0p : ls0 ≠ p := fun e => by
      obtain ⟨o, ho⟩ := P4.some
      rw [e, ho] at hx5
      cases hx5
    have B6 : PrOff F C (upd H5 w1 (.dK [])) x0 1 1 (sortO []) := by
      rw [sortO_nil]
      exact ⟨dx0, ls0, u6 _ _ hx1, u6 _ _ hx2, hx3, nF _ x0p x0w, nF _ l0p l0w⟩
    have P6 := P5.same u6
    generalize upd H5 w1 (.dK []) = H6 at B6 hw6 P6 ⊢
    clear hx1 hx2 hx3 hx4 hx5 u6 nw1 P5 s5 P4 H5
    refine ⟨20, rfl, by decide, by decide, ?_⟩
    refine for_it walk_range (fun k σ Hk => ∃ (o2 o3 o4 o5 o7 o8 o9 o10 o11 o13 o17 o18 : Option V) (x : Addr) (g : Own), σ = [some (.ref a), some (.ref p), o2, o3, o4, o5, some (.ref w1), o7, o8, o9, o10, o11, some (.ref sd), o13, some (.ref xb), some (.ref x), some (.str "zyxwvutsrqponmlkjihgfedcba"), o17, o18] ∧ PrOff F C Hk x 1 1 (sortO g) ∧ Hk w1 = some (.dK (ownKV g)) ∧ OwnOk g ∧ g.length ≤ k ∧ PenAt Hk p c (1600 + 2 * k))
      ⟨_, _, _, _, _, _, _, _, _, _, _, _, _, [], rfl, B6, hw6, ownOk_nil, Nat.le_refl _, P6.le (by decide)⟩ (fun _ _ _ _ _ => True.intro) ?_ ?_
    · rintro k v σ Hz Hk hk ⟨o2, o3, o4, o5, o7, o8, o9, o10, o11, o13, o17, o18, x, g, rfl, Bk, hwk, okg, lg, Pk⟩ ⟨rfl, rfl⟩
      have hk : k < 20 := hk
      obtain ⟨ch, hch⟩ : ∃ ch, ("zyxwvutsrqponmlkjihgfedcba" : Str).cps.toList[k]? = some ch := ⟨_, List.getElem?_eq_getElem (by rw [let_len]; omega)⟩
      have nmt := let_names ch (List.mem_of_getElem? hch)
      refine ⟨_, rfl, _, rfl, _, _, ch, rfl, rfl, by decide +kernel, by rw [show ((0 : Int) + (k : Nat)) = (k : Int) from Int.zero_add _]; exact atI_nat hch, _, _, rfl, rfl, by show 1 + 2 ≤ sizeLine; decide, ?_⟩
      have et : ((⟨#[ch]⟩ : Str) ++ ("ab" : Str)) = ((⟨#[ch]⟩ : Str) ++ ("ab" : Str)) := rfl
      change nameB ((⟨#[ch]⟩ : Str) ++ (Str.ofString "ab")) = true at nmt
      generalize ((⟨#[ch]⟩ : Str) ++ (Str.ofString "ab")) = t at nmt ⊢
      refine ⟨_, rfl, p, c, _, 99, rfl, Pk, by omega, by decide, by decide, fun e H8 f0 f1 b8 P8 => ⟨_, _, rfl, rfl, by show 2 ≤ sizeLine; decide, fun l4 nl4 => ?_⟩⟩
      have B8 := Bk.out (Out.but b8 Fp)
      have hw8 := b8 _ _ hwk w1p
      have u9 := same_new (o := .lst [V.non, V.int (1 + e)]) nl4
      have hl9 : (upd H8 l4 (.lst [V.non, V.int (1 + e)])) l4 = some (.lst [V.non, V.int (1 + e)]) := upd_same
      have l4p := (P8.out nl4).1
      have B9 := B8.out (Out.of u9)
      have hw9 := u9 _ _ hw8
      have P9 := P8.same u9
      change tCall spDraw [] E0 _ _ (upd H8 l4 (.lst [V.non, V.int (1 + e)])) _
      generalize upd H8 l4 (.lst [V.non, V.int (1 + e)]) = H9 at u9 hl9 B9 hw9 P9 ⊢
      refine ⟨_, rfl, p, c, _, 2, rfl, P9, by omega, by decide, by decide, fun e3 H10 g0 g1 b10 P10 => ?_⟩
      obtain ⟨w10, hm10, hat10⟩ := pickV (xs := [V.non, V.int (1 + e)]) g0 g1
      obtain ⟨o, rfl, hov⟩ : ∃ o : Option Int, w10 = optV o ∧ ∀ i, o = some i → Pr9 i := by
        simp only [List.mem_cons, List.not_mem_nil, or_false] at hm10
        rcases hm10 with rfl | rfl
        · exact ⟨none, rfl, fun _ z => nomatch z⟩
        · exact ⟨some (1 + e), rfl, fun _ z => by cases z; exact ⟨by omega, by omega⟩⟩
      refine ⟨l4, _, e3, _, rfl, rfl, SqL.of (b10 _ _ hl9 l4p), hat10, ?_⟩
      have B10 := B9.out (Out.but b10 Fp)
      have hw10 := b10 _ _ hw9 w1p
      have lkv : (ownKV g).length ≤ 20 := by unfold ownKV; rw [List.length_map]; omega
      refine ⟨_, rfl, _, rfl, w1, _, rfl, DPut.k (k := Sum.inr t) hw10 (by omega), ?_⟩
      rw [put_own]
      have sX : Out F H10 (upd H10 w1 (.dK (ownKV (putO g t o)))) := Out.upd Fw
      have hwX : (upd H10 w1 (.dK (ownKV (putO g t o)))) w1 = some (.dK (ownKV (putO g t o))) := upd_same
      have PX : PenAt (upd H10 w1 (.dK (ownKV (putO g t o)))) p c (1600 + 2 * (k + 1)) := (P10.upd w1p (fun e => by
        obtain ⟨_, _, _, _, _, hc, _⟩ := P10
        rw [e, hc] at hw10
        cases hw10)).le (by omega)
      have BX := B10.out sX
      generalize upd H10 w1 (.dK (ownKV (putO g t o))) = HX at sX hwX PX BX ⊢
      have dg : DGet HX w1 (V.str t) (some (optV o)) := by
        have := DGet.k (k := Sum.inr t) hwX
        rwa [val_own, val_put, if_pos rfl] at this
      have FX : ∀ z, F z → ∃ o, HX z = some o := fun z hz => by
        by_cases e : z = p
        · rw [e]; exact PX.some
        · by_cases e' : z = w1
          · rw [e']; exact ⟨_, hwX⟩
          · exact absurd hz (nF z e e')
      obtain ⟨dx, ls, hi, hls, hv, _⟩ := BX
      have lgs : (sortO g).length ≤ 58 := by rw [sortO_len]; omega
      have lput := put_len (g := g) (t := t) (o := o)
      refine ⟨_, rfl, x, dx, _, rfl, hi, prF_no (by decide) (by decide) (by decide), _, rfl, _, rfl, _, rfl, w1, _, rfl, dg, x, t, o, 1, 1, sortO g, rfl, ⟨dx, ls, hi, hls, hv⟩, nmt, hov, lgs, fun x3 H19 s19 new19 => ?_⟩
      rw [sortO_put okg.nodup] at new19
      exact ⟨_, _, _, _, _, _, _, _, _, _, _, _, x3, putO g t o, rfl, new19.off FX, s19 _ _ hwX, okg.put nmt hov, by omega, PX.same s19⟩
    · rintro σ Hk ⟨o2, o3, o4, o5, o7, o8, o9, o10, o11, o13, o17, o18, x, g, rfl, Bk, hwk, okg, lg, Pk⟩
      have lg : g.length ≤ 20 := lg
      refine ⟨_, rfl, by show 2 ≤ sizeLine; decide, fun l1 nl1 => ?_⟩
      have s1 := same_new (o := .lst [V.int 1, V.int 1]) nl1
      refine ⟨_, rfl, x, l1, w1, 1, 1, g, rfl, (Bk.at_).same s1, upd_same, s1 _ _ hwk, okg, by omega, fun H9 s9 => ?_⟩
      refine ⟨_, rfl, iteF ?_⟩
      have s19 := s1.trans s9
      refine ⟨rfl, 1, 1, rfl, p1, p1, fun x1 G1 t1 h1 => ?_⟩
      have p5 : Pr9 5 := ⟨by decide, by decide⟩
      have p7 : Pr9 7 := ⟨by decide, by decide⟩
      have p8 : Pr9 8 := ⟨by decide, by decide⟩
      refine ⟨rfl, 5, 1, rfl, p5, p1, fun x2 G2 t2 h2 => ?_⟩
      refine ⟨rfl, 1, 7, rfl, p1, p7, fun x3 G3 t3 h3 => ?_⟩
      refine ⟨rfl, 8, 7, rfl, p8, p7, fun x4 G4 t4 h4 => ?_⟩
      have a1 := ((h1.at_.same t2).same t3).same t4
      have a2 := (h2.at_.same t3).same t4
      have a3 := h3.at_.same t4
      have a4 := h4.at_
      have b4 := ((t1.trans t2).trans t3).trans t4
      clear h1 h2 h3 h4 t1 t2 t3 t4
      refine ⟨by show 4 ≤ sizeLine; decide, fun lp nlp => ?_⟩
      have u5 := same_new (o := .lst [.ref x1, .ref x2, .ref x3, .ref x4]) nlp
      have hlp : (upd G4 lp (.lst [.ref x1, .ref x2, .ref x3, .ref x4])) lp = some (.lst (([x1, x2, x3, x4]).map V.ref)) := upd_same
      replace a1 := a1.same u5
      replace a2 := a2.same u5
      replace a3 := a3.same u5
      replace a4 := a4.same u5
      generalize upd G4 lp (.lst [.ref x1, .ref x2, .ref x3, .ref x4]) = G5 at hlp a1 a2 a3 a4 u5 ⊢
      clear u5 nlp b4
      refine fun e1 ne1 => ?_
      have w10 := same_new (o := .dK []) ne1
      have he1 : (upd G5 e1 (.dK [])) e1 = some (.dK (ownKV [])) := upd_same
      replace hlp := w10 _ _ hlp
      replace a1 := a1.same w10
      replace a2 := a2.same w10
      replace a3 := a3.same w10
      replace a4 := a4.same w10
      generalize upd G5 e1 (.dK []) = J1 at w10 he1 hlp a1 a2 a3 a4 ⊢
      refine ⟨by show 3 ≤ sizeLine; decide, fun m1 nm1 sm1 => ?_⟩
      have v1 := same_new (o := .lst [.int 1, .int 1, .ref e1]) nm1
      have hm1 : (upd J1 m1 (.lst [.int 1, .int 1, .ref e1])) m1 = some (.lst [.int 1, .int 1, .ref e1]) := upd_same
      replace he1 := v1 _ _ he1
      replace hlp := v1 _ _ hlp
      replace a1 := a1.same v1
      replace a2 := a2.same v1
      replace a3 := a3.same v1
      replace a4 := a4.same v1
      generalize upd J1 m1 (.lst [.int 1, .int 1, .ref e1]) = L1 at v1 hm1 he1 hlp a1 a2 a3 a4 ⊢
      clear w10 v1 ne1 nm1
      refine fun e2 ne2 => ?_
      have w20 := same_new (o := .dK []) ne2
      have he2 : (upd L1 e2 (.dK [])) e2 = some (.dK (ownKV [])) := upd_same
      replace he1 := w20 _ _ he1
      replace hm1 := w20 _ _ hm1
      replace hlp := w20 _ _ hlp
      replace a1 := a1.same w20
      replace a2 := a2.same w20
      replace a3 := a3.same w20
      replace a4 := a4.same w20
      generalize upd L1 e2 (.dK []) = J2 at w20 he2 he1 hm1 hlp a1 a2 a3 a4 ⊢
      refine ⟨by show 3 ≤ sizeLine; decide, fun m2 nm2 sm2 => ?_⟩
      have v2 := same_new (o := .lst [.int 5, .int 1, .ref e2]) nm2
      have hm2 : (upd J2 m2 (.lst [.int 5, .int 1, .ref e2])) m2 = some (.lst [.int 5, .int 1, .ref e2]) := upd_same
      replace he1 := v2 _ _ he1
      replace hm1 := v2 _ _ hm1
      replace he2 := v2 _ _ he2
      replace hlp := v2 _ _ hlp
      replace a1 := a1.same v2
      replace a2 := a2.same v2
      replace a3 := a3.same v2
      replace a4 := a4.same v2
      generalize upd J2 m2 (.lst [.int 5, .int 1, .ref e2]) = L2 at v2 hm2 he1 hm1 he2 hlp a1 a2 a3 a4 ⊢
      clear w20 v2 ne2 nm2
      refine fun e3 ne3 => ?_
      have w30 := same_new (o := .dK []) ne3
      have he3 : (upd L2 e3 (.dK [])) e3 = some (.dK (ownKV [])) := upd_same
      replace he1 := w30 _ _ he1
      replace hm1 := w30 _ _ hm1
      replace he2 := w30 _ _ he2
      replace hm2 := w30 _ _ hm2
      replace hlp := w30 _ _ hlp
      replace a1 := a1.same w30
      replace a2 := a2.same w30
      replace a3 := a3.same w30
      replace a4 := a4.same w30
      generalize upd L2 e3 (.dK []) = J3 at w30 he3 he1 hm1 he2 hm2 hlp a1 a2 a3 a4 ⊢
      refine ⟨by show 3 ≤ sizeLine; decide, fun m3 nm3 sm3 => ?_⟩
      have v3 := same_new (o := .lst [.int 1, .int 7, .ref e3]) nm3
      have hm3 : (upd J3 m3 (.lst [.int 1, .int 7, .ref e3])) m3 = some (.lst [.int 1, .int 7, .ref e3]) := upd_same
      replace he1 := v3 _ _ he1
      replace hm1 := v3 _ _ hm1
      replace he2 := v3 _ _ he2
      replace hm2 := v3 _ _ hm2
      replace he3 := v3 _ _ he3
      replace hlp := v3 _ _ hlp
      replace a1 := a1.same v3
      replace a2 := a2.same v3
      replace a3 := a3.same v3
      replace a4 := a4.same v3
      generalize upd J3 m3 (.lst [.int 1, .int 7, .ref e3]) = L3 at v3 hm3 he1 hm1 he2 hm2 he3 hlp a1 a2 a3 a4 ⊢
      clear w30 v3 ne3 nm3
      refine fun e4 ne4 => ?_
      have w40 := same_new (o := .dK []) ne4
      have he4 : (upd L3 e4 (.dK [])) e4 = some (.dK (ownKV [])) := upd_same
      replace he1 := w40 _ _ he1
      replace hm1 := w40 _ _ hm1
      replace he2 := w40 _ _ he2
      replace hm2 := w40 _ _ hm2
      replace he3 := w40 _ _ he3
      replace hm3 := w40 _ _ hm3
      replace hlp := w40 _ _ hlp
      replace a1 := a1.same w40
      replace a2 := a2.same w40
      replace a3 := a3.same w40
      replace a4 := a4.same w40
      generalize upd L3 e4 (.dK []) = J4 at w40 he4 he1 hm1 he2 hm2 he3 hm3 hlp a1 a2 a3 a4 ⊢
      refine ⟨by show 3 ≤ sizeLine; decide, fun m4 nm4 sm4 => ?_⟩
      have v4 := same_new (o := .lst [.int 8, .int 7, .ref e4]) nm4
      have hm4 : (upd J4 m4 (.lst [.int 8, .int 7, .ref e4])) m4 = some (.lst [.int 8, .int 7, .ref e4]) := upd_same
      replace he1 := v4 _ _ he1
      replace hm1 := v4 _ _ hm1
      replace he2 := v4 _ _ he2
      replace hm2 := v4 _ _ hm2
      replace he3 := v4 _ _ he3
      replace hm3 := v4 _ _ hm3
      replace he4 := v4 _ _ he4
      replace hlp := v4 _ _ hlp
      replace a1 := a1.same v4
      replace a2 := a2.same v4
      replace a3 := a3.same v4
      replace a4 := a4.same v4
      generalize upd J4 m4 (.lst [.int 8, .int 7, .ref e4]) = L4 at v4 hm4 he1 hm1 he2 hm2 he3 hm3 he4 hlp a1 a2 a3 a4 ⊢
      clear w40 v4 ne4 nm4
      refine ⟨by show 4 ≤ sizeLine; decide, fun ld nld => ?_⟩
      have u6 := same_new (o := .lst [.ref m1, .ref m2, .ref m3, .ref m4]) nld
      have hld : (upd L4 ld (.lst [.ref m1, .ref m2, .ref m3, .ref m4])) ld = some (.lst (([m1, m2, m3, m4]).map V.ref)) := upd_same
      replace he1 := u6 _ _ he1
      replace hm1 := u6 _ _ hm1
      replace he2 := u6 _ _ he2
      replace hm2 := u6 _ _ hm2
      replace he3 := u6 _ _ he3
      replace hm3 := u6 _ _ hm3
      replace he4 := u6 _ _ he4
      replace hm4 := u6 _ _ hm4
      replace hlp := u6 _ _ hlp
      replace a1 := a1.same u6
      replace a2 := a2.same u6
      replace a3 := a3.same u6
      replace a4 := a4.same u6
      generalize upd L4 ld (.lst [.ref m1, .ref m2, .ref m3, .ref m4]) = G6 at u6 hld he1 hm1 he2 hm2 he3 hm3 he4 hm4 hlp a1 a2 a3 a4 ⊢
      clear u6 nld
      obtain ⟨xs, exs⟩ : ∃ xs, [x1, x2, x3, x4] = xs := ⟨_, rfl⟩
      obtain ⟨ms, ems⟩ : ∃ ms, [m1, m2, m3, m4] = ms := ⟨_, rfl⟩
      have lxs : xs.length = 4 := by rw [← exs]; rfl
      have lms : ms.length = 4 := by rw [← ems]; rfl
      have hxs : ∀ k (h : k < 4), PrAt C G6 (xs[k]'(by omega)) (four[k]).1 (four[k]).2 [] := fun k h => by
        subst exs
        match k, h with
        | 0, _ => exact a1
        | 1, _ => exact a2
        | 2, _ => exact a3
        | 3, _ => exact a4
      have hms : ∀ k (h : k < 4), ∃ e, G6 (ms[k]'(by omega)) = some (.lst [.int (four[k]).1, .int (four[k]).2, .ref e]) ∧ G6 e = some (.dK (ownKV [])) ∧ ms[k]'(by omega) ≠ sysModules := fun k h => by
        subst ems
        match k, h with
        | 0, _ => exact ⟨e1, hm1, he1, sm1⟩
        | 1, _ => exact ⟨e2, hm2, he2, sm2⟩
        | 2, _ => exact ⟨e3, hm3, he3, sm3⟩
        | 3, _ => exact ⟨e4, hm4, he4, sm4⟩
      rw [exs] at hlp
      rw [ems] at hld
      clear a1 a2 a3 a4 he1 he2 he3 he4 hm1 hm2 hm3 hm4 exs ems
      obtain ⟨ts, ets⟩ : ∃ ts, four.map (fun q => (showD q.1 q.2 []).shown) = ts := ⟨_, rfl⟩
      have lts : ts.length = 4 := by rw [← ets]; rfl
      have hts : ∀ k (h : k < 4), ts[k]'(by omega) = (showD (four[k]).1 (four[k]).2 []).shown := fun k h => by
        subst ets
        rw [List.getElem_map]
        rfl
      refine ⟨_, rfl, lp, rfl, ⟨_, SqL.of hlp⟩, fun D1 nD1 => ?_⟩
      refine lc_map (walk_list (xs := xs.map V.ref)) nD1 (ts.map V.str) (by rw [List.length_map, List.length_map, lxs, lts]) (by rw [List.length_map, lxs]; decide) (fun X sx => SqL.of (sx _ _ hlp)) ?_ ?_
      · rintro k y X X' hk R Lk sX ⟨rfl, hy⟩ hR
        have hk4 : k < 4 := by rwa [List.length_map, lts] at hk
        rw [List.getElem?_map, List.getElem?_eq_getElem (by omega)] at hy
        cases hy
        refine ⟨rfl, ?_⟩
        unfold tYes
        dsimp only
        rw [if_pos rfl]
        refine ⟨_, rfl, _, _, _, [], rfl, (hxs k hk4).same sX, fun H' s' => ?_⟩
        have := hR _ s'
        rw [List.getElem_map, hts k hk4] at this
        exact this
      intro G7 s7 hD1
      refine ⟨_, rfl, ld, rfl, ⟨_, SqL.of (s7 _ _ hld)⟩, fun D2 nD2 => ?_⟩
      refine lc_map (walk_list (xs := ms.map V.ref)) nD2 (ts.map V.str) (by rw [List.length_map, List.length_map, lms, lts]) (by rw [List.length_map, lms]; decide) (fun X sx => SqL.of (sx _ _ (s7 _ _ hld))) ?_ ?_
      · rintro k y X X' hk R Lk sX ⟨rfl, hy⟩ hR
        have hk4 : k < 4 := by rwa [List.length_map, lts] at hk
        rw [List.getElem?_map, List.getElem?_eq_getElem (by omega)] at hy
        cases hy
        refine ⟨rfl, ?_⟩
        unfold tYes
        dsimp only
        rw [if_pos rfl]
        obtain ⟨e, c1, c2, c3⟩ := hms k hk4
        obtain ⟨f1, f2, f3⟩ := show_fits (four_fits (four[k]) (List.getElem_mem hk4))
        refine ⟨_, rfl, _, showD (four[k]).1 (four[k]).2 [], rfl, .lst (sX _ _ (s7 _ _ c1)) (fun z => c3 (List.mem_singleton.mp z)) (.cons (.int _) (.cons (.int _) (.cons (da_own (sX _ _ (s7 _ _ c2))) .nil))), f1, f2, f3, ?_⟩
        have := hR _ (Same.refl _)
        rw [List.getElem_map, hts k hk4] at this
        exact this
      intro G8 s8 hD2
      have shp : SeqAt.shaped (.list (ts.map PyData.str)) = true := shaped_strs _ fun t ht => four_ok t (by rw [ets]; exact ht)
      refine ⟨_, _, .lst (SqL.of (s8 _ _ hD1)) (dp_strs ts), .lst (SqL.of hD2) (dp_strs ts), shp, shp, _, rfl, iteFq (by rw [← ets, four_eqv]; rfl) ?_⟩
      refine ⟨rfl, 1, 1, rfl, p1, p1, fun y1 K1 z1 g1 => ?_⟩
      obtain ⟨dy, fy, hy1, hy2, hy3, _⟩ := g1
      refine ⟨y1, dy, _, rfl, hy1, prF_no (by decide) (by decide) (by decide), rfl, y1, "x", some 4, 1, 1, [], rfl, ⟨dy, fy, hy1, hy2, hy3⟩, by decide +kernel, (fun i z => by cases z; exact ⟨by decide, by decide⟩), by decide, fun y2 K2 z2 g2 => ?_⟩
      rw [single_x] at g2
      have at2 := g2.at_
      obtain ⟨dz, fz, hz⟩ := at2.ins
      refine ⟨y2, dz, fz, rfl, hz, y2, 1, 1, ([(("x" : Str), some 4)] : Own), rfl, at2, fun sg nsg => ?_⟩
      refine fun q8 n8 => ⟨upd_same, [((Sum.inr ("x" : Str) : Key), V.int 4)], rfl, by decide, ?_⟩
      have e8 : mergeK [] [((Sum.inr ("x" : Str) : Key), V.int 4)] = ownKV ([(("x" : Str), some 4)] : Own) := rfl
      rw [e8]
      refine ⟨sg, q8, _, _, rfl, rfl, by rw [upd_ne (ne_of_none upd_same n8), upd_ne (ne_of_none upd_same n8), upd_same], upd_same, rfl, fun x hx => ?_, ?_⟩
      · rw [List.mem_singleton.mp hx]
        exact ⟨rfl, rfl⟩
      · exact q _
end
end Wnd

/-! what the head finds of the class Prices -/
namespace Wnd
open PySem PySem.Spec PyProof.Rows L2
structure PrRaw (K : PySem.W.Frag) (C : Addr) : Prop where
  at_ : PySem.W.nsIn K mainGlobals "Prices" = some (some (.ref C))
  pg : PySem.W.plainGet K C Str.empty = true
  hd : PySem.W.hasDictIn K C = true
  po : PySem.W.plainOver K C = true
  sa : PySem.W.findIn K (.ref C) "__setattr__" = some (some (.builtin "object.__setattr__"))
  nR : PySem.W.findIn K (.ref C) "_raising" = some none
  nL : PySem.W.findIn K (.ref C) "_lowering" = some none
  nS : PySem.W.findIn K (.ref C) "_single" = some none
  mks : PySem.W.makesIn K C = true
  kc : PySem.W.keepIn K (.ref C) = true
theorem PrRaw.f {K : PySem.W.Frag} {C : Addr} {mg : Str → Option Value} {h : Heap} (R : PrRaw K C) (X : K.In h) (G : h.Ns mainGlobals mg) : PrC K mg C := ⟨⟨R.pg, R.hd, R.po, R.sa⟩, R.nR, R.nL, R.nS, PySem.W.mg_of X G R.at_⟩
def InitRaw (K : PySem.W.Frag) (C : Addr) : Prop := ∃ (f D : Addr) (oc : Value) (od an : Option Addr) (dc pm cd ct : Value) (sl : Array (Option Value)) (t1 t2 : Tok), PySem.W.findIn K (.ref C) "__init__" = some (some (.ref f)) ∧ PySem.W.isFn K (.ref f) = true ∧
  K.lookup f = some ⟨oc, od, .func (PySem.W.fnOf "__init__" "Prices.__init__" (defArgs s_Prices___init) (defBody s_Prices___init) (defScope s_Prices___init) .none (.ref D) dc pm an cd ct), sl⟩ ∧ PySem.W.codeIn K cd "Prices.__init__" = true ∧ PySem.W.keepIn K (.ref f) = true ∧
  PySem.W.nsIn K D "raising" = some (some (.int 1 t1)) ∧ PySem.W.nsIn K D "lowering" = some (some (.int 1 t2))
theorem initRaw_mk {K : PySem.W.Frag} {C f D : Addr} {oc : Value} {od an : Option Addr} {dc pm cd ct : Value} {sl : Array (Option Value)} {t1 t2 : Tok} (a : PySem.W.findIn K (.ref C) "__init__" = some (some (.ref f))) (b : PySem.W.isFn K (.ref f) = true)
    (c : K.lookup f = some ⟨oc, od, .func (PySem.W.fnOf "__init__" "Prices.__init__" (defArgs s_Prices___init) (defBody s_Prices___init) (defScope s_Prices___init) .none (.ref D) dc pm an cd ct), sl⟩) (d : PySem.W.codeIn K cd "Prices.__init__" = true) (e : PySem.W.keepIn K (.ref f) = true)
    (g : PySem.W.nsIn K D "raising" = some (some (.int 1 t1))) (i : PySem.W.nsIn K D "lowering" = some (some (.int 1 t2))) : InitRaw K C := ⟨f, D, oc, od, an, dc, pm, cd, ct, sl, t1, t2, a, b, c, d, e, g, i⟩
theorem InitRaw.at {K : PySem.W.Frag} {C : Addr} (R : InitRaw K C) : ∃ (f : Addr) (fd : FuncData), PrInit K f fd ∧ PySem.W.findIn K (.ref C) "__init__" = some (some (.ref f)) ∧ PySem.W.isFn K (.ref f) = true := by
  obtain ⟨f, D, oc, od, an, dc, pm, cd, ct, sl, t1, t2, a, b, c, d, e, g, i⟩ := R
  refine ⟨f, _, ⟨⟨oc, od, .none, .ref D, dc, pm, an, cd, ct, sl, rfl, c, d, .inl ⟨rfl, rfl⟩, .inr ⟨D, rfl, fun q hq => ?_⟩⟩, e⟩, a, b⟩
  simp only [kwPr, List.mem_cons, List.not_mem_nil, or_false] at hq
  rcases hq with rfl | rfl
  · exact ⟨_, g, t1, rfl⟩
  · exact ⟨_, i, t2, rfl⟩
end Wnd

namespace Wnd
open PySem PySem.Spec PyProof.Rows L2
set_option maxHeartbeats 4000000 in
theorem all_mk {l : PySem.W.OpenLaw} {w : World} {K : PySem.W.Frag} {h : Heap} {mg : Str → Option Value} {fa : Addr} (X : K.In h) (G : h.Ns mainGlobals mg) (hfa : mg "law" = some (.ref fa)) {C : Addr} {t1 t2 : Tok}
    (rP : PrRaw K C) (c1 : PySem.W.nsIn K mainGlobals "LONGEST_NAME" = some (some (.int 8 t1))) (c2 : PySem.W.nsIn K mainGlobals "GREATEST_PRICE" = some (some (.int 999 t2)))
    (mI : InitRaw K C)
    (mR : PropRaw K C "raising" "Prices.raising" s_Prices_raising)
    (mL : PropRaw K C "lowering" "Prices.lowering" s_Prices_lowering)
    (mS : PropRaw K C "single" "Prices.single" s_Prices_single)
    (mW : MetRaw K C "with_price" "Prices.with_price" s_Prices_with_price)
    (r_is_integer : DefRaw K "is_integer" s_is_integer) (r_is_integer_within : DefRaw K "is_integer_within" s_is_integer_within) (r_is_name : DefRaw K "is_name" s_is_name) (r_is_price : DefRaw K "_is_price" s_is_price) (r_law_pen : DefRaw K "_law_pen" s_law_pen) (r_law_next : DefRaw K "_law_next" s_law_next) (r_law_draw : DefRaw K "_law_draw" s_law_draw) (r_law_shown : DefRaw K "_law_shown" s_law_shown) (r_law_right : DefRaw K "_law_right" s_law_right) (r_law : DefRaw K "law" s_law)
    (z_len : PySem.W.nsIn K mainGlobals "len" = some none) (z_list : PySem.W.nsIn K mainGlobals "list" = some none) (z_range : PySem.W.nsIn K mainGlobals "range" = some none) (z_min : PySem.W.nsIn K mainGlobals "min" = some none) (z_max : PySem.W.nsIn K mainGlobals "max" = some none) (z_dict : PySem.W.nsIn K mainGlobals "dict" = some none) (z_sorted : PySem.W.nsIn K mainGlobals "sorted" = some none) (z_isinstance : PySem.W.nsIn K mainGlobals "isinstance" = some none) (z_int : PySem.W.nsIn K mainGlobals "int" = some none) (z_bool : PySem.W.nsIn K mainGlobals "bool" = some none) (z_str : PySem.W.nsIn K mainGlobals "str" = some none) (z_tuple : PySem.W.nsIn K mainGlobals "tuple" = some none) (z_all : PySem.W.nsIn K mainGlobals "all" = some none) (z_set : PySem.W.nsIn K mainGlobals "set" = some none) (z_sum : PySem.W.nsIn K mainGlobals "sum" = some none) (z_repr : PySem.W.nsIn K mainGlobals "repr" = some none) :
    ∀ (base : Heap) (H : Hp) (s : Shared) (a : Addr) (ns : List Int), ns.length ≤ 63 → K.In base → base.Ns mainGlobals mg → Env0 l.prog w K mg base callerA [] s H → SqL K H a (ns.map V.int) →
        codeAny (model l.prog w) callerA (.call (.ref fa) ⟨[.ref a], []⟩) (CR CX0 [] l.prog w H s (fun v _ => v = .bl true) fun _ _ _ => False) s := by
  have T := rP.f X G
  have B : Blt2 mg := ⟨⟨PySem.W.mg_none_of X G z_len, PySem.W.mg_none_of X G z_list, PySem.W.mg_none_of X G z_range, PySem.W.mg_none_of X G z_min, PySem.W.mg_none_of X G z_max, PySem.W.mg_none_of X G z_dict, PySem.W.mg_none_of X G z_sorted⟩, PySem.W.mg_none_of X G z_isinstance, PySem.W.mg_none_of X G z_int, PySem.W.mg_none_of X G z_bool, PySem.W.mg_none_of X G z_str, PySem.W.mg_none_of X G z_tuple, PySem.W.mg_none_of X G z_all, PySem.W.mg_none_of X G z_set⟩
  have B3 : Blt3 mg := ⟨B, PySem.W.mg_none_of X G z_sum, PySem.W.mg_none_of X G z_repr⟩
  have k1 : ∃ t, mg "LONGEST_NAME" = some (.int 8 t) := ⟨t1, PySem.W.mg_of X G c1⟩
  have k2 : ∃ t, mg "GREATEST_PRICE" = some (.int 999 t) := ⟨t2, PySem.W.mg_of X G c2⟩
  obtain ⟨_, _, D_is_integer⟩ := r_is_integer.at (ps := ["thing"]) X G fun _ _ _ _ _ _ us hl => match us, hl with | [_], _ => rfl
  obtain ⟨_, _, D_is_integer_within⟩ := r_is_integer_within.at (ps := ["thing", "least", "greatest"]) X G fun _ _ _ _ _ _ us hl => match us, hl with | [_, _, _], _ => rfl
  obtain ⟨_, _, D_is_name⟩ := r_is_name.at (ps := ["thing"]) X G fun _ _ _ _ _ _ us hl => match us, hl with | [_], _ => rfl
  obtain ⟨_, _, D_is_price⟩ := r_is_price.at (ps := ["thing"]) X G fun _ _ _ _ _ _ us hl => match us, hl with | [_], _ => rfl
  obtain ⟨_, _, D_law_pen⟩ := r_law_pen.at (ps := ["_law_script"]) X G fun _ _ _ _ _ _ us hl => match us, hl with | [_], _ => rfl
  obtain ⟨_, _, D_law_next⟩ := r_law_next.at (ps := ["_law_pen_here"]) X G fun _ _ _ _ _ _ us hl => match us, hl with | [_], _ => rfl
  obtain ⟨_, _, D_law_draw⟩ := r_law_draw.at (ps := ["_law_pen_here", "_law_under"]) X G fun _ _ _ _ _ _ us hl => match us, hl with | [_, _], _ => rfl
  obtain ⟨_, _, D_law_shown⟩ := r_law_shown.at (ps := ["_law_deal"]) X G fun _ _ _ _ _ _ us hl => match us, hl with | [_], _ => rfl
  obtain ⟨_, _, D_law_right⟩ := r_law_right.at (ps := ["_law_deal", "_law_two", "_law_own"]) X G fun _ _ _ _ _ _ us hl => match us, hl with | [_, _, _], _ => rfl
  obtain ⟨_, _, D_law⟩ := r_law.at (ps := ["_law_script"]) X G fun _ _ _ _ _ _ us hl => match us, hl with | [_], _ => rfl
  obtain ⟨fI, fdI, FI, iI, isI⟩ := mI.at
  obtain ⟨pR, gR, fdR, FR, bR, iR⟩ := mR.at (ps := ["self"]) fun _ _ _ _ _ _ us hl => match us, hl with | [_], _ => rfl
  obtain ⟨pL, gL, fdL, FL, bL, iL⟩ := mL.at (ps := ["self"]) fun _ _ _ _ _ _ us hl => match us, hl with | [_], _ => rfl
  obtain ⟨pS, gS, fdS, FS, bS, iS⟩ := mS.at (ps := ["self"]) fun _ _ _ _ _ _ us hl => match us, hl with | [_], _ => rfl
  obtain ⟨fW, fdW, FW, bW, iW, isW⟩ := mW.at (ps := ["self", "name", "price"]) fun _ _ _ _ _ _ us hl => match us, hl with | [_, _, _], _ => rfl
  have e := hfa.symm.trans D_law.at_
  cases e
  intro base H s a ns hl kb nb env seq
  have o1 := ok_is_integer (P := l.prog) (w := w) (base := base) D_is_integer B
  have o2 := ok_is_integer_within D_is_integer_within B o1
  have o3 := ok_is_name (P := l.prog) (w := w) (base := base) D_is_name B k1
  have o4 := ok_is_price D_is_price k2 o2
  have oP : OkPr l.prog w K mg base C 4 := ⟨⟨fI, fdI, ⟨rP.mks, iI, isI, rP.kc⟩, FI, ok_prInit FI T o4⟩, T.mgC⟩
  have oR : OkP l.prog w K mg base C 1 "raising" (spPrR C) := ⟨pR, gR, fdR, _, T.cl, iR, bR, ok_prR FR T⟩
  have oL : OkP l.prog w K mg base C 1 "lowering" (spPrL C) := ⟨pL, gL, fdL, _, T.cl, iL, bL, ok_prL FL T⟩
  have oS : OkP l.prog w K mg base C 1 "single" (spPrS C) := ⟨pS, gS, fdS, _, T.cl, iS, bS, ok_prS FS T B.dict⟩
  have hW : FnOk l.prog w K mg base CX0 6 fW fdW ["self", "name", "price"] (spWithPr C) := ok_withPr FW T B.toBlt o4 o3 oP
  have meW : Meth K C "with_price" fW := ⟨iW, isW, FW.kp⟩
  have oW : OkM l.prog w K mg base C 6 "with_price" (spWithPr C) := ⟨fW, fdW, _, T.cl, meW, bW, hW⟩
  have p_pen := ok_pen (P := l.prog) (w := w) (base := base) D_law_pen B.toBlt
  have p_next := ok_next (P := l.prog) (w := w) (base := base) D_law_next B.toBlt
  have p_draw := ok_draw D_law_draw p_next
  have q1 := ok_shown D_law_shown B3 oR oL oS
  have q2 := ok_rightPr D_law_right B3 q1 oS
  exact run_law D_law.fn D_law.bi ⟨rfl, by decide, by decide⟩ T B3 p_pen p_draw q1 q2 oP oW meW hW FW oS (vs := [V.ref a]) (us := [Value.ref a]) env rfl (.cons rfl .nil) ⟨a, ns, rfl, seq, hl, fun _ => rfl⟩
end Wnd
open PySem PySem.W PyProof.Rows in
set_option maxRecDepth 100000 in
set_option maxHeartbeats 0 in
theorem PySem.Challenge.cw_windowsteps_k33_prices_made_holds : PySem.Challenge.rw_windowsteps_k33_prices_made.Holds := by
  w_on; o_law; k_head; (case hw => w_witness2)
  k_fill
  refine Wnd.top_walk (l := PySem.Challenge.rw_windowsteps_k33_prices_made) (n := 63) rfl (by decide) rfl (fun w h Y => PySem.W.kIn_of Y) ?F
  case F =>
    intro w mg fa h KX G hmg
    refine' Wnd.all_mk KX G hmg ?rP ?c1 ?c2 ?mI ?mR ?mL ?mS ?mW ?r_is_integer ?r_is_integer_within ?r_is_name ?r_is_price ?r_law_pen ?r_law_next ?r_law_draw ?r_law_shown ?r_law_right ?r_law ?z_len ?z_list ?z_range ?z_min ?z_max ?z_dict ?z_sorted ?z_isinstance ?z_int ?z_bool ?z_str ?z_tuple ?z_all ?z_set ?z_sum ?z_repr
    (case rP => refine' ⟨?at_, ?pg, ?hd, ?po, ?sa, ?nR, ?nL, ?nS, ?mks, ?kc⟩; (case at_ => k_is); all_goals k_is)
    (case c1 => k_is)
    (case c2 => k_is)
    (case mI => refine' Wnd.initRaw_mk ?a ?b ?c ?d ?e ?f ?g; (case a => k_is); (case b => k_is); (case c => k_is); (case d => k_is); (case e => k_is); (case f => k_is); (case g => k_is))
    (case mR => refine' Wnd.propRaw_mk ?a ?b ?c ?d ?e ?f ?g; (case a => k_is); (case b => k_is); (case c => k_is); (case d => k_is); (case e => k_is); (case f => k_is); (case g => k_is))
    (case mL => refine' Wnd.propRaw_mk ?a ?b ?c ?d ?e ?f ?g; (case a => k_is); (case b => k_is); (case c => k_is); (case d => k_is); (case e => k_is); (case f => k_is); (case g => k_is))
    (case mS => refine' Wnd.propRaw_mk ?a ?b ?c ?d ?e ?f ?g; (case a => k_is); (case b => k_is); (case c => k_is); (case d => k_is); (case e => k_is); (case f => k_is); (case g => k_is))
    (case mW => refine' Wnd.metRaw_mk ?a ?b ?c ?d ?e; (case a => k_is); (case b => k_is); (case c => k_is); (case d => k_is); (case e => k_is))
    (case r_is_integer => refine' Wnd.defRaw_mk ?a ?b ?c ?d; (case a => k_is); (case b => k_is); (case c => k_is); (case d => k_is))
    (case r_is_integer_within => refine' Wnd.defRaw_mk ?a ?b ?c ?d; (case a => k_is); (case b => k_is); (case c => k_is); (case d => k_is))
    (case r_is_name => refine' Wnd.defRaw_mk ?a ?b ?c ?d; (case a => k_is); (case b => k_is); (case c => k_is); (case d => k_is))
    (case r_is_price => refine' Wnd.defRaw_mk ?a ?b ?c ?d; (case a => k_is); (case b => k_is); (case c => k_is); (case d => k_is))
    (case r_law_pen => refine' Wnd.defRaw_mk ?a ?b ?c ?d; (case a => k_is); (case b => k_is); (case c => k_is); (case d => k_is))
    (case r_law_next => refine' Wnd.defRaw_mk ?a ?b ?c ?d; (case a => k_is); (case b => k_is); (case c => k_is); (case d => k_is))
    (case r_law_draw => refine' Wnd.defRaw_mk ?a ?b ?c ?d; (case a => k_is); (case b => k_is); (case c => k_is); (case d => k_is))
    (case r_law_shown => refine' Wnd.defRaw_mk ?a ?b ?c ?d; (case a => k_is); (case b => k_is); (case c => k_is); (case d => k_is))
    (case r_law_right => refine' Wnd.defRaw_mk ?a ?b ?c ?d; (case a => k_is); (case b => k_is); (case c => k_is); (case d => k_is))
    (case r_law => refine' Wnd.defRaw_mk ?a ?b ?c ?d; (case a => k_is); (case b => k_is); (case c => k_is); (case d => k_is))
    (case z_len => k_is)
    (case z_list => k_is)
    (case z_range => k_is)
    (case z_min => k_is)
    (case z_max => k_is)
    (case z_dict => k_is)
    (case z_sorted => k_is)
    (case z_isinstance => k_is)
    (case z_int => k_is)
    (case z_bool => k_is)
    (case z_str => k_is)
    (case z_tuple => k_is)
    (case z_all => k_is)
    (case z_set => k_is)
    (case z_sum => k_is)
    (case z_repr => k_is)
#print axioms PySem.Challenge.cw_windowsteps_k33_prices_made_holds

