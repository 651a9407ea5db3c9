import PyProof.Rows.All
import Wide.All
import OpenK.AllK
import Wide.FinOn
import HandS.ForMost
import HandS.Codes
import HandS.Style
import HandS.Property
import HandS.IsInst
import HandS.DictComp
import HandS.Conv
import KE.KDictKeyed
import KE.SortKeyHeap
import HandS.SortKw
import HandS.ExcValue
import HandS.OwnEq
import HandS.ClsMeth
import HandS.Strs
import HandS.TupSets
import HandS.Walk
import HandS.Flow
import HandS.Star
import KE.OsSortAny
import HandS.Deep
import HandS.SetFor
import HandS.Ends
import PyProof.ReprRoads
import PyProof.CallFns
import HandS.ExcIs
import HandS.ExcInit
import HandS.Defaults
import KE.KExcSuper
import KE.KExcIs
import KE.KSuper
import HandS.ExcField
import HandS.MakeKwOnly
import HandS.FStr
import HandS.FStrTup
import PySem.Challenge.RW_windowsteps_k01_errors
set_option Elab.async false
set_option linter.all false
set_option maxRecDepth 100000
/-! Windowsteps: what every law's proof begins with. Defs as bundles, heaps that change at one place, the pen that draws. -/
namespace Wnd
open PySem PySem.Spec PyProof.Rows L2

/-! ### a def of the text, bundled with its promise -/
structure DefAt (K : PySem.W.Frag) (mg : Str → Option Value) (x : Str) (st : Stmt) (ps : List Str) (f : Addr) (fd : FuncData) : Prop where
  fn : Fun K x x st f fd
  bi : Binds K fd ps []
  at_ : mg x = some (.ref f)
structure Ok (P : Program) (w : World) (K : PySem.W.Frag) (mg : Str → Option Value) (base : Heap) (k : Nat) (x : Str) (ps : List Str) (sp : Sp) : Prop where
  ex : ∃ (f : Addr) (fd : FuncData), mg x = some (.ref f) ∧ PySem.W.keepIn K (.ref f) = true ∧ Binds K fd ps [] ∧ FnOk P w K mg base CX0 k f fd ps sp
section
variable {P : Program} {w : World} {K : PySem.W.Frag} {mg : Str → Option Value} {base : Heap}
theorem DefAt.ok {x : Str} {st : Stmt} {ps : List Str} {f : Addr} {fd : FuncData} {k : Nat} {sp : Sp} (D : DefAt K mg x st ps f fd) (h : FnOk P w K mg base CX0 k f fd ps sp) : Ok P w K mg base k x ps sp :=
  ⟨⟨f, fd, D.at_, D.fn.kp, D.bi, h⟩⟩
theorem Ok.mono {x : Str} {ps : List Str} {j k : Nat} {sp : Sp} (O : Ok P w K mg base j x ps sp) (h : j ≤ k) : Ok P w K mg base k x ps sp := by
  obtain ⟨f, fd, a, b, c, d⟩ := O.ex
  exact ⟨⟨f, fd, a, b, c, d.mono h⟩⟩
end
section
variable {X : Cx} {k : Nat} {x : Str} {ps : List Str} {sp : Sp} {p pos : Pos} {e : Expr} {es : List Expr} {t : TA}
/-- a call of an own def -/
theorem pe_own (O : Ok X.prog X.w X.K X.mg X.base k x ps sp) (hr : Room k X.A) (ha : PA X (e :: es) t) (hg : Gl X x := by rfl) (hdb : (x == ("__debug__" : Str)) = false := by decide)
    (he : starEach (e :: es) X.env = (false, eval e X.env) :: starEach es X.env := by rfl) (hpl : (backTo pos (starEach es X.env)).any (·.1) = false := by rfl) :
    PE X (.Call (.Name x p) (e :: es) [] pos) (tCall sp [] E0 t) := by
  obtain ⟨f, fd, h1, h2, h3, h4⟩ := O.ex
  exact pe_call h4 hr hg h1 h2 h3 .nil pass0 ha hdb he hpl
end

/-! ### heaps that change at one place -/
def But (p : Addr) (H H' : Hp) : Prop := ∀ b o, H b = some o → b ≠ p → H' b = some o
theorem But.refl (p : Addr) (H : Hp) : But p H H := fun _ _ h _ => h
theorem But.trans {p : Addr} {H H1 H2 : Hp} (a : But p H H1) (b : But p H1 H2) : But p H H2 := fun c o h n => b c o (a c o h n) n
theorem But.of {p : Addr} {H H' : Hp} (h : Same H H') : But p H H' := fun b o e _ => h b o e
theorem But.upd {p : Addr} {H : Hp} {o : HO} : But p H (upd H p o) := fun b u e n => by
  rw [upd_ne n]
  exact e
theorem same_new {H : Hp} {p : Addr} {o : HO} (h : H p = none) : Same H (upd H p o) := fun b u e => by
  rw [upd_ne (ne_of_none e h)]
  exact e
theorem But.new {p q : Addr} {H : Hp} {o : HO} (h : H q = none) : But p H (L2.upd H q o) := But.of (same_new h)
/-- what is gone neither before nor behind -/
theorem But.free {p q : Addr} {H H' : Hp} (e : But p H H') (hp : q ≠ p) (h : H' q = none) : H q = none := by
  cases z : H q with
  | none => rfl
  | some o =>
    rw [e q o z hp] at h
    cases h
theorem But.seq {K : PySem.W.Frag} {p a : Addr} {H H' : Hp} {xs : List V} (e : But p H H') (n : ∀ o, H p = some o → a ≠ p) (hp : ∃ o, H p = some o) (h : SqL K H a xs) : SqL K H' a xs := by
  obtain ⟨o, hp⟩ := hp
  have n' := n o hp
  rcases h with (h | ⟨o, h⟩) | h
  · exact .inl (.inl (e _ _ h n'))
  · exact .inl (.inr ⟨o, e _ _ h n'⟩)
  · exact .inr h

theorem hu_of64 {A : Around} {k : Nat} (hr : Room k A) : A.units + 64 < cLine := hr.units
/-! ### the pen: a list of the script's cells, how many numbers were asked for, what is left of the last one -/
def PenAt (H : Hp) (p c : Addr) (n : Nat) : Prop := ∃ (cs : List Int) (i : Nat) (h : Int), cs.length ≤ 63 ∧ i ≤ n ∧ H c = some (.lst (cs.map V.int)) ∧ H p = some (.lst [.ref c, .int i, .int h])
theorem PenAt.ne {H : Hp} {p c : Addr} {n : Nat} (h : PenAt H p c n) : c ≠ p := by
  obtain ⟨cs, i, z, _, _, hc, hp⟩ := h
  refine ne_of hc hp fun e => ?_
  cases cs with
  | nil => cases e
  | cons x r => cases e
theorem PenAt.le {H : Hp} {p c : Addr} {m n : Nat} (h : PenAt H p c m) (l : m ≤ n) : PenAt H p c n := by
  obtain ⟨cs, i, z, a, b, hc, hp⟩ := h
  exact ⟨cs, i, z, a, Nat.le_trans b l, hc, hp⟩
theorem PenAt.same {H H' : Hp} {p c : Addr} {n : Nat} (h : PenAt H p c n) (s : Same H H') : PenAt H' p c n := by
  obtain ⟨cs, i, z, a, b, hc, hp⟩ := h
  exact ⟨cs, i, z, a, b, s _ _ hc, s _ _ hp⟩
theorem PenAt.some {H : Hp} {p c : Addr} {n : Nat} (h : PenAt H p c n) : ∃ o, H p = some o := by
  obtain ⟨cs, i, z, a, b, hc, hp⟩ := h
  exact ⟨_, hp⟩

def spPen (K : PySem.W.Frag) : Sp := fun vs H Q _ => ∃ (a : Addr) (ns : List Int), vs = [.ref a] ∧ SqL K H a (ns.map V.int) ∧ ns.length ≤ 63 ∧ ∀ p c H', Same H H' → H p = none → H c = none → PenAt H' p c 0 → Q (.ref p) H'
def spNext : Sp := fun vs H Q _ => ∃ (p c : Addr) (n : Nat), vs = [.ref p] ∧ PenAt H p c n ∧ n ≤ 1000000 ∧ ∀ (r : Int) H', But p H H' → PenAt H' p c (n + 1) → Q (.int r) H'
def spDraw : Sp := fun vs H Q _ => ∃ (p c : Addr) (n : Nat) (u : Int), vs = [.ref p, .int u] ∧ PenAt H p c n ∧ n ≤ 1000000 ∧ 0 < u ∧ u < 1000000000 ∧ ∀ (d : Int) H', 0 ≤ d → d < u → But p H H' → PenAt H' p c (n + 1) → Q (.int d) H'
end Wnd

/-! Windowsteps: rules (low, high, gap) as Python has them: tuples with None in them; dicts with such keys. -/
namespace Wnd
open PySem PySem.Spec PyProof.Rows L2

structure Rule where
  low : Option Str
  high : Option Str
  gap : Int
  deriving DecidableEq
def endV : Option Str → V
  | none => .non
  | some x => .str x
def ruleV (r : Rule) : List V := [endV r.low, endV r.high, .int r.gap]
def endK : Option Str → NestedKey
  | none => .none
  | some x => .text x
def ruleK (r : Rule) : NestedKey := .tup [endK r.low, endK r.high, .num r.gap]
theorem endK_inj : ∀ {a b : Option Str}, endK a = endK b → a = b
  | none, none, _ => rfl
  | none, some _, h => NestedKey.noConfusion h
  | some _, none, h => NestedKey.noConfusion h
  | some x, some y, h => by
    injection h with h
    rw [h]
theorem ruleK_inj {a b : Rule} (h : ruleK a = ruleK b) : a = b := by
  cases a with | mk l1 h1 g1 =>
  cases b with | mk l2 h2 g2 =>
  unfold ruleK at h
  injection h with h
  injection h with e1 h
  injection h with e2 h
  injection h with e3 h
  injection e3 with e3
  have f1 : l1 = l2 := endK_inj e1
  have f2 : h1 = h2 := endK_inj e2
  have f3 : g1 = g2 := e3
  rw [f1, f2, f3]
theorem endV_inj : ∀ {a b : Option Str}, endV a = endV b → a = b
  | none, none, _ => rfl
  | none, some _, h => V.noConfusion h
  | some _, none, h => V.noConfusion h
  | some x, some y, h => by
    injection h with h
    rw [h]
theorem endK_depth (a : Option Str) : (endK a).depth = 0 := by
  cases a <;> simp [endK, NestedKey.depth]
theorem ruleK_depth (r : Rule) : (ruleK r).depth = 1 := by
  simp [ruleK, NestedKey.depth, NestedKey.depthAll, endK_depth]
theorem endK_is {h : Heap} {a : Option Str} {u : Value} (r : RelV (endV a) u) : NestedIs h (endK a) u := by
  cases a with
  | none =>
    cases r
    exact .none
  | some x =>
    obtain ⟨t, rfl⟩ := r
    exact .text x t

section
variable {P : Program} {w : World} {H : Hp} {h : Heap}
theorem rule_is {q : Addr} {r : Rule} (ok : HOk P w H h) (e : H q = some (.tup (ruleV r))) : (nestedKind P w).is h (ruleK r) q := by
  obtain ⟨_, its, rel, o, h1, h2, n, h3⟩ := (show ObjOk P w H h q (.tup (ruleV r)) from ok q _ e)
  refine ⟨?_, by rw [ruleK_depth]; decide⟩
  refine NestedIs.tup h1 h2 h3 ?_
  rw [List.toList_toArray]
  cases rel with
  | cons r1 t1 =>
    cases t1 with
    | cons r2 t2 =>
      cases t2 with
      | cons r3 t3 =>
        cases t3
        obtain ⟨t, rfl⟩ := r3
        exact .cons (endK_is r1) (.cons (endK_is r2) (.cons (.int _ t) .nil))
end

/-! ### a dict of rules, each with True -/
def rdX (L : List (Rule × Addr)) : List (NestedKey × Addr × Value) := L.map fun p => (ruleK p.1, p.2, Value.bool true)
structure RdAt (P : Program) (w : World) (h : Heap) (d : Addr) (L : List (Rule × Addr)) : Prop where
  lo : (d == sysModules) = false
  sz : L.length ≤ sizeLine
  raw : ∃ o es ep, h.get? d = some o ∧ o.ExactDict ∧ o.data = .dict es ep ∧ es.toList = (rdX L).map (entryOfKey (nestedKind P w))
  nd : (L.map (·.1)).Nodup
def rdO (P : Program) (w : World) (d : Addr) (L : List (Rule × Addr)) : HO := .ext fun h => RdAt P w h d L
/-- the keys' own tuples -/
def KeyTups (H : Hp) (L : List (Rule × Addr)) : Prop := ∀ p, p ∈ L → H p.2 = some (.tup (ruleV p.1))
theorem KeyTups.same {H H' : Hp} {L : List (Rule × Addr)} (k : KeyTups H L) (s : ∀ b xs, H b = some (.tup xs) → H' b = some (.tup xs)) : KeyTups H' L := fun p hp => s _ _ (k p hp)
def putR (L : List (Rule × Addr)) (r : Rule) (q : Addr) : List (Rule × Addr) := if r ∈ L.map (·.1) then L else L ++ [(r, q)]
section
variable {P : Program} {w : World} {H : Hp} {h : Heap} {d : Addr} {L : List (Rule × Addr)}
theorem rdO_ok (R : RdAt P w h d L) : ObjOk P w H h d (rdO P w d L) := by
  refine ⟨R, ?_, fun h1 h2 R1 k => ?_⟩
  · obtain ⟨o, _, _, e, _⟩ := R.raw
    exact ⟨o, e⟩
  · obtain ⟨o, es, ep, e, c⟩ := R1.raw
    exact ⟨R1.lo, R1.sz, ⟨o, es, ep, k o e, c⟩, R1.nd⟩
theorem rd_at (ok : HOk P w H h) (e : H d = some (rdO P w d L)) : RdAt P w h d L := (ok d _ e).1
theorem rd_rd (ok : HOk P w H h) (e : Rd H d (rdO P w d L)) : RdAt P w h d L := (e.ok ok).1
theorem rdX_nodup (hn : (L.map (·.1)).Nodup) : ((rdX L).map (·.1)).Nodup := by
  unfold rdX
  rw [List.map_map]
  rw [show ((fun x : NestedKey × Addr × Value => x.1) ∘ fun p : Rule × Addr => (ruleK p.1, p.2, Value.bool true)) = ruleK ∘ (fun p : Rule × Addr => p.1) from rfl, ← List.map_map]
  exact List.Pairwise.map ruleK (fun a b hab e => hab (ruleK_inj e)) hn
theorem RdAt.full (ok : HOk P w H h) (R : RdAt P w h d L) (k : KeyTups H L) : h.DictOfH (nestedKind P w) d (rdX L) := by
  obtain ⟨o, es, ep, e, x, dd, en⟩ := R.raw
  refine ⟨o, es, ep, e, x, dd, en, fun y hy => ?_, rdX_nodup R.nd⟩
  obtain ⟨p, hp, rfl⟩ := List.mem_map.mp hy
  exact rule_is ok (k p hp)
theorem RdAt.of (D : h.DictOfH (nestedKind P w) d (rdX L)) (lo : (d == sysModules) = false) (sz : L.length ≤ sizeLine) (nd : (L.map (·.1)).Nodup) : RdAt P w h d L := by
  obtain ⟨o, es, ep, e, x, dd, en, _⟩ := D
  exact ⟨lo, sz, ⟨o, es, ep, e, x, dd, en⟩, nd⟩
theorem atKey_rdX (r : Rule) : ∀ L : List (Rule × Addr), (atKey (rdX L) (ruleK r)).isSome = decide (r ∈ L.map (·.1))
  | [] => by simp [rdX, atKey]
  | p :: L => by
    have ih := atKey_rdX r L
    by_cases e : p.1 = r
    · subst e
      simp [rdX, atKey]
    · have e' : ¬ ruleK p.1 = ruleK r := fun z => e (ruleK_inj z)
      have e2 : ¬ r = p.1 := fun z => e z.symm
      have h1 : atKey (rdX (p :: L)) (ruleK r) = atKey (rdX L) (ruleK r) := by
        unfold rdX atKey
        rw [List.map_cons, List.find?_cons]
        simp [e']
      rw [h1, ih]
      simp [e2]
theorem putAt_true (r : Rule) : ∀ L : List (Rule × Addr), (rdX L).map (putAt (ruleK r) (Value.bool true)) = rdX L
  | [] => rfl
  | p :: L => by
    have ih := putAt_true r L
    unfold rdX at ih ⊢
    rw [List.map_cons, List.map_cons, ih]
    unfold putAt
    split <;> rfl
theorem storedH_rdX (L : List (Rule × Addr)) (r : Rule) (q : Addr) : storedH (rdX L) (ruleK r) q (Value.bool true) = rdX (putR L r q) := by
  unfold storedH putR
  rw [atKey_rdX]
  by_cases e : r ∈ L.map (·.1)
  · rw [decide_eq_true e, if_pos rfl, if_pos e, putAt_true]
  · rw [decide_eq_false e, if_neg Bool.false_ne_true, if_neg e]
    unfold rdX
    rw [List.map_append]
    rfl
theorem putR_nodup {r : Rule} {q : Addr} (nd : (L.map (·.1)).Nodup) : ((putR L r q).map (·.1)).Nodup := by
  unfold putR
  by_cases e : r ∈ L.map (·.1)
  · rw [if_pos e]
    exact nd
  · rw [if_neg e, List.map_append]
    refine List.nodup_append.mpr ⟨nd, by simp, fun a ha b hb => ?_⟩
    have hb' : b = r := by simpa using hb
    subst hb'
    intro z
    subst z
    exact e ha
theorem putR_len {r : Rule} {q : Addr} : (putR L r q).length ≤ L.length + 1 := by
  unfold putR
  split
  · omega
  · rw [List.length_append, List.length_singleton]
    omega
theorem KeyTups.put {r : Rule} {q : Addr} (k : KeyTups H L) (hq : H q = some (.tup (ruleV r))) : KeyTups H (putR L r q) := by
  unfold putR
  split
  · exact k
  · intro p hp
    rcases List.mem_append.mp hp with hp | hp
    · exact k p hp
    · have e : p = (r, q) := by simpa using hp
      subst e
      exact hq
end
section
variable {X : Cx} {pins : List (Addr × Obj)} {σ : L2.St} {H : Hp} {s : Shared} {E : Value → Shared → Prop}
theorem rdO_ne_tup {P : Program} {w : World} {d : Addr} {L : List (Rule × Addr)} {xs : List V} : rdO P w d L ≠ .tup xs := fun z => nomatch z
theorem rd_dictSet {A : Around} {d q : Addr} {L : List (Rule × Addr)} {r : Rule} {Q : Unit → Shared → Prop} (hu : A.units + 8 < cLine) (I : Inv X pins σ H s) (hd : H d = some (rdO X.prog X.w d L)) (k : KeyTups H L) (hq : H q = some (.tup (ruleV r)))
    (hz : L.length < sizeLine) (hQ : ∀ s', Inv X pins σ (upd H d (rdO X.prog X.w d (putR L r q))) s' → Q () s') :
    wpAny (model X.prog X.w) A (dictSet d (.ref q) (.bool true)) Q E s := by
  have R := rd_at I.hok hd
  have hl : (rdX L).length = L.length := by unfold rdX; rw [List.length_map]
  refine wpAny_dictSet_heap (hsz := by rw [hl]; exact R.sz) (knd := nestedKind X.prog X.w) hu (rule_is I.hok hq) (R.full I.hok k) fun h' D' sb => hQ _ ?_
  rw [storedH_rdX] at D'
  have he : ∃ z, h'.get? d = some z := let ⟨z, _, _, e, _⟩ := D'; ⟨z, e⟩
  exact d_write I (by rw [hd]; exact True.intro) sb he (rdO_ok (RdAt.of D' R.lo (Nat.le_trans putR_len hz) (putR_nodup R.nd)))
end
end Wnd

/-! Windowsteps: {rule: True for rule in rules}. -/
namespace Wnd
open PySem PySem.Spec PyProof.Rows L2
section
variable {X : Cx}
/-- what the comprehension asks: D is the new dict of rules -/
def tDcR (P : Program) (w : World) (wi : TI) (g : TG) (tk : TE) (vs : List Nat) : TE := fun σ H Q => wi σ H fun J H1 =>
  ∀ D, H1 D = none → ∃ W : Nat → Nat → Hp → Prop, (∃ m, W 0 m (upd H1 D (rdO P w D []))) ∧ ∀ i m Hi, W i m Hi →
    (J.stop i Hi ∧ Q (.ref D) Hi) ∨ (J.go i Hi ∧ ∃ Nx : Hp → Prop, (∀ Hn, Nx Hn → ∃ m', m' < m ∧ W (i + 1) m' Hn) ∧
      ∀ x Hx, J.yld i Hi x Hx → g x (wipe σ vs) Hx fun σ2 H2 => wipe σ2 vs = wipe σ vs ∧
        tk σ2 H2 fun y H3 => ∃ (q : Addr) (r : Rule) (L : List (Rule × Addr)), y = .ref q ∧ H3 D = some (rdO P w D L) ∧ KeyTups H3 L ∧ H3 q = some (.tup (ruleV r)) ∧ L.length < sizeLine ∧ Nx (upd H3 D (rdO P w D (putR L r q))))
theorem rd_empty {P : Program} {w : World} {H : Hp} (h : Heap) (big : sysModules < h.objs.size) :
    ObjOk P w H (h.push { cls := .type "dict", data := .dict #[] }) h.objs.size (rdO P w h.objs.size []) :=
  rdO_ok (RdAt.of (Heap.DictOfH.new (knd := nestedKind P w) h) (beq_eq_false_iff_ne.mpr (Nat.ne_of_gt big)) (Nat.zero_le _) List.nodup_nil)
/-- the block's keys may be laid down while D stands -/
theorem dcR_core {pins : List (Addr × Obj)} {s : Shared} {σ : L2.St} {H : Hp} {Q : VK} {kx tg iter : Expr} {c : Nat} {cp : Pos} {scope : Scope} {own : List (Str × Nat)} {pos pos' : Pos} {wi : TI} {g : TG} {tk : TE}
    {use : Option (Value → Sem Unit)} {Qf : Value → Shared → Prop} (room : X.A.units + 8 < cLine) (calm : X.calm = true) (nd : X.N.Nodup) (I : Inv X pins σ H s) (hi : PI X tg iter wi) (ok : BlkOk X.N X.env.scope scope own)
    (hg : ∀ (s : Shared) (H : Hp) (C : Addr) (cl : List (Str × Addr)) (fp : List Addr), PG (X.blk s H scope (compEnvC scope cl C X.env) fp) tg g)
    (hk : ∀ (s : Shared) (H : Hp) (C : Addr) (cl : List (Str × Addr)) (fp : List Addr), PE (X.blk s H scope (compEnvC scope cl C X.env) fp) kx tk)
    (plain : ∀ x, foldedSetIterable iter X.env x = pure x) (ask : tDcR X.prog X.w wi g tk (own.map (·.2)) σ H Q)
    (last : ∀ D C s' m H', Inv X pins σ H' s' → Q (.ref D) H' → s'.heap.Ns C m → FpOk X pins H' C → compPost (model X.prog X.w) X.A X.xe use Qf (.ref D) C (.ok .next) s') :
    wpAny (model X.prog X.w) X.A (comprehension (.DictComp kx (.Constant (.bool true) c cp) [⟨tg, iter, [], 0⟩] scope pos) scope X.env pos' newDict false (eval iter X.env) use) Qf X.xe s := by
  have cells : ∀ y ∈ scope.names, y.2 = .free → ∃ c, X.env.cells.lookup y.1 = some c := by
    intro y hy e
    rcases ok.free y hy e with k | k
    · exact I.ok.has _ (.inl k)
    · exact I.ok.has _ (.inr k)
  refine wpAny_comprehension_free (use := use) rfl plain (closure_ok cells) ok.kind (fun y hy e => by rw [ok.uniq y hy, e]) (thn (hi.run pins s σ H _ I ask) ?_)
  intro xv s1 hx
  refine thn hx ?_
  rintro itv s2 ⟨it, fp, tn, J, Ha, rfl, I2, T, t0, fz, asks⟩
  refine wpAny_newObj_type (newEnv_comp ?_)
  generalize eD : s2.heap.objs.size = D
  have dNew : Ha D = none := I2.hok.fresh (Nat.le_of_eq eD)
  obtain ⟨W, ⟨m0, w0⟩, turn⟩ := asks D dNew
  -- the new dict is laid down
  generalize e3 : ({ s2 with heap := s2.heap.push { cls := .type "dict", data := .dict #[] } } : Shared) = s3
  have I3 : Inv X pins σ (upd Ha D (rdO X.prog X.w D [])) s3 := by
    rw [← e3]
    refine I2.laid (t' := s2.toks) (fun b o e => Heap.get?_push_of_some _ e) (Nat.le_of_eq eD) ?_
    rw [← eD]
    exact rd_empty s2.heap I2.big
  have h3 : s3.heap = s2.heap.push { cls := .type "dict", data := .dict #[] } := by rw [← e3]
  have below : ∀ b ∈ fp, b < s2.heap.objs.size := by
    intro b hb
    obtain ⟨o, e, _⟩ := T.obj _ _ t0 b hb
    exact Heap.lt_size e
  have away : ∀ b ∈ fp, FpOk X pins (upd Ha D (rdO X.prog X.w D [])) b ∧ b < s3.heap.objs.size := by
    intro b hb
    have lt := below b hb
    refine ⟨⟨?_, (fz b hb).2⟩, ?_⟩
    · rw [upd_ne (by rw [← eD]; exact Nat.ne_of_lt lt)]
      exact (fz b hb).1
    · rw [h3, Heap.size_push]
      exact Nat.lt_succ_of_lt lt
  have t3 : tn 0 s3.heap := T.keep _ _ _ t0 fun b _ o e => by
    rw [h3]
    exact Heap.get?_push_of_some _ e
  have I4 := block_start I3 ok nd away
  generalize eH : upd Ha D (rdO X.prog X.w D []) = Hb at I3 I4 w0 away
  have pg := hg s3 Hb s3.heap.objs.size (cellsFrom (s3.heap.objs.size + 1) scope.names (cloFrom X.env.cells scope.names [])) fp
  have pk := hk s3 Hb s3.heap.objs.size (cellsFrom (s3.heap.objs.size + 1) scope.names (cloFrom X.env.cells scope.names [])) fp
  generalize eE : compEnvC scope (cellsFrom (s3.heap.objs.size + 1) scope.names (cloFrom X.env.cells scope.names [])) s3.heap.objs.size X.env = be at I4 pg pk
  show codeAny _ _ (.compStart (.DictComp kx (.Constant (.bool true) c cp) [⟨tg, iter, [], 0⟩] scope pos) 0 (.ref it) (.ref D)
    (compEnvC scope (cellsFrom (s3.heap.objs.size + 1) scope.names (cloFrom X.env.cells scope.names [])) s3.heap.objs.size X.env))
    (compPost (model X.prog X.w) X.A X.xe use Qf (.ref D) s3.heap.objs.size) { s3 with heap := pushCells (s3.heap.push { cls := .type "dict", data := .dict #[] }) scope.names }
  rw [eE]
  have locs : be.locals = s3.heap.objs.size := by
    subst eE
    rfl
  have none0 : ∀ b ∈ fp, Hb b = none := fun b hb => (away b hb).1.1
  generalize e4 : ({ s3 with heap := pushCells (s3.heap.push { cls := .type "dict", data := .dict #[] }) scope.names } : Shared) = s4 at I4 ⊢
  have t4 : tn 0 s4.heap := T.keep _ _ _ t3 fun b _ o e => by
    rw [← e4]
    exact pushCells_keeps _ _ _ _ (Heap.get?_push_of_some _ e)
  have stat : ∀ {σ' : L2.St} {Hc : Hp} {s' : Shared}, Inv (X.blk s3 Hb scope be fp) [] σ' Hc s' → (∀ b ∈ fp, Hc b = none) → ∀ b ∈ fp, FpOk (X.blk s3 Hb scope be fp) [] Hc b := by
    intro σ' Hc s' J' hn b hb
    exact ⟨hn b hb, (J'.ok.exf b hb).1, J'.ok.exfs b hb, .inl hb, fun x c e => (J'.ok.exf b hb).2 x c e, fun p hp => absurd (show p ∈ ([] : List (Addr × Obj)) ++ [] from hp) (by simp)⟩
  have loop : codeAny (model X.prog X.w) X.A (.compLoop (.DictComp kx (.Constant (.bool true) c cp) [⟨tg, iter, [], 0⟩] scope pos) 0 (.ref it) (.ref D) be) (compPost (model X.prog X.w) X.A X.xe use Qf (.ref D) s3.heap.objs.size) s4 := by
    refine compLoop_anyD (fun n s' => ∃ i Hc, Inv (X.blk s3 Hb scope be fp) [] (wipe σ (own.map (·.2))) Hc s' ∧ tn i s'.heap ∧ (∀ b ∈ fp, Hc b = none) ∧ W i n Hc) ?_ m0 ⟨0, Hb, I4, t4, none0, w0⟩
    rintro n s5 ⟨i, Hc, I5, t5, n5, w5⟩
    rcases turn i n Hc w5 with ⟨stop, fin⟩ | ⟨go, Nx, less, step⟩
    · refine thnF (T.done (X.blk s3 Hb scope be fp) rfl rfl rfl calm i [] s5 _ Hc (fun _ _ => False) I5 (stat I5 n5) t5 stop) ?_
      rintro r s6 ⟨rfl, I6⟩
      have I7 : Inv X pins σ Hc s6 := I3.call' (ch := fp) I6.os I6.base I6.hok I6.bare fun b hb => ⟨(away b hb).1.2.2.2.1, (away b hb).1.2.1, (away b hb).1.2.2.2.2.1, (away b hb).1.2.2.2.2.2⟩
      have nC : Hc s3.heap.objs.size = none := by
        have z : Hc be.locals = none := I6.free
        rw [locs] at z
        exact z
      obtain ⟨m, hn, _⟩ := I6.loc
      have hn : s6.heap.Ns be.locals m := hn
      rw [locs] at hn
      exact last D s3.heap.objs.size s6 m Hc I7 fin hn (I3.fpOk (Nat.le_refl _) nC)
    · refine thnF (T.item (X.blk s3 Hb scope be fp) rfl rfl rfl calm i [] s5 _ Hc (fun _ _ => False) I5 (stat I5 n5) t5 go) ?_
      rintro r s6 ⟨u, rfl, h6⟩
      refine thnF h6 ?_
      rintro _ s7 ⟨x, Hx, I7, r7, y7, t7, n7⟩
      have I7' := I7.pinned (stat I7 n7) (T.obj _ _ t7)
      refine thnF (pg.run _ s7 _ Hx x u _ I7' r7 (step x Hx y7)) ?_
      rintro _ s8 ⟨σ8, H8, I8, hw8, q8⟩
      refine thnF (wpAny_tests_nil (Q := fun b s9 => b = true ∧ s9 = s8) ⟨rfl, rfl⟩) ?_
      rintro b s9 ⟨rfl, rfl⟩
      rw [if_pos rfl]
      refine thnF (pk.run _ s9 σ8 H8 _ I8 q8) ?_
      rintro z s10 ⟨y, H9, I9, ry, q, rr, L, rfl, hD9, kt, hq, hz, nx⟩
      cases ry
      have pb : PE (X.blk s3 Hb scope be fp) (.Constant (.bool true) c cp) (tC (.bl true)) := pe_bl
      refine thnF (pb.run _ s10 σ8 H9 (fun v H' => v = .bl true ∧ H' = H9) I9 ⟨rfl, rfl⟩) ?_
      rintro z2 s11 ⟨yv, H11, I11, rv, rfl, rfl⟩
      cases rv
      refine rd_dictSet (X := X.blk s3 Hb scope be fp) room I11 hD9 kt hq hz fun s12 I12 => ?_
      obtain ⟨m', hm, w'⟩ := less _ nx
      have pinned : ∀ b ∈ fp, ∀ o, s7.heap.get? b = some o → s12.heap.get? b = some o ∧ (upd H11 D (rdO X.prog X.w D (putR L rr q))) b = none := by
        intro b hb o e
        have z := I12.pin (b, o) (List.mem_append_right _ (List.mem_append_right _ (mem_pinsAt hb e)))
        exact ⟨z.1, z.2.1⟩
      have len : (wipe σ (own.map (·.2))).length = σ8.length := by rw [← hw8, wipe_length]
      refine ⟨m', hm, i + 1, _, (I12.unpinned (pins := [])).weak len (fun j v e => ?_), T.keep _ _ _ t7 fun b hb o e => (pinned b hb o e).1, fun b hb => ?_, w'⟩
      · rw [← hw8] at e
        exact (wipe_some e).1
      · obtain ⟨o, e, _⟩ := T.obj _ _ t7 b hb
        exact (pinned b hb o e).2
  exact codeAny_compStart_dict loop (T.self X.A 0 _ _ _ t4 loop)
/-- d = {rule: True for rule in rules} on one line, d a local -/
theorem ps_setDcR {i : Nat} {y : Str} {py : Pos} {kx tg iter : Expr} {c : Nat} {cp : Pos} {scope : Scope} {own : List (Str × Nat)} {pos spos : Pos} {wi : TI} {g : TG} {tk : TE} (room : X.A.units + 8 < cLine) (calm : X.calm = true) (nd : X.N.Nodup)
    (hy : X.N[i]? = some y) (hyl : X.env.scope.names.lookup y = some .local) (sw : swapsWith (.DictComp kx (.Constant (.bool true) c cp) [⟨tg, iter, [], 0⟩] scope pos) (some (.Name y py)) spos.line X.env = pure true)
    (hi : PI X tg iter wi) (ok : BlkOk X.N X.env.scope scope own)
    (hg : ∀ (s : Shared) (H : Hp) (C : Addr) (cl : List (Str × Addr)) (fp : List Addr), PG (X.blk s H scope (compEnvC scope cl C X.env) fp) tg g)
    (hk : ∀ (s : Shared) (H : Hp) (C : Addr) (cl : List (Str × Addr)) (fp : List Addr), PE (X.blk s H scope (compEnvC scope cl C X.env) fp) kx tk)
    (plain : ∀ x, foldedSetIterable iter X.env x = pure x := by intro _; rfl) :
    PS X (.Assign [.Name y py] (.DictComp kx (.Constant (.bool true) c cp) [⟨tg, iter, [], 0⟩] scope pos) spos) (tAsg (tDcR X.prog X.w wi g tk (own.map (·.2))) (gName i)) := by
  refine ⟨fun pins s σ H D I h => ?_⟩
  rw [exec_Assign_Name_used _ _ _ _ sw]
  refine wpAny_bind (wpAny_standAt (wpAny_bind ?_))
  show wpAny _ X.A (do
    let _ ← comprehension (.DictComp kx (.Constant (.bool true) c cp) [⟨tg, iter, [], 0⟩] scope pos) scope X.env (firstIterPos [⟨tg, iter, [], 0⟩] pos) newDict false (eval iter X.env) (some (assign (.Name y py) X.env))) _ _ s
  have h' : tDcR X.prog X.w wi g tk (own.map (·.2)) σ H (fun x H1 => gName i x σ H1 D.nx) := h
  refine wpAny_bind (thn (dcR_core (Qf := fun _ s' => SP X pins D .next s') room calm nd I hi ok hg hk plain h' ?_) fun _ s' hq => wpAny_pure (wpAny_pure hq))
  intro L C s' m H' I' q hn fo
  show wpAny _ _ (assign (.Name y py) X.env (.ref L)) _ _ _
  obtain ⟨f0, f1, f2, f3, f4, f5⟩ := fo
  refine wpAny_assign_Name (store_ok2 (v := V.ref L) I' nd hy (.inl hyl) rfl (fun s2 I2 => ?_) (.inr hyl))
  rintro ⟨a, sb, ha⟩
  have apart : C ≠ a := by
    rcases ha with z | z
    · rw [z]
      exact f1
    · exact fun e => f4 y a z e.symm
  refine ⟨m, hn.sameBut sb apart, fun h3 sb3 => ⟨_, H', ?_, q⟩⟩
  exact I2.turned (t' := s2.toks) (fun b o hb e => (sb3.2 b hb).trans e) f0 f1 f3 f4 f5
theorem sw_dict {kx vx : Expr} {gs : List Comprehension} {scope : Scope} {pos py : Pos} {y : Str} {l : Nat} {env : Env} (hk : env.scope.kind = .function) (hy : env.scope.names.lookup y = some .local) (hl : (py.line == pos.line) = true)
    (ha : (scope.names.any fun (n, k) => n == y && (k == .local || k == .cell)) = false) : swapsWith (.DictComp kx vx gs scope pos) (some (.Name y py)) l env = pure true := by
  have ky : env.kindOf y = some .local := hy
  have kb : env.blockKind = .function := by
    unfold Env.blockKind
    rw [hk]
    rfl
  unfold swapsWith
  simp only [kb, ky, ha, Expr.pos, hl]
  rfl
/-- over a list of rules that stays: in the end D holds each of them once, in the order of their first coming -/
def putAll (rs : List (Rule × Addr)) (L : List (Rule × Addr)) : List (Rule × Addr) := rs.foldl (fun L p => putR L p.1 p.2) L
theorem dcR_list {P : Program} {w : World} {K : PySem.W.Frag} {a : Addr} {rs : List (Rule × Addr)} {i : Nat} {σ : L2.St} {vs : List Nat} {H1 : Hp} {D : Addr} {Qd : Hp → Prop} (hD : H1 D = none) (hl : SqL K H1 a (rs.map fun p => V.ref p.2)) (hk : KeyTups H1 rs) (hz : rs.length < sizeLine)
    (hi : i < (wipe σ vs).length) (hv : ∀ v, wipe ((wipe σ vs).set i (some v)) vs = wipe σ vs) (hd : Qd (upd H1 D (rdO P w D (putAll rs [])))) :
    ∃ W : Nat → Nat → Hp → Prop, (∃ m, W 0 m (upd H1 D (rdO P w D []))) ∧ ∀ j m Hj, W j m Hj →
      ((Itl K a).stop j Hj ∧ Qd Hj) ∨ ((Itl K a).go j Hj ∧ ∃ Nx : Hp → Prop, (∀ Hn, Nx Hn → ∃ m', m' < m ∧ W (j + 1) m' Hn) ∧
        ∀ x Hx, (Itl K a).yld j Hj x Hx → gName i x (wipe σ vs) Hx fun σ2 H2 => wipe σ2 vs = wipe σ vs ∧
          tVar i σ2 H2 fun y H3 => ∃ (q : Addr) (r : Rule) (L : List (Rule × Addr)), y = .ref q ∧ H3 D = some (rdO P w D L) ∧ KeyTups H3 L ∧ H3 q = some (.tup (ruleV r)) ∧ L.length < sizeLine ∧ Nx (upd H3 D (rdO P w D (putR L r q)))) := by
  have keepT : ∀ L : List (Rule × Addr), ∀ b xs, H1 b = some (.tup xs) → upd H1 D (rdO P w D L) b = some (.tup xs) := fun L b xs e => by
    rw [upd_ne (ne_of_none e hD)]
    exact e
  have keepL : ∀ L : List (Rule × Addr), SqL K (upd H1 D (rdO P w D L)) a (rs.map fun p => V.ref p.2) := fun L => by
    have sm : Same H1 (upd H1 D (rdO P w D L)) := same_new hD
    exact sm.seq hl
  have memP : ∀ (rs' L : List (Rule × Addr)), (∀ p ∈ rs', H1 p.2 = some (.tup (ruleV p.1))) → KeyTups H1 L → KeyTups H1 (putAll rs' L) := by
    intro rs'
    induction rs' with
    | nil => exact fun L _ k => k
    | cons p r ih => exact fun L h k => ih _ (fun z hz => h z (List.mem_cons_of_mem _ hz)) (k.put (h p (List.mem_cons_self ..)))
  have lenP : ∀ (rs' L : List (Rule × Addr)), (putAll rs' L).length ≤ L.length + rs'.length := by
    intro rs'
    induction rs' with
    | nil => exact fun L => Nat.le_refl _
    | cons p r ih =>
      intro L
      have h1 := ih (putR L p.1 p.2)
      have h2 := @putR_len L p.1 p.2
      show (putAll r (putR L p.1 p.2)).length ≤ L.length + (r.length + 1)
      omega
  refine ⟨fun j m Hj => m = rs.length - j ∧ j ≤ rs.length ∧ Hj = upd H1 D (rdO P w D (putAll (rs.take j) [])), ⟨rs.length, by simp, Nat.zero_le _, rfl⟩, ?_⟩
  rintro j m Hj ⟨rfl, hj, rfl⟩
  by_cases lt : j < rs.length
  · refine .inr ⟨⟨_, .ref rs[j].2, keepL _, by rw [List.getElem?_map, List.getElem?_eq_getElem lt]; rfl⟩, fun Hn => Hn = upd H1 D (rdO P w D (putAll (rs.take (j + 1)) [])), fun Hn e => ⟨rs.length - (j + 1), by omega, rfl, lt, e⟩, ?_⟩
    rintro x Hx ⟨rfl, y⟩
    have ex := y _ (keepL _)
    rw [List.getElem?_map, List.getElem?_eq_getElem lt] at ex
    have ex' : V.ref rs[j].2 = x := Option.some.inj ex
    subst ex'
    refine ⟨hv _, .ref rs[j].2, ?_, rs[j].2, rs[j].1, putAll (rs.take j) [], rfl, upd_same, ?_, ?_, ?_, ?_⟩
    · rw [List.getElem?_set_self hi]
    · exact (memP _ _ (fun p hp => hk p (List.mem_of_mem_take hp)) (fun p hp => absurd hp (List.not_mem_nil))).same (keepT _)
    · exact keepT _ _ _ (hk _ (List.getElem_mem lt))
    · have h1 := lenP (rs.take j) []
      have h2 : (rs.take j).length ≤ rs.length := by
        rw [List.length_take]
        omega
      simp only [List.length_nil] at h1
      omega
    · have e1 : rs.take (j + 1) = rs.take j ++ [rs[j]] := by
        rw [List.take_add_one, List.getElem?_eq_getElem lt]
        rfl
      rw [upd_upd, e1]
      unfold putAll
      rw [List.foldl_append]
      rfl
  · have e : j = rs.length := by omega
    subst e
    refine .inl ⟨⟨_, keepL _, by rw [List.length_map]; exact Nat.le_refl _⟩, ?_⟩
    rw [List.take_length]
    exact hd
end
end Wnd

/-! Windowsteps: sorted(rules, key=f), f a def of the text; sorted of pairs of a key and a rule. -/
namespace Wnd
open PySem PySem.Spec PyProof.Rows L2

def endS (e : Option Str) : Str := e.getD ⟨#[]⟩
/-- the key that orders rules: None ahead of all names -/
def rankV (r : Rule) : List V := [.str (endS r.low), .str (endS r.high), .int r.gap]
def rankD (r : Rule) : PyData := .tuple [.str (endS r.low), .str (endS r.high), .int r.gap]
/-- its texts are no longer than a line of the store -/
def Short (r : Rule) : Prop := (∀ t : Str, r.low = some t → t.length ≤ sizeLine) ∧ ∀ t : Str, r.high = some t → t.length ≤ sizeLine
def spRank : Sp := fun vs H Q _ => ∃ (q : Addr) (r : Rule), vs = [.ref q] ∧ H q = some (.tup (ruleV r)) ∧ Short r ∧ ∀ t, H t = none → Q (.ref t) (upd H t (.tup (rankV r)))
/-- the rules in ascending order (each with its address) -/
def inOrder (L : List (Rule × Addr)) : List (Rule × Addr) := L.mergeSort (W.dataLe false fun p => rankD p.1)

section
variable {P : Program} {w : World} {H : Hp} {h : Heap}
theorem rank_reads {t : Addr} {r : Rule} (ok : HOk P w H h) (e : H t = some (.tup (rankV r))) : Reads h (.ref t) (rankD r) [] := by
  obtain ⟨_, its, rel, o, h1, h2, n, h3⟩ := (show ObjOk P w H h t (.tup (rankV r)) from ok t _ e)
  cases rel with
  | cons r1 t1 =>
    cases t1 with
    | cons r2 t2 =>
      cases t2 with
      | cons r3 t3 =>
        cases t3
        obtain ⟨a, rfl⟩ := r1
        obtain ⟨b, rfl⟩ := r2
        obtain ⟨c, rfl⟩ := r3
        refine Reads.tuple (as := []) h1 h2 h3 ?_
        rw [List.toList_toArray]
        exact ReadsAll.cons (.str _ _) (ReadsAll.cons (.str _ _) (ReadsAll.cons (.int _ _) .nil))
end
theorem rank_alike (L : List (Rule × Addr)) : W.AllAlike (L.map fun p => rankD p.1) := W.AllAlike.of fun _ _ => by simp [W.alike, W.alikeAll, rankD]
theorem rank_sortable (L : List (Rule × Addr)) : W.Sortable (L.map fun p => rankD p.1) := W.Sortable.tuples fun _ => ⟨_, _, rfl⟩
theorem rank_depth (r : Rule) : (rankD r).depth = 1 := by simp [rankD, PyData.depth, PyData.depthAll]

section
variable {X : Cx}
/-- sorted(d, key=f): d a dict of rules -/
def rSortRank (P : Program) (w : World) (f : Addr) : List V → List V → Hp → VK → Prop := fun vs zs H Q => ∃ (d : Addr) (L : List (Rule × Addr)), vs = [.ref d] ∧ zs = [.ref f] ∧ H d = some (rdO P w d L) ∧ KeyTups H L ∧ (∀ p ∈ L, Short p.1) ∧ L.length < 1000000 ∧
  ∀ p H', Same H H' → H p = none → H' p = some (.lst ((inOrder L).map fun x => V.ref x.2)) → Q (.ref p) H'
/-- what stands while the keys are asked for -/
structure Asked (X : Cx) (pins : List (Addr × Obj)) (σ : L2.St) (H : Hp) (L : List (Rule × Addr)) (a kS : Addr) (e1 j : Nat) (s : Shared) : Prop where
  ex : ∃ (Hc : Hp) (kA : Array Value) (e : Nat), Inv X pins σ Hc s ∧ Same H Hc ∧ FpOk X pins Hc a ∧ FpOk X pins Hc kS ∧ s.heap.get? a = some (seqObj "list" #[] e1) ∧ s.heap.get? kS = some (seqObj "list" kA e) ∧
    W.EachIs (fun v (x : Rule × Addr) => ∃ t, v = Value.ref t ∧ Hc t = some (.tup (rankV x.1))) kA.toList (L.take j)

theorem ask_key {pins : List (Addr × Obj)} {σ : L2.St} {H : Hp} {s : Shared} {A : Around} {f a kS : Addr} {fd : FuncData} {k e1 j : Nat} {L : List (Rule × Addr)} {E : Value → Shared → Prop} (F : FnOk X.prog X.w X.K X.mg X.base CX0 k f fd ["rule"] spRank) (hb : Binds X.K fd ["rule"] []) (hr : Room k A) (fr : A.frames = X.A.frames)
    (kt : KeyTups H L) (sh : ∀ p ∈ L, Short p.1) (ne : kS ≠ a) (lt : j < L.length) (st : Asked X pins σ H L a kS e1 j s) :
    wpAny (model X.prog X.w) A (call (.ref f) [.ref L[j].2]) (fun u s' => ∃ (Hc : Hp) (kA : Array Value) (e : Nat) (t : Addr), u = .ref t ∧ Inv X pins σ Hc s' ∧ Same H Hc ∧ FpOk X pins Hc a ∧ FpOk X pins Hc kS ∧ s'.heap.get? a = some (seqObj "list" #[] e1) ∧
      s'.heap.get? kS = some (seqObj "list" kA e) ∧ Hc t = some (.tup (rankV L[j].1)) ∧ W.EachIs (fun v (x : Rule × Addr) => ∃ t, v = Value.ref t ∧ Hc t = some (.tup (rankV x.1))) kA.toList (L.take j)) E s := by
  obtain ⟨Hc, kA, e, I, sm, fa, fk, ha, hk, ks⟩ := st.ex
  have hq : Hc L[j].2 = some (.tup (ruleV L[j].1)) := sm _ _ (kt _ (List.getElem_mem lt))
  have both : ∀ b ∈ [a, kS], FpOk X pins Hc b := by
    intro b hb
    rcases List.mem_cons.mp hb with z | hb
    · rw [z]
      exact fa
    · rw [List.mem_singleton.mp hb]
      exact fk
  have stand : ∀ b ∈ [a, kS], ∃ o, s.heap.get? b = some o ∧ ∀ v, o.data ≠ .cell v := by
    intro b hb
    rcases List.mem_cons.mp hb with z | hb
    · rw [z]
      exact ⟨_, ha, fun v z => nomatch z⟩
    · rw [List.mem_singleton.mp hb]
      exact ⟨_, hk, fun v z => nomatch z⟩
  have Ip := I.pinned both stand
  have env : Env0 X.prog X.w X.K X.mg X.base A X.stack s Hc := by
    have z := I.env0
    exact ⟨fr.trans z.frames, z.mod, z.bs, z.bsz, z.funs, z.frf, z.hok, z.bare⟩
  refine wpAny_call (codeAny_mono (F.run A X.stack s Hc ⟨[.ref L[j].2], []⟩ [.ref L[j].2] [.ref L[j].2] (fun v H' => ∃ t, v = .ref t ∧ Hc t = none ∧ H' = upd Hc t (.tup (rankV L[j].1))) (fun _ _ _ => False) hr env
    (by have z := hb s [.ref L[j].2] I.kIn rfl; rwa [List.append_nil] at z) (.cons rfl .nil) ⟨_, _, rfl, hq, sh _ (List.getElem_mem lt), fun t ht => ⟨t, rfl, ht, rfl⟩⟩) fun r s' hr' => ?_)
  cases r with
  | error e => exact hr'.elim
  | ok fl =>
    cases fl with
    | next => exact False.elim hr'
    | brk => exact False.elim hr'
    | cont => exact False.elim hr'
    | ret u =>
      obtain ⟨v, H', I', rv, t, rfl, ht, rfl⟩ := Ip.after hr'
      cases rv
      have pa := I'.pin (a, seqObj "list" #[] e1) (List.mem_append_right _ (List.mem_append_right _ (mem_pinsAt (by simp) ha)))
      have pk := I'.pin (kS, seqObj "list" kA e) (List.mem_append_right _ (List.mem_append_right _ (mem_pinsAt (by simp) hk)))
      have s2 : Same Hc (upd Hc t (.tup (rankV L[j].1))) := same_new ht
      refine ⟨_, kA, e, t, rfl, I'.unpinned, sm.trans s2, ⟨pa.2.1, fa.2⟩, ⟨pk.2.1, fk.2⟩, pa.1, pk.1, upd_same, ks.mono fun v x => ?_⟩
      rintro ⟨t', rfl, ht'⟩
      exact ⟨t', rfl, s2 _ _ ht'⟩
theorem each_refs : ∀ L : List (Rule × Addr), W.EachIs (fun v (x : Rule × Addr) => v = Value.ref x.2) (L.map fun x => Value.ref x.2) L
  | [] => .nil
  | _ :: r => .cons rfl (each_refs r)
theorem each_refs_eq : ∀ {vs : List Value} {L : List (Rule × Addr)}, W.EachIs (fun v (x : Rule × Addr) => v = Value.ref x.2) vs L → vs = L.map fun x => Value.ref x.2
  | _, _, .nil => rfl
  | _, _, .cons h t => by
    rw [List.map_cons, h, each_refs_eq t]
theorem vals_addrs : ∀ L : List (Rule × Addr), Vals (L.map fun x => V.ref x.2) (L.map fun x => Value.ref x.2)
  | [] => .nil
  | _ :: r => .cons rfl (vals_addrs r)
theorem ask_keys {pins : List (Addr × Obj)} {σ : L2.St} {H : Hp} {s : Shared} {A : Around} {f a kS : Addr} {fd : FuncData} {k e1 : Nat} {L : List (Rule × Addr)} {E : Value → Shared → Prop} {R : PySem.Fin → Shared → Prop}
    (F : FnOk X.prog X.w X.K X.mg X.base CX0 k f fd ["rule"] spRank) (hb : Binds X.K fd ["rule"] []) (hr : Room k A) (fr : A.frames = X.A.frames)
    (kt : KeyTups H L) (sh : ∀ p ∈ L, Short p.1) (ne : kS ≠ a) (sz : L.length < 1000000) (st : Asked X pins σ H L a kS e1 0 s) (hu : A.units + 8 < cLine)
    (h : ∀ s' Hc (vs : List Value), Inv X pins σ Hc s' → Same H Hc → Hc a = none → vs.length = L.length → W.EachIs (fun v (x : Rule × Addr) => v = Value.ref x.2) vs (inOrder L) → (∃ c, s'.heap.get? a = some (seqObj "list" vs.toArray c)) → FpOk X pins Hc a → R (.done (.ret .none)) s') :
    wpAny (model X.prog X.w) A (ksk_rest a (.ref f) false (L.map fun x => Value.ref x.2).toArray e1 (.ref kS)) R E s := by
  unfold ksk_rest
  refine wpAny_bind (wpAny_rule ?_)
  rw [List.forIn_toArray]
  refine wpAny_bind (ksk_fold (fun j s' => Asked X pins σ H L a kS e1 j s') (L.map fun x => Value.ref x.2) 0 s st ?turn ?last)
  case turn =>
    intro j x s' hx st'
    rw [Nat.zero_add] at st' ⊢
    have lt : j < L.length := by
      have q := (List.getElem?_eq_some_iff.mp hx).1
      rwa [List.length_map] at q
    have ex : x = Value.ref L[j].2 := by
      rw [List.getElem?_map, List.getElem?_eq_getElem lt] at hx
      exact (Option.some.inj hx).symm
    subst ex
    refine wpAny_bind (wpAny_attempt (wpAny_mono (ask_key F hb hr fr kt sh ne lt st') ?_ fun _ _ z => z))
    rintro u s2 ⟨Hc, kA, e, t, rfl, I, sm, fa, fk, ha, hk, ht, ks⟩
    have len : kA.size ≤ 1000000 := by
      have q := ks.length
      rw [Array.length_toList, List.length_take] at q
      omega
    have sb := Heap.SameBut.update s2.heap kS (Obj.mapSeq (·.push (Value.ref t)))
    obtain ⟨c2, hc2⟩ : ∃ c2, (s2.heap.update kS (Obj.mapSeq (·.push (Value.ref t)))).get? kS = some (seqObj "list" (kA.push (Value.ref t)) c2) := ⟨_, get?_update_seq hk (·.push (Value.ref t))⟩
    refine wpAny_bind (listUpdate_at hk rfl ?_ (by rw [sizeLine_eq]; omega) (by rw [Array.size_push, sizeLine_eq]; omega))
    refine wpAny_pure ⟨rfl, ⟨Hc, kA.push (Value.ref t), c2, ?_, sm, fa, fk, (sb.2 a ne.symm).trans ha, hc2, ?_⟩⟩
    · obtain ⟨f0, f1, f2, f3, f4, f5⟩ := fk
      exact I.turned (t' := s2.toks) (fun b o hb e => (sb.2 b hb).trans e) f0 f1 f3 f4 f5
    · have e1 : L.take (j + 1) = L.take j ++ [L[j]] := by
        rw [List.take_add_one, List.getElem?_eq_getElem lt]
        rfl
      have e2 : (kA.push (Value.ref t)).toList = kA.toList ++ [Value.ref t] := by simp
      rw [e1, e2]
      exact W.each_snoc ⟨t, rfl, ht⟩ ks
  case last =>
    intro s' st'
    rw [Nat.zero_add, List.length_map] at st'
    obtain ⟨Hc, kA, e, I, sm, fa, fk, ha, hk, ks⟩ := st'.ex
    rw [List.take_length] at ks
    have sz1 : kA.size = L.length := by
      have q := ks.length
      rwa [Array.length_toList] at q
    refine wpAny_bind (listItems_at hk rfl ?_)
    obtain ⟨G, g1, g2⟩ := restrict s'.heap fun b => decide (b ≠ kS)
    have gk : G.get? kS = none := g2 kS (decide_eq_false fun z => z rfl)
    have kp : W.KeepsBut a G s'.heap := fun b o _ e => by
      by_cases hb : b = kS
      · rw [hb, gk] at e
        cases e
      · rw [← g1 b (decide_eq_true hb)]
        exact e
    have rd : W.EachIs (fun v (x : Rule × Addr) => ∃ as, Reads s'.heap v (rankD x.1) as) kA.toList L := ks.mono fun v x => by
      rintro ⟨t, rfl, ht⟩
      exact ⟨[], rank_reads I.hok ht⟩
    have rd' : W.EachIs (fun v d => ∃ as, Reads s'.heap v d as) kA.toList (L.map fun p => rankD p.1) := W.each_map (R := fun v d => ∃ as, Reads s'.heap v d as) (fun p : Rule × Addr => rankD p.1) rd
    have so : W.SortsAt X.prog X.w A s' (W.dataKind s'.heap (L.map fun p => rankD p.1)) kA.toList := W.SortsAt.data rd' (rank_alike L) (rank_sortable L) (by
      intro d hd
      obtain ⟨p, _, rfl⟩ := List.mem_map.mp hd
      rw [rank_depth]
      omega)
    have vl : (L.map fun x => Value.ref x.2).length = L.length := List.length_map ..
    refine W.keyH_end (vs := L.map fun x => Value.ref x.2) kp gk hk ha ne so (by rw [sz1, vl]) (by rw [vl, sizeLine_eq]; omega) fun h' tk c kh hn => ?_
    have ko : W.KeyedOut false (L.map fun p => rankD p.1) (L.map fun x => Value.ref x.2) (W.sortVals (W.dataKind s'.heap (L.map fun p => rankD p.1)) false kA.toList (L.map fun x => Value.ref x.2)) := ⟨_, _, rank_alike L, rfl, rd'⟩
    have e0 : W.EachIs (fun v (x : Rule × Addr) => v = Value.ref x.2) (L.map fun x => Value.ref x.2) L := each_refs L
    have I2 : Inv X pins σ Hc { s' with heap := h', toks := tk } := by
      refine I.turnedL (ch := [a, kS]) (fun b o hb e => ?_) (fun b hb => ?_)
      · have n1 : b ≠ a := fun z => hb (by rw [z]; simp)
        have n2 : b ≠ kS := fun z => hb (by rw [z]; simp)
        exact kh b o n1 ((g1 b (decide_eq_true n2)).trans e)
      · rcases List.mem_cons.mp hb with z | hb
        · rw [z]
          exact fa
        · rw [List.mem_singleton.mp hb]
          exact fk
    exact h _ Hc _ I2 sm fa.1 (by rw [ko.length (by rw [List.length_map, vl]), vl]) (W.keyedOut_each (fun p : Rule × Addr => rankD p.1) ko e0) ⟨c, hn⟩ fa
theorem inOrder_len (L : List (Rule × Addr)) : (inOrder L).length = L.length := List.length_mergeSort _
/-- sorted(d, key=f), d a dict of rules, f a def of the text that gives the ranks -/
theorem cr_sortedRank {f : Addr} {fd : FuncData} {k : Nat} (F : FnOk X.prog X.w X.K X.mg X.base CX0 k f fd ["rule"] spRank) (hb : Binds X.K fd ["rule"] []) (hr : Room (k + 2) X.A) (calm : X.calm = true) :
    CallRK X (.builtin "sorted") [Str.ofString "key"] (rSortRank X.prog X.w f) := by
  intro pins s σ H xs zs us ws Q I rx rz h
  obtain ⟨d, L, rfl, rfl, hd, kt, sh, sz, q⟩ := h
  obtain ⟨u, rfl, ru⟩ := rx.one
  cases ru
  obtain ⟨z, rfl, rw'⟩ := rz.one
  cases rw'
  have R := rd_at I.hok hd
  obtain ⟨o, es, ep, ho, hx, hdt, hes⟩ := R.raw
  have len : es.size = L.length := by
    rw [size_of_entries hes]
    unfold rdX
    rw [List.length_map]
  have r1 : Room (k + 1) X.A.in1 := hr.in1
  have r2 : Room k X.A.in1.in1 := r1.in1
  show wpAny _ _ (call (.builtin "sorted") [.ref d] [(Str.ofString "key", .ref f)]) _ _ s
  refine PyProof.Rows.call_function_entry_kw PyProof.Rows.kind_sorted PyProof.Rows.plain_sorted PyProof.Rows.entry_sorted (PyProof.Rows.ksk_s1 _ _) ?_
  unfold Builtin.«sorted»
  refine wpAny_bind (m := checkCount "sorted" 1 1 _) (wpAny_pure ?_)
  refine wpAny_bind (W.kdu_collect (A := X.A.in1) (KdlSrc.rawDict (es := es) (ep := ep) R.lo) (I.ok.hd calm) ⟨o, ho, hx, hdt⟩ (by rw [len, sizeLine_eq]; omega) ?_)
  intro h1 tk1 acc kp1 it
  have eacc : acc.toList = L.map fun x => Value.ref x.2 := by
    apply List.ext_getElem?
    intro j
    have l1 : acc.toList.length = L.length := by rw [Array.length_toList, it.1, len]
    by_cases hj : j < L.length
    · have hv : acc.toList[j]? = some acc.toList[j] := List.getElem?_eq_getElem (by omega)
      obtain ⟨hi, e⟩ := it.2 j acc.toList[j] (by rw [← Array.getElem?_toList]; exact hv)
      have q1 := entry_at hes j
      rw [Array.getElem?_eq_getElem hi] at q1
      unfold rdX at q1
      rw [List.getElem?_map, List.getElem?_eq_getElem hj] at q1
      have q2 : es[j] = entryOfKey (nestedKind X.prog X.w) (ruleK L[j].1, L[j].2, Value.bool true) := Option.some.inj q1
      rw [hv, e, q2, List.getElem?_map, List.getElem?_eq_getElem hj]
      rfl
    · rw [List.getElem?_eq_none (by omega), List.getElem?_eq_none (by rw [List.length_map]; omega)]
  rw [eacc]
  have vl : (L.map fun x => Value.ref x.2).length = L.length := List.length_map ..
  refine wpAny_bind (wpAny_newList ?_ (by rw [vl, sizeLine_eq]; omega))
  generalize ea : h1.objs.size = a
  have I1 : Inv X pins σ H { s with heap := h1, toks := tk1 } := I.kept kp1
  have ha0 : (h1.push (seqObj "list" (L.map fun x => Value.ref x.2).toArray 0)).get? a = some (seqObj "list" (L.map fun x => Value.ref x.2).toArray 0) := by
    rw [← ea]
    exact Heap.get?_push_size _ rfl
  refine wpAny_bind (wpAny_holding (PyProof.Rows.wpAny_call_entry_kw PyProof.Rows.slot_list_sort ⟨_, ha0, rfl⟩ PyProof.Rows.entry_list_sort ?_ (PyProof.Rows.ksk_l1 _ _)))
  rw [ksk_t1]
  unfold ksk_tree
  obtain ⟨e1, ha1⟩ : ∃ e1, ((h1.push (seqObj "list" (L.map fun x => Value.ref x.2).toArray 0)).update a (Obj.mapSeq fun _ => (#[] : Array Value))).get? a = some (seqObj "list" #[] e1) := ⟨_, get?_update_seq ha0 fun _ => #[]⟩
  have sb := Heap.SameBut.update (h1.push (seqObj "list" (L.map fun x => Value.ref x.2).toArray 0)) a (Obj.mapSeq fun _ => (#[] : Array Value))
  generalize eh2 : ((h1.push (seqObj "list" (L.map fun x => Value.ref x.2).toArray 0)).update a (Obj.mapSeq fun _ => (#[] : Array Value))) = h2 at ha1 sb
  have kp2 : ∀ b u, s.heap.get? b = some u → h2.get? b = some u := by
    intro b u e
    have lt := Heap.lt_size (kp1 b u e)
    exact (sb.2 b (Nat.ne_of_lt (by rw [← ea]; exact lt))).trans (Heap.get?_push_of_some _ (kp1 b u e))
  refine wpAny_bind (listItems_at ha0 rfl ?_)
  refine wpAny_bind (listUpdate_at ha0 rfl ?_ (by rw [List.size_toArray, vl, sizeLine_eq]; omega) (Nat.zero_le _))
  simp only [eh2]
  refine wpAny_bind (seqEpoch_at ha1 rfl ?_)
  refine wpAny_bind (wpAny_newTuple ?_ (by show (L.map fun x => Value.ref x.2).length ≤ _; rw [vl, sizeLine_eq]; omega))
  refine wpAny_bind (wpAny_newList ?_ (Nat.zero_le _))
  refine wpAny_holding ?_
  have kp4 : ∀ b u, s.heap.get? b = some u → ((h2.push (seqObj "tuple" (L.map fun x => Value.ref x.2).toArray 0)).push (seqObj "list" #[] 0)).get? b = some u := fun b u e =>
    Heap.get?_push_of_some _ (Heap.get?_push_of_some _ (kp2 b u e))
  have I4 : Inv X pins σ H { s with heap := (h2.push (seqObj "tuple" (L.map fun x => Value.ref x.2).toArray 0)).push (seqObj "list" #[] 0), toks := tk1 } := I.kept kp4
  have lt2 : a < h2.objs.size := Heap.lt_size ha1
  have s2 : (h2.push (seqObj "tuple" (L.map fun x => Value.ref x.2).toArray 0)).objs.size = h2.objs.size + 1 := size_push' ..
  have nH : H a = none := I1.hok.fresh (Nat.le_of_eq ea)
  have fa : FpOk X pins H a := I1.fpOk (Nat.le_of_eq ea) nH
  have I3 : Inv X pins σ H { s with heap := h2.push (seqObj "tuple" (L.map fun x => Value.ref x.2).toArray 0), toks := tk1 } := I.kept fun b u e => Heap.get?_push_of_some _ (kp2 b u e)
  have fk : FpOk X pins H (h2.push (seqObj "tuple" (L.map fun x => Value.ref x.2).toArray 0)).objs.size := I3.fpOk (Nat.le_refl _) (I3.hok.fresh (Nat.le_refl _))
  refine ask_keys (H := H) (L := L) (k := k) (σ := σ) (pins := pins) F hb r2 rfl kt sh (Nat.ne_of_gt (by rw [s2]; exact Nat.lt_succ_of_lt lt2)) sz ⟨⟨H, #[], 0, I4, Same.refl H, fa, fk, Heap.get?_push_of_some _ (Heap.get?_push_of_some _ ha1), Heap.get?_push_size _ rfl, .nil⟩⟩ (by have := r2.units; omega) ?_
  intro s' Hc vs Ic sm na vlen ev ⟨c, hac⟩ fac
  refine ⟨.none, rfl, wpAny_pure ⟨_, rfl, ?_⟩⟩
  have evs : vs = (inOrder L).map fun x => Value.ref x.2 := each_refs_eq ev
  subst evs
  -- the list is tracked from here on
  obtain ⟨G, g1, g2⟩ := restrict s'.heap fun b => decide (b ≠ a)
  have ga : G.get? a = none := g2 a (decide_eq_false fun z => z rfl)
  have gk : ∀ b u, G.get? b = some u → s'.heap.get? b = some u := by
    intro b u e
    by_cases hb : b = a
    · rw [hb, ga] at e
      cases e
    · rw [← g1 b (decide_eq_true hb)]
      exact e
  have Ig : Inv X pins σ Hc { s' with heap := G } := by
    obtain ⟨f0, f1, f2, f3, f4, f5⟩ := fac
    exact Ic.turned (t' := s'.toks) (fun b o hb e => (g1 b (decide_eq_true hb)).trans e) f0 f1 f3 f4 f5
  have Il : Inv X pins σ (upd Hc a (.lst ((inOrder L).map fun x => V.ref x.2))) s' := by
    refine Ig.laidN (h' := s'.heap) (t' := s'.toks) gk ga na ⟨?_, _, c, vals_addrs _, hac⟩
    rw [List.length_map, inOrder_len, sizeLine_eq]
    omega
  exact ⟨.ref a, _, Il, rfl, q a _ (fun b u e => by rw [upd_ne (fun z => by rw [z, nH] at e; cases e)]; exact sm b u e) nH upd_same⟩
end
end Wnd

/-! Windowsteps: sorted of pairs (rank, rule). -/
namespace Wnd
open PySem PySem.Spec PyProof.Rows L2

/-- a pair (rank, rule): its address, the rule, the rule's own address -/
abbrev Pr := Addr × Rule × Addr
def PairAt' (H : Hp) (x : Pr) : Prop := ∃ k, H x.1 = some (.tup [.ref k, .ref x.2.2]) ∧ H k = some (.tup (rankV x.2.1)) ∧ H x.2.2 = some (.tup (ruleV x.2.1))
theorem PairAt'.same {H H' : Hp} {x : Pr} (p : PairAt' H x) (s : ∀ b xs, H b = some (.tup xs) → H' b = some (.tup xs)) : PairAt' H' x := by
  obtain ⟨k, a, b, c⟩ := p
  exact ⟨k, s _ _ a, s _ _ b, s _ _ c⟩
/-- no name is the empty text -/
def Named (r : Rule) : Prop := r.low ≠ some ⟨#[]⟩ ∧ r.high ≠ some ⟨#[]⟩
theorem endS_inj : ∀ {a b : Option Str}, a ≠ some ⟨#[]⟩ → b ≠ some ⟨#[]⟩ → endS a = endS b → a = b
  | none, none, _, _, _ => rfl
  | none, some y, _, h, e => absurd (congrArg some (show y = ⟨#[]⟩ from e.symm)) h
  | some x, none, h, _, e => absurd (congrArg some (show x = ⟨#[]⟩ from e)) h
  | some x, some y, _, _, e => congrArg some e
theorem eqv_rank (a b : Rule) : PyData.eqv (rankD a) (rankD b) = (endS a.low == endS b.low && (endS a.high == endS b.high && (a.gap == b.gap && true))) := by
  simp [rankD, PyData.eqv, PyData.eqvAll]
theorem rank_inj {a b : Rule} (ha : Named a) (hb : Named b) (e : PyData.eqv (rankD a) (rankD b) = true) : a = b := by
  rw [eqv_rank] at e
  simp only [Bool.and_eq_true, beq_iff_eq] at e
  obtain ⟨e1, e2, e3, _⟩ := e
  cases a with | mk l1 h1 g1 =>
  cases b with | mk l2 h2 g2 =>
  have f1 : l1 = l2 := endS_inj ha.1 hb.1 e1
  have f2 : h1 = h2 := endS_inj ha.2 hb.2 e2
  have f3 : g1 = g2 := e3
  rw [f1, f2, f3]
theorem eqv_rank_self (a : Rule) : PyData.eqv (rankD a) (rankD a) = true := by
  rw [eqv_rank]
  simp
theorem alike_rank (a b : Rule) : W.alike (rankD a) (rankD b) = true := by simp [W.alike, W.alikeAll, rankD]

noncomputable def pairKind (L : List Pr) : PyProof.Rows.KeyKind where
  toKeyOrd := listOrd itemOrd
  keyOf v := open Classical in if q : ∃ x, x ∈ L ∧ v = Value.ref x.1 then some (W.keyToks (rankD q.choose.2.1)) else none
  dflt := ([] : List (Int ⊕ List Nat))
section
variable {P : Program} {w : World} {H : Hp} {h : Heap} {L : List Pr}
theorem pair_same {x y : Pr} (hx : PairAt' H x) (hy : PairAt' H y) (nx : Named x.2.1) (ny : Named y.2.1) (e : x.1 = y.1) : x.2.1 = y.2.1 := by
  obtain ⟨k, a, b, c⟩ := hx
  obtain ⟨k', a', b', c'⟩ := hy
  rw [e, a'] at a
  injection a with a
  injection a with a
  injection a with a1 a2
  injection a2 with a2 a3
  injection a2 with a2
  rw [← a2, c'] at c
  injection c with c
  injection c with c
  unfold ruleV at c
  injection c with c1 c
  injection c with c2 c
  injection c with c3 _
  injection c3 with c3
  cases hx : x.2.1 with | mk l1 h1 g1 =>
  cases hy : y.2.1 with | mk l2 h2 g2 =>
  rw [hx, hy] at c1 c2 c3
  have f1 : l2 = l1 := endV_inj c1
  have f2 : h2 = h1 := endV_inj c2
  have f3 : g2 = g1 := c3
  rw [f1, f2, f3]
theorem pairKind_some (hp : ∀ x ∈ L, PairAt' H x) (hn : ∀ x ∈ L, Named x.2.1) {x : Pr} (hx : x ∈ L) : (pairKind L).keyOf (Value.ref x.1) = some (W.keyToks (rankD x.2.1)) := by
  have q : ∃ y, y ∈ L ∧ Value.ref x.1 = Value.ref y.1 := ⟨x, hx, rfl⟩
  have e : (pairKind L).keyOf (Value.ref x.1) = some (W.keyToks (rankD q.choose.2.1)) := by
    show (open Classical in if q : ∃ y, y ∈ L ∧ Value.ref x.1 = Value.ref y.1 then some (W.keyToks (rankD q.choose.2.1)) else none) = _
    rw [dif_pos q]
  obtain ⟨h1, h2⟩ := q.choose_spec
  injection h2 with h2
  rw [e, pair_same (hp _ h1) (hp _ hx) (hn _ h1) (hn _ hx) h2.symm]
theorem pairKind_inv {v : Value} {k : List (Int ⊕ List Nat)} (e : (pairKind L).keyOf v = some k) : ∃ x, x ∈ L ∧ v = Value.ref x.1 ∧ k = W.keyToks (rankD x.2.1) := by
  by_cases q : ∃ y, y ∈ L ∧ v = Value.ref y.1
  · have e' : (pairKind L).keyOf v = some (W.keyToks (rankD q.choose.2.1)) := by
      show (open Classical in if q : ∃ y, y ∈ L ∧ v = Value.ref y.1 then some (W.keyToks (rankD q.choose.2.1)) else none) = _
      rw [dif_pos q]
    obtain ⟨h1, h2⟩ := q.choose_spec
    rw [e'] at e
    exact ⟨_, h1, h2, (Option.some.inj e).symm⟩
  · have e' : (pairKind L).keyOf v = none := by
      show (open Classical in if q : ∃ y, y ∈ L ∧ v = Value.ref y.1 then some (W.keyToks (rankD q.choose.2.1)) else none) = _
      rw [dif_neg q]
      rfl
    rw [e'] at e
    cases e
end
section
variable {X : Cx} {pins : List (Addr × Obj)} {σ : L2.St} {H : Hp} {s : Shared} {L : List Pr} {A : Around}
theorem tup_at {P : Program} {w : World} {h : Heap} {a : Addr} {xs : List V} (ok : HOk P w H h) (e : H a = some (.tup xs)) : ∃ o its n, h.get? a = some o ∧ o.cls = .type "tuple" ∧ o.data = .seq its n ∧ Vals xs its.toList := by
  obtain ⟨_, its, rel, o, h1, h2, n, h3⟩ := (show ObjOk P w H h a (.tup xs) from ok a _ e)
  exact ⟨o, its.toArray, n, h1, h2, h3, by rw [List.toList_toArray]; exact rel⟩
theorem pair_tups {P : Program} {w : World} {h : Heap} (ok : HOk P w H h) : ∀ {L : List Pr}, (∀ x ∈ L, PairAt' H x) → ∃ fs, W.KatTups h (L.map fun x => Value.ref x.1) fs ∧ fs.length = L.length ∧ ∀ f ∈ fs, ∃ k xs, f = Value.ref k ∧ H k = some (.tup xs)
  | [], _ => ⟨[], .nil, rfl, fun f hf => nomatch hf⟩
  | x :: r, hp => by
    obtain ⟨fs, h1, h2, h3⟩ := pair_tups ok (L := r) fun y hy => hp y (List.mem_cons_of_mem _ hy)
    obtain ⟨k, a, b, c⟩ := hp x (List.mem_cons_self ..)
    obtain ⟨o, its, n, q1, q2, q3, rel⟩ := tup_at ok a
    cases hl : its.toList with
    | nil =>
      rw [hl] at rel
      cases rel
    | cons u t =>
      rw [hl] at rel
      cases rel with
      | cons r1 t1 =>
        cases r1
        refine ⟨_ :: fs, .cons q1 q2 q3 (by rw [← Array.getElem?_toList, hl]; rfl) h1, by rw [List.length_cons, List.length_cons, h2], fun f hf => ?_⟩
        rcases List.mem_cons.mp hf with rfl | hf
        · exact ⟨k, _, rfl, b⟩
        · exact h3 f hf
theorem pair_lt (ok : HOk X.prog X.w H s.heap) (hu : A.units + 8 < cLine) {x y : Pr} (hx : PairAt' H x) (hy : PairAt' H y) (nx : Named x.2.1) (ny : Named y.2.1) {E : Value → Shared → Prop} {Q : Bool → Shared → Prop} {b : Bool} (hb : b = false)
    (q : Q (PyProof.Rows.lexLt itemOrd (W.keyToks (rankD x.2.1)) (W.keyToks (rankD y.2.1))) s) : wpAny (model X.prog X.w) A (keyLt' (tuples' b) (.ref x.1) (.ref y.1)) Q E s := by
  subst hb
  obtain ⟨k, a, c, d⟩ := hx
  obtain ⟨k', a', c', d'⟩ := hy
  obtain ⟨o, its, n, q1, q2, q3, rel⟩ := tup_at ok a
  obtain ⟨o', its', n', q1', q2', q3', rel'⟩ := tup_at ok a'
  have sz : its.size = 2 := by rw [← Array.length_toList, ← rel.length]; rfl
  have sz' : its'.size = 2 := by rw [← Array.length_toList, ← rel'.length]; rfl
  refine W.kat_lt q1 q3 q1' q3' ?_
  rw [sz, sz']
  have dx := rank_depth x.2.1
  have rk := rank_reads ok c
  have rk' := rank_reads ok c'
  cases hl : its.toList with
  | nil => rw [hl] at rel; cases rel
  | cons u t =>
    rw [hl] at rel
    cases rel with
    | cons r1 t1 =>
      cases r1
      cases t1 with
      | cons r2 t2 =>
        cases r2
        cases t2
        cases hl' : its'.toList with
        | nil => rw [hl'] at rel'; cases rel'
        | cons u' t' =>
          rw [hl'] at rel'
          cases rel' with
          | cons r1' t1' =>
            cases r1'
            cases t1' with
            | cons r2' t2' =>
              cases r2'
              cases t2'
              rw [List.zip_cons_cons]
              have room : A.units + min (rankD x.2.1).depth (rankD y.2.1).depth < cLine := by rw [rank_depth, rank_depth]; show A.units + 1 < _; omega
              refine W.kat_cons (W.eqAt_alike (rankD x.2.1) (rankD y.2.1) A s _ _ _ _ rk rk' (alike_rank _ _) room X.prog X.w _ _ ?_)
              cases he : PyData.eqv (rankD x.2.1) (rankD y.2.1) with
              | true =>
                have er := rank_inj nx ny he
                refine W.kat_yes ?_
                rw [List.zip_cons_cons]
                refine W.kat_cons ?_
                have k1 : NestedIs s.heap (ruleK x.2.1) (.ref x.2.2) := (rule_is ok d).1
                have k2 : NestedIs s.heap (ruleK y.2.1) (.ref y.2.2) := (rule_is ok d').1
                have ke := eqAt_key (ruleK x.2.1) (ruleK y.2.1) A s _ _ k1 k2 (by rw [ruleK_depth, ruleK_depth]; show A.units + 1 < _; omega) X.prog X.w
                  (fun _ _ => False) (W.KatGo X.prog X.w A false (decide (2 < 2)) Q (.ref x.2.2) (.ref y.2.2) ([].zip []) (0 + 1)) ?_
                · exact ke
                · rw [er, NestedKey.beq_self]
                  refine W.kat_yes ?_
                  refine W.kat_nil ?_
                  rw [er, PyProof.Rows.lex_irrefl] at q
                  exact q
              | false =>
                refine W.kat_no (W.oneLt_alike (fun hbi t => ?_) rk rk' (alike_rank _ _) (fun z => nomatch z) room q)
                rw [Bool.and_eq_true] at hbi
                exact absurd hbi.1 Bool.false_ne_true
/-- the pairs in ascending order -/
def pairsInOrder (L : List Pr) : List Pr := L.mergeSort (W.dataLe false fun x => rankD x.2.1)
theorem pairs_sort (ok : HOk X.prog X.w H s.heap) (hu : A.units + 8 < cLine) (hp : ∀ x ∈ L, PairAt' H x) (hn : ∀ x ∈ L, Named x.2.1) : W.SortsAt X.prog X.w A s (pairKind L) (L.map fun x => Value.ref x.1) := by
  refine ⟨fun v hv => ?_, tuples' (Value.type "tuple" != Value.type "tuple"), fun E x y a b Q ha hb q => ?_, fun h2 E Q q => ?_⟩
  · obtain ⟨x, hx, rfl⟩ := List.mem_map.mp hv
    exact ⟨_, pairKind_some hp hn hx⟩
  · obtain ⟨x', hx, rfl, rfl⟩ := pairKind_inv ha
    obtain ⟨y', hy, rfl, rfl⟩ := pairKind_inv hb
    exact pair_lt ok hu (hp _ hx) (hp _ hy) (hn _ hx) (hn _ hy) (by decide) q
  · obtain ⟨fs, t1, t2, t3⟩ := pair_tups ok hp
    rw [List.length_map] at h2
    refine W.kat_kind (T := .type "tuple") t1 (by omega) (fun f hf => ?_) (beq_self_eq_true _) q
    obtain ⟨k, xs, rfl, e⟩ := t3 f hf
    obtain ⟨o, its, n, q1, q2, _⟩ := tup_at ok e
    show W.Looks _ _ (typeOf (Value.ref k)) (Value.type "tuple")
    exact q2 ▸ (W.Looks.ld q1).andThen .now
def rSortPairs (K : PySem.W.Frag) : List V → Hp → VK → Prop := fun vs H Q => ∃ (a : Addr) (L : List Pr), vs = [.ref a] ∧ SqL K H a (L.map fun x => V.ref x.1) ∧ (∀ x ∈ L, PairAt' H x) ∧ (∀ x ∈ L, Named x.2.1) ∧ L.length < 1000000 ∧
  ∀ p, H p = none → Q (.ref p) (upd H p (.lst ((pairsInOrder L).map fun x => V.ref x.1)))
theorem pairs_refs : ∀ L : List Pr, Vals (L.map fun x => V.ref x.1) (L.map fun x => Value.ref x.1)
  | [] => .nil
  | _ :: r => .cons rfl (pairs_refs r)
theorem pairs_refs_eq : ∀ {L : List Pr} {us : List Value}, Vals (L.map fun x => V.ref x.1) us → us = L.map fun x => Value.ref x.1
  | [], _, .nil => rfl
  | x :: r, _, .cons h t => by
    cases h
    rw [List.map_cons, pairs_refs_eq t]
theorem each_prs : ∀ L : List Pr, W.EachIs (fun v (x : Pr) => v = Value.ref x.1) (L.map fun x => Value.ref x.1) L
  | [] => .nil
  | _ :: r => .cons rfl (each_prs r)
theorem each_prs_eq : ∀ {vs : List Value} {L : List Pr}, W.EachIs (fun v (x : Pr) => v = Value.ref x.1) vs L → vs = L.map fun x => Value.ref x.1
  | _, _, .nil => rfl
  | _, _, .cons h t => by
    rw [List.map_cons, h, each_prs_eq t]
theorem each_keys' {L0 : List Pr} (hp : ∀ x ∈ L0, PairAt' H x) (hn : ∀ x ∈ L0, Named x.2.1) : ∀ {L : List Pr}, (∀ x ∈ L, x ∈ L0) → W.EachIs (fun v (x : Pr) => (pairKind L0).keyOf v = some (W.keyToks (rankD x.2.1))) (L.map fun x => Value.ref x.1) L
  | [], _ => .nil
  | x :: r, h => .cons (pairKind_some hp hn (h x (List.mem_cons_self ..))) (each_keys' hp hn fun y hy => h y (List.mem_cons_of_mem _ hy))
/-- sorted(ps), ps pairs of a rank and a rule -/
theorem cr_sortedPairs {k : Nat} (hr : Room k X.A) : CallR X (.builtin "sorted") (rSortPairs X.K) := by
  intro pins s σ H xs us Q I rx h
  obtain ⟨a, L, rfl, hs, hp, hn, sz, q⟩ := h
  obtain ⟨u, rfl, ru⟩ := rx.one
  cases ru
  obtain ⟨its, rel, pl, hz⟩ := I.list hs
  have hl := pl.isList
  have ei := pairs_refs_eq rel
  subst ei
  have vl : (L.map fun x => Value.ref x.1).length = L.length := List.length_map ..
  have big : ∀ b u, s.heap.get? b = some u → (W.sortingHeap (W.copyHeap s.heap (L.map fun x => Value.ref x.1)) (s.heap.objs.size + 1) (L.map fun x => Value.ref x.1)).get? b = some u := fun b u e => W.sorting_copy_old e
  have ok2 : HOk X.prog X.w H (W.sortingHeap (W.copyHeap s.heap (L.map fun x => Value.ref x.1)) (s.heap.objs.size + 1) (L.map fun x => Value.ref x.1)) := I.hok.kept big
  refine W.sorted_vals hl (pairs_sort (s := { s with heap := _ }) ok2 (by have := hr.un; show X.A.units + 1 + 1 + 8 < _; omega) hp hn) (by rw [vl, sizeLine_eq]; omega) ?_
  have e2 : W.EachIs (fun v (x : Pr) => v = Value.ref x.1) (W.sortVals (pairKind L) false (L.map fun x => Value.ref x.1) (L.map fun x => Value.ref x.1)) (pairsInOrder L) :=
    W.sortVals_each (κ := pairKind L) (fun x : Pr => W.keyToks (rankD x.2.1)) (each_prs L) (each_keys' hp hn fun y hy => hy)
  have e3 := each_prs_eq e2
  rw [e3]
  obtain ⟨ep, he⟩ := PyProof.Rows.sortedAll_at s.heap (L.map fun x => Value.ref x.1) ((pairsInOrder L).map fun x => Value.ref x.1).toArray
  have nH : H (s.heap.objs.size + 1) = none := I.hok.fresh (Nat.le_succ _)
  refine ⟨.ref _, upd H (s.heap.objs.size + 1) (.lst ((pairsInOrder L).map fun x => V.ref x.1)), I.laid (t' := s.toks) (fun _ _ => PyProof.Rows.sortedAll_old) (Nat.le_succ _) ⟨?_, _, ep, pairs_refs _, he⟩, rfl, q _ nH⟩
  have l1 : (pairsInOrder L).length = L.length := List.length_mergeSort _
  rw [List.length_map, l1, sizeLine_eq]
  omega
end
end Wnd

/-! Windowsteps: dict([(rule, True) for ..]); walks over a dict of rules. -/
namespace Wnd
open PySem PySem.Spec PyProof.Rows L2
theorem putAll_nodup : ∀ (rs L : List (Rule × Addr)), (L.map (·.1)).Nodup → ((putAll rs L).map (·.1)).Nodup
  | [], _, h => h
  | _ :: r, _, h => putAll_nodup r _ (putR_nodup h)
theorem putAll_len : ∀ (rs L : List (Rule × Addr)), (putAll rs L).length ≤ L.length + rs.length
  | [], L => Nat.le_refl _
  | p :: r, L => by
    have h1 := putAll_len r (putR L p.1 p.2)
    have h2 := @putR_len L p.1 p.2
    show (putAll r (putR L p.1 p.2)).length ≤ L.length + (r.length + 1)
    omega
theorem putAll_tups {H : Hp} : ∀ (rs L : List (Rule × Addr)), KeyTups H rs → KeyTups H L → KeyTups H (putAll rs L)
  | [], _, _, h => h
  | p :: r, _, k, h => putAll_tups r _ (fun z hz => k z (List.mem_cons_of_mem _ hz)) (h.put (k p (List.mem_cons_self ..)))
theorem storedAll_rdX : ∀ (rs L : List (Rule × Addr)), storedAllH (rdX L) (rdX rs) = rdX (putAll rs L)
  | [], L => rfl
  | p :: r, L => by
    show storedAllH (storedH (rdX L) (ruleK p.1) p.2 (Value.bool true)) (rdX r) = rdX (putAll r (putR L p.1 p.2))
    rw [storedH_rdX, storedAll_rdX r]
/-- a pair (rule, True): its address, the rule, the rule's own address -/
def TrueAt (H : Hp) (x : Pr) : Prop := H x.1 = some (.tup [.ref x.2.2, .bl true]) ∧ H x.2.2 = some (.tup (ruleV x.2.1))
def rDictT (P : Program) (w : World) (K : PySem.W.Frag) : List V → Hp → VK → Prop := fun vs H Q => ∃ (a : Addr) (L : List Pr), vs = [.ref a] ∧ SqL K H a (L.map fun x => V.ref x.1) ∧ (∀ x ∈ L, TrueAt H x) ∧ L.length < 1000000 ∧
  ∀ p, H p = none → Q (.ref p) (upd H p (rdO P w p (putAll (L.map (·.2)) [])))
section
variable {X : Cx}
theorem cr_dictT {k : Nat} (hr : Room k X.A) (calm : X.calm = true) : CallR X (.type "dict") (rDictT X.prog X.w X.K) := by
  intro pins s σ H xs us Q I rx h
  obtain ⟨a, L, rfl, hs, hp, sz, q⟩ := h
  obtain ⟨u, rfl, ru⟩ := rx.one
  cases ru
  obtain ⟨its, rel, pl, hz⟩ := I.list hs
  have ei := pairs_refs_eq rel
  subst ei
  have kt : KeyTups H (L.map (·.2)) := by
    intro p hp'
    obtain ⟨x, hx, rfl⟩ := List.mem_map.mp hp'
    exact (hp x hx).2
  have ok : PlainSeq "list" s.heap a (L.map fun x => Value.ref x.1).toArray ∧ PairItems s.heap (L.map fun x => Value.ref x.1).toArray (fun j => (L.map (·.1)).getD j 0) (L.map fun x => (Value.ref x.2.2, Value.bool true)) := by
    refine ⟨?_, by simp, fun j k v hj => ?_⟩
    · exact pl
    · rw [List.getElem?_map] at hj
      cases hx : L[j]? with
      | none =>
        rw [hx] at hj
        cases hj
      | some x =>
        rw [hx] at hj
        have e := Option.some.inj hj
        have e1 : Value.ref x.2.2 = k := congrArg Prod.fst e
        have e2 : Value.bool true = v := congrArg Prod.snd e
        subst e1 e2
        have g : (L.map (·.1)).getD j 0 = x.1 := by
          rw [List.getD_eq_getElem?_getD, List.getElem?_map, hx]
          rfl
        refine ⟨?_, .inl ?_⟩
        · show (L.map fun x => Value.ref x.1).toArray[j]? = _
          rw [List.getElem?_toArray, List.getElem?_map, hx]
          exact congrArg (fun z => some (Value.ref z)) g.symm
        · show s.heap.IsTuple ((L.map (·.1)).getD j 0) _
          rw [g]
          obtain ⟨o, its, n, q1, q2, q3, rel'⟩ := tup_at I.hok (hp x (List.mem_of_getElem? hx)).1
          have ea : its = #[.ref x.2.2, .bool true] := by
            apply Array.toList_inj.mp
            cases hl : its.toList with
            | nil => rw [hl] at rel'; cases rel'
            | cons u t =>
              rw [hl] at rel'
              cases rel' with
              | cons r1 t1 =>
                cases r1
                cases t1 with
                | cons r2 t2 =>
                  cases r2
                  cases t2
                  rfl
          subst ea
          exact ⟨o, q1, q2, n, q3⟩
  have P := PairArg.list (prog := X.prog) (w := X.w) a (L.map fun x => Value.ref x.1).toArray (fun j => (L.map (·.1)).getD j 0) (L.map fun x => (Value.ref x.2.2, Value.bool true))
  refine call_dict_pairsH (knd := nestedKind X.prog X.w) (ps := rdX (L.map (·.2))) P (I.ok.hd calm) (by have := hr.un; show X.A.units + 1 + 1 + 8 < _; omega) ok ?_ ?_ ?_ ?_
  · refine ⟨by unfold rdX; rw [List.length_map, List.length_map, List.length_map], fun i key v hr' => ?_⟩
    have hr2 : (L.map fun x => (Value.ref x.2.2, Value.bool true))[i]? = some (key, v) := hr'
    rw [List.getElem?_map] at hr2
    cases hx : L[i]? with
    | none =>
      rw [hx] at hr2
      cases hr2
    | some x =>
      rw [hx] at hr2
      have e := Option.some.inj hr2
      have e1 : Value.ref x.2.2 = key := congrArg Prod.fst e
      have e2 : Value.bool true = v := congrArg Prod.snd e
      subst e1 e2
      refine ⟨ruleK x.2.1, x.2.2, ?_, rfl⟩
      unfold rdX
      rw [List.getElem?_map, List.getElem?_map, hx]
      rfl
  · intro h' hk x hx
    obtain ⟨p, hp', rfl⟩ := List.mem_map.mp hx
    have r0 := rule_is I.hok (kt p hp')
    refine (nestedKind_stays (prog := X.prog) (w := X.w)).stays (h := s.heap) (fun b o vs n e d => hk b o (Nat.ne_of_lt (Heap.lt_size e)) (List.not_mem_nil) e) r0
  · rw [List.length_map, sizeLine_eq]
    omega
  · intro h' tk D kp
    have D2 : h'.DictOfH (nestedKind X.prog X.w) s.heap.objs.size (rdX (putAll (L.map (·.2)) [])) := by
      have e := storedAll_rdX (L.map (·.2)) []
      rw [← e]
      exact D
    have big : (s.heap.objs.size == sysModules) = false := beq_eq_false_iff_ne.mpr (Nat.ne_of_gt I.big)
    have len := putAll_len (L.map (·.2)) []
    rw [List.length_map] at len
    have len' : (putAll (L.map (·.2)) []).length ≤ L.length := by
      simpa using len
    have R : RdAt X.prog X.w h' s.heap.objs.size (putAll (L.map (·.2)) []) := RdAt.of D2 big (by rw [sizeLine_eq]; omega) (putAll_nodup _ _ List.nodup_nil)
    refine ⟨.ref _, _, I.laid (t' := tk) (fun b u e => kp b u (List.not_mem_nil) e) (Nat.le_refl _) (rdO_ok R), rfl, q _ (I.hok.fresh (Nat.le_refl _))⟩
/-- the keys of a locked dict of rules -/
def Itr' (P : Program) (w : World) (d : Addr) (o : Obj) (L : List (Rule × Addr)) : It :=
  ⟨fun i H => H d = some (.frz o (rdO P w d L)) ∧ i < L.length, fun i H x H' => H' = H ∧ ∃ p, L[i]? = some p ∧ x = .ref p.2, fun i H => H d = some (.frz o (rdO P w d L)) ∧ L.length ≤ i⟩
theorem frz_rd {pins : List (Addr × Obj)} {σ : L2.St} {H : Hp} {s : Shared} {d : Addr} {o : Obj} {L : List (Rule × Addr)} (I : Inv X pins σ H s) (h : H d = some (.frz o (rdO X.prog X.w d L))) :
    (d == sysModules) = false ∧ s.heap.get? d = some o ∧ o.ExactDict ∧ ∃ (es : Array DictEntry) (ep : Nat), o.data = .dict es ep ∧ es.size = L.length ∧ ∀ (i : Nat) (p : Rule × Addr), L[i]? = some p → ∃ en : DictEntry, es[i]? = some en ∧ en.key = .ref p.2 := by
  obtain ⟨hd, R, _⟩ := I.hok d _ h
  obtain ⟨o', es, ep, ho, hx, hdt, he⟩ := R.raw
  rw [hd] at ho
  cases ho
  refine ⟨R.lo, hd, hx, es, ep, hdt, ?_, fun i p e => ?_⟩
  · rw [size_of_entries he]
    unfold rdX
    rw [List.length_map]
  · have q := entry_at he i
    unfold rdX at q
    rw [List.getElem?_map, e] at q
    exact ⟨_, q, rfl⟩
theorem turn_rd {P : Program} {w : World} {K : PySem.W.Frag} {tg : Expr} {d : Addr} {o : Obj} {es : Array DictEntry} {ep : Nat} {L : List (Rule × Addr)} (it : Addr) (hod : o.data = .dict es ep) :
    Turn P w K tg (Itr' P w d o L) [it] it (fun i h => h.IsKeyIter it d i L.length ep) where
  mem := List.mem_cons_self ..
  obj := fun i h st b hb => by
    rw [List.mem_singleton.mp hb]
    obtain ⟨oi, e, c, dd⟩ := st
    refine ⟨oi, e, fun v z => ?_⟩
    rw [dd] at z
    cases z
  keep := fun i h h' st k => by
    obtain ⟨oi, e, r⟩ := st
    exact ⟨oi, k it (List.mem_cons_self ..) oi e, r⟩
  item := by
    intro X' hP hw hK calm i pins s σ H E I hf st go
    subst hP hw hK
    obtain ⟨f0, f1, f2, f3, f4, f5⟩ := hf it (List.mem_cons_self ..)
    obtain ⟨lo, hg, hx, es', ep', hdt, sz, ent⟩ := frz_rd I go.1
    obtain ⟨rfl, rfl⟩ := dict_ep hod hdt
    have lt : i < L.length := go.2
    obtain ⟨en, hen, hkey⟩ := ent i L[i] (List.getElem?_eq_getElem lt)
    refine next_key_item st hg hdt sz hen fun h' st' sb => ?_
    have I1 : Inv X' pins σ H { s with heap := h' } := I.turned (t' := s.toks) (fun b ob nb e => (sb.2 b nb).trans e) f0 f1 f3 f4 f5
    obtain ⟨oi, e, c, dd⟩ := id st'
    refine ⟨en.key, rfl, go_of (s := { s with heap := h' }) e c dd (by decide) ⟨.ref L[i].2, H, I1, hkey, ⟨rfl, _, List.getElem?_eq_getElem lt, rfl⟩, st', fun b hb => (hf b hb).1⟩⟩
  done := by
    intro X' hP hw hK calm i pins s σ H E I hf st stop
    subst hP hw hK
    obtain ⟨f0, f1, f2, f3, f4, f5⟩ := hf it (List.mem_cons_self ..)
    obtain ⟨lo, hg, hx, es', ep', hdt, sz, ent⟩ := frz_rd I stop.1
    obtain ⟨rfl, rfl⟩ := dict_ep hod hdt
    exact next_key_end (I.ok.hd calm) st hg hdt sz stop.2 fun h' eb => ⟨rfl, I.turned (t' := s.toks) (fun b ob nb e => eb b ob nb e) f0 f1 f3 f4 f5⟩
  self := fun A i s Q E st h => by
    refine wpAny_pyIter_slot st.typeIs F.slot_dict_keyiterator_iter (wpAny_call_entry F.slot_dict_keyiterator_iter st.typeIs F.entry_dict_keyiterator_iter ?_ (F.args_dict_keyiterator_iter_1 _))
    exact wpAny_pure ⟨_, rfl, "dict_keyiterator", _, st.typeIs, F.slot_dict_keyiterator_next.lookup, h⟩
def iRd (P : Program) (w : World) (td : TE) : TI := fun σ H R => td σ H fun x H1 => ∃ (d : Addr) (o : Obj) (L : List (Rule × Addr)), x = .ref d ∧ H1 d = some (.frz o (rdO P w d L)) ∧ R (Itr' P w d o L) H1
theorem pi_rd {tg e : Expr} {td : TE} (he : PE X e td) : PI X tg e (iRd X.prog X.w td) := by
  refine ⟨fun pins s σ H R I h => thn (he.run pins s σ H _ I h) ?_⟩
  rintro u s1 ⟨x, H1, I1, rx, d, o, L, rfl, hd, q⟩
  cases rx
  obtain ⟨lo, hg, hx, es, ep, hdt, sz, ent⟩ := frz_rd I1 hd
  refine iter_keys lo hg hx hdt (pi_one (tk := s1.toks) I1 _ (turn_rd _ hdt) ⟨_, Heap.get?_push_size _ rfl, rfl, ?_⟩ q)
  rw [sz]
  rfl
/-- a list comprehension over a dict of rules that stays locked -/
theorem lc_rd {P : Program} {w : World} {d : Addr} {o : Obj} {L : List (Rule × Addr)} {g : TG} {tt : TT} {te : TE} {vs : List Nat} {σ : L2.St} {H1 : Hp} {D : Addr} {Qd : Hp → Prop} (Pv : Nat → Hp → Prop) (h0 : Pv 0 (upd H1 D (.lst [])))
    (hl : ∀ i H, i ≤ L.length → Pv i H → H d = some (.frz o (rdO P w d L)))
    (hs : ∀ i (hi : i < L.length) H, Pv i H → g (.ref L[i].2) (wipe σ vs) H fun σ2 H2 => wipe σ2 vs = wipe σ vs ∧ tt σ2 H2 fun b H3 =>
      if b = true then te σ2 H3 fun y H4 => ∃ acc, H4 D = some (.lst acc) ∧ acc.length < sizeLine ∧ Pv (i + 1) (upd H4 D (.lst (acc ++ [y]))) else Pv (i + 1) H3) (hd : ∀ H, Pv L.length H → Qd H) :
    ∃ W : Nat → Nat → Hp → Prop, (∃ m, W 0 m (upd H1 D (.lst []))) ∧ ∀ i m H, W i m H →
      ((Itr' P w d o L).stop i H ∧ Qd H) ∨ ((Itr' P w d o L).go i H ∧ ∃ Nx : Hp → Prop, (∀ H', Nx H' → ∃ m', m' < m ∧ W (i + 1) m' H') ∧ ∀ x H', (Itr' P w d o L).yld i H x H' → g x (wipe σ vs) H' fun σ2 H2 => wipe σ2 vs = wipe σ vs ∧ tt σ2 H2 fun b H3 =>
        if b = true then te σ2 H3 fun y H4 => ∃ acc, H4 D = some (.lst acc) ∧ acc.length < sizeLine ∧ Nx (upd H4 D (.lst (acc ++ [y]))) else Nx H3) := by
  refine ⟨fun i m H => m = L.length - i ∧ i ≤ L.length ∧ Pv i H, ⟨L.length, by simp, Nat.zero_le _, h0⟩, ?_⟩
  rintro i m H ⟨rfl, hi, p⟩
  have fz := hl i H hi p
  by_cases lt : i < L.length
  · refine .inr ⟨⟨fz, lt⟩, Pv (i + 1), fun H' p' => ⟨L.length - (i + 1), by omega, rfl, lt, p'⟩, ?_⟩
    rintro x H' ⟨rfl, z, hz, rfl⟩
    rw [List.getElem?_eq_getElem lt] at hz
    cases hz
    exact hs i lt _ p
  · have e : i = L.length := by omega
    subst e
    exact .inl ⟨⟨fz, Nat.le_refl _⟩, hd H p⟩
end
end Wnd

/-! Windowsteps: a == b and a != b, a an instance of an own class that says __eq__ and no __ne__. -/
namespace Wnd
open PySem PySem.Spec PyProof.Rows L2

section
variable {prog : Program} {w : World} {A : Around} {E : Value → Shared → Prop} {s : Shared} {K : W.Frag} {x C L f : Addr} {h₀ : Heap} {m : Str → Option Value} {ox : Obj} {od : Option Obj} {b tb : Value}
/-- the slot that object gives, called on an instance of an own class -/
theorem obj_ne {Q : Value → Shared → Prop} (hu : A.units + 1 < cLine) (X : K.In s.heap) (I : W.InstAt s.heap x ox C od) (ho : W.subIn K (.ref C) (.type "object") = some true)
    (hs : W.findIn K (.ref C) "__eq__" = some (some (.ref f))) (hf : W.isFn K (.ref f) = true)
    (h : wpAny (model prog w) A.in1 (call (.ref f) [.ref x, b]) (fun v s' => ∃ k, v = .bool k ∧ Q (.bool (!k)) s') E s) :
    wpAny (model prog w) A (call (.builtin "object.__ne__") [.ref x, b]) Q E s := by
  refine wpAny_call (codeAny_call_builtin F.cmp_object.ne.plain F.cmpEntry_ne ?_)
  have body : ∀ {R : Result → Shared → Prop}, (∀ v s', Q v s' → R (.ok (.ret v)) s') → (∀ e s', E e s' → R (.error e) s') → wpAny (model prog w) A.in1 (Builtin.«object.__ne__» ⟨[.ref x, b], []⟩)
      (fun fin s' => match fin with | .done f => R (.ok f) s' | .again c' => c'.quiet = true ∧ codeAny (model prog w) A c' R s') (fun e s' => R (.error e) s') s := by
    intro R hR hE
    unfold Builtin.«object.__ne__»
    have ask : wpAny (model prog w) A.in1 (callSpecialIfBound? (.ref x) (Str.ofString "__eq__") [b]) (fun r s' => ∃ k, r = some (.bool k) ∧ Q (.bool (!k)) s') (fun e s' => R (.error e) s') s :=
      W.ifBound_K X I hs hf (wpAny_mono h (fun v s' ⟨k, e, q⟩ => ⟨k, by rw [e], q⟩) hE)
    repeat (first
      | with_reducible refine wpAny_cRoomFor hu ?_
      | (refine wpAny_bind (m := callSpecialIfBound? (.ref x) (Str.ofString "__eq__") [b]) (wpAny_mono ask (fun r s' hr => by
          obtain ⟨k, rfl, q⟩ := hr
          refine wpAny_bind (m := truthy (.bool _)) (wpAny_truthy_bool ?_)
          first
            | exact wpAny_pure (hR _ _ q)
            | exact wpAny_pure (wpAny_pure (hR _ _ q))
            | exact wpAny_bind (wpAny_pure (wpAny_pure (hR _ _ q)))) fun _ _ e => e))
      | wp_step)
  have chk : ∀ {Q' : Unit → Shared → Prop} {E' : Value → Shared → Prop}, Q' () s → wpAny (model prog w) A.in1 (checkBuiltinCall "object.__ne__" ⟨[.ref x, b], []⟩) Q' E' s := by
    intro Q' E' q
    have ha := F.cmpArgs_ne (.ref x) b
    simp only [checkBuiltinCall, F.cmpKind_ne, F.cmpSplit_ne]
    refine wpAny_bind ?_
    unfold isInstance
    refine wpAny_bind (I.type.here ((W.looks_subIn X ho).here ?_))
    show wpAny _ _ (match Manifest.signature? "object.__ne__" with | some sig => Bind.checkArgs "object.__ne__" sig ⟨[.ref x, b], []⟩ | _ => pure ()) _ _ _
    cases hsig : Manifest.signature? "object.__ne__" with
    | none => exact wpAny_pure q
    | some sig =>
      simp only [argsOk, hsig] at ha
      have h2 : Bind.checkArgs "object.__ne__" sig ⟨[.ref x, b], []⟩ = pure () := ha
      show wpAny _ _ (Bind.checkArgs "object.__ne__" sig ⟨[.ref x, b], []⟩) _ _ _
      rw [h2]
      exact wpAny_pure q
  exact chk (body (R := fun r s' => match r with | .ok (.ret v) => Q v s' | .ok _ => False | .error e => E e s') (fun v s' q => q) fun e s' z => z)
theorem ne_own {Q : Value → Shared → Prop} (hu : A.units + 1 < cLine) (F₀ : Fr h₀ L s.heap m) (X₀ : K.In h₀) (I : W.InstAt s.heap x ox C od) (hb : W.Looks (model prog w) s.heap (typeOf b) tb) (hn : W.notFirst K C tb = true)
    (ho : W.subIn K (.ref C) (.type "object") = some true) (hne : W.findIn K (.ref C) "__ne__" = some (some (.builtin "object.__ne__")))
    (hs : W.findIn K (.ref C) "__eq__" = some (some (.ref f))) (hf : W.isFn K (.ref f) = true)
    (h : wpAny (model prog w) A.in1 (call (.ref f) [.ref x, b]) (fun v s' => ∃ k, v = .bool k ∧ Q (.bool (!k)) s') E s) : wpAny (model prog w) A (richCompare .NotEq (.ref x) b) Q E s := by
  have X := X₀.keeps F₀.keep
  have c := obj_ne (E := E) (Q := fun v s' => ∃ k, v = .bool k ∧ Q (.bool k) s') hu X I ho hs hf (wpAny_mono h (fun v s' ⟨k, e, q⟩ => ⟨k, e, !k, rfl, q⟩) fun _ _ z => z)
  have one : wpAny (model prog w) A (tryCompare (.ref x) (cmpInfo .NotEq).2.1 b) (fun r s' => ∃ v, r = some v ∧ Q v s') E s := by
    unfold tryCompare
    refine wpAny_bind ?_
    simp only [callSpecialIfBound?, bindSpecialIfBound?]
    refine wpAny_holding (wpAny_bind (wpAny_bind (wpAny_bind (I.type.here ((W.looks_findIn X hne).here ?_)))))
    simp only [F.cmp_object.ne.bind]
    refine wpAny_bind (wpAny_askSetting (wpAny_ite ?_))
    have fin : wpAny (model prog w) A (call (.builtin "object.__ne__") ([.ref x] ++ [b]) >>= fun v => pure (some v)) (fun a s' => wpAny (model prog w) A (match a with
        | some .notImplemented => pure none
        | none => pure none
        | some v => pure (some v)) (fun r s' => ∃ v, r = some v ∧ Q v s') E s') E s := by
      refine wpAny_bind (wpAny_mono c ?_ fun _ _ z => z)
      rintro v s' ⟨k, rfl, q⟩
      exact wpAny_pure (wpAny_pure ⟨_, rfl, q⟩)
    split
    · exact wpAny_bind (wpAny_pure (wpAny_pure fin))
    · exact wpAny_tryCatch (wpAny_bind (wpAny_pure (wpAny_pure fin)))
  unfold richCompare
  simp only [oneThing_ref]
  refine wpAny_holding (wpAny_bind (wpAny_cRoomFor (Nat.lt_of_succ_lt hu) ?_))
  refine wpAny_bind (I.type.here (wpAny_bind (hb.here ?_)))
  have rest : wpAny (model prog w) A (tryCompare (.ref x) (cmpInfo .NotEq).2.1 b) (fun r s' => ∃ v, r = some v ∧ Q v s') E s := one
  split
  · rename_i q
    have e : W.subIn K tb (.ref C) = some false := by
      rcases Bool.or_eq_true_iff.mp hn with e | e
      · rw [beq_iff_eq.mp e] at q
        simp at q
      · exact beq_iff_eq.mp e
    refine wpAny_bind ((W.looks_subIn X e).here ?_)
    simp only [Bool.false_eq_true, if_false]
    refine wpAny_bind (wpAny_mono rest ?_ fun _ _ z => z)
    rintro r s' ⟨v, rfl, hq⟩
    exact wpAny_pure hq
  · refine wpAny_bind (wpAny_pure ?_)
    simp only [Bool.false_eq_true, if_false]
    refine wpAny_bind (wpAny_mono rest ?_ fun _ _ z => z)
    rintro r s' ⟨v, rfl, hq⟩
    exact wpAny_pure hq
end
/-- what the text has of a class with its own == -/
structure EqC (K : PySem.W.Frag) (C f : Addr) : Prop where
  eq : W.findIn K (.ref C) "__eq__" = some (some (.ref f))
  fn : W.isFn K (.ref f) = true
  ne : W.findIn K (.ref C) "__ne__" = some (some (.builtin "object.__ne__"))
  ob : W.subIn K (.ref C) (.type "object") = some true
/-- a value whose type isn't a subtype of C's own below it -/
def Plain2 (K : PySem.W.Frag) (C : Addr) (H : Hp) (y : V) : Prop := ∃ t, TyX K H y t ∧ W.notFirst K C t = true
def rOwnEq (K : PySem.W.Frag) (C : Addr) (sp : Sp) : R2 := fun x y H Q => ∃ (a dx : Addr) (fs : List (Str × V)), x = .ref a ∧ H a = some (.ins C dx fs) ∧ Plain2 K C H y ∧ sp [.ref a, y] H (fun v H' => ∃ k, v = .bl k ∧ Q (.bl k) H') (fun _ _ _ => False)
def rOwnNe (K : PySem.W.Frag) (C : Addr) (sp : Sp) : R2 := fun x y H Q => ∃ (a dx : Addr) (fs : List (Str × V)), x = .ref a ∧ H a = some (.ins C dx fs) ∧ Plain2 K C H y ∧ sp [.ref a, y] H (fun v H' => ∃ k, v = .bl k ∧ Q (.bl (!k)) H') (fun _ _ _ => False)
section
variable {X : Cx} {C f : Addr} {fd : FuncData} {k : Nat} {ps : List Str} {sp : Sp}
theorem run_eq {A : Around} (F : FnOk X.prog X.w X.K X.mg X.base CX0 k f fd ps sp) (hb : Binds X.K fd ps []) (hr : Room k A) (fr : A.frames = X.A.frames) {pins : List (Addr × Obj)} {σ : L2.St} {H : Hp} {s : Shared} (I : Inv X pins σ H s)
    {vs : List V} {us : List Value} (r : Vals vs us) {Q : VK} {E : Value → Shared → Prop} (h : sp vs H Q (fun _ _ _ => False)) : wpAny (model X.prog X.w) A (call (.ref f) us) (EP X pins σ Q) E s := by
  have env : Env0 X.prog X.w X.K X.mg X.base A X.stack s H := by
    have z := I.env0
    exact ⟨fr.trans z.frames, z.mod, z.bs, z.bsz, z.funs, z.frf, z.hok, z.bare⟩
  have hl := F.len _ _ _ _ h
  refine wpAny_call (codeAny_mono (F.run A X.stack s H ⟨us, []⟩ us vs Q (fun _ _ _ => False) hr env (by
    have z := hb s us I.kIn (by rw [List.append_nil, ← r.length]; exact hl)
    rwa [List.append_nil] at z) r h) fun r s' hq => ?_)
  cases r with
  | error e => exact hq.elim
  | ok fl =>
    cases fl with
    | ret u => exact I.after hq
    | next => exact False.elim hq
    | brk => exact False.elim hq
    | cont => exact False.elim hq
theorem op_ownEq (F : FnOk X.prog X.w X.K X.mg X.base CX0 k f fd ps sp) (hb : Binds X.K fd ps []) (hr : Room k X.A) (T : EqC X.K C f) : OpR X (compareOp .Eq) (rOwnEq X.K C sp) := by
  intro pins s σ H x y v u Q I rx ry h
  obtain ⟨a, dx, fs, rfl, ha, ⟨t, ty, nf⟩, q⟩ := h
  cases rx
  obtain ⟨mA, J, _⟩ := ins_get I.hok ha
  obtain ⟨od, J, _⟩ := J.look
  obtain ⟨m, hF⟩ := I.fr
  obtain ⟨P, Z, p, _⟩ := kit_of I ry ty
  show wpAny _ _ (richCompare .Eq (.ref a) u) _ _ s
  refine PySem.W.cmp_K (op := .Eq) (tb := t) hr.units0 hF I.ok.mod.kin J (Z.ty _ _ I.kIn p) nf T.eq T.fn ?_
  refine wpAny_mono (run_eq F hb hr rfl I (show Vals [V.ref a, y] [Value.ref a, u] from .cons rfl (.cons ry .nil)) q) ?_ fun _ _ z => z
  rintro w s' ⟨z, H', I', rz, k, rfl, q'⟩
  cases rz
  exact ⟨.bl k, H', I', rfl, q'⟩
theorem op_ownNe (F : FnOk X.prog X.w X.K X.mg X.base CX0 k f fd ps sp) (hb : Binds X.K fd ps []) (hr : Room (k + 1) X.A) (T : EqC X.K C f) : OpR X (compareOp .NotEq) (rOwnNe X.K C sp) := by
  intro pins s σ H x y v u Q I rx ry h
  obtain ⟨a, dx, fs, rfl, ha, ⟨t, ty, nf⟩, q⟩ := h
  cases rx
  obtain ⟨mA, J, _⟩ := ins_get I.hok ha
  obtain ⟨od, J, _⟩ := J.look
  obtain ⟨m, hF⟩ := I.fr
  obtain ⟨P, Z, p, _⟩ := kit_of I ry ty
  show wpAny _ _ (richCompare .NotEq (.ref a) u) _ _ s
  refine ne_own (hu_of hr) hF I.ok.mod.kin J (Z.ty _ _ I.kIn p) nf T.ob T.ne T.eq T.fn ?_
  refine wpAny_mono (run_eq F hb hr.in1 rfl I (show Vals [V.ref a, y] [Value.ref a, u] from .cons rfl (.cons ry .nil)) q) ?_ fun _ _ z => z
  rintro w s' ⟨z, H', I', rz, k, rfl, q'⟩
  cases rz
  exact ⟨k, rfl, .bl (!k), H', I', rfl, q'⟩
end
end Wnd

/-! Windowsteps: C.m(..), m a static method. -/
namespace Wnd
open PySem PySem.Spec PyProof.Rows L2
/-- C.m is a static method: its record at p, its def at g -/
structure SMet (K : PySem.W.Frag) (C : Addr) (mc : Value) (m : Str) (p g : Addr) : Prop where
  at_ : W.findCls K (.ref C) mc m = some (.get (.builtin "staticmethod.__get__") (.ref p) .none (.ref C))
  rc : ∃ rest, W.recIn K p "staticmethod" = some (.ref g :: rest)
  kp : W.keepIn K (.ref g) = true
section
variable {X : Cx} {k : Nat} {C p g : Addr} {mc : Value} {sp : Sp} {fd : FuncData} {ps : List Str} {o e : Expr} {es : List Expr} {m : Str} {pos apos : Pos} {ta : TE} {t : TA} {pl : Sem Bool}
theorem getstat_ok {A : Around} {E : Value → Shared → Prop} {pins : List (Addr × Obj)} {σ : L2.St} {H : Hp} {s : Shared} {b : Bool} {Q : Value → Shared → Prop} (I : Inv X pins σ H s) (r : ClX.CRead X.K C mc) (c : SMet X.K C mc m p g)
    (h : ∀ s', Inv X pins σ H s' → Q (.ref g) s') : wpAny (model X.prog X.w) A (getAttr (.ref C) m b) Q E s := by
  obtain ⟨rest, hp⟩ := c.rc
  refine PySem.W.cls_bind I.kIn r.rd c.at_ ?_
  exact wpAny_call (PySem.W.sm_get (s := { s with toks := s.toks + 1 }) I.kIn hp (PySem.W.handed_on rfl (h _ (I.tok _))))
def tStat (C : Addr) (sp : Sp) (ta : TE) (t : TA) : TE := fun σ H Q => ta σ H fun x H1 => x = .ref C ∧ t σ H1 fun vs H2 => sp vs H2 Q E0
theorem pe_stat (he : PE X o ta) (r : ClX.CRead X.K C mc) (c : SMet X.K C mc m p g) (F : FnOk X.prog X.w X.K X.mg X.base CX0 k g fd ps sp) (hb : Binds X.K fd ps []) (hr : Room k X.A) (ha : PA X (e :: es) t)
    (hst : starEach (e :: es) X.env = (false, eval e X.env) :: starEach es X.env := by rfl) (hpl : (backTo pos (starEach es X.env)).any (·.1) = false := by rfl)
    (ht : eval (.Call (.Attribute o m apos) (e :: es) [] pos) X.env = (do
      let ov ← eval o X.env
      standAt apos.atName
      let (f, first) ← holding [ov] (getMethod ov m pl)
      callWith pos f first (backTo pos (starEach (e :: es) X.env)) (backToKw pos (keywordEach [] X.env))) := by rfl) :
    PE X (.Call (.Attribute o m apos) (e :: es) [] pos) (tStat C sp ta t) := by
  refine ⟨fun pins s σ H Q I h => ?_⟩
  refine PySem.W.methodCall_KW (pl := pl) (thn (he.run pins s σ H _ I h) ?_) ht
  rintro u s1 ⟨x, H1, I1, rx, rfl, q⟩
  cases rx
  refine PySem.W.method_cls I1.kIn r.ga (getstat_ok I1 r c fun s2 I2 => ?_)
  refine PySem.W.callWith_K (h₀ := X.base) (first := []) I2.ok.mod.kin c.kp (thn (ha.run pos _ s2 σ H1 _ I2 q) ?_) hst hpl
  rintro us s3 ⟨vs, H2, I3, rv, q2⟩
  refine ⟨I3.kIn, ?_⟩
  exact run_fn F hr hb .nil (pass0 (X := X)) I3 rv (by rw [List.append_nil]; exact q2)
end
end Wnd

/-! Windowsteps: len(set(names)), names all different. -/
namespace Wnd
open PySem PySem.Spec PyProof.Rows L2

/-- what set() has taken of different texts: they, and no more -/
def setOfTexts (xs : List Str) (i : Nat) : Str → Bool := fun y => (xs.take i).any (· == y)
theorem setOfTexts_more {xs : List Str} {i : Nat} (hi : i < xs.length) (y : Str) : (setOfTexts xs i y || decide (y = xs.getD i Str.empty)) = setOfTexts xs (i + 1) y := by
  unfold setOfTexts
  rw [List.take_add_one, List.any_append, List.getElem?_eq_getElem hi, List.getD_eq_getElem?_getD, List.getElem?_eq_getElem hi]
  show (_ || decide (y = xs[i])) = (_ || [xs[i]].any (· == y))
  congr 1
  simp only [List.any_cons, List.any_nil, Bool.or_false]
  by_cases e : y = xs[i]
  · subst e
    simp
  · rw [decide_eq_false e]
    exact (beq_eq_false_iff_ne.mpr fun z => e z.symm).symm
theorem setOfTexts_new {xs : List Str} (nd : xs.Nodup) {i : Nat} (hi : i < xs.length) : setOfTexts xs i (xs.getD i Str.empty) = false := by
  unfold setOfTexts
  rw [List.getD_eq_getElem?_getD, List.getElem?_eq_getElem hi]
  show (xs.take i).any (· == xs[i]) = false
  rw [List.any_eq_false]
  intro z hz e
  have ez : z = xs[i] := by simpa using e
  subst ez
  obtain ⟨j, hj, ej⟩ := List.getElem_of_mem hz
  rw [List.length_take] at hj
  rw [List.getElem_take] at ej
  have := (List.getElem_inj (h₀ := by omega) (h₁ := hi) nd).mp ej
  omega
section
variable {prog : Program} {w : World} {A : Around} {R : Result → Shared → Prop} {I : Addr} {fp wr : List Addr} {G : Array GenState → Array GenState → Prop} {n : Nat} {Pv : Nat → Value → Prop} {St' : Nat → Shared → Prop}
/-- the loop that fills the set: its turns by induction on how many are left -/
theorem fill_texts (W : WalksS prog w A.in1 I fp wr G n Pv St') (D : Addr) (out : D ∉ fp) (xs : List Str) (len : xs.length = n) (nd : xs.Nodup) (few : n < 1000) (val : ∀ i v, Pv i v → ∃ t, v = .str (xs.getD i Str.empty) t) :
    ∀ (left i : Nat) (s : Shared), n - i = left → i ≤ n → St' i s → s.heap.SetOf (PySem.strKind prog w) D (setOfTexts xs i) i →
      (∀ s', Moved (D :: wr) G s s' → s'.heap.SetOf (PySem.strKind prog w) D (setOfTexts xs n) n → R (.ok (.ret .none)) s') →
      codeAny (model prog w) A (.builtin "set.update.loop" ⟨[.ref D, .ref I], []⟩) R s := by
  have outw : D ∉ wr := fun h => out (W.sub _ h)
  have sub : ∀ b ∈ wr, b ∈ D :: wr := fun b hb => List.mem_cons_of_mem _ hb
  intro left
  induction left with
  | zero =>
    intro i s eq le st so done
    obtain rfl : i = n := by omega
    refine codeAny_builtin PyProof.Rows.F.entry_set_update_loop ?_
    rw [Around.under_plainId PyProof.Rows.F.plain_set_update_loop _]
    refine wpAny_bind (W.done s _ _ st fun s' mv => ?_)
    refine wpAny_pure (done s' (mv.mono sub) ?_)
    obtain ⟨o, es, ep, t, ho, more⟩ := so
    exact ⟨o, es, ep, t, mv.heap D _ outw ho, more⟩
  | succ left ih =>
    intro i s eq le st so done
    have lt : i < n := by omega
    refine codeAny_builtin PyProof.Rows.F.entry_set_update_loop ?_
    rw [Around.under_plainId PyProof.Rows.F.plain_set_update_loop _]
    refine wpAny_bind (W.item i s _ _ lt st fun v s' pv st' mv => ?_)
    obtain ⟨t, rfl⟩ := val i v pv
    have so' : s'.heap.SetOf (PySem.strKind prog w) D (setOfTexts xs i) i := by
      obtain ⟨o, es, ep, tb, ho, more⟩ := so
      exact ⟨o, es, ep, tb, mv.heap D _ outw ho, more⟩
    show wpAny _ A.in1 (holding [Value.str (xs.getD i Str.empty) t] (setAdd D (.str (xs.getD i Str.empty) t)) >>= _) _ _ s'
    refine wpAny_bind (wpAny_holding ?_)
    unfold setAdd
    refine wpAny_holding (wpAny_bind ((PySem.strKind prog w).pyHash (k := xs.getD i Str.empty) (strKind_is _ _ _ _) ?_))
    refine wpAny_setAddHashed_of (knd := PySem.strKind prog w) (s := { s' with toks := s'.toks + 1 }) (strKind_is _ _ _ _) rfl so' (by unfold scanBound; omega) fun h' sb s2 => ?_
    have s3 : h'.SetOf (PySem.strKind prog w) D (setOfTexts xs (i + 1)) (i + 1) := by
      refine PyProof.Rows.SetOf_congr s2 (fun y => setOfTexts_more (by omega) y) ?_
      rw [setOfTexts_new nd (by omega)]
      rfl
    refine wpAny_pure ⟨plainId_quiet PyProof.Rows.F.plain_set_update_loop _, ih (i + 1) _ (by omega) lt (W.frame _ s' _ _ st' (Nat.le_succ _) fun b hb o e => ?_) s3 fun s'' mv2 so2 => ?_⟩
    · rw [sb.2 b fun z => out (by rw [← z]; exact hb)]
      exact e
    · refine done s'' (Moved.trans W.gtrans ((mv.mono sub).then_heap (Nat.le_succ _) fun b o hb e => ?_) mv2) so2
      rw [sb.2 b fun z => hb (by rw [z]; exact List.mem_cons_self)]
      exact e
end
section
variable {prog : Program} {w : World} {A : Around} {E : Value → Shared → Prop} {s : Shared}
set_option maxHeartbeats 3200000 in
theorem set_of_texts {l : Addr} {items : Array Value} {xs : List Str} {Q : Value → Shared → Prop} (free : A.handled = none) (isl : s.heap.IsList l items) (are : PyProof.Rows.StrsAre items.toList xs) (nd : xs.Nodup) (few : xs.length < 1000)
    (hq : ∀ (h' : Heap) (tk : Nat), h'.SetOf (PySem.strKind prog w) s.heap.objs.size (setOfTexts xs xs.length) xs.length → (∀ b o, s.heap.get? b = some o → h'.get? b = some o) → Q (.ref s.heap.objs.size) { s with heap := h', toks := tk }) :
    wpAny (model prog w) A (call (.type "set") [.ref l]) Q E s := by
  have len : items.size = xs.length := by
    rw [← Array.length_toList]
    exact StrsAre.len_eq are
  obtain ⟨c, tl, mro⟩ := PySem.F.called_set.mro
  have k1 := PySem.F.called_set.made
  have k2 := PySem.F.called_set.sub
  have k3 := PySem.F.called_set.notType
  have k4 := PySem.F.called_set.canCreate
  have k5 := PySem.F.typeCall_set_1 (.ref l)
  refine wpAny_call (codeAny_of_tree (show wpAny _ _ (callAny (.type "set") _) _ _ _ from wpAny_pure ⟨Code.quiet_builtin _ (by decide +kernel), codeAny_builtin PySem.F.entry_type_call ?_⟩))
  rw [Around.under_plain (weight_type_call_type "set" [.ref l] []) rfl]
  repeat (any_goals (first | assumption | wp_step))
  refine codeAny_mono (code_set_new_1 (.ref l) (E := E)
    (Q₁ := fun obj s₁ => ∃ led : Bool, obj = .ref s.heap.objs.size ∧ s₁ = { s with heap := s.heap.push { cls := .type "set", dict := none, data := .set #[] 0 (.fresh 0 0 led) } })
    fun led => ⟨led, rfl, rfl⟩) ?_
  intro r s₁ hr
  cases r with
  | error e => exact hr
  | ok fl =>
    cases fl with
    | ret obj =>
      obtain ⟨led, rfl, rfl⟩ := hr
      have atS : (s.heap.push { cls := .type "set", dict := none, data := .set #[] 0 (.fresh 0 0 led) }).get? s.heap.objs.size = some { cls := .type "set", dict := none, data := .set #[] 0 (.fresh 0 0 led) } := Heap.get?_push_size _ rfl
      have tyS : Shared.TypeIs { s with heap := s.heap.push { cls := .type "set", dict := none, data := .set #[] 0 (.fresh 0 0 led) } } (.ref s.heap.objs.size) "set" := ⟨_, atS, rfl⟩
      have i1 := PySem.F.called_set.init.lookup
      have i2 := PySem.F.called_set.init.bind (.ref s.heap.objs.size)
      repeat (any_goals (first | assumption | wp_step))
      refine codeAny_mono (codeAny_call_builtin (R := wants (fun r s₂ => r = .none ∧ ∃ h' tk, s₂ = { s with heap := h', toks := tk } ∧
        h'.SetOf (PySem.strKind prog w) s.heap.objs.size (setOfTexts xs xs.length) xs.length ∧
        ∀ b o, s.heap.get? b = some o → h'.get? b = some o) E) PySem.F.called_set.init.plain PySem.F.entry_set_init (check_set_init_1 tyS ?_)) ?_
      · obtain ⟨ol, gl, cl, nl, dl⟩ := isl
        obtain ⟨ocls, odict, odata, oslots⟩ := ol
        simp only at cl dl
        subst cl
        subst dl
        have gl' : (s.heap.push { cls := .type "set", dict := none, data := .set #[] 0 (.fresh 0 0 led) }).get? l = some { cls := .type "list", dict := odict, data := .seq items nl, slots := oslots } := Heap.get?_push_of_some _ gl
        have n1 := PySem.F.sub_list_set
        have n2 := PySem.F.sub_list_frozenset
        have n3 : (Value.type "list" == Value.type "dict") = false := by decide
        have isl' : (s.heap.push { cls := .type "set", dict := none, data := .set #[] 0 (.fresh 0 0 led) }).IsList l items := ⟨_, gl', rfl, nl, rfl⟩
        unfold Builtin.«set.__init__» noKeywords Builtin.Frozenset.updateFrom
        generalize eIt : pyIter = It0
        wp_walk
        subst eIt
        refine wpAny_pyIter_list isl' (wpAny_bind (wpAny_runValue ?_))
        have ltl : l < s.heap.objs.size := Heap.lt_size gl
        have fr3 : A.in1.in1.in1.handled = none := by simp [free]
        have sz1 : (s.heap.push { cls := .type "set", dict := none, data := .set #[] 0 (.fresh 0 0 led) }).objs.size = s.heap.objs.size + 1 := Heap.size_push ..
        have nl1 : l ≠ (s.heap.push { cls := .type "set", dict := none, data := .set #[] 0 (.fresh 0 0 led) }).objs.size := by
          rw [sz1]
          exact Nat.ne_of_lt (Nat.lt_succ_of_lt ltl)
        have outS : s.heap.objs.size ∉ [(s.heap.push { cls := .type "set", dict := none, data := .set #[] 0 (.fresh 0 0 led) }).objs.size, l] := by
          rw [sz1]
          simp only [List.mem_cons, List.not_mem_nil, or_false, not_or]
          exact ⟨Nat.ne_of_lt (Nat.lt_succ_self _), Nat.ne_of_gt ltl⟩
        refine fill_texts ((Walks.list fr3 _ l nl1 items).toS) s.heap.objs.size outS xs len.symm nd (by omega) (fun i v hv => SS.strs_at are i v (by rw [Array.getElem?_toList]; exact hv)) (items.size - 0) 0 _ (by omega) (Nat.zero_le _)
          ⟨⟨_, Heap.get?_push_size _ rfl, rfl, rfl⟩, isl'.push _⟩ ?first ?after
        case first =>
          have g2 : ((s.heap.push { cls := .type "set", dict := none, data := .set #[] 0 (.fresh 0 0 led) }).push { cls := .type "list_iterator", data := .fields #[.ref l, .int 0 0] }).get? s.heap.objs.size
              = some { cls := .type "set", dict := none, data := .set #[] 0 (.fresh 0 0 led) } := Heap.get?_push_of_some _ atS
          exact PyProof.Rows.SetOf_congr ((PyProof.Rows.setObjOf_fresh (knd := PySem.strKind prog w) led).setOf g2 (by unfold scanBound; omega)) (fun _ => rfl) rfl
        case after =>
          intro s' mv so
          obtain ⟨h', g', d', tk', os'⟩ := s'
          obtain rfl : g' = s.gens := mv.gens
          obtain rfl : d' = s.drawn := mv.drawn
          obtain rfl : os' = s.os := mv.os
          refine wpAny_pure (wpAny_pure ⟨rfl, h', tk', rfl, by rw [← len]; exact so, fun b o e => ?_⟩)
          have lt := Heap.lt_size e
          refine mv.heap b o ?_ (Heap.get?_push_of_some _ (Heap.get?_push_of_some _ e))
          simp only [List.mem_cons, List.not_mem_nil, or_false, not_or]
          refine ⟨Nat.ne_of_lt lt, ?_⟩
          rw [sz1]
          exact Nat.ne_of_lt (Nat.lt_succ_of_lt lt)
      · intro r₂ s₂ hr₂
        cases r₂ with
        | error e => exact hr₂
        | ok fl₂ =>
          cases fl₂ with
          | ret r =>
            obtain ⟨rfl, h', tk, rfl, so, kp⟩ := hr₂
            repeat (any_goals (first | assumption | wp_step))
            exact hq _ _ so kp
          | _ => exact hr₂.elim
    | _ => exact hr.elim
end
section
variable {X : Cx}
/-- len(set(names)), different names -/
def tLenSetT (K : PySem.W.Frag) (ta : TE) : TE := fun σ H Q => ta σ H fun x H1 => ∃ (l : Addr) (xs : List Str), x = V.ref l ∧ SqL K H1 l (xs.map V.str) ∧ xs.length < 1000 ∧ xs.Nodup ∧ Q (.int xs.length) H1
theorem pe_lenSetT {a : Expr} {ta : TE} {p p2 q pos : Pos} (calm : X.calm = true) (hm : X.mg "len" = none) (hm2 : X.mg "set" = none) (ha : PE X a ta) (hg : Gl X "len" := by rfl) (hg2 : Gl X "set" := by rfl)
    (na : starEach [a] X.env = (false, eval a X.env) :: starEach [] X.env := by rfl) : PE X (.Call (.Name "len" p) [.Call (.Name "set" p2) [a] [] q] [] pos) (tLenSetT X.K ta) := by
  refine ⟨fun pins s σ H Q I h => Call_ (ld_blt I hg hm PySem.boot_len (PyProof.Rows.callWith_builtin1 (PyProof.Rows.args_cons (Call_ (ld_blt I hg2 hm2 PyProof.Rows.boot_set ?_)) rfl) rfl rfl))⟩
  refine PyProof.Rows.callWith_type1 (PyProof.Rows.args_cons (thn (ha.run pins s σ H _ I h) ?_) na) na rfl
  rintro v s1 ⟨x, H1, I1, r1, l, xs, rfl, hs, few, nd, q1⟩
  refine PyProof.Rows.args_nil ?_
  cases r1
  obtain ⟨its, r, pl, hz⟩ := I1.list hs
  refine set_of_texts (I1.ok.hd calm) pl.isList (xs := xs) (by simpa using r.strs) nd few fun h' tk so kp => ?_
  refine PyProof.Rows.args_nil ?_
  obtain ⟨o, es, ep, t, ho, hex, hd, _, _, _, hf, hn⟩ := so
  have I2 : Inv X pins σ H1 { s1 with heap := h', toks := tk } := I1.kept kp
  exact call_len_set ho hex hd hf (by rw [hn]; omega) ⟨.int xs.length, H1, I2.tok _, ⟨_, by rw [hn]⟩, q1⟩
end
end Wnd

/-! Windowsteps: comprehensions that change nothing that was there. -/
namespace Wnd
open PySem PySem.Spec PyProof.Rows L2
variable {J : It} {n : Nat} {G : Hp → Prop} {Y : Nat → Hp → V → Hp → Prop}
/-- what the list holds is said turn by turn by F; what was there stays -/
theorem lc_acc (w : Walk J n G Y) {g : TG} {tt : TT} {te : TE} {vs : List Nat} {σ : L2.St} {H1 : Hp} {D : Addr} {Qd : Hp → Prop} (hD : H1 D = none) (F : Nat → List V) (h0 : F 0 = []) (hz : n < sizeLine) (hl : ∀ i, (F i).length ≤ i)
    (hG : ∀ H, Same H1 H → G H)
    (hs : ∀ i x H H' (R : V → Hp → Prop) (L : Hp → Prop), i < n → Same H1 H → Y i H x H' → (∀ y H4, F (i + 1) = F i ++ [y] → Same H H4 → R y H4) → (∀ H4, F (i + 1) = F i → Same H H4 → L H4) →
      g x (wipe σ vs) H' fun σ2 H2 => wipe σ2 vs = wipe σ vs ∧ tt σ2 H2 fun b H3 => if b = true then te σ2 H3 R else L H3) (hd : ∀ H, Same H1 H → H D = some (.lst (F n)) → Qd H) :
    ∃ W : Nat → Nat → Hp → Prop, (∃ m, W 0 m (upd H1 D (.lst []))) ∧ ∀ i m H, W i m H →
      (J.stop i H ∧ Qd H) ∨ (J.go i H ∧ ∃ Nx : Hp → Prop, (∀ H', Nx H' → ∃ m', m' < m ∧ W (i + 1) m' H') ∧ ∀ x H', J.yld i H x H' → g x (wipe σ vs) H' fun σ2 H2 => wipe σ2 vs = wipe σ vs ∧ tt σ2 H2 fun b H3 =>
        if b = true then te σ2 H3 fun y H4 => ∃ acc, H4 D = some (.lst acc) ∧ acc.length < sizeLine ∧ Nx (upd H4 D (.lst (acc ++ [y]))) else Nx H3) := by
  refine lc_it w (fun i H => Same H1 H ∧ H D = some (.lst (F i))) ⟨same_new hD, by rw [h0]; exact upd_same⟩ (fun i H _ p => hG H p.1) ?_ (fun H p => hd H p.1 p.2)
  rintro i x H H' hi ⟨s, hd⟩ y
  refine hs i x H H' _ _ hi s y (fun v H4 e s4 => ⟨F i, s4 _ _ hd, by have := hl i; omega, ?_, ?_⟩) fun H4 e s4 => ⟨s.trans s4, by rw [e]; exact s4 _ _ hd⟩
  · intro b o hb
    rw [upd_ne (ne_of_none hb hD)]
    exact s4 _ _ (s _ _ hb)
  · rw [e]
    exact upd_same
/-- one item for each turn -/
theorem lc_map (w : Walk J n G Y) {g : TG} {tt : TT} {te : TE} {vs : List Nat} {σ : L2.St} {H1 : Hp} {D : Addr} {Qd : Hp → Prop} (hD : H1 D = none) (ys : List V) (hn : ys.length = n) (hz : n < sizeLine)
    (hG : ∀ H, Same H1 H → G H)
    (hs : ∀ i x H H' (hi : i < ys.length) (R : V → Hp → Prop) (L : Hp → Prop), Same H1 H → Y i H x H' → (∀ H4, Same H H4 → R ys[i] H4) →
      g x (wipe σ vs) H' fun σ2 H2 => wipe σ2 vs = wipe σ vs ∧ tt σ2 H2 fun b H3 => if b = true then te σ2 H3 R else L H3) (hd : ∀ H, Same H1 H → H D = some (.lst ys) → Qd H) :
    ∃ W : Nat → Nat → Hp → Prop, (∃ m, W 0 m (upd H1 D (.lst []))) ∧ ∀ i m H, W i m H →
      (J.stop i H ∧ Qd H) ∨ (J.go i H ∧ ∃ Nx : Hp → Prop, (∀ H', Nx H' → ∃ m', m' < m ∧ W (i + 1) m' H') ∧ ∀ x H', J.yld i H x H' → g x (wipe σ vs) H' fun σ2 H2 => wipe σ2 vs = wipe σ vs ∧ tt σ2 H2 fun b H3 =>
        if b = true then te σ2 H3 fun y H4 => ∃ acc, H4 D = some (.lst acc) ∧ acc.length < sizeLine ∧ Nx (upd H4 D (.lst (acc ++ [y]))) else Nx H3) := by
  refine lc_acc w hD (fun i => ys.take i) rfl hz (fun i => by rw [List.length_take]; omega) hG ?_ (fun H s h => hd H s (by rw [h, ← hn, List.take_length]))
  intro i x H H' R L hi s y hR hL
  have hi' : i < ys.length := by omega
  exact hs i x H H' hi' R L s y fun H4 s4 => hR _ H4 (by rw [List.take_add_one, List.getElem?_eq_getElem hi']; rfl) s4
/-- in a block: the class's frame said -/
theorem op_inK {X : Cx} (K : PySem.W.Frag) (h : X.K = K := by rfl) : OpR X (compareOp .In) (rIn K false) := by
  subst h
  exact op_in_seq
theorem pg_tupK {X : Cx} {pos : Pos} {es : List Expr} {k : Nat} {t : TGs} (K : PySem.W.Frag) (n : Nat) (hc : X.calm = true) (h : PGs X es t) (hK : X.K = K := by rfl)
    (hn : (assignEach es X.env).length = n := by rfl) (hst : (assignEach es X.env).findIdx? (·.1) = none := by rfl) : PG X (.Tuple es k pos) (gTup K n t) := by
  subst hK
  exact pg_tup hc h hn hst
def rLenSeq (K : PySem.W.Frag) : List V → Hp → VK → Prop := fun xs H Q => ∃ p ys, xs = [.ref p] ∧ (SqL K H p ys ∨ SqT K H p ys) ∧ Q (.int ys.length) H
theorem call_lenK {X : Cx} (K : PySem.W.Frag) (h : X.K = K := by rfl) : CallR X (.builtin "len") (rLenSeq K) := by
  subst h
  exact call_len_seq
theorem op_neDK {X : Cx} (K : PySem.W.Frag) (hu : X.A.units + 64 < cLine) (h : X.K = K := by rfl) : OpR X (compareOp .NotEq) (rNeD K) := by
  subst h
  exact op_neD hu
theorem op_eqDK {X : Cx} (K : PySem.W.Frag) (hu : X.A.units + 64 < cLine) (h : X.K = K := by rfl) : OpR X (compareOp .Eq) (rEqD K) := by
  subst h
  exact op_eqD hu
theorem ix_listK {X : Cx} (K : PySem.W.Frag) (h : X.K = K := by rfl) : IxR X (rIxL K) := by
  subst h
  exact ix_list
theorem ix_tupK {X : Cx} (K : PySem.W.Frag) (h : X.K = K := by rfl) : IxR X (rIxT K) := by
  subst h
  exact ix_tup
theorem cons_erase {α : Type} : ∀ (l : List α) (k : Nat) (h : k < l.length), (l[k] :: l.eraseIdx k).Perm l
  | x :: l, 0, _ => List.Perm.refl _
  | x :: l, k + 1, h => (List.Perm.swap ..).trans ((cons_erase l k (Nat.lt_of_succ_lt_succ h)).cons x)
theorem pe_bmB {X : Cx} {o e : Expr} {es : List Expr} {to : TE} {t : TA} {name : Str} {apos cpos : Pos} {T id : String} {r : V → List V → Hp → VK → Prop} (K : PySem.W.Frag) (pa : PlainAttrs T) (slot : Slot T name id) (hty : typeOf (.builtin id) = pure (.type "method_descriptor")) (hm : MtR X id r) (ho : PE X o to) (ha : PA X (e :: es) t) (hK : X.K = K := by rfl)
    (hbase : attributeBase o name X.env (eval o X.env) = eval o X.env := by rfl)
    (hfew : ((backTo cpos (starEach (e :: es) X.env)).all (fun x => !x.1) && (backToKw cpos (keywordEach [] X.env)).all (fun x => x.1.isSome)
      && decide ((e :: es).length + ([] : List Keyword).length + (if ([] : List Keyword).isEmpty then 0 else 1) < 30)) = true := by rfl)
    (hline : (apos.endLine == cpos.line) = true := by rfl) (hs : starEach (e :: es) X.env = (false, eval e X.env) :: starEach es X.env := by rfl) (hplain : (backTo cpos (starEach es X.env)).any (·.1) = false := by rfl) :
    PE X (.Call (.Attribute o name apos) (e :: es) [] cpos) (tBM K T r to t) := by
  subst hK
  exact pe_bm pa slot hty hm ho ha hbase hfew hline hs hplain
theorem same_back {H H' : Hp} {p : Addr} (s : Same H H') (h : H' p = none) : H p = none := s.free h
end Wnd

/-! Windowsteps: the order of the rules, one answer for each set of them. -/
namespace Wnd
open PySem PySem.Spec PyProof.Rows L2
/-- a comes no later than b -/
def leR (a b : Rule) : Bool := W.dataLe false rankD a b
theorem leR_not (a b : Rule) : leR a b = !W.dataLt (rankD b) (rankD a) := rfl
theorem leR_total (a b : Rule) : (leR a b || leR b a) = true := by
  rw [leR_not, leR_not]
  cases h1 : W.dataLt (rankD b) (rankD a) with
  | false => rfl
  | true =>
    cases h2 : W.dataLt (rankD a) (rankD b) with
    | false => rfl
    | true =>
      have h := PyProof.Rows.lex_trans _ _ _ h1 h2
      rw [PyProof.Rows.lex_irrefl] at h
      cases h
theorem leR_trans (a b c : Rule) (h1 : leR a b = true) (h2 : leR b c = true) : leR a c = true := by
  rw [leR_not, Bool.not_eq_true'] at h1 h2 ⊢
  cases h : W.dataLt (rankD c) (rankD a) with
  | false => rfl
  | true =>
    rcases PyProof.Rows.lex_negTrans _ (W.keyToks (rankD b)) _ h with h | h
    · rw [show W.dataLt (rankD c) (rankD b) = true from h] at h2
      cases h2
    · rw [show W.dataLt (rankD b) (rankD a) = true from h] at h1
      cases h1
theorem leR_anti {a b : Rule} (ha : Named a) (hb : Named b) (h1 : leR a b = true) (h2 : leR b a = true) : a = b := by
  rw [leR_not, Bool.not_eq_true'] at h1 h2
  have h := PyProof.Rows.lex_total _ _ h2 h1
  refine rank_inj ha hb ?_
  cases e : PyData.eqv (rankD a) (rankD b) with
  | true => rfl
  | false =>
    rw [eqv_rank] at e
    simp [W.keyToks, W.keyToksAll, rankD] at h
    obtain ⟨x1, x2, x3⟩ := h
    have sx : ∀ {a b : Str}, a.cps = b.cps → a = b := fun {a b} z => by
      cases a
      cases b
      exact congrArg Str.mk z
    rw [sx x1, sx x2, x3] at e
    simp at e
/-- the rules in ascending order -/
def sortR (rs : List Rule) : List Rule := rs.mergeSort leR
theorem sortR_perm (rs : List Rule) : (sortR rs).Perm rs := List.mergeSort_perm _ _
theorem sortR_pair (rs : List Rule) : (sortR rs).Pairwise fun a b => leR a b = true := List.pairwise_mergeSort leR_trans leR_total rs
theorem sortR_one {a b : List Rule} (ha : ∀ r ∈ a, Named r) (hp : a.Perm b) : sortR a = sortR b := by
  have q : (sortR a).Perm (sortR b) := (sortR_perm a).trans (hp.trans (sortR_perm b).symm)
  refine List.Perm.eq_of_pairwise (fun x y hx hy => leR_anti (ha x ((sortR_perm a).mem_iff.mp hx)) (ha y (hp.mem_iff.mpr ((sortR_perm b).mem_iff.mp hy)))) (sortR_pair a) (sortR_pair b) q
theorem sortR_of {a : List Rule} (h : a.Pairwise fun a b => leR a b = true) : sortR a = a := List.mergeSort_of_pairwise h
theorem inOrder_map (L : List (Rule × Addr)) : (inOrder L).map (·.1) = sortR (L.map (·.1)) := List.map_mergeSort fun _ _ _ _ => rfl
theorem pairs_map (L : List Pr) : (pairsInOrder L).map (·.2.1) = sortR (L.map (·.2.1)) := List.map_mergeSort fun _ _ _ _ => rfl
/-- each rule once -/
def nubR (rs : List Rule) : List Rule := (putAll (rs.map fun r => (r, 0)) []).map (·.1)
theorem putR_map {r : Rule} {q q' : Addr} {L L' : List (Rule × Addr)} (h : L.map (·.1) = L'.map (·.1)) : (putR L r q).map (·.1) = (putR L' r q').map (·.1) := by
  unfold putR
  rw [h]
  split
  · exact h
  · rw [List.map_append, List.map_append, h]
    rfl
theorem putAll_map : ∀ {rs rs' L L' : List (Rule × Addr)}, rs.map (·.1) = rs'.map (·.1) → L.map (·.1) = L'.map (·.1) → (putAll rs L).map (·.1) = (putAll rs' L').map (·.1)
  | [], [], _, _, _, h => h
  | [], _ :: _, _, _, h, _ => nomatch h
  | _ :: _, [], _, _, h, _ => nomatch h
  | r :: rs, r' :: rs', L, L', h, h2 => by
    injection h with h1 h3
    show (putAll rs (putR L r.1 r.2)).map (·.1) = (putAll rs' (putR L' r'.1 r'.2)).map (·.1)
    refine putAll_map h3 ?_
    rw [show r'.1 = r.1 from h1.symm]
    exact putR_map h2
theorem nub_put (rs : List (Rule × Addr)) : (putAll rs []).map (·.1) = nubR (rs.map (·.1)) := by
  refine putAll_map ?_ rfl
  rw [List.map_map, List.map_map]
  rfl
theorem nubR_nodup (rs : List Rule) : (nubR rs).Nodup := putAll_nodup _ _ List.nodup_nil
theorem putR_mem {L : List (Rule × Addr)} {r x : Rule} {q : Addr} : x ∈ (putR L r q).map (·.1) ↔ x ∈ L.map (·.1) ∨ x = r := by
  unfold putR
  split
  · rename_i h
    exact ⟨.inl, fun z => z.elim id fun e => e ▸ h⟩
  · rw [List.map_append, List.mem_append]
    simp
theorem putAll_mem1 : ∀ (rs L : List (Rule × Addr)) (x : Rule), x ∈ (putAll rs L).map (·.1) ↔ x ∈ L.map (·.1) ∨ x ∈ rs.map (·.1)
  | [], L, x => by simp [putAll]
  | r :: rs, L, x => by
    show x ∈ (putAll rs (putR L r.1 r.2)).map (·.1) ↔ _
    rw [putAll_mem1 rs, putR_mem, List.map_cons, List.mem_cons]
    constructor
    · rintro ((h | h) | h)
      · exact .inl h
      · exact .inr (.inl h)
      · exact .inr (.inr h)
    · rintro (h | h | h)
      · exact .inl (.inl h)
      · exact .inl (.inr h)
      · exact .inr h
theorem nubR_mem (rs : List Rule) (x : Rule) : x ∈ nubR rs ↔ x ∈ rs := by
  unfold nubR
  rw [putAll_mem1, List.map_map]
  simp
theorem nubR_of {rs : List Rule} (h : rs.Nodup) : (nubR rs).Perm rs := (List.perm_ext_iff_of_nodup (nubR_nodup rs) h).mpr fun x => nubR_mem rs x
/-- the different rules in ascending order -/
def canon (rs : List Rule) : List Rule := sortR (nubR rs)
theorem canon_mem (rs : List Rule) (x : Rule) : x ∈ canon rs ↔ x ∈ rs := (sortR_perm _).mem_iff.trans (nubR_mem rs x)
theorem canon_nodup (rs : List Rule) : (canon rs).Nodup := (sortR_perm _).nodup_iff.mpr (nubR_nodup rs)
theorem canon_len (rs : List Rule) : (canon rs).length ≤ rs.length := by
  unfold canon
  rw [(sortR_perm _).length_eq, nubR, List.length_map]
  have := putAll_len (rs.map fun r => (r, 0)) []
  rw [List.length_map, List.length_nil] at this
  omega
theorem canon_same {a b : List Rule} (ha : ∀ r ∈ a, Named r) (h : ∀ x, x ∈ a ↔ x ∈ b) : canon a = canon b := by
  refine sortR_one (fun r hr => ha r ((nubR_mem a r).mp hr)) ((List.perm_ext_iff_of_nodup (nubR_nodup a) (nubR_nodup b)).mpr fun x => ?_)
  rw [nubR_mem, nubR_mem, h]
theorem canon_of {a : List Rule} (ha : ∀ r ∈ a, Named r) (nd : a.Nodup) (h : a.Pairwise fun a b => leR a b = true) : canon a = a := by
  have : sortR (nubR a) = sortR a := sortR_one (fun r hr => ha r ((nubR_mem a r).mp hr)) (nubR_of nd)
  rw [canon, this, sortR_of h]
theorem canon_canon {a : List Rule} (ha : ∀ r ∈ a, Named r) : canon (canon a) = canon a := canon_same (fun r hr => ha r ((canon_mem a r).mp hr)) (canon_mem a)
theorem canon_pair (a : List Rule) : (canon a).Pairwise fun a b => leR a b = true := sortR_pair _
theorem inOrder_canon (rs : List (Rule × Addr)) : (inOrder (putAll rs [])).map (·.1) = canon (rs.map (·.1)) := by
  rw [inOrder_map, nub_put]
  rfl

/-! ### names in ascending order -/
def leS (a b : Str) : Bool := !decide (b.cps.toList < a.cps.toList)
theorem leS_iff (a b : Str) : leS a b = true ↔ a.cps.toList ≤ b.cps.toList := by
  unfold leS
  rw [Bool.not_eq_true', decide_eq_false_iff_not]
  exact List.not_lt
theorem leS_total (a b : Str) : (leS a b || leS b a) = true := by
  rw [Bool.or_eq_true, leS_iff, leS_iff]
  exact List.le_total _ _
theorem leS_trans (a b c : Str) (h1 : leS a b = true) (h2 : leS b c = true) : leS a c = true := by
  rw [leS_iff] at h1 h2 ⊢
  exact List.le_trans h1 h2
theorem leS_anti {a b : Str} (h1 : leS a b = true) (h2 : leS b a = true) : a = b := by
  rw [leS_iff] at h1 h2
  have := List.le_antisymm h1 h2
  obtain ⟨⟨x⟩⟩ := a
  obtain ⟨⟨y⟩⟩ := b
  exact congrArg (fun l => Str.mk (Array.mk l)) this
theorem rising_pair : ∀ (p : Str) (l : List Str), PyProof.Rows.risingS p l = true → (p :: l).Pairwise fun a b => leS a b = true
  | p, [], _ => List.pairwise_singleton _ _
  | p, x :: r, h => by
    unfold PyProof.Rows.risingS at h
    rw [Bool.and_eq_true] at h
    have ih := rising_pair x r h.2
    have px : leS p x = true := by
      have h1 := h.1
      rw [PyProof.Rows.ltCps_eq] at h1
      exact h1
    refine List.pairwise_cons.mpr ⟨fun y hy => ?_, ih⟩
    rcases List.mem_cons.mp hy with rfl | hy
    · exact px
    · exact leS_trans p x y px ((List.pairwise_cons.mp ih).1 y hy)
theorem sorted_pair {l : List Str} (h : PyProof.Rows.sortedS l = true) : l.Pairwise fun a b => leS a b = true := by
  cases l with
  | nil => exact List.Pairwise.nil
  | cons x r => exact rising_pair x r h
def sortN (ts : List Str) : List Str := ts.mergeSort leS
theorem sortN_perm (ts : List Str) : (sortN ts).Perm ts := List.mergeSort_perm _ _
theorem sortN_of {ys ts : List Str} (hp : ys.Perm ts) (h : PyProof.Rows.sortedS ys = true) : ys = sortN ts :=
  List.Perm.eq_of_pairwise (fun x y _ _ => leS_anti) (sorted_pair h) (List.pairwise_mergeSort leS_trans leS_total ts) (hp.trans (sortN_perm ts).symm)
theorem sortN_one {a b : List Str} (h : a.Perm b) : sortN a = sortN b :=
  List.Perm.eq_of_pairwise (fun x y _ _ => leS_anti) (List.pairwise_mergeSort leS_trans leS_total a) (List.pairwise_mergeSort leS_trans leS_total b) ((sortN_perm a).trans (h.trans (sortN_perm b).symm))
theorem sortN_sortN (a : List Str) : sortN (sortN a) = sortN a := sortN_one (sortN_perm a)
end Wnd

/-! Windowsteps: l.count(x), items and x data of any depth. -/
namespace Wnd
open PySem PySem.Spec PyProof.Rows L2
variable {X : Cx}
def rCountD (K : PySem.W.Frag) : V → List V → Hp → VK → Prop := fun x xs H Q => ∃ (a : Addr) (y : V) (d : PyData) (ds : List PyData), x = V.ref a ∧ xs = [y] ∧ Dp K H (V.ref a) (.list ds) ∧ Dp K H y d ∧
  SeqAt.shaped (.list ds) = true ∧ SeqAt.shaped d = true ∧ Q (.int (ds.countP fun z => PyData.eqv z d : Nat)) H
theorem mt_countD (hu : X.A.units + 65 < cLine) : MtR X "list.count" (rCountD X.K) := by
  intro pins s σ H x xs v us Q I rx rxs h
  obtain ⟨a, y, d, ds, rfl, rfl, hl, hy, sl, sd, q⟩ := h
  cases rx
  obtain ⟨uy, rfl, ry⟩ := rxs.one
  obtain ⟨bs, r1⟩ := Dp.reads I d y uy hy ry
  have hxs : PyData.canLayAll0 ds = true := SeqAt.canLay_of_shaped sl
  have hroom : X.A.units + 1 + min (PyData.depthAll ds) d.depth < cLine := room_in_shaped sd hu
  cases hl with
  | lst hs ha =>
    obtain ⟨its, rv, ⟨⟨cls, dd, data, sls⟩, n, ho, hc, hdn, hdt⟩, hlen⟩ := I.list hs
    simp only at hc hdt
    subst hc hdt
    obtain ⟨as, h4⟩ := Dp.readsAll I ds _ its ha rv
    have hmap : its.map (SeqAt.readOf s.heap) = ds := SeqAt.readsAll_map ds its as hxs h4
    refine call_meets PySem.F.slot_list_count ⟨_, ho, rfl⟩ PySem.F.entry_list_count (PySem.F.args_list_count_2 _ _)
      (SeqAt.list_countAt a its.toArray n dd sls uy (fun u => PyData.eqv (SeqAt.readOf s.heap u) d)) ⟨ho, SeqAt.items_eqAt (vs := its.toArray) (show ReadsAll s.heap its.toArray.toList ds as from h4) r1 hxs (SeqAt.canLay_of_shaped sd) hroom, ?_⟩
    have ec : its.toArray.toList.countP (fun u => PyData.eqv (SeqAt.readOf s.heap u) d) = ds.countP fun z => PyData.eqv z d := by
      rw [← hmap, List.countP_map]
      rfl
    refine ⟨.int (ds.countP fun z => PyData.eqv z d : Nat), H, I.tok _, ⟨s.toks, ?_⟩, q⟩
    show Value.int ((its.toArray.toList.countP (fun u => PyData.eqv (SeqAt.readOf s.heap u) d) : Nat) : Int) s.toks = Value.int ((ds.countP fun z => PyData.eqv z d : Nat) : Int) s.toks
    rw [ec]
end Wnd

/-! Windowsteps: what the head of a law's proof finds of defs, methods, constants. -/
namespace Wnd
open PySem PySem.Spec PyProof.Rows L2
section
variable {K : PySem.W.Frag} {mg : Str → Option Value} {h : Heap}
/-- a def of the text, where the top has put it -/
def DefRaw (K : PySem.W.Frag) (x : Str) (st : Stmt) : Prop := ∃ (f : Addr) (oc : Value) (od an : Option Addr) (kV dc pm cd ct : Value) (sl : Array (Option Value)), PySem.W.nsIn K mainGlobals x = some (some (.ref f)) ∧
  K.lookup f = some ⟨oc, od, .func (PySem.W.fnOf x x (defArgs st) (defBody st) (defScope st) .none kV dc pm an cd ct), sl⟩ ∧ PySem.W.codeIn K cd x = true ∧ PySem.W.keepIn K (.ref f) = true
theorem defRaw_mk {x : Str} {st : Stmt} {f : Addr} {oc : Value} {od an : Option Addr} {kV dc pm cd ct : Value} {sl : Array (Option Value)} (a : PySem.W.nsIn K mainGlobals x = some (some (.ref f)))
    (b : K.lookup f = some ⟨oc, od, .func (PySem.W.fnOf x x (defArgs st) (defBody st) (defScope st) .none kV dc pm an cd ct), sl⟩) (c : PySem.W.codeIn K cd x = true) (d : PySem.W.keepIn K (.ref f) = true) : DefRaw K x st := ⟨f, oc, od, an, kV, dc, pm, cd, ct, sl, a, b, c, d⟩
theorem DefRaw.at {x : Str} {st : Stmt} {ps : List Str} (R : DefRaw K x st) (X : K.In h) (G : h.Ns mainGlobals mg)
    (hb : ∀ (kV doc pm : Value) (an : Option Addr) (cdv ct : Value) (us : List Value), us.length = ps.length → bindArgs (PySem.W.fnOf x x (defArgs st) (defBody st) (defScope st) .none kV doc pm an cdv ct) ⟨us, []⟩ = pure (ps.zip us)) :
    ∃ (f : Addr) (fd : FuncData), DefAt K mg x st ps f fd := by
  obtain ⟨f, oc, od, an, kV, dc, pm, cd, ct, sl, h1, h2, h3, h4⟩ := R
  have F := fun_mk (st := st) h2 h3 h4
  exact ⟨f, _, F, F.binds hb, PySem.W.mg_of X G h1⟩
/-- a method of a class -/
def MetRaw (K : PySem.W.Frag) (C : Addr) (x q : Str) (st : Stmt) : Prop := ∃ (f : Addr) (oc : Value) (od an : Option Addr) (kV dc pm cd ct : Value) (sl : Array (Option Value)), PySem.W.findIn K (.ref C) x = some (some (.ref f)) ∧ PySem.W.isFn K (.ref f) = true ∧
  K.lookup f = some ⟨oc, od, .func (PySem.W.fnOf x q (defArgs st) (defBody st) (defScope st) .none kV dc pm an cd ct), sl⟩ ∧ PySem.W.codeIn K cd q = true ∧ PySem.W.keepIn K (.ref f) = true
theorem metRaw_mk {C : Addr} {x q : Str} {st : Stmt} {f : Addr} {oc : Value} {od an : Option Addr} {kV dc pm cd ct : Value} {sl : Array (Option Value)} (a : PySem.W.findIn K (.ref C) x = some (some (.ref f))) (b : PySem.W.isFn K (.ref f) = true)
    (c : K.lookup f = some ⟨oc, od, .func (PySem.W.fnOf x q (defArgs st) (defBody st) (defScope st) .none kV dc pm an cd ct), sl⟩) (d : PySem.W.codeIn K cd q = true) (e : PySem.W.keepIn K (.ref f) = true) : MetRaw K C x q st := ⟨f, oc, od, an, kV, dc, pm, cd, ct, sl, a, b, c, d, e⟩
theorem MetRaw.at {C : Addr} {x q : Str} {st : Stmt} {ps : List Str} (R : MetRaw K C x q st)
    (hb : ∀ (kV doc pm : Value) (an : Option Addr) (cdv ct : Value) (us : List Value), us.length = ps.length → bindArgs (PySem.W.fnOf x q (defArgs st) (defBody st) (defScope st) .none kV doc pm an cdv ct) ⟨us, []⟩ = pure (ps.zip us)) :
    ∃ (f : Addr) (fd : FuncData), Fun K x q st f fd ∧ Binds K fd ps [] ∧ PySem.W.findIn K (.ref C) x = some (some (.ref f)) ∧ PySem.W.isFn K (.ref f) = true := by
  obtain ⟨f, oc, od, an, kV, dc, pm, cd, ct, sl, h1, h2, h3, h4, h5⟩ := R
  have F := fun_mk (st := st) h3 h4 h5
  exact ⟨f, _, F, F.binds hb, h1, h2⟩
/-- a static method of a class, as it is read off the class -/
def StatRaw (K : PySem.W.Frag) (C : Addr) (x q : Str) (st : Stmt) : Prop := ∃ (mc : Value) (p f : Addr) (oc : Value) (od an : Option Addr) (kV dc pm cd ct : Value) (sl : Array (Option Value)), PySem.W.readsIn K C mc = true ∧
  PySem.W.specialIn K (.ref C) "__getattribute__" = some (some (.builtin "type.__getattribute__")) ∧ PySem.W.findCls K (.ref C) mc x = some (.get (.builtin "staticmethod.__get__") (.ref p) .none (.ref C)) ∧ (∃ rest, PySem.W.recIn K p "staticmethod" = some (.ref f :: rest)) ∧
  K.lookup f = some ⟨oc, od, .func (PySem.W.fnOf x q (defArgs st) (defBody st) (defScope st) .none kV dc pm an cd ct), sl⟩ ∧ PySem.W.codeIn K cd q = true ∧ PySem.W.keepIn K (.ref f) = true
theorem statRaw_mk {C p : Addr} {x q : Str} {st : Stmt} {f : Addr} {oc : Value} {od an : Option Addr} {kV dc pm cd ct : Value} {sl : Array (Option Value)} {rest : List Value} (a : PySem.W.readsIn K C (.type "type") = true)
    (b : PySem.W.specialIn K (.ref C) "__getattribute__" = some (some (.builtin "type.__getattribute__"))) (c : PySem.W.findCls K (.ref C) (.type "type") x = some (.get (.builtin "staticmethod.__get__") (.ref p) .none (.ref C))) (d : PySem.W.recIn K p "staticmethod" = some (.ref f :: rest))
    (e : K.lookup f = some ⟨oc, od, .func (PySem.W.fnOf x q (defArgs st) (defBody st) (defScope st) .none kV dc pm an cd ct), sl⟩) (g : PySem.W.codeIn K cd q = true) (i : PySem.W.keepIn K (.ref f) = true) : StatRaw K C x q st :=
  ⟨.type "type", p, f, oc, od, an, kV, dc, pm, cd, ct, sl, a, b, c, ⟨rest, d⟩, e, g, i⟩
theorem StatRaw.at {C : Addr} {x q : Str} {st : Stmt} {ps : List Str} (R : StatRaw K C x q st)
    (hb : ∀ (kV doc pm : Value) (an : Option Addr) (cdv ct : Value) (us : List Value), us.length = ps.length → bindArgs (PySem.W.fnOf x q (defArgs st) (defBody st) (defScope st) .none kV doc pm an cdv ct) ⟨us, []⟩ = pure (ps.zip us)) :
    ∃ (mc : Value) (p g : Addr) (fd : FuncData), Fun K x q st g fd ∧ Binds K fd ps [] ∧ ClX.CRead K C mc ∧ SMet K C mc x p g := by
  obtain ⟨mc, p, f, oc, od, an, kV, dc, pm, cd, ct, sl, h1, h2, h3, h4, h5, h6, h7⟩ := R
  have F := fun_mk (st := st) h5 h6 h7
  exact ⟨mc, p, f, _, F, F.binds hb, ⟨h1, h2⟩, ⟨h3, h4, h7⟩⟩
/-- a property of a class: its getter's def -/
def PropRaw (K : PySem.W.Frag) (C : Addr) (x q : Str) (st : Stmt) : Prop := ∃ (p f : Addr) (oc : Value) (od an : Option Addr) (kV dc pm cd ct : Value) (sl : Array (Option Value)), PySem.W.findIn K (.ref C) x = some (some (.ref p)) ∧ PySem.W.specialIn K (.ref p) "__get__" = some (some (.builtin "property.__get__")) ∧
  PySem.W.takesIn K (.ref p) = some true ∧ (∃ rest, PySem.W.recIn K p "property" = some (.ref f :: rest)) ∧ K.lookup f = some ⟨oc, od, .func (PySem.W.fnOf x q (defArgs st) (defBody st) (defScope st) .none kV dc pm an cd ct), sl⟩ ∧ PySem.W.codeIn K cd q = true ∧ PySem.W.keepIn K (.ref f) = true
theorem propRaw_mk {C p : Addr} {x q : Str} {st : Stmt} {f : Addr} {oc : Value} {od an : Option Addr} {kV dc pm cd ct : Value} {sl : Array (Option Value)} {rest : List Value} (a : PySem.W.findIn K (.ref C) x = some (some (.ref p))) (b : PySem.W.specialIn K (.ref p) "__get__" = some (some (.builtin "property.__get__")))
    (c : PySem.W.takesIn K (.ref p) = some true) (d : PySem.W.recIn K p "property" = some (.ref f :: rest)) (e : K.lookup f = some ⟨oc, od, .func (PySem.W.fnOf x q (defArgs st) (defBody st) (defScope st) .none kV dc pm an cd ct), sl⟩) (g : PySem.W.codeIn K cd q = true) (i : PySem.W.keepIn K (.ref f) = true) : PropRaw K C x q st :=
  ⟨p, f, oc, od, an, kV, dc, pm, cd, ct, sl, a, b, c, ⟨rest, d⟩, e, g, i⟩
theorem PropRaw.at {C : Addr} {x q : Str} {st : Stmt} {ps : List Str} (R : PropRaw K C x q st)
    (hb : ∀ (kV doc pm : Value) (an : Option Addr) (cdv ct : Value) (us : List Value), us.length = ps.length → bindArgs (PySem.W.fnOf x q (defArgs st) (defBody st) (defScope st) .none kV doc pm an cdv ct) ⟨us, []⟩ = pure (ps.zip us)) :
    ∃ (p g : Addr) (fd : FuncData), Fun K x q st g fd ∧ Binds K fd ps [] ∧ PropOf K C x p g := by
  obtain ⟨p, f, oc, od, an, kV, dc, pm, cd, ct, sl, h1, h2, h3, h4, h5, h6, h7⟩ := R
  have F := fun_mk (st := st) h5 h6 h7
  exact ⟨p, f, _, F, F.binds hb, ⟨h1, h2, h3, h4⟩⟩
end
end Wnd

namespace Wnd
open PySem PySem.Spec PyProof.Rows L2
def top (i : Nat) : Stmt := PySem.Challenge.pw_windowsteps_k01_errors.main.body.getD i (.Pass ⟨0, 0, 0, 0⟩)
abbrev s_law_pen : Stmt := top 23
theorem sc_law_pen : FnScope ["_law_script"] ["_law_script"] (defScope s_law_pen) := ⟨rfl, rfl, rfl, by decide +kernel, rfl, by decide +kernel, by decide +kernel⟩
abbrev s_law_next : Stmt := top 24
theorem sc_law_next : FnScope ["_law_pen_here", "_law_index", "_law_cell", "_law_some", "_law_more", "_law_top"] ["_law_pen_here"] (defScope s_law_next) := ⟨rfl, rfl, rfl, by decide +kernel, rfl, by decide +kernel, by decide +kernel⟩
abbrev s_law_draw : Stmt := top 25
theorem sc_law_draw : FnScope ["_law_pen_here", "_law_under", "_law_digit"] ["_law_pen_here", "_law_under"] (defScope s_law_draw) := ⟨rfl, rfl, rfl, by decide +kernel, rfl, by decide +kernel, by decide +kernel⟩
structure Blt (mg : Str → Option Value) : Prop where
  len : mg "len" = none
  list : mg "list" = none
  range : mg "range" = none
  min : mg "min" = none
  max : mg "max" = none
  dict : mg "dict" = none
  sorted : mg "sorted" = none
section
variable {P : Program} {w : World} {K : PySem.W.Frag} {mg : Str → Option Value} {base : Heap}
theorem ok_pen {f : Addr} {fd : FuncData} (D : DefAt K mg "_law_pen" s_law_pen ["_law_script"] f fd) (B : Blt mg) : Ok P w K mg base 1 "_law_pen" ["_law_script"] (spPen K) := by
  refine D.ok (D.fn.ok sc_law_pen (fun vs H Q E h => ?_) (fun cdv A outer s H vs Q E hr h => ?_))
  · obtain ⟨a, ns, rfl, _⟩ := h
    rfl
  · obtain ⟨a, ns, rfl, hS, hlen, q⟩ := h
    refine ⟨_, (pss_one (ps_ret (pe_lst (pa_cons (pe_callTy call_list_of (by rfl) B.list (by decide +kernel) (pa_cons (pe_slice sl_list (pv 0) po_none (po_some pe_int)) pa_nil)) (pa_cons pe_int (pa_cons pe_int pa_nil)))))), ?_⟩
    refine ⟨_, rfl, 60, rfl, a, _, rfl, hS, fun c1 n1 => ?_⟩
    have s1 : Same H _ := same_new (o := .lst (cutV (ns.map V.int) none (some 60))) n1
    refine ⟨c1, _, rfl, .inl (SqL.of upd_same), fun c n2 => ?_⟩
    have s2 := s1.trans (same_new (o := .lst (cutV (ns.map V.int) none (some 60))) n2)
    refine ⟨by show 3 ≤ sizeLine; decide, fun p n3 => ?_⟩
    have s3 := s2.trans (same_new (o := .lst [.ref c, .int 0, .int 0]) n3)
    have ncp : c ≠ p := fun e => by
      rw [e, upd_same] at n3
      cases n3
    refine q p c _ s3 (s2.free n3) (s1.free n2) ⟨ns.take 60, 0, 0, ?_, Nat.le_refl _, ?_, upd_same⟩
    · rw [List.length_take]
      omega
    · rw [upd_ne ncp, upd_same]
      congr 2
      rw [List.map_take]
      unfold cutV
      rw [HT.sIx_none, show HT.sIx (ns.map V.int).length (ns.map V.int).length (some 60) = min 60 (ns.map V.int).length from HT.sIx_nat _ _ 60, List.drop_zero, Nat.sub_zero]
      by_cases hl : (ns.map V.int).length ≤ 60
      · rw [Nat.min_eq_right hl, List.take_length, List.take_of_length_le hl]
      · rw [Nat.min_eq_left (by omega)]
theorem dp_ints {H : Hp} : ∀ cs : List Int, DpAll K H (cs.map V.int) (cs.map PyData.int)
  | [] => .nil
  | c :: r => .cons (.int c) (dp_ints r)
theorem lay_ints : ∀ cs : List Int, PyData.canLayAll0 (cs.map PyData.int) = true ∧ PyData.depthAll (cs.map PyData.int) = 0
  | [] => ⟨by simp [PyData.canLayAll0], by simp [PyData.depthAll]⟩
  | c :: r => by
    obtain ⟨h1, h2⟩ := lay_ints r
    refine ⟨?_, ?_⟩
    · simp [PyData.canLayAll0, PyData.canLay0, h1]
    · simp [PyData.depthAll, PyData.depth, h2]
theorem shaped_ints (cs : List Int) : SeqAt.shaped (.list (cs.map PyData.int)) = true := by
  obtain ⟨h1, h2⟩ := lay_ints cs
  simp [SeqAt.shaped, PyData.canLay0, h1, PyData.depth, h2]
theorem mod_sm {a m : Int} (h0 : 0 < m) (h : m < 2 ^ 64) : -(2 ^ 64) < a % m ∧ a % m < 2 ^ 64 := by
  have h1 := Int.emod_nonneg a (show m ≠ 0 by omega)
  have h2 := Int.emod_lt_of_pos a h0
  omega
theorem ok_next {f : Addr} {fd : FuncData} (D : DefAt K mg "_law_next" s_law_next ["_law_pen_here"] f fd) (B : Blt mg) : Ok P w K mg base 1 "_law_next" ["_law_pen_here"] spNext := by
  refine D.ok (D.fn.ok sc_law_next (fun vs H Q E h => ?_) (fun cdv A outer s H vs Q E hr h => ?_))
  · obtain ⟨p, c, n, rfl, _⟩ := h
    rfl
  · obtain ⟨p, c, n, rfl, hP, hn, q⟩ := h
    have ncp := hP.ne
    obtain ⟨cs, i, z, hcs, hi, hc, hp⟩ := hP
    have nd := sc_law_next.nd
    refine ⟨_, (pss_cons (ps_set (i := 1) nd rfl (Or.inl rfl) (pe_ix ix_list (pv 0) pe_int (fun _ _ => rfl)))
      (pss_cons (ps_asg (pe_op op_add (pv 1) pe_int) (pg_sub (pv 0) pe_int set_list))
      (pss_cons (ps_set (i := 2) nd rfl (Or.inl rfl) (pe_op op_add (pe_op op_mul (pv 1) pe_int) pe_int))
      (C8.pss_cut (ps_if (pt_cmpR (op_neD (hu_of64 hr)) (pe_ix ix_list (pv 0) pe_int (fun _ _ => rfl)) (pe_lst pa_nil) (nomark _)) (pss_one (ps_set (i := 2) nd rfl (Or.inl rfl) (pe_ix ix_list (pe_ix ix_list (pv 0) pe_int (fun _ _ => rfl)) (pe_op op_mod (pv 1) (pe_callB call_len_seq (by rfl) B.len PySem.boot_len (pa_cons (pe_ix ix_list (pv 0) pe_int (fun _ _ => rfl)) pa_nil))) (fun _ _ => rfl)))) pss_nil)
      (C8.pss_cut (ps_if (PW.pt (pw_and (pt_cmpR op_lt (pv 1) (pe_callB call_len_seq (by rfl) B.len PySem.boot_len (pa_cons (pe_ix ix_list (pv 0) pe_int (fun _ _ => rfl)) pa_nil)) (nomark _)) (pw_and1 (pt_cmpR op_ge (pv 2) (pe_op op_pow pe_int pe_int) (nomark _))))) (pss_one (ps_ret (pv 2))) pss_nil)
      (pss_cons (ps_set (i := 3) nd rfl (Or.inl rfl) (pe_op op_mod (pe_op op_add (pe_op op_add (pe_op op_mod (pv 2) pe_int) (pe_op op_mul (pv 1) pe_int)) pe_int) pe_int))
      (pss_cons (ps_set (i := 4) nd rfl (Or.inl rfl) (pe_op op_mod (pe_op op_add (pe_op op_add (pe_op op_mul (pv 3) (pv 3)) (pe_op op_mul (pv 1) pe_int)) pe_int) pe_int))
      (pss_cons (ps_set (i := 5) nd rfl (Or.inl rfl) (pe_op op_mod (pe_op op_add (pe_op op_add (pe_op op_mul (pv 4) (pv 4)) (pv 3)) (pe_op op_mul (pe_op op_mul (pv 1) (pv 1)) pe_int)) pe_int))
      (pss_one (ps_ret (pe_op op_add (pe_op op_mul (pe_op op_add (pe_op op_mul (pv 5) pe_int) (pv 4)) pe_int) (pv 3)))))))))))), ?_⟩
    -- index
    refine ⟨_, rfl, p, _, 1, _, rfl, rfl, SqL.of hp, rfl, ?_⟩
    -- pen[1] = index + 1
    refine ⟨_, rfl, i, 1, rfl, rfl, _, rfl, p, _, 1, 1, rfl, rfl, hp, rfl, ?_⟩
    -- cell = index * 1061 + 37
    refine ⟨_, rfl, i, 1061, rfl, rfl, .inr ⟨by decide, by decide⟩, _, 37, rfl, rfl, ?_⟩
    have hp1 : (upd H p (.lst [.ref c, .int (i + 1), .int z])) p = some (.lst [.ref c, .int (i + 1), .int z]) := upd_same
    have hc1 : (upd H p (.lst [.ref c, .int (i + 1), .int z])) c = some (.lst (cs.map V.int)) := by
      rw [upd_ne ncp]
      exact hc
    have b1 : But p H (upd H p (.lst [.ref c, .int (i + 1), .int z])) := But.upd
    generalize hH1 : upd H p (.lst [.ref c, .int (i + 1), .int z]) = H1 at hp1 hc1 b1
    -- if pen[0] != []
    refine ⟨fun σ H2 => ∃ cell : Int, σ = [some (.ref p), some (.int i), some (.int cell), none, none, none] ∧ Same H1 H2, ?_, ?_⟩
    · rw [← hH1] at hp1 hc1 ⊢
      refine ⟨_, rfl, p, _, 0, _, rfl, rfl, SqL.of hp1, rfl, Nat.zero_le _, fun t nt => ?_⟩
      have s1 := same_new (o := .lst []) nt
      have hp2 := s1 _ _ hp1
      have hc2 := s1 _ _ hc1
      refine ⟨_, _, .lst (SqL.of hc2) (dp_ints cs), .lst (SqL.of upd_same) (dp_ints []), shaped_ints cs, shaped_ints [], _, rfl, ?_⟩
      cases cs with
      | nil =>
        refine iteF ?_
        exact ⟨_, rfl, s1⟩
      | cons x r =>
        refine iteT ?_
        refine ⟨_, rfl, p, _, 0, _, rfl, rfl, SqL.of hp2, rfl, _, rfl, _, rfl, p, _, 0, _, rfl, rfl, SqL.of hp2, rfl, c, _, rfl, .inl (SqL.of hc2), _, _, rfl, rfl, ?_, ?_⟩
        · show (0 : Int) < (((x :: r).map V.int).length : Nat)
          rw [List.length_map, List.length_cons]
          omega
        · have hm0 : 0 ≤ (i : Int) % (((x :: r).map V.int).length : Nat) := Int.emod_nonneg _ (by rw [List.length_map, List.length_cons]; omega)
          have hm1 : (i : Int) % (((x :: r).map V.int).length : Nat) < (((x :: r).map V.int).length : Nat) := Int.emod_lt_of_pos _ (by rw [List.length_map, List.length_cons]; omega)
          generalize hj : (i : Int) % (((x :: r).map V.int).length : Nat) = j at hm0 hm1
          obtain ⟨k, rfl⟩ := Int.eq_ofNat_of_zero_le hm0
          have hk : k < (x :: r).length := by
            rw [List.length_map] at hm1
            omega
          refine ⟨c, _, k, .int (x :: r)[k], rfl, congrArg V.int hj, SqL.of hc2, atI_nat (by rw [List.getElem?_map, List.getElem?_eq_getElem hk]; rfl), ?_⟩
          exact ⟨_, rfl, s1⟩
    · rintro σ H2 ⟨cell, rfl, s2⟩
      have hp2 := s2 _ _ hp1
      have hc2 := s2 _ _ hc1
      have b2 : But p H H2 := b1.trans (But.of s2)
      have fin : ∀ r : Int, Q (.int r) H2 := fun r => q r H2 b2 ⟨cs, i + 1, z, hcs, by omega, hc2, hp2⟩
      -- if index < len(pen[0]) and cell >= 10 ** 18: return cell
      refine ⟨fun σ H3 => σ = [some (.ref p), some (.int i), some (.int cell), none, none, none] ∧ H3 = H2, ?_, ?_⟩
      · refine ⟨_, rfl, _, rfl, p, _, 0, _, rfl, rfl, SqL.of hp2, rfl, c, _, rfl, .inl (SqL.of hc2), _, _, rfl, rfl, _, rfl, ?_⟩
        refine ite2 (fun _ => ?_) (fun _ => ?_)
        · refine ⟨_, rfl, 10, 18, rfl, rfl, ⟨by decide, by decide, by decide⟩, _, _, rfl, rfl, _, rfl, ?_⟩
          refine ite2 (fun _ => ?_) (fun _ => ⟨rfl, rfl⟩)
          exact ⟨_, rfl, fin _⟩
        · exact iteF ⟨rfl, rfl⟩
      · rintro σ H3 ⟨rfl, rfl⟩
        refine ⟨_, rfl, cell, 2147483587, rfl, rfl, (by show (0 : Int) < 2147483587; decide), _, rfl, i, 50069, rfl, rfl, .inr ⟨by decide, by decide⟩, _, _, rfl, rfl, _, 61, rfl, rfl, _, 2147483587, rfl, rfl, (by show (0 : Int) < 2147483587; decide), ?_⟩
        refine ⟨_, rfl, _, rfl, _, _, rfl, rfl, .inl (mod_sm (by decide) (by decide)), _, rfl, i, 40013, rfl, rfl, .inr ⟨by decide, by decide⟩, _, _, rfl, rfl, _, 43, rfl, rfl, _, 2147483563, rfl, rfl, (by show (0 : Int) < 2147483563; decide), ?_⟩
        refine ⟨_, rfl, _, rfl, _, _, rfl, rfl, .inl (mod_sm (by decide) (by decide)), _, rfl, _, _, rfl, rfl, _, rfl, _, rfl, i, i, rfl, rfl, .inl ⟨by omega, by omega⟩, _, 19, rfl, rfl, .inr ⟨by decide, by decide⟩, _, _, rfl, rfl, _, 2147483549, rfl, rfl, (by show (0 : Int) < 2147483549; decide), ?_⟩
        refine ⟨_, rfl, _, 2147483587, rfl, rfl, .inr ⟨by decide, by decide⟩, _, rfl, _, _, rfl, rfl, _, 2147483563, rfl, rfl, .inr ⟨by decide, by decide⟩, _, rfl, _, _, rfl, rfl, ?_⟩
        exact fin _
theorem ok_draw {f : Addr} {fd : FuncData} (D : DefAt K mg "_law_draw" s_law_draw ["_law_pen_here", "_law_under"] f fd) (O_law_next : Ok P w K mg base 1 "_law_next" ["_law_pen_here"] spNext) : Ok P w K mg base 2 "_law_draw" ["_law_pen_here", "_law_under"] spDraw := by
  refine D.ok (D.fn.ok sc_law_draw (fun vs H Q E h => ?_) (fun cdv A outer s H vs Q E hr h => ?_))
  · obtain ⟨p, c, n, u, rfl, _⟩ := h
    rfl
  · obtain ⟨p, c, n, u, rfl, hP, hn, hu0, hu1, q⟩ := h
    have ncp := hP.ne
    have nd := sc_law_draw.nd
    refine ⟨_, (C8.pss_cut (ps_if (pt_cmpR op_lt (pe_ix ix_list (pv 0) pe_int (fun _ _ => rfl)) (pv 1) (nomark _)) (pss_one (ps_asg (pe_own O_law_next (hr.mono (by decide)) (pa_cons (pv 0) pa_nil)) (pg_sub (pv 0) pe_int set_list))) pss_nil)
      (pss_cons (ps_set (i := 2) nd rfl (Or.inl rfl) (pe_op op_mod (pe_ix ix_list (pv 0) pe_int (fun _ _ => rfl)) (pv 1)))
      (pss_cons (ps_asg (pe_op op_fdiv (pe_ix ix_list (pv 0) pe_int (fun _ _ => rfl)) (pv 1)) (pg_sub (pv 0) pe_int set_list))
      (pss_one (ps_ret (pv 2)))))), ?_⟩
    refine ⟨fun σ H2 => σ = [some (.ref p), some (.int u), none] ∧ But p H H2 ∧ PenAt H2 p c (n + 1), ?_, ?_⟩
    · have hP' := hP
      obtain ⟨cs, i, z, hcs, hi, hc, hp⟩ := hP
      refine ⟨_, rfl, p, _, 2, _, rfl, rfl, SqL.of hp, rfl, _, rfl, _, _, rfl, rfl, _, rfl, ?_⟩
      refine ite2 (fun _ => ?_) (fun _ => ⟨rfl, But.refl _ _, hP'.le (Nat.le_succ _)⟩)
      refine ⟨_, rfl, p, c, n, rfl, hP', hn, fun r H2 b2 hP2 => ?_⟩
      obtain ⟨cs, i, z, hcs, hi, hc, hp⟩ := hP2
      refine ⟨_, rfl, p, _, 2, 2, rfl, rfl, hp, rfl, ?_⟩
      refine ⟨rfl, b2.trans But.upd, cs, i, r, hcs, hi, ?_, upd_same⟩
      rw [upd_ne ncp]
      exact hc
    · rintro σ H2 ⟨rfl, b2, cs, i, z, hcs, hi, hc, hp⟩
      refine ⟨_, rfl, p, _, 2, _, rfl, rfl, SqL.of hp, rfl, _, rfl, z, u, rfl, rfl, hu0, ?_⟩
      refine ⟨_, rfl, p, _, 2, _, rfl, rfl, SqL.of hp, rfl, _, rfl, z, u, rfl, rfl, ⟨hu0, by omega⟩, _, rfl, p, _, 2, 2, rfl, rfl, hp, rfl, ?_⟩
      refine ⟨_, rfl, q _ _ (Int.emod_nonneg _ (by omega)) (Int.emod_lt_of_pos _ hu0) (b2.trans But.upd) ⟨cs, i, z / u, hcs, hi, ?_, upd_same⟩⟩
      rw [upd_ne ncp]
      exact hc
end
end Wnd

/-! Windowsteps: the law's def run where the row itself calls it: nothing is being shown there, so repr may be asked of lists and dicts. -/
namespace Wnd
open PySem PySem.Spec PyProof.Rows L2
section
variable {P : Program} {w : World} {K : PySem.W.Frag} {mg : Str → Option Value} {base : Heap}
/-- a def run from the row's own call -/
theorem top_run {x q : Str} {st : Stmt} {f : Addr} {fd : FuncData} {N ps : List Str} {k : Nat} {sp : Sp} (F : Fun K x q st f fd) (S : FnScope N ps (defScope st)) (bd : Binds K fd ps []) (room : Room (k + 1) callerA)
    (body : ∀ (cdv : Value) (s : Shared) (H : Hp) (vs : List V) (Q : VK) (E : XK), Room k (callerA.deeper (envOfC q (defScope st) s.heap.objs.size f cdv)) → sp vs H Q E →
      ∃ t, PSs (cxOf CX0 P w K mg base N q (defScope st) f cdv callerA [] s H E).nox (defBody st) t ∧ t { nx := fun _ H' => Q .non H', rt := Q } (L2.start N vs) H)
    {s : Shared} {H : Hp} {us : List Value} {vs : List V} {Q : VK} {E : XK} (env : Env0 P w K mg base callerA [] s H) (len : vs.length = ps.length) (rel : Vals vs us) (h : sp vs H Q E) : codeAny (model P w) callerA (.call (.ref f) ⟨us, []⟩) (CR CX0 [] P w H s Q E) s := by
  obtain ⟨oc, od, kV, doc, pm, an, cdv, ct, osl, rfl, lk, hcd⟩ := F.ex
  have kin : K.In s.heap := env.mod.kin.keeps fun b o e => (env.bs b o e).1
  refine StX.run_bnd (G := fun ws H2 => ws = vs ∧ H2 = H ∧ sp ws H2 Q E) lk hcd S room env (fun A' Ex R next => ?_) fun s2 H2 ws g hr => ?_
  · have z := bd s us kin (by rw [List.append_nil, ← rel.length]; exact len)
    rw [List.append_nil] at z
    exact z _ A' Ex R (next s H vs us env Un.refl rfl (fun _ _ z => z) rel len ⟨rfl, rfl, h⟩)
  · obtain ⟨rfl, rfl, h2⟩ := g
    obtain ⟨t, ht, hq⟩ := body cdv s2 _ _ Q E hr h2
    exact ⟨t, ht.nox, hq⟩
/-- the row's call, from what the def does there -/
theorem top_call {mb : Str → Option Value} {fa a : Addr} {s₁ : Shared} {vs : List Value} {ns : List Int} (kin : K.In s₁.heap) (glob : s₁.heap.Ns mainGlobals mg) (blt : s₁.heap.Ns builtinsNs mb) (boot : ∀ x : Str, x ≠ "__name__" → mb x = bootBuiltins x)
    (free : s₁.heap.NoLimit) (nogen : s₁.gens = #[]) (at_ : s₁.heap.get? a = some { cls := .type "list", data := .seq vs.toArray }) (are : IntsAre vs ns) (few : ns.length ≤ sizeLine)
    (run : ∀ (base : Heap) (H : Hp), K.In base → base.Ns mainGlobals mg → Env0 P w K mg base callerA [] s₁ H → SqL K H a (ns.map V.int) →
      codeAny (model P w) callerA (.call (.ref fa) ⟨[.ref a], []⟩) (CR CX0 [] P w H s₁ (fun v _ => v = .bl true) fun _ _ _ => False) s₁) :
    codeAny (model P w) callerA (.call (.ref fa) ⟨[.ref a], []⟩) (fun r s' => r = .ok (.ret (.bool true)) ∧ OldK s₁.heap s'.heap ∧ s'.os = s₁.os ∧ AllBare s'.gens) s₁ := by
  have vals := vals_ints are
  have size := are.length
  have from_ : ∀ H : Hp, L2.Only H → SqL K H a (ns.map V.int) → HOk P w H s₁.heap → (∀ b, H b ≠ none → b = a) → (H a ≠ none → K.lookup a = none) →
      codeAny (model P w) callerA (.call (.ref fa) ⟨[.ref a], []⟩) (fun r s' => r = .ok (.ret (.bool true)) ∧ OldK s₁.heap s'.heap ∧ s'.os = s₁.os ∧ AllBare s'.gens) s₁ := by
    intro H only seq hok one notK
    have still : ∀ {b : Addr} {o : Obj}, s₁.heap.get? b = some o → H b = none → (hidT s₁.heap H).get? b = some o := fun e n => hidT_get e n
    have notDict : ∀ {b : Addr} {o : Obj} {es : Array DictEntry} {ep : Nat}, s₁.heap.get? b = some o → o.data = .dict es ep → H b = none := by
      intro b o es ep e d
      cases hb : H b with
      | none => rfl
      | some u =>
        have same : b = a := one b (by rw [hb]; exact fun z => nomatch z)
        rw [same, at_] at e
        cases e
        cases (show Data.seq vs.toArray _ = Data.dict es ep from d)
    have nsOn : ∀ {b : Addr} {m : Str → Option Value}, s₁.heap.Ns b m → (hidT s₁.heap H).Ns b m := by
      rintro b m ⟨o, es, ep, e, d, r⟩
      exact ⟨o, es, ep, still e (notDict e d), d, r⟩
    have kinH : K.In (hidT s₁.heap H) := by
      intro b o e
      refine still (kin b o e) ?_
      cases hb : H b with
      | none => rfl
      | some u =>
        have same : b = a := one b (by rw [hb]; exact fun z => nomatch z)
        rw [same] at hb e
        rw [notK (by rw [hb]; exact fun z => nomatch z)] at e
        cases e
    obtain ⟨mc, l1, l2⟩ := free
    have env : Env0 P w K mg (hidT s₁.heap H) callerA [] s₁ H :=
      ⟨rfl, ⟨kinH, nsOn glob, ⟨mb, nsOn blt, boot⟩, ⟨mc, nsOn l1, l2⟩⟩, fun b o e => of_hidT e, Nat.le_of_eq (hidT_size _ _), trivial, fun b hb => (List.not_mem_nil (show b ∈ ([] : List Addr) from hb)).elim, hok, .of_eq nogen⟩
    refine codeAny_mono (run _ H kinH (nsOn glob) env seq) fun r s' res => ?_
    cases r with
    | error e => exact False.elim res
    | ok fl =>
      cases fl with
      | ret u =>
        obtain ⟨v, H', os, bare, un, hok', rel, val⟩ := res
        have val : v = .bl true := val
        subst val
        cases (show u = Value.bool true from rel)
        refine ⟨rfl, OldK.of_keep fun b o e => ?_, os, bare⟩
        cases hb : H b with
        | none => exact un.keep b o e hb (fun z => (List.not_mem_nil (show b ∈ ([] : List Addr) from z)).elim) (List.not_mem_nil)
        | some u =>
          rcases only b with z | ⟨ob, xs, z⟩
          · rw [hb] at z
            cases z
          · obtain ⟨old, _⟩ := hok b _ z
            obtain ⟨new, _⟩ := hok' b _ (un.frzs b ob _ z)
            rw [e] at old
            cases old
            exact new
      | next => exact False.elim res
      | brk => exact False.elim res
      | cont => exact False.elim res
  cases known : K.lookup a with
  | some o =>
    have e := kin a o known
    rw [at_] at e
    cases e
    refine from_ (fun _ => none) (fun _ => .inl rfl) (.inr ⟨_, vs.toArray, _, known, rfl, rfl, rfl, ?_, ?_⟩) (fun b u z => nomatch (show (none : Option HO) = some u from z)) (fun b z => (z rfl).elim) fun z => (z rfl).elim
    · rw [List.size_toArray, size]
      exact few
    · simpa using vals
  | none =>
    have at2 : (fun b => if b = a then some (HO.frz { cls := .type "list", data := .seq vs.toArray } (.lst (ns.map V.int))) else none : Hp) a = some (HO.frz { cls := .type "list", data := .seq vs.toArray } (.lst (ns.map V.int))) := if_pos rfl
    refine from_ (fun b => if b = a then some (.frz { cls := .type "list", data := .seq vs.toArray } (.lst (ns.map V.int))) else none) (fun b => ?_) (.inl (.inr ⟨_, at2⟩)) (fun b u z => ?_) (fun b z => ?_) fun _ => known
    · by_cases hb : b = a
      · exact .inr ⟨_, _, if_pos hb⟩
      · exact .inl (if_neg hb)
    · by_cases hb : b = a
      · subst hb
        cases at2.symm.trans z
        refine ⟨at_, ?_, vs, _, vals, at_⟩
        rw [List.length_map]
        exact few
      · cases (if_neg hb).symm.trans z
    · by_cases hb : b = a
      · exact hb
      · exact (z (if_neg hb)).elim
end
/-- the law's row, from what its def does at the row's call -/
theorem top_walk {l : PySem.W.OpenLaw} {n : Nat} {q : Program} {loose : List Str} {XP : (Str → Option Value) → Heap → Prop} {YP : World → Heap → Prop} {d : DefRec} {K : Params → PySem.W.Frag} (hn : l.most = some n) (few : n ≤ sizeLine) (hdf : d.params.defaults = [])
    (hY : ∀ (w : World) (h : Heap), YP w h → (K w.params).In h)
    (F : ∀ (w : World) (mg : Str → Option Value) (fa : Addr) (h : Heap), (K w.params).In h → h.Ns mainGlobals mg → mg d.name = some (.ref fa) →
      ∀ (base : Heap) (H : Hp) (s : Shared) (a : Addr) (ns : List Int), ns.length ≤ n → (K w.params).In base → base.Ns mainGlobals mg → Env0 l.prog w (K w.params) mg base callerA [] s H → SqL (K w.params) H a (ns.map V.int) →
        codeAny (model l.prog w) callerA (.call (.ref fa) ⟨[.ref a], []⟩) (CR CX0 [] l.prog w H s (fun v _ => v = .bl true) fun _ _ _ => False) s) :
    PySem.W.WalkO q loose XP YP l.row.toRowW d [] (fun f vs => PySem.call f vs) := by
  refine Att.attach_call hn hdf fun w s₀ s₁ mg mb fa o pm cd doc a vs ns G Y _ _ _ hmg at_ are len nogen => ?_
  have kin := hY w _ Y
  exact top_call kin G.T.g G.T.b G.T.builtins G.T.nolimit nogen at_ are (Nat.le_trans len few) fun base H k1 k2 env seq => F w mg fa _ kin G.T.g hmg base H s₁ a ns len k1 k2 env seq
end Wnd

/-! Windowsteps: repr(x) where nothing is being shown: plain data, and a dict of texts and ints. -/
namespace Wnd
open PySem PySem.Spec PyProof.Rows L2
def goalD (g : List (Str × Int)) : PyData := .dict (g.map fun x => (PyData.str x.1, PyData.int x.2))
/-- the value x shows as d does -/
inductive Sh (K : PySem.W.Frag) (H : Hp) : V → PyData → Prop where
  | dp {x : V} {d : PyData} (h : Dp K H x d) : Sh K H x d
  | goal {a : Addr} {g : List (Str × Int)} (h : H a = some (.dK (g.map fun x => (Sum.inr x.1, V.int x.2)))) : Sh K H (.ref a) (goalD g)
def rRepr (K : PySem.W.Frag) : List V → Hp → VK → Prop := fun xs H Q => ∃ (x : V) (d : PyData), xs = [x] ∧ Sh K H x d ∧ d.canLay0 = (match d with | .dict _ => d.canLay0 | _ => true) ∧ d.showable = true ∧ d.shown.length ≤ sizeLine ∧ d.depth ≤ 60 ∧ Q (.str d.shown) H
theorem goal_reads {P : Program} {w : World} {h : Heap} : ∀ {g : List (Str × Int)} {vs : List (Key × Value)} {es : List DictEntry}, KV (g.map fun x => ((Sum.inr x.1 : Key), V.int x.2)) vs → Pairs (mixKind P w) es vs →
    ReadsAll h (es.map (·.key)) ((g.map fun x => (PyData.str x.1, PyData.int x.2)).map (·.1)) [] ∧ ReadsAll h (es.map (·.val)) ((g.map fun x => (PyData.str x.1, PyData.int x.2)).map (·.2)) []
  | [], _, _, .nil, .nil => ⟨.nil, .nil⟩
  | x :: g, _, _, .cons r1 r2, .cons k1 k2 k3 => by
    obtain ⟨i1, i2⟩ := goal_reads (h := h) r2 k3
    obtain ⟨e1, t1, e2⟩ := r1
    rename_i kv tail ent es'
    obtain ⟨key, val⟩ := kv
    have e1 : Sum.inr x.1 = key := e1
    subst e1
    have e2 : val = Value.int x.2 t1 := e2
    subst e2
    have k1 : keyIs (Sum.inr x.1) ent.key = true := k1
    rcases keyIs_shape k1 with ⟨i, t, z, z2⟩ | ⟨y, t, z, z2⟩
    · cases z
    · injection z with z
      subst z
      refine ⟨?_, ?_⟩
      · show ReadsAll h (ent.key :: es'.map (·.key)) (PyData.str x.1 :: _) ([] ++ [])
        rw [z2]
        exact .cons (.str x.1 t) i1
      · show ReadsAll h (ent.val :: es'.map (·.val)) (PyData.int x.2 :: _) ([] ++ [])
        rw [show ent.val = Value.int x.2 t1 from k2]
        exact .cons (.int x.2 t1) i2
section
variable {X : Cx}
theorem call_reprD (free : X.A.guards = some []) (hu : X.A.units + 65 < cLine) : CallR X (.builtin "repr") (rRepr X.K) := by
  intro pins s σ H xs us Q I r h
  obtain ⟨x, d, rfl, sh, lay, sw, sz, dp, q⟩ := h
  obtain ⟨u, rfl, ru⟩ := vals1 r
  have last : ∀ (h' : Heap) (t : Tok) (tk : Nat), (∀ b o, s.heap.get? b = some o → h'.get? b = some o) → EP X pins σ Q (.str d.shown t) { s with heap := h', toks := tk } := fun h' t tk kp => ⟨.str d.shown, H, I.kept (t' := tk) kp, ⟨t, rfl⟩, q⟩
  cases sh with
  | dp hd =>
    obtain ⟨as, rd⟩ := Dp.reads I d x u hd ru
    cases hd with
    | non =>
      cases (show u = Value.none from ru)
      exact PySem.P.repr_of_none (last s.heap _ _ fun _ _ e => e)
    | bl b =>
      cases (show u = Value.bool b from ru)
      have := PySem.P.repr_of_bool (prog := X.prog) (w := X.w) (A := X.A) (E := X.xe) (s := s) (b := b) (Q := EP X pins σ Q) (by
        cases b <;> exact last s.heap _ _ fun _ _ e => e)
      exact this
    | int i =>
      obtain ⟨t, rfl⟩ := (show ∃ t, u = Value.int i t from ru)
      exact PySem.P.repr_of_int (of_decide_eq_true (by simpa [PyData.showable] using sw)) (last s.heap _ _ fun _ _ e => e)
    | str y =>
      obtain ⟨t, rfl⟩ := (show ∃ t, u = Value.str y t from ru)
      exact PySem.P.repr_of_str (last s.heap _ _ fun _ _ e => e) (hsz := sz)
    | lst hs ha =>
      cases (show u = Value.ref _ from ru)
      exact repr_of_reads' rd sw (PyData.noDict_hsm (PyData.hasDict_of_canLay _ lay)) free (by omega) (fun _ _ e => e) last sz
    | tup hs ha =>
      cases (show u = Value.ref _ from ru)
      exact repr_of_reads' rd sw (PyData.noDict_hsm (PyData.hasDict_of_canLay _ lay)) free (by omega) (fun _ _ e => e) last sz
  | @goal a g hg =>
    cases (show u = Value.ref a from ru)
    obtain ⟨_, lo, vs, kv, o, es, ep, h1, h2, h3, _, h5, _⟩ := dk_of I.hok hg
    obtain ⟨r1, r2⟩ := goal_reads (P := X.prog) (w := X.w) (h := s.heap) (es := es.toList) kv h5
    have rd : Reads s.heap (.ref a) (goalD g) (a :: [] ++ []) := .dict h1 h2.1 h3 r1 r2
    refine repr_of_reads' rd sw (fun _ hm => ?_) free (by omega) (fun _ _ e => e) last sz
    have : sysModules = a := by simpa using hm
    rw [this] at lo
    simp at lo
end
end Wnd

/-! Windowsteps: how long repr(x) is, numbers of settings. -/
namespace Wnd
open PySem PySem.Spec PyProof.Rows L2
theorem int_shown_len {i : Int} (h : i.natAbs < 10 ^ 12) : (PyData.shown (.int i)).length ≤ 13 := by
  have e := PySem.int_text_length_le10 (a := i) (k := 12) (by decide) h
  show (Str.ofString (toString i)).length ≤ 13
  rw [PySem.ofString_length]
  exact e
theorem log_small {n k : Nat} (hk : 0 < k) (h : n < 2 ^ k) : n.log2 < k := by
  by_cases z : n = 0
  · subst z
    rw [show Nat.log2 0 = 0 from by decide]
    exact hk
  · exact (Nat.log2_lt z).mpr h
/-- one text and one int -/
structure Small (x : Str × Int) : Prop where
  len : x.1.length ≤ 8
  sign : ∀ c ∈ x.1.cps.toList, c < 16 ^ 8
  ge : -99999 ≤ x.2
  le : x.2 ≤ 99999
theorem Small.abs {x : Str × Int} (h : Small x) : x.2.natAbs < 10 ^ 12 := by
  have := h.ge
  have := h.le
  omega
theorem Small.log {x : Str × Int} (h : Small x) : x.2.natAbs.log2 < 17 := by
  have := h.ge
  have := h.le
  exact log_small (by decide) (by omega)
theorem goal_kv : ∀ {g : List (Str × Int)}, (∀ x ∈ g, Small x) → PyData.leavesShortKv 13 (g.map fun x => (PyData.str x.1, PyData.int x.2)) = true ∧ PyData.showableKv (g.map fun x => (PyData.str x.1, PyData.int x.2)) = true ∧
    PyData.weightKv (g.map fun x => (PyData.str x.1, PyData.int x.2)) ≤ 27 * g.length ∧ PyData.depthKv (g.map fun x => (PyData.str x.1, PyData.int x.2)) = 0
  | [], _ => ⟨by simp [PyData.leavesShortKv], by simp [PyData.showableKv], by simp [PyData.weightKv], by simp [PyData.depthKv]⟩
  | x :: g, h => by
    obtain ⟨h1, h2, h3, h4⟩ := goal_kv fun y hy => h y (List.mem_cons_of_mem _ hy)
    have hx := h x (List.mem_cons_self ..)
    have lg := hx.log
    have ln : x.1.cps.size ≤ 8 := hx.len
    refine ⟨?_, ?_, ?_, ?_⟩
    · rw [List.map_cons, PyData.leavesShortKv, h1, PyData.leavesShort, PyData.leavesShort, Bool.and_true, Bool.and_eq_true, List.all_eq_true, decide_eq_true_iff]
      exact ⟨fun c hc => decide_eq_true (hx.sign c hc), int_shown_len hx.abs⟩
    · rw [List.map_cons, PyData.showableKv, h2, PyData.showable, PyData.showable, Bool.true_and, Bool.and_true, decide_eq_true_iff]
      omega
    · rw [List.map_cons, PyData.weightKv, PyData.weight, PyData.weight, List.length_cons]
      split <;> omega
    · rw [List.map_cons, PyData.depthKv, h4, PyData.depth, PyData.depth]
      rfl
theorem goal_show {g : List (Str × Int)} (h : ∀ x ∈ g, Small x) (hz : g.length ≤ 1000) : (goalD g).showable = true ∧ (goalD g).shown.length ≤ sizeLine ∧ (goalD g).depth ≤ 60 := by
  obtain ⟨h1, h2, h3, h4⟩ := goal_kv h
  refine ⟨?_, ?_, ?_⟩
  · rw [goalD, PyData.showable]
    exact h2
  · have e := PyData.shown_le 13 (by decide) (goalD g) (by rw [goalD, PyData.leavesShort]; exact h1)
    have ew : (goalD g).weight ≤ 27 * g.length := by
      rw [goalD, PyData.weight]
      exact h3
    have : sizeLine = 16777216 := by decide
    omega
  · rw [goalD, PyData.depth, h4]
    decide
theorem int_show {i : Int} (h : i.natAbs < 10 ^ 12) : (PyData.int i).canLay0 = true ∧ (PyData.int i).showable = true ∧ (PyData.int i).shown.length ≤ sizeLine ∧ (PyData.int i).depth ≤ 60 := by
  have z : i.natAbs.log2 < 1920 := Nat.lt_trans (log_small (k := 40) (by decide) (Nat.lt_trans h (by decide))) (by decide)
  have len := int_shown_len h
  have : sizeLine = 16777216 := by decide
  exact ⟨by simp [PyData.canLay0], by simp [PyData.showable, z], by omega, by simp [PyData.depth]⟩
/-- repr of an int -/
theorem repr_int {K : PySem.W.Frag} {H : Hp} {i : Int} {Q : VK} (h : i.natAbs < 10 ^ 12) (q : Q (.str (PyData.shown (.int i))) H) : rRepr K [.int i] H Q := by
  have z : i.natAbs.log2 < 1920 := Nat.lt_trans (log_small (k := 40) (by decide) (Nat.lt_trans h (by decide))) (by decide)
  have len := int_shown_len h
  have : sizeLine = 16777216 := by decide
  exact ⟨_, .int i, rfl, .dp (.int i), by simp [PyData.canLay0], by simp [PyData.showable, z], by omega, by simp [PyData.depth], q⟩
/-- repr of numbers -/
theorem repr_goal {K : PySem.W.Frag} {H : Hp} {a : Addr} {g : List (Str × Int)} {Q : VK} (ha : H a = some (.dK (g.map fun x => (Sum.inr x.1, V.int x.2)))) (h : ∀ x ∈ g, Small x) (hz : g.length ≤ 1000) (q : Q (.str (goalD g).shown) H) : rRepr K [.ref a] H Q := by
  obtain ⟨h1, h2, h3⟩ := goal_show h hz
  exact ⟨_, goalD g, rfl, .goal ha, rfl, h1, h2, h3, q⟩
end Wnd

set_option maxHeartbeats 4000000
/-! An own exception class over ValueError, whose __init__ begins with super().__init__(..): made, also by keyword; its fields; isinstance of it. -/
namespace Wnd
open PySem PySem.Spec PySem.Calls PyProof.Rows PySem.Builtin PySem.W

/-! ### the class called with keywords -/
section
variable {M : Model} {A : Around} {E : Value → Shared → Prop} {h : Heap} {g : Array GenState} {d : Drawn} {t : Nat} {os : OsState}
variable {nm q : Str} {C N : Addr} {bs bm bmB : List Value} {hdct : Bool} {sn : List Str} {sub : List Value} {ab : Bool} {col : Option Bool} {dd : Option Addr} {k0 k1 k2 k3 k5 : Option Value} {B newId initId : String}
theorem kw_check_new (F : ExcBaseFacts B newId initId bmB) (hT : ∀ X : String, bm.contains (.type X) = bmB.contains (.type X)) {rest : List Value} {kws : List (Str × Value)} {Q : Unit → Shared → Prop}
    (hC : h.get? C = some (excClassObj nm q C N bs bm hdct sn sub ab col dd k0 k1 k2 k3 k5 newId)) (hq : Q () ⟨h, g, d, t, os⟩) : wpAny M A (checkBuiltinCall newId ⟨.ref C :: rest, kws⟩) Q E ⟨h, g, d, t, os⟩ := by
  have hcont : (Value.ref C :: bm).contains (.type B) = true := by rw [List.contains_cons, hT, F.hasB, Bool.or_true]
  have hstar := F.noStar
  simp only [checkBuiltinCall, F.newKind, F.newSplit, F.newRow]
  repeat (first | refine wpAny_loadPart_at hC ?_ | (refine wpAny_isSubtype_exc hC ?_; rw [hcont]) | refine wpAny_staticBase_exc hC ?_ | refine wpAny_madeBy_exc hC ?_ | simp only [bne_self_eq_false, Bool.false_eq_true, if_false] | wp_step)
  exact hq
end
section
variable {prog : Program} {w : World} {A : Around} {E : Value → Shared → Prop} {R : Result → Shared → Prop} {h : Heap} {g : Array GenState} {d : Drawn} {t : Nat} {os : OsState}
variable {nm q : Str} {C N : Addr} {bs bm bmB : List Value} {hdct : Bool} {sn : List Str} {sub : List Value} {ab : Bool} {col : Option Bool} {dd : Option Addr} {k0 k1 k2 k3 k5 : Option Value} {B newId initId : String}
theorem kw_new (F : ExcBaseFacts B newId initId bmB) (hT : ∀ X : String, bm.contains (.type X) = bmB.contains (.type X)) {rest : List Value} {kws : List (Str × Value)}
    (hC : h.get? C = some (excClassObj nm q C N bs bm hdct sn sub ab col dd k0 k1 k2 k3 k5 newId))
    (hq : R (.ok (.ret (.ref (h.objs.size + 1)))) ⟨(h.push { cls := .type "tuple", data := .seq rest.toArray }).push
      { cls := .ref C, data := .fields #[.ref h.objs.size, .none, .none, .none, .bool false, .none] }, g, d, t, os⟩) (hrest : rest.length ≤ sizeLine) :
    codeAny (model prog w) A (.builtin newId ⟨.ref C :: rest, kws⟩) R ⟨h, g, d, t, os⟩ := by
  have hends := F.ends
  have hcB : (Value.ref C :: bm).contains (.type B) = true := by rw [List.contains_cons, hT, F.hasB, Bool.or_true]
  have hcA : (Value.ref C :: bm).contains (.type "AttributeError") = false := by rw [List.contains_cons, hT, F.noAttr]; rfl
  have hcN : (Value.ref C :: bm).contains (.type "NameError") = false := by rw [List.contains_cons, hT, F.noName]; rfl
  refine codeAny_builtinAt F.entry ?_
  unfold Builtin.«BaseException.__new__»
  refine PySem.wpAt_bind ?_
  show PySem.wpAt _ _ _ (stack >>= _) _ _ _
  refine PySem.wpAt_bind (PySem.wpAt_stack fun p below => PySem.wpAt_of_wpAny ?_)
  wp_walk
  refine PySem.wpAt_of_wpAny ?_
  rw [F.owner]
  repeat (first | with_reducible refine wpAny_madeHere_exc F.canon hC ?_ | with_reducible refine wpAny_loadPart_at hC ?_ | (with_reducible refine wpAny_isSubtype_exc hC ?_; first | rw [hcB] | rw [hcA] | rw [hcN]) | wp_step)
  show R _ _
  rw [Heap.size_push]
  exact hq
theorem kw_type_call (F : ExcBaseFacts B newId initId bmB) (hT : ∀ X : String, bm.contains (.type X) = bmB.contains (.type X)) {rest : List Value} {kws : List (Str × Value)} {fI : Addr} {Q : Fin → Shared → Prop}
    (hC : h.get? C = some (excClassObj nm q C N bs bm hdct sn sub ab col dd k0 k1 k2 k3 k5 newId))
    (hi : W.Looks (model prog w) h (typeLookup (.ref C) "__init__") (some (.ref fI))) (hb : ∀ self, W.Looks (model prog w) h (bindSpecial (.ref fI) self) (.ref fI, [self])) (hrest : rest.length ≤ sizeLine)
    (hq : codeAny (model prog w) A (.call (.ref fI) ⟨.ref (h.objs.size + 1) :: rest, kws⟩)
      (fun r s' => match r with | .ok (.ret v) => v = .none ∧ Q (.done (.ret (.ref (h.objs.size + 1)))) s' | .ok _ => False | .error e => E e s')
      ⟨(h.push (W.kdv_tup rest)).push (HandSPX.excO C h.objs.size), g, d, t, os⟩) :
    wpAny (model prog w) A (Builtin.«type.__call__» ⟨.ref C :: rest, kws⟩) Q E ⟨h, g, d, t, os⟩ := by
  repeat (first | with_reducible refine wpAny_loadPart_at hC ?_ | with_reducible refine wpAny_madeBy_exc hC ?_ | wp_step)
  refine codeAny_call_builtin_code (Code.quiet_builtin _ F.quiet) (kw_check_new F hT hC ?_)
  refine kw_new F hT hC ?_ hrest
  show wpAny _ _ _ _ _ _
  have k : ∀ b o, h.get? b = some o → ((h.push (W.kdv_tup rest)).push (HandSPX.excO C h.objs.size)).get? b = some o := fun b o e => Heap.get?_push_of_some _ (Heap.get?_push_of_some _ e)
  have hC₁ := k _ _ hC
  have hget : ((h.push (W.kdv_tup rest)).push (HandSPX.excO C h.objs.size)).get? (h.objs.size + 1) = some (HandSPX.excO C h.objs.size) := by heap_get
  have hcC : (Value.ref C :: bm).contains (.ref C) = true := by simp
  have i1 := hi.keeps k
  have b1 := (hb (.ref (h.objs.size + 1))).keeps k
  unfold isInstance
  repeat (first | with_reducible refine wpAny_loadPart_at hget ?_ | (with_reducible refine wpAny_isSubtype_exc hC₁ ?_; rw [hcC]) | wp_step)
  show wpAny _ _ (typeLookup (.ref C) _) _ _ _
  refine i1.at ?_
  refine wpAny_holding (wpAny_bind (b1.at ?_))
  refine wpAny_bind (wpAny_call (codeAny_mono hq fun r s' z => ?_))
  rcases r with e | (v | _ | _ | _) <;> first | exact z | exact z.elim | skip
  obtain ⟨rfl, z⟩ := z
  first
    | exact wpAny_pure (wpAny_pure z)
    | (wp_walk; exact z)
theorem kw_call (F : ExcBaseFacts B newId initId bmB) (hT : ∀ X : String, bm.contains (.type X) = bmB.contains (.type X)) {rest : List Value} {kws : List (Str × Value)} {fI : Addr}
    (hC : h.get? C = some (excClassObj nm q C N bs bm hdct sn sub ab col dd k0 k1 k2 k3 k5 newId))
    (hi : W.Looks (model prog w) h (typeLookup (.ref C) "__init__") (some (.ref fI))) (hb : ∀ self, W.Looks (model prog w) h (bindSpecial (.ref fI) self) (.ref fI, [self])) (hrest : rest.length ≤ sizeLine)
    (hq : codeAny (model prog w) (A.under (.builtin "type.__call__" ⟨.ref C :: rest, kws⟩)) (.call (.ref fI) ⟨.ref (h.objs.size + 1) :: rest, kws⟩) (W.InitBack (h.objs.size + 1) R)
      ⟨(h.push (W.kdv_tup rest)).push (HandSPX.excO C h.objs.size), g, d, t, os⟩) :
    codeAny (model prog w) A (.call (.ref C) ⟨rest, kws⟩) R ⟨h, g, d, t, os⟩ := by
  have f1 := tc_lookup
  have f2 := tc_bind (.ref C)
  have hTy : (⟨h, g, d, t, os⟩ : Shared).TypeIs (.ref C) "type" := ⟨_, hC, rfl⟩
  refine codeAny_of_tree ?_
  show wpAny _ _ (callAny (.ref C) _) _ _ _
  repeat (any_goals (first | assumption | with_reducible refine wpAny_loadPart_at hC ?_ | wp_step))
  refine ⟨rfl, ?_⟩
  refine codeAny_call_builtin_at (Code.quiet_builtin _ (by decide +kernel)) entry_typeCall (wpAny_check_type_call_sub hC (kw_type_call F hT hC hi hb hrest ?_))
  refine codeAny_mono hq fun r s' z => ?_
  rcases r with e | (v | _ | _ | _) <;> exact z
end
end Wnd

set_option maxHeartbeats 4000000
/-! super().__init__(..) as the first statement of an own exception's __init__. -/
namespace Wnd
open PySem PySem.Spec PySem.Calls PyProof.Rows PySem.W L2

/-- the context of such an __init__'s body -/
def cxI (CX : CXT) (P : Program) (w : World) (K : Frag) (mg : Str → Option Value) (base : Heap) (N : List Str) (qual : Str) (scope : Scope) (f : Addr) (cd : Value) (cc : Addr) (A : Around) (outer : List Env) (s : Shared) (H : Hp) (E : XK) : Cx where
  prog := P
  w := w
  K := K
  mg := mg
  base := base
  A := A.deeper (ksEnv qual scope s.heap.objs.size f cd cc)
  N := N
  s_0 := s
  H_0 := H
  env := ksEnv qual scope s.heap.objs.size f cd cc
  outer := outer
  stack := ksEnv qual scope s.heap.objs.size f cd cc :: outer
  ex := []
  fn := fun _ => false
  calm := true
  pn := []
  xe := fun e s' => wpAny (model P w) (A.deeper (ksEnv qual scope s.heap.objs.size f cd cc)) (leaving (ksEnv qual scope s.heap.objs.size f cd cc) e) (fun _ s'' => CX outer H s E e s'') (fun e' s'' => CX outer H s E e' s'') s'
structure SupScope (N P : List Str) (sc : Scope) : Prop where
  kind : sc.kind = .function
  co : sc.isCoroutine = false
  gen : sc.isGenerator = false
  nd : N.Nodup
  pre : N.take P.length = P
  par : ∀ x ∈ P, sc.names.lookup x = some .local
  nocell : ∀ y ∈ sc.names, y.2 ≠ .cell
  free : ∀ y ∈ sc.names, y.2 = .free → y.1 = "__class__"
theorem zip_rev {x : Str} {v : Value} : ∀ {P : List Str} {us : List Value} {i : Nat}, P.Nodup → P[i]? = some x → us[i]? = some v → (P.zip us).reverse.lookup x = some v
  | [], _, _, _, h, _ => by simp at h
  | _ :: _, [], _, _, _, h => by simp at h
  | p :: P, u :: us, i, nd, h1, h2 => by
    obtain ⟨np, nd⟩ := List.nodup_cons.mp nd
    rw [List.zip_cons_cons, List.reverse_cons, List.lookup_append]
    cases i with
    | zero =>
      simp at h1 h2
      subst h1 h2
      have e : ((P.zip us).reverse).lookup p = none := by
        rw [List.lookup_eq_none_iff]
        intro q hq
        have hm : q.1 ∈ P := (List.of_mem_zip (List.mem_reverse.mp hq)).1
        have : p ≠ q.1 := fun z => np (z ▸ hm)
        simpa using this
      rw [e]
      simp
    | succ i =>
      rw [zip_rev nd (by simpa using h1) (by simpa using h2)]
      rfl
theorem inv_startI {CX : CXT} {P : Program} {w : World} {K : Frag} {mg : Str → Option Value} {base : Heap} {N ps : List Str} {qual : Str} {scope : Scope} {f cc : Addr} {cd : Value} {A : Around} {outer : List Env} {s : Shared} {H : Hp} {E : XK} {us : List Value} {vs : List V} {h₁ : Heap} {tk : Nat} {oc : Obj} {cv : Option Value}
    (S : SupScope N ps scope) (hd : A.handled = none) (e0 : Env0 P w K mg base A outer s H) (hl : vs.length = ps.length) (r : Vals vs us) (lcc : K.lookup cc = some oc) (hcv : oc.data = .cell cv)
    (hns : h₁.Ns s.heap.objs.size fun x => (ps.zip us).reverse.lookup x) (kp : ∀ b o, s.heap.get? b = some o → h₁.get? b = some o) :
    Inv (cxI CX P w K mg base N qual scope f cd cc A outer s H E) [] (L2.start N vs) H { s with heap := h₁, toks := tk } := by
  have hpl : ps.length ≤ N.length := by have := congrArg List.length S.pre; rw [List.length_take] at this; omega
  have noA : ∀ b : Addr, b ∉ (cxI CX P w K mg base N qual scope f cd cc A outer s H E).ex := fun b z => absurd (show b ∈ ([] : List Addr) from z) (by simp)
  have hcb := e0.bs _ _ (e0.mod.kin _ _ lcc)
  have one : ∀ {y : Str} {c : Addr}, ([("__class__", cc)] : List (Str × Addr)).lookup y = some c → y = "__class__" ∧ c = cc := fun {y c} e => by
    have := PySem.mem_of_lookup e
    simp at this
    exact this
  refine ⟨⟨e0.mod, S.kind, rfl, rfl, Nat.le_refl _, fun y z c h1 h2 => (one h1).1.trans (one h2).1.symm, fun y hy => ?_, fun y c z _ => absurd (show false = true from z) Bool.false_ne_true, fun _ => hd, Around.frames_deeper e0.frames, .inr ⟨rfl, rfl⟩, fun b z => absurd z (noA b), e0.bs, e0.bsz, fun b _ _ => noA b, fun b z => absurd z (noA b), e0.funs, e0.frf⟩,
    rfl, e0.bare, Un.kept kp, ⟨_, hns, fun i y v h1 h2 h3 => ?_⟩, fun y c h => ?_, e0.hok.fresh (Nat.le_refl _), fun y c h => ?_, fun p hp => absurd (show p ∈ ([] : List (Addr × Obj)) from hp) (by simp), e0.hok.kept kp, ?_⟩
  · have hy : scope.names.lookup y = some .cell ∨ scope.names.lookup y = some .free := hy
    rcases hy with hy | hy
    · exact absurd rfl (S.nocell _ (PySem.mem_of_lookup hy))
    · have e : y = "__class__" := S.free _ (PySem.mem_of_lookup hy) rfl
      subst e
      exact ⟨cc, by simp [cxI]⟩
  · have hi : i < vs.length := by
      unfold L2.start at h2
      by_cases hi : i < vs.length
      · exact hi
      · rw [List.getElem?_append_right (by simpa using hi)] at h2
        rw [List.getElem?_replicate] at h2
        split at h2 <;> cases h2
    have ha : vs[i]? = some v := by
      unfold L2.start at h2
      rw [List.getElem?_append_left (by simpa using hi), List.getElem?_map] at h2
      cases e : vs[i]? with
      | none => rw [e] at h2; cases h2
      | some a => rw [e] at h2; cases h2; rfl
    obtain ⟨u, hu, rv⟩ := r.get ha
    have hp : ps[i]? = some y := by
      rw [← S.pre, List.getElem?_take_of_lt (by omega)]; exact h1
    have ndP : ps.Nodup := by rw [← S.pre]; exact S.nd.sublist (List.take_sublist _ _)
    exact ⟨u, rv, .inl ⟨S.par y (List.mem_of_getElem? hp), zip_rev ndP hp hu⟩⟩
  · obtain ⟨_, rfl⟩ := one h
    exact ⟨cv, oc, kp _ _ hcb.1, hcv⟩
  · obtain ⟨_, rfl⟩ := one h
    exact hcb.2
  · unfold L2.start
    show _ = N.length
    rw [List.length_append, List.length_map, List.length_replicate]
    omega

/-- a statement that is run where the frame's own code is known -/
def PAt (X : Cx) (body : List Stmt) (st : Stmt) (t : TS) : Prop := ∀ (pins : List (Addr × Obj)) (s : Shared) (σ : L2.St) (H : Hp) (D : Ends), Inv X pins σ H s → t D σ H → PySem.wpAt (model X.prog X.w) X.A (.func body X.env) (exec st X.env) (SP X pins D) X.xe s
/-- a def whose class cell is known and whose first statement needs its own frame -/
theorem fn_sup {CX : CXT} {P : Program} {w : World} {K : Frag} {mg : Str → Option Value} {base : Heap} {k : Nat} {f cc : Addr} {name qual : Str} {params : Arguments} {st0 : Stmt} {rest : List Stmt} {scope : Scope} {dV kV doc pm cdv ct oc : Value} {an od : Option Addr}
    {osl : Array (Option Value)} {N ps : List Str} {sp : Sp} {occ : Obj} {cv : Option Value} (lk : K.lookup f = some ⟨oc, od, .func (ksFn name qual params (st0 :: rest) scope dV kV doc pm an cdv ct cc), osl⟩) (hcd : codeIn K cdv qual = true) (S : SupScope N ps scope)
    (lcc : K.lookup cc = some occ) (hcv : occ.data = .cell cv) (len : ∀ vs H Q E, sp vs H Q E → vs.length = ps.length)
    (hbody : ∀ (A : Around) (outer : List Env) (s : Shared) (H : Hp) (vs : List V) (Q : VK) (E : XK), Room k (A.deeper (ksEnv qual scope s.heap.objs.size f cdv cc)) → sp vs H Q E →
      ∃ t0 t, PAt (cxI CX P w K mg base N qual scope f cdv cc A outer s H E) (st0 :: rest) st0 t0 ∧ PSs (cxI CX P w K mg base N qual scope f cdv cc A outer s H E) rest t ∧
        t0 { nx := fun σ' H' => t { nx := fun _ H' => Q .non H', rt := Q } σ' H', rt := Q } (L2.start N vs) H) :
    FnOk P w K mg base CX (k + 1) f (ksFn name qual params (st0 :: rest) scope dV kV doc pm an cdv ct cc) ps sp := by
  refine ⟨len, fun A outer s H args us vs Q E hr e0 hb r hsp => ?_⟩
  have hl := len _ _ _ _ hsp
  have KX : K.In s.heap := e0.mod.kin.keeps fun b o e => (e0.bs b o e).1
  have lim : s.heap.NoLimit := e0.mod.nolimit.keeps fun b o e => (e0.bs b o e).1
  refine ks_codeAny_call_defAt (fd := ksFn name qual params (st0 :: rest) scope dV kV doc pm an cdv ct cc) (body := st0 :: rest) (binds := ps.zip us) hr.depth (KX _ _ lk) rfl lim (codeRec_of KX hcd) rfl hb S.nocell (fun y hy => S.par _ (List.of_mem_zip (show (y.1, y.2) ∈ ps.zip us from hy)).1) (fun h₁ hns kp => ?_) S.co S.gen S.kind
  obtain ⟨t0, t, ht0, ht, hq⟩ := hbody A outer s H vs Q E (hr.deeper _) hsp
  have I : Inv (cxI CX P w K mg base N qual scope f cdv cc A outer s H E) [] (L2.start N vs) H { s with heap := h₁, toks := s.toks + (ps.zip us).length } := inv_startI S hr.hd e0 hl r lcc hcv hns kp
  have fin : ∀ {σ' : L2.St} {H' : Hp} {v : V} {u : Value} {s' : Shared}, Inv (cxI CX P w K mg base N qual scope f cdv cc A outer s H E) [] σ' H' s' → L2.RelV v u → Q v H' → CE outer P w H s Q u s' :=
    fun {σ' H' v u s'} J rv q => ⟨v, H', J.os, J.bare, J.base, J.hok, rv, q⟩
  have back : ∀ (fl : Flow) (s' : Shared), SP (cxI CX P w K mg base N qual scope f cdv cc A outer s H E) [] { nx := fun _ H' => Q .non H', rt := Q } fl s' → CR CX outer P w H s Q E (.ok (.ret (match fl with | .ret v => v | _ => .none))) s' := fun fl s' hs => by
    cases fl with
    | ret u =>
      obtain ⟨v, σ', H', J, rv, q⟩ := hs
      exact fin J rv q
    | next =>
      obtain ⟨σ', H', J, q⟩ := hs
      exact fin (v := V.non) (u := Value.none) J rfl q
    | brk =>
      obtain ⟨_, _, _, q⟩ := hs
      exact False.elim q
    | cont =>
      obtain ⟨_, _, _, q⟩ := hs
      exact False.elim q
  refine ks_wpAt_execs_cons (ks_wpAt_mono (ht0 [] _ _ _ _ I hq) (fun fl s' hs => ?_) fun _ _ z => z)
  cases fl with
  | next =>
    obtain ⟨σ', H', J, q⟩ := hs
    exact PySem.wpAt_of_wpAny (thn (ht.run [] s' σ' H' _ J q) fun fl s'' hs' => back fl s'' hs')
  | ret u =>
    obtain ⟨v, σ', H', J, rv, q⟩ := hs
    exact fin J rv q
  | brk =>
    obtain ⟨_, _, _, q⟩ := hs
    exact False.elim q
  | cont =>
    obtain ⟨_, _, _, q⟩ := hs
    exact False.elim q

/-- super().__init__(e), self an exception that is being made -/
def tSup (C : Addr) (te : TE) : TS := fun D σ H => ∃ a : Addr, σ[0]? = some (some (.ref a)) ∧ H a = some (exo a C none) ∧ te σ H fun _ H1 => H1 a = some (exo a C none) ∧ D.nx σ H1
/-- what the written part says of the class, its cell, its __init__'s code -/
structure SupC (P : Program) (K : Frag) (mg : Str → Option Value) (C cc cda : Addr) : Prop where
  cls : ∃ nm q N bs bm sn sub ab col dd k0 k1 k2 k3 k5, K.lookup C = some (excClassObj nm q C N bs bm true sn sub ab col dd k0 k1 k2 k3 k5 "ValueError.__new__") ∧ PySem.HandSPX.refsVE bm = true
  code : ∃ cl cd vs sl file tf, K.lookup cda = some ⟨cl, cd, .fields vs, sl⟩ ∧ vs[2]? = some (.str file tf) ∧ ((P.main.file : Str) == file) = true
  cell : ∃ cl cd sl, K.lookup cc = some ⟨cl, cd, .cell (some (.ref C)), sl⟩
  top : (P.main.scope.names.lookup ("super" : Str)).isSome = false
  sup : mg "super" = none
  any : nsIn K cStatics "thirdparty.any" = some none
  self : mroIn K C (.ref C) = some true
  init : ks_superIn K C C "__init__" = some (some (.builtin "ValueError.__init__"))
  ve : subIn K (.ref C) (.type "ValueError") = some true
theorem boot_super : bootBuiltins "super" = some (.type "super") := by first | boot_by_name | rfl | kernel_rfl
theorem pat_super {X : Cx} {body : List Stmt} {e : Expr} {te : TE} {p0 p1 p2 pos pos' : Pos} {f cc cda C : Addr} {fd : FuncData} {ar : Arg} {oc : Value} {od : Option Addr} {osl : Array (Option Value)} {pl : Sem Bool} (T : SupC X.prog X.K X.mg C cc cda)
    (lf : X.K.lookup f = some ⟨oc, od, .func fd, osl⟩) (hp : (fd.params.posonlyargs ++ fd.params.args).head? = some ar) (hN : X.N[0]? = some ar.arg) (hka : X.env.kindOf ar.arg = some .local)
    (hks : X.env.kindOf "super" = some .globalImplicit) (hkc : X.env.kindOf "__class__" = some .free) (hcc : X.env.cells.lookup ("__class__" : Str) = some cc) (hfu : X.env.func = some f) (hco : X.env.code = .ref cda) (he : PE X e te)
    (hi : interactive X.env = false := by rfl) (hsw : swapsWith (.Call (.Attribute (.Call (.Name "super" p0) [] [] p1) "__init__" p2) [e] [] pos) none pos'.line X.env = pure false := by rfl)
    (hev : eval (.Call (.Attribute (.Call (.Name "super" p0) [] [] p1) "__init__" p2) [e] [] pos) X.env = (do
      let ov ← attributeBase (.Call (.Name "super" p0) [] [] p1) "__init__" X.env (eval (.Call (.Name "super" p0) [] [] p1) X.env)
      standAt p2.atName
      let (f, first) ← holding [ov] (getMethod ov "__init__" pl)
      callWith pos f first (backTo pos (starEach [e] X.env)) []) := by rfl)
    (hst : starEach [e] X.env = (false, eval e X.env) :: starEach [] X.env := by rfl) (hpl : (backTo pos (starEach [] X.env)).any (·.1) = false := by rfl) :
    PAt X body (.Expr (.Call (.Attribute (.Call (.Name "super" p0) [] [] p1) "__init__" p2) [e] [] pos) pos') (tSup C te) := by
  intro pins s σ H D I h
  obtain ⟨a, ha0, hea, h⟩ := h
  obtain ⟨nm, q, N, bs, bm, sn, sub, ab, col, dd, k0, k1, k2, k3, k5, hCk, hbm⟩ := T.cls
  obtain ⟨ccl, cdd, cvs, ccs, file, tf, hcode, hvs, hfile⟩ := T.code
  obtain ⟨cl, cld, csl, hcell⟩ := T.cell
  obtain ⟨m, hn, hl⟩ := id I.loc
  obtain ⟨u, ru, lk⟩ := hl 0 ar.arg (.ref a) hN ha0 (.inl hka)
  obtain rfl : u = Value.ref a := ru
  have hself : m ar.arg = some (.ref a) := by
    rcases lk with ⟨_, e⟩ | ⟨k | k, _⟩
    · exact e
    · rw [hka] at k; cases k
    · rw [hka] at k; cases k
  obtain ⟨t1, hoe⟩ := exo_at I.hok hea
  obtain ⟨mb, g1, g2⟩ := I.mod.blt
  refine ks_wpAt_Expr_any (ks_wpAt_MethodCall (pl := pl) (ks_wpAt_super_base hks hkc (by decide) hfu (I.kIn _ _ lf) rfl hp hco (I.kIn _ _ hcode) rfl hvs hfile T.top ?_) hev) hi hsw
  refine ks_loadName_global I.ok.kind hks (Calls.loadGlobal_builtin (by rw [I.ok.glob]; exact I.mod.glob.keeps I.bk) T.sup (by rw [I.ok.blt]; exact g1.keeps I.bk) ((g2 "super" (by decide)).trans boot_super) ⟨rfl, ?_⟩)
  refine wpAny_loadName_free I.ok.kind hkc hcc ⟨_, I.kIn _ _ hcell, rfl⟩ ?_
  refine wpAny_loadName_local I.ok.kind hka hn hself ?_
  have hC := I.kIn _ _ hCk
  refine ks_wpAny_isType_cls hC rfl ⟨rfl, ?_⟩
  obtain ⟨hh, g, d, t, os⟩ := s
  refine ks_wpAny_call_super hC rfl hoe rfl (fun c z => by cases z) (looks_mroIn I.kIn T.self) (fun h' eso k => ?_)
  have I1 : Inv X pins σ H ⟨h', g, d, t, os⟩ := I.kept (t' := t) k
  have X1 := I1.kIn
  have hoe1 := k _ _ hoe
  have hcl : clsIn X.K C = some { name := nm, bases := bs, mro := .ref C :: bm, ns := N, qualname := q, hasDict := true, slotNames := sn, subclasses := sub, abstract := ab, collection := col, hasDel := false } := by unfold clsIn; rw [hCk] <;> rfl
  have inst1 : InstAt h' a _ C none := ⟨hoe1, rfl, rfl, trivial⟩
  have hI : Looks (model X.prog X.w) h' (isInstance (.ref a) (.type "ValueError")) true := inst1.type.andThen (looks_subIn X1 T.ve)
  have hal := T.init
  unfold ks_superIn at hal
  rw [hcl, Option.bind_some] at hal
  refine kxs_getMethod kxs_ValueError eso (looks_opaque X1 T.any) (l₀ := .ref C :: bm) ((looks_clsIn X1 hcl).andThen .now) rfl X1 hal hI (ks_ne X1 inst1 hcl) (by decide) ?_
  have hu : (h'.push (kxs_mw "ValueError.__init__" a)).get? h'.objs.size = some (kxs_mw "ValueError.__init__" a) := Heap.get?_push_size _ rfl
  have I2 : Inv X pins σ H ⟨h'.push (kxs_mw "ValueError.__init__" a), g, d, t + 1, os⟩ := I1.kept (t' := t + 1) fun b o e => Heap.get?_push_of_some _ e
  have nu : H h'.objs.size = none := I1.hok.fresh (Nat.le_refl _)
  have nL : h'.objs.size ≠ X.env.locals := fun z => Nat.lt_irrefl _ (z ▸ I1.lt : h'.objs.size < h'.objs.size)
  have nF : h'.objs.size ∉ X.fs := I1.nofs (Nat.le_refl _)
  have I3 : Inv X ((h'.objs.size, kxs_mw "ValueError.__init__" a) :: pins) σ H ⟨h'.push (kxs_mw "ValueError.__init__" a), g, d, t + 1, os⟩ := I2.pins_of fun p hp => by
    rcases List.mem_cons.mp hp with e | hp
    · subst e
      exact ⟨hu, nu, nL, nF, fun v z => by cases z⟩
    · exact I2.pin p (List.mem_append_right _ hp)
  show wpAny _ _ (callWith pos (.ref h'.objs.size) [] (backTo pos (starEach [e] X.env)) []) _ _ _
  rw [hst]
  refine kxs_callWith (i := "ValueError.__init__") (x := a) (by show (false || (backTo pos (starEach [] X.env)).any (·.1)) = false; rw [hpl]; rfl) (evalArgs_plain ?_)
  show wpAny _ _ (spliced ((false, eval e X.env) :: backTo pos (starEach [] X.env))) _ _ _
  refine Calls.spliced_cons (thn (he.run _ _ σ H _ I3 h) fun v s1 ⟨v', H1, I4, r1, e4, q4⟩ => ?_)
  have hu4 := (I4.pin _ (List.mem_append_right _ List.mem_cons_self)).1
  refine Calls.spliced_nil ⟨hu4, ?_⟩
  show wpAny _ _ (call (.ref h'.objs.size) [v]) _ _ _
  have I5 : Inv X pins σ H1 s1 := I4.pins_of fun p hp => I4.pin p (List.mem_append_right _ (.tail _ hp))
  obtain ⟨t4, ho4⟩ := exo_at I5.hok e4
  have hC4 := I5.kIn _ _ hCk
  obtain ⟨h4, g4, d4, t44, os4⟩ := s1
  refine wpAny_call (codeAny_of_tree ?_)
  show wpAny _ X.A.in1 (callAny (.ref h'.objs.size) ⟨[v], []⟩) _ _ _
  simp only [callAny]
  refine wpAny_bind (wpAny_load hu4 ?_)
  simp only [kxs_mw, show (Value.type "method-wrapper" == Value.type "method" || Value.type "method-wrapper" == Value.type "builtin_function_or_method" || Value.type "method-wrapper" == Value.type "method-wrapper") = true by decide, if_true]
  refine KFB.if_so (by decide) ?_
  refine wpAny_bind (check_bound_init F.excBase_ValueError.toExcCallFacts hC4 ho4 rfl ?_)
  refine wpAny_bind (wpAny_pure (wpAny_pure ?_))
  refine ⟨plainId_quiet F.excBase_ValueError.init.plain _, codeAny_builtin F.excBase_ValueError.initEntry ?_⟩
  refine exc_init_tree (cls := .ref C) (t0 := t4) (dv := none) (c2 := .none) (c3 := .none) (b4 := .bool false) ho4 (by show 1 ≤ sizeLine; rw [sizeLine_eq]; omega) fun h5 k5' e5 _ => ?_
  have J := I5.write (t' := t44) (x := a) (e := a) (o := exo a C none) (by rw [e4]; exact True.intro) (.inl rfl) k5' ⟨_, e5⟩ (exo_ok e5)
  have eu : upd H1 a (exo a C none) = H1 := by
    funext b
    by_cases hb : b = a
    · rw [hb, upd_same, e4]
    · rw [upd_ne hb]
  rw [eu] at J
  exact ⟨σ, H1, J, q4⟩
end Wnd

set_option maxHeartbeats 2000000
namespace Wnd
open PySem PySem.Spec PyProof.Rows L2

/-- an exception object that was caught and kept: its class, its dict -/
def ExK (cls : Value) (d : Option Addr) (a : Addr) : HO := .ext fun h => ∃ (oe : Obj) (vs : Array Value), h.get? a = some oe ∧ Zc cls d oe ∧ oe.data = .fields vs
theorem exK_ok {P : Program} {w : World} {H : Hp} {h : Heap} {a : Addr} {cls : Value} {d : Option Addr} {oe : Obj} {vs : Array Value} (e : h.get? a = some oe) (z : Zc cls d oe) (dd : oe.data = .fields vs) : ObjOk P w H h a (ExK cls d a) :=
  ⟨⟨oe, vs, e, z, dd⟩, ⟨oe, e⟩, fun _ _ ⟨o, v, q, r⟩ k => ⟨o, v, k o q, r⟩⟩

section
variable {X : Cx} {pins : List (Addr × Obj)} {σ : L2.St} {H : Hp} {s : Shared}
/-- a pinned record that was not there at the entry is tracked from now on -/
theorem track {a : Addr} {oe : Obj} {vs : Array Value} {cls : Value} {d : Option Addr} (I : Inv X ((a, oe) :: pins) σ H s) (hz : Zc cls d oe) (hd : oe.data = .fields vs) (n0 : X.s_0.heap.get? a = none)
    (np : ∀ p ∈ X.pn ++ pins, p.1 ≠ a) : Inv X pins σ (upd H a (ExK cls d a)) s := by
  obtain ⟨he, na, nL, nF, nc⟩ := I.pin (a, oe) (List.mem_append.mpr (.inr List.mem_cons_self))
  have he : s.heap.get? a = some oe := he
  have na : H a = none := na
  have nb : ∀ b o, X.s_0.heap.get? b = some o → b ≠ a := fun b o e z => by rw [z, n0] at e; cases e
  refine ⟨I.ok, I.os, I.bare, ⟨I.base.keep, I.base.slot, fun b o e n hx => ?_, I.base.there, fun b xs e => ?_, fun b o u e => ?_, fun b ps e => ?_⟩, I.loc, I.cell, ?_, fun x c e => ?_, fun p hp => ?_, fun b u e => ?_, I.len⟩
  · rw [upd_ne (nb b o e)]
    exact I.base.free b o e n hx
  · have q := I.base.tups b xs e
    rw [upd_ne (ne_of_none q na)]
    exact q
  · have q := I.base.frzs b o u e
    rw [upd_ne (ne_of_none q na)]
    exact q
  · obtain ⟨more, q⟩ := I.base.tbls b ps e
    exact ⟨more, by rw [upd_ne (ne_of_none q na)]; exact q⟩
  · rw [upd_ne (Ne.symm nL)]
    exact I.free
  · have hc : c ≠ a := fun z => by
      obtain ⟨v, o, ho, hv⟩ := I.cell x c e
      rw [z, he] at ho
      cases ho
      rw [hd] at hv
      cases hv
    rw [upd_ne hc]
    exact I.freeC x c e
  · have hp' : p ∈ X.pn ++ ((a, oe) :: pins) := by
      rcases List.mem_append.mp hp with h | h
      · exact List.mem_append.mpr (.inl h)
      · exact List.mem_append.mpr (.inr (.tail _ h))
    obtain ⟨e, n, r⟩ := I.pin p hp'
    exact ⟨e, by rw [upd_ne (np p hp)]; exact n, r⟩
  · by_cases hb : b = a
    · subst hb
      rw [upd_same] at e
      cases e
      exact exK_ok he hz hd
    · rw [upd_ne hb] at e
      exact (I.hok b u e).stay (fun c v _ q => q) (fun c q => by rw [upd_ne (ne_of_none q na)]; exact q) fun c xs q => by rw [upd_ne (ne_of_none q na)]; exact q
theorem unsuiteK {a : Addr} {q : Addr × Obj} (I : Inv (X.suite a (q :: (X.pn ++ pins))) [] σ H s) (ok : X.Ok) : Inv X (q :: pins) σ H s :=
  ⟨ok, I.os, I.bare, I.base, I.loc, I.cell, I.free, I.freeC, fun p hp => I.pin p (by
    rw [List.append_nil]
    show p ∈ q :: (X.pn ++ pins)
    rcases List.mem_append.mp hp with h | h
    · exact .tail _ (List.mem_append.mpr (.inl h))
    · rcases List.mem_cons.mp h with e | h
      · exact e ▸ List.mem_cons_self
      · exact .tail _ (List.mem_append.mpr (.inr h))), I.hok, I.len⟩
end

/-- what the clause 'except x as n' wishes of an exception of the body when the exception stays known behind it -/
def wKeep (K : PySem.W.Frag) (c : Value) (i : Nat) (ts : Addr → Value → Option Addr → TS) (Wout : WX) (D : Ends) : WX := fun cls d σ H =>
  ∃ b, PySem.W.exmOne K cls c = some b ∧ (b = true → ∀ a, H a = none → ts a cls d { nx := fun σ' H' => H' a = none → D.nx (σ'.set i none) (upd H' a (ExK cls d a)), rt := fun v H' => H' a = none → D.rt v (upd H' a (ExK cls d a)), bk := fun σ' H' => H' a = none → D.bk (σ'.set i none) (upd H' a (ExK cls d a)), ct := fun σ' H' => H' a = none → D.ct (σ'.set i none) (upd H' a (ExK cls d a)) } (σ.set i (some (.ref a))) H) ∧
    (b = false → Wout cls d σ H)

section
variable {X : Cx} {x n : Str} {c : Value} {i : Nat} {body suite : List Stmt} {b₀ : Stmt} {np pos pos' : Pos} {tb : WX → TS} {ts : Addr → Value → Option Addr → TS} {Wout : WX}
/-- try: body / except x as n: suite, where the suite's end leaves the exception known -/
theorem ps_try_keep (hs : X.stack = X.env :: X.outer) (hf : X.env.frame = some X.env.locals) (hex : X.ex = []) (hN : X.N.Nodup) (hi : X.N[i]? = some n) (hln : X.env.kindOf n = some .local) (hc : Names X x c) (tk : Takes X Wout)
    (hb : ∀ (W : WX) (pn : List (Addr × Obj)) (xe : Value → Shared → Prop), Takes (X.tr pn xe) W → PassesOwn (model X.prog X.w) X.A X.env xe → PSs (X.tr pn xe) body (tb W))
    (hsu : ∀ (a : Addr) (oe : Obj) (cls : Value) (d : Option Addr) (pn : List (Addr × Obj)), Zc cls d oe → (∃ vs, oe.data = .fields vs) → PSs (X.suite a ((a, oe) :: pn)) (b₀ :: suite) (ts a cls d)) :
    PS X (.Try body [.ExceptHandler (some (.Name x np)) (some n) (b₀ :: suite) pos'] [] [] pos) (fun D σ H => tb (wKeep X.K c i ts Wout D) D σ H) := by
  refine ⟨fun pins s σ H D I h => ?_⟩
  have ok := I.ok
  have hfr : X.A.frames = some (X.env :: X.outer) := by rw [ok.frames, hs]
  have hloc : Loc X.env.scope n := .inl hln
  refine wpAny_Try_except ?_
  refine wpAny_mono ((hb (wKeep X.K c i ts Wout D) (X.pn ++ pins) (fun e s₁ => wpAny (model X.prog X.w) X.A (noteFrame e X.env) (fun _ s₂ => wpAny (model X.prog X.w) X.A (setFlight e none) (fun _ s₃ =>
    wpAny (model X.prog X.w) X.A (handleBy e X.env [.ExceptHandler (some (.Name x np)) (some n) (b₀ :: suite) pos']) (SP X pins D) X.xe s₃) X.xe s₂) X.xe s₁) (fun u s' xx => ?_) PassesOwn.looking).run [] s σ H D (I.toTry _) h) (fun f s1 hsp => ?_) (fun e s1 he => he)
  · obtain ⟨a, B, sI, pins', σ', H', cls, d, rfl, J', nb, up, sky, na, os, ag, b, hb1, hyes, hno⟩ := xx
    have J : Inv X pins σ' H' sI := J'.ofTry ok
    have sky' : Sky B (X.env :: X.outer) a (Zc cls d) X.env.locals s'.heap := by rw [← hs]; exact sky
    show wpAny (model X.prog X.w) X.A (noteFrame (.ref a) X.env) _ _ _
    refine Sky.land Zc.steady hfr hf sky' fun h3 fl3 up3 => ?_
    have J3 : Inv X pins σ' H' { s' with heap := h3 } := J.landed nb fl3.1 (up.trans up3) os ag
    obtain ⟨oe3, vs3, he3, hz3, hd3⟩ := fl3.there
    have notFr : ∀ {h : Heap} {o : Obj} {vs : Array Value}, h.FunFrames B (X.env :: X.outer) → h.get? a = some o → o.data = .fields vs → a ∉ frs (X.env :: X.outer) := fun {h o vs} ff e dd hm => by
      obtain ⟨_, o', e', hnf⟩ := ff.mem hm
      rw [e] at e'; cases e'
      exact hnf _ dd
    have nfr := notFr fl3.2.2.1 he3 hd3
    have nL : a ≠ X.env.locals := fun z => nfr (List.mem_filterMap.mpr ⟨X.env, List.mem_cons_self, by rw [hf, z]⟩)
    have nF : a ∉ X.fs := fun hm => by
      obtain ⟨e, he, q⟩ := List.mem_filterMap.mp hm
      exact nfr (List.mem_filterMap.mpr ⟨e, List.mem_cons_of_mem _ he, q⟩)
    have nI : sI.heap.get? a = none := by
      cases e : sI.heap.get? a with
      | none => rfl
      | some o =>
        have z := nb a o e (by show a ∉ frs X.stack; rw [hs]; exact nfr)
        have hen : B.get? a = none := fl3.2.1
        rw [hen] at z
        cases z
    have nP : ∀ p ∈ X.pn ++ pins, p.1 ≠ a := fun p hp z => by
      have e := (J.pin p hp).1
      rw [z, nI] at e
      cases e
    have n0 : X.s_0.heap.get? a = none := by
      cases e : X.s_0.heap.get? a with
      | none => rfl
      | some o =>
        obtain ⟨o', z⟩ := J.base.there a o e (by rw [hex]; exact fun y => nomatch y)
        rw [nI] at z
        cases z
    have S3 := J3.suite he3 hd3 na nL nF
    refine wpAny_handleBy_cons (codeAny_handlers_test ?_) (by intro q; cases q)
    have LT : PySem.W.Looks (model X.prog X.w) h3 (typeOf (.ref a)) cls := fun A Q E s k q => wpAny_typeOf_ref (k _ _ he3) (by rw [hz3.1]; exact q)
    have LM := PySem.W.exm_one (M := model X.prog X.w) (J3.kIn) LT hb1
    have test : ∀ {Q : Value → Shared → Prop} {E : Value → Shared → Prop}, Q c { s' with heap := h3 } → wpAny (model X.prog X.w) (X.A.mark (some (.ref a))) (eval (.Name x np) X.env) Q E { s' with heap := h3 } := fun {Q E} q => by
      obtain ⟨hg, hdbg, hm | ⟨hm, hv, hnn⟩⟩ := hc
      · exact ld_glob (X := X.suite a ((a, oe3) :: (X.pn ++ pins))) S3 hg hm q hdbg
      · exact ld_blt (X := X.suite a ((a, oe3) :: (X.pn ++ pins))) S3 hg hm hv q hnn hdbg
    refine test (LM.here ?_)
    cases b with
    | true =>
      refine codeAny_handlers_suite_as ?_
      refine HandSPX.lands_againZ fl3 fun h4 fl4 up4 => ?_
      have J4 : Inv X pins σ' H' { s' with heap := h4 } := J.landed nb fl4.1 ((up.trans up3).trans up4) os ag
      obtain ⟨oe4, vs4, he4, hz4, hd4⟩ := fl4.there
      have S4 := J4.suite he4 hd4 na nL nF
      refine store_ok (X := X.suite a ((a, oe4) :: (X.pn ++ pins))) (v := .ref a) S4 hN hi hloc rfl (fun s5 S5 => ?_) (.inr hln)
      refine wpAny_mono ((hsu a oe4 cls d (X.pn ++ pins) hz4 ⟨_, hd4⟩).run [] s5 _ H' _ S5 (hyes rfl a na)) (fun f s6 hsp => ?_) (fun _ _ z => False.elim z)
      have end_ : ∀ {σ6 : L2.St} {H6 : Hp} {Q : Shared → Prop}, Inv (X.suite a ((a, oe4) :: (X.pn ++ pins))) [] σ6 H6 s6 → (H6 a = none → ∀ s7, Inv X pins (σ6.set i none) (upd H6 a (ExK cls d a)) s7 → Q s7) →
          wpAny (model X.prog X.w) X.A (do bindName X.env n .none; unbindBehindTheSuite X.env n pos') (fun _ s7 => Q s7) X.xe s6 := fun {σ6 H6 Q} S6 hq => by
        have U6 := unsuiteK S6 ok
        have n6 : H6 a = none := (U6.pin (a, oe4) (List.mem_append.mpr (.inr List.mem_cons_self))).2.1
        exact gone_ok U6 hN hi hln fun s7 J7 => hq n6 s7 (track J7 hz4 hd4 n0 nP)
      cases f with
      | next =>
        obtain ⟨σ6, H6, S6, q6⟩ := hsp
        exact end_ S6 fun n6 s7 J7 => ⟨_, _, J7, q6 n6⟩
      | brk =>
        obtain ⟨σ6, H6, S6, q6⟩ := hsp
        exact end_ S6 fun n6 s7 J7 => ⟨_, _, J7, q6 n6⟩
      | cont =>
        obtain ⟨σ6, H6, S6, q6⟩ := hsp
        exact end_ S6 fun n6 s7 J7 => ⟨_, _, J7, q6 n6⟩
      | ret u =>
        obtain ⟨v6, σ6, H6, S6, r6, q6⟩ := hsp
        exact end_ S6 fun n6 s7 J7 => ⟨_, _, _, J7, r6, q6 n6⟩
    | false =>
      show wpAny _ X.A (handleBy (.ref a) X.env []) _ _ _
      refine wpAny_handleBy_nil ?_
      obtain ⟨k1, k2, k3, oe, vs, T, oT, ts', he, hz, hd, h1, hr⟩ := id fl3
      unfold PySem.passOn
      refine wpAny_bind (wpAny_field he hd h1 ?_)
      rw [if_neg (show ¬ ((Value.ref T == Value.none) = true) from by simp)]
      have fin : wpAny (model X.prog X.w) X.A (setFlight (.ref a) X.env.frame) (fun _ s4 => wpAny (model X.prog X.w) X.A (throw (.ref a) : Sem Flow) (SP X pins D) X.xe s4) X.xe { s' with heap := h3 } := by
        rw [hf]
        refine HandSPX.setFlight_upZ fl3 fun h4 hh4 up4 => wpAny_throw (tk _ _ ?_)
        exact ⟨a, B, sI, pins, σ', H', cls, d, rfl, J, nb, (up.trans up3).trans up4, .inr (.inr (by rw [hs]; exact hh4)), na, os, ag, hno rfl⟩
      first
        | exact wpAny_bind (wpAny_pure (wpAny_bind fin))
        | exact wpAny_bind fin
  · cases f with
    | next =>
      obtain ⟨σ', H', J', q⟩ := hsp
      exact wpAny_execs_nil ⟨σ', H', J'.ofTry ok, q⟩
    | brk =>
      obtain ⟨σ', H', J', q⟩ := hsp
      exact ⟨σ', H', J'.ofTry ok, q⟩
    | cont =>
      obtain ⟨σ', H', J', q⟩ := hsp
      exact ⟨σ', H', J'.ofTry ok, q⟩
    | ret u =>
      obtain ⟨v, σ', H', J', r, q⟩ := hsp
      exact ⟨v, σ', H', J'.ofTry ok, r, q⟩
end
/-- isinstance(e, c), e a caught exception that was kept -/
def rIsK (K : PySem.W.Frag) : List V → Hp → VK → Prop := fun xs H Q => ∃ (a D : Addr) (c : V) (cv : Value) (b : Bool), xs = [.ref a, c] ∧ H a = some (ExK (.ref D) none a) ∧ ExcC K D ∧ (∀ u, RelV c u → u = cv) ∧ PySem.W.kitOne K (.ref D) cv = some b ∧ Q (.bl b) H
theorem call_isK {X : Cx} : CallR X (.builtin "isinstance") (rIsK X.K) := by
  intro pins s σ H xs us Q I r h
  obtain ⟨a, D, c, cv, b, rfl, ha, C, hcv, e, q⟩ := h
  cases r with
  | cons rx rr =>
    cases rr with
    | cons rt rr =>
      cases rr
      cases rx
      have ec := hcv _ rt
      subst ec
      have z : ObjOk X.prog X.w H s.heap a (.ext fun h => ∃ (oe : Obj) (vs : Array Value), h.get? a = some oe ∧ Zc (.ref D) none oe ∧ oe.data = .fields vs) := I.hok a _ ha
      obtain ⟨oe, vs, hget, hz, hv⟩ := z.1
      have J : PySem.W.InstAt s.heap a oe D none := by
        obtain ⟨oc, od, oda, osl⟩ := oe
        obtain ⟨h1, h2⟩ := hz
        dsimp only at h1 h2 hv
        subst h1 h2 hv
        exact ⟨hget, rfl, rfl, trivial⟩
      exact PySem.W.kia_one (PySem.W.handS_kitx_exc C.hg C.hk C.hs C.hd C.ha C.hn C.ht C.hm) I.kIn J e (fun z => nomatch z) fun tk => ⟨.bl b, H, I.kept (t' := tk) fun _ _ z => z, rfl, q⟩
end Wnd

set_option maxHeartbeats 4000000
/-! Such an exception made as a value, its fields read, isinstance of it. -/
namespace Wnd
open PySem PySem.Spec PySem.Calls PyProof.Rows PySem.W L2

/-- C(e, ..), C's own __init__ keeping sp; the exception as a value -/
def tMkV (C : Addr) (sp : Sp) (ta : TA) : TE := fun σ H Q => ta σ H fun vs H1 => vs.length ≤ 1000 ∧ ∀ a, H1 a = none → sp (.ref a :: vs) (upd H1 a (exo a C none)) (fun v H2 => v = .non ∧ Q (.ref a) H2) (fun _ _ _ => False)
/-- C(k = v, ..) -/
def tMkVK (C : Addr) (m : Nat) (sp : Sp) (tk : TA) : TE := fun σ H Q => tk σ H fun zs H1 => zs.length = m ∧ ∀ a, H1 a = none → sp (.ref a :: zs) (upd H1 a (exo a C none)) (fun v H2 => v = .non ∧ Q (.ref a) H2) (fun _ _ _ => False)
/-- the class with its __init__ -/
structure OkX (P : Program) (w : World) (K : Frag) (mg : Str → Option Value) (base : Heap) (C : Addr) (k : Nat) (ps ks : List Str) (sp : Sp) : Prop where
  ex : ∃ (fI : Addr) (fd : FuncData), findIn K (.ref C) "__init__" = some (some (.ref fI)) ∧ typeIn K (.ref fI) = some (.type "function") ∧ Binds K fd ps [] ∧ KBn K fd ps 1 ks (fun us ws => us ++ ws) (fun vs zs => vs ++ zs) ∧ FnOk P w K mg base CX0 k fI fd ps sp
  cls : OexC K C
section
variable {X : Cx} {k : Nat} {C : Addr} {ps ks : List Str} {sp : Sp} {x : Str} {p pos : Pos} {e : Expr} {es : List Expr} {kws : List Keyword} {ta tk : TA}
theorem run_oexV {fI : Addr} {fd : FuncData} {pins : List (Addr × Obj)} {σ : L2.St} {H1 : Hp} {Q : VK} {s1 : Shared} {us ws : List Value} {vs zs : List V} (T : OexC X.K C) (iC : findIn X.K (.ref C) "__init__" = some (some (.ref fI))) (tI : typeIn X.K (.ref fI) = some (.type "function"))
    (F1 : FnOk X.prog X.w X.K X.mg X.base CX0 k fI fd ps sp) (hr : Room (k + 1) X.A) (I1 : Inv X pins σ H1 s1) (r1 : Vals vs us) (r2 : Vals zs ws) (hz : vs.length ≤ 1000) {kw : List (Str × Value)}
    (hb : ∀ (s : Shared) (a : Value), X.K.In s.heap → (a :: us ++ ws).length = ps.length → BindsTo s fd ⟨a :: us, kw⟩ (ps.zip (a :: us ++ ws)))
    (q1 : ∀ a, H1 a = none → sp (.ref a :: (vs ++ zs)) (upd H1 a (exo a C none)) (fun v H2 => v = .non ∧ Q (.ref a) H2) (fun _ _ _ => False)) :
    wpAny (model X.prog X.w) X.A (call (.ref C) us kw) (EP X pins σ Q) X.xe s1 := by
  obtain ⟨nm, q, N, bs, bm, sn, sub, ab, col, dd, k0, k1, k2, k3, k5, hC, hbm⟩ := T.cls
  obtain ⟨hp, g, dr, tk, os⟩ := s1
  have hsz : hp.objs.size ≤ hp.objs.size + 1 := Nat.le_succ _
  have hn : H1 (hp.objs.size + 1) = none := I1.hok.fresh hsz
  have hq := q1 (hp.objs.size + 1) hn
  have kk : ∀ b o, hp.get? b = some o → ((hp.push (kdv_tup us)).push (PySem.HandSPX.excO C hp.objs.size)).get? b = some o := fun b o e => Heap.get?_push_of_some _ (Heap.get?_push_of_some _ e)
  have hget : ((hp.push (kdv_tup us)).push (PySem.HandSPX.excO C hp.objs.size)).get? (hp.objs.size + 1) = some (PySem.HandSPX.excO C hp.objs.size) := by heap_get
  have I2 : Inv X pins σ (upd H1 (hp.objs.size + 1) (exo (hp.objs.size + 1) C none)) ⟨(hp.push (kdv_tup us)).push (PySem.HandSPX.excO C hp.objs.size), g, dr, tk, os⟩ :=
    I1.laid (t' := tk) (a := hp.objs.size + 1) (o := exo (hp.objs.size + 1) C none) (h' := (hp.push (kdv_tup us)).push (PySem.HandSPX.excO C hp.objs.size)) kk hsz (exo_ok hget)
  have r3 : Vals (V.ref (hp.objs.size + 1) :: (vs ++ zs)) (Value.ref (hp.objs.size + 1) :: (us ++ ws)) := .cons rfl (r1.append r2)
  have hl : (Value.ref (hp.objs.size + 1) :: us ++ ws).length = ps.length := by
    have e := r3.length
    rw [F1.len _ _ _ _ hq] at e
    exact e.symm
  have hus : us.length ≤ sizeLine := by
    rw [← Paired.length r1, sizeLine_eq]
    omega
  refine wpAny_call (kw_call F.excBase_ValueError (fun Y => PySem.HandSPX.refsVE_contains Y bm hbm) (I1.kIn _ _ hC) (looks_findIn I1.kIn iC) (fun self => bind_fn I1.kIn self tI) hus
    (codeAny_mono (F1.run _ X.stack _ _ ⟨Value.ref (hp.objs.size + 1) :: us, kw⟩ (Value.ref (hp.objs.size + 1) :: (us ++ ws)) _ _ (fun _ _ _ => False) (hr.make C us kw) (I2.env0.make C us kw) (hb _ (Value.ref (hp.objs.size + 1)) I2.kIn hl) r3 hq) fun r s' hq' => ?_))
  cases r with
  | error er => exact False.elim hq'
  | ok fl =>
    cases fl with
    | ret u =>
      obtain ⟨v, H', I3, rv, ev, q3⟩ := I2.after hq'
      subst ev
      exact ⟨rv, ⟨V.ref (hp.objs.size + 1), H', I3, rfl, q3⟩⟩
    | next => exact False.elim hq'
    | brk => exact False.elim hq'
    | cont => exact False.elim hq'
theorem pe_oexV (O : OkX X.prog X.w X.K X.mg X.base C k ps ks sp) (hr : Room (k + 1) X.A) (hm : X.mg x = some (.ref C)) (ha : PA X (e :: es) ta) (hg : Gl X x := by rfl)
    (hdb : (x == ("__debug__" : Str)) = false := by decide) (he : starEach (e :: es) X.env = (false, eval e X.env) :: starEach es X.env := by rfl) (hpl : (backTo pos (starEach es X.env)).any (·.1) = false := by rfl) :
    PE X (.Call (.Name x p) (e :: es) [] pos) (tMkV C sp ta) := by
  refine ⟨fun pins s σ H Q I h => ?_⟩
  obtain ⟨fI, fd, iC, tI, hb, hk, F1⟩ := O.ex
  refine wpAny_Call_Name_kw (ld_glob I hg hm ?_ hdb)
  refine callWith_K (h₀ := X.base) I.ok.mod.kin O.cls.kC (thn (ha.run pos pins s σ H _ I h) fun us s1 ⟨vs, H1, I1, r1, hz, q1⟩ => ⟨I1.kIn, ?_⟩) he hpl
  show wpAny _ _ (call (.ref C) us) _ _ _
  exact run_oexV (ws := []) (zs := []) O.cls iC tI F1 hr I1 r1 .nil hz (fun s a kin hl => by
    have z := hb s (a :: us) kin hl
    exact z) (fun a n => by rw [List.append_nil]; exact q1 a n)
theorem pe_oexVK (O : OkX X.prog X.w X.K X.mg X.base C k ps ks sp) (hr : Room (k + 1) X.A) (hm : X.mg x = some (.ref C)) (hkw : PK X kws tk) (hg : Gl X x := by rfl)
    (hall : (backToKw pos (keywordEach kws X.env)).all (·.1.isSome) = true := by rfl) (hks : (backToKw pos (keywordEach kws X.env)).filterMap (·.1) = ks := by rfl) (hdb : (x == ("__debug__" : Str)) = false := by decide)
    (hpl : ((backTo pos (starEach [] X.env)).any (·.1) || (backToKw pos (keywordEach kws X.env)).any (·.1.isNone)) = false := by rfl) :
    PE X (.Call (.Name x p) [] kws pos) (tMkVK C ks.length sp tk) := by
  refine ⟨fun pins s σ H Q I h => ?_⟩
  obtain ⟨fI, fd, iC, tI, hb, hk, F1⟩ := O.ex
  refine wpAny_Call_Name_kw (ld_glob I hg hm ?_ hdb)
  refine callWith_KW0 (h₀ := X.base) I.ok.mod.kin O.cls.kC hall ?_ hpl
  refine thn (hkw.run pos pins s σ H _ I h) fun ws s2 ⟨zs, H2, I2, rz, l2, q2⟩ => ⟨I2.kIn, ?_⟩
  rw [hks]
  exact run_oexV (us := []) (vs := []) O.cls iC tI F1 hr I2 .nil rz (by decide) (fun s a kin hl => hk.to s [a] ws kin rfl (rz.length.symm.trans l2)) (fun a n => q2 a n)
end

/-- at a: a made exception of the class at D -/
def ExcAt (H : Hp) (a D : Addr) : Prop := H a = some (ExO (.ref D) a) ∨ H a = some (ExK (.ref D) none a) ∨ ∃ (d : Addr) (fs : List (Str × V)), H a = some (exo a D (some d)) ∧ H d = some (exd d fs)
theorem ExcAt.inst {X : Cx} {pins : List (Addr × Obj)} {σ : L2.St} {H : Hp} {s : Shared} {a D : Addr} (I : Inv X pins σ H s) (h : ExcAt H a D) : ∃ ox od, InstAt s.heap a ox D od := by
  rcases h with h | h | ⟨d, fs, h, hd⟩
  · obtain ⟨oe, vs, e, hz, hv, _⟩ := ((I.hok a _ h : ObjOk X.prog X.w H s.heap a (.ext _))).1
    obtain ⟨oc, od, oda, osl⟩ := oe
    obtain ⟨h1, h2⟩ := hz
    dsimp only at h1 h2 hv
    subst h1 h2 hv
    exact ⟨_, none, e, rfl, rfl, trivial⟩
  · obtain ⟨oe, vs, e, hz, hv⟩ := ((I.hok a _ h : ObjOk X.prog X.w H s.heap a (.ext _))).1
    obtain ⟨oc, od, oda, osl⟩ := oe
    obtain ⟨h1, h2⟩ := hz
    dsimp only at h1 h2 hv
    subst h1 h2 hv
    exact ⟨_, none, e, rfl, rfl, trivial⟩
  · obtain ⟨t1, e⟩ := exo_at I.hok h
    obtain ⟨mA, ⟨od, es, ep, e2, _⟩, _⟩ := exd_at I.hok hd
    exact ⟨_, some od, e, rfl, rfl, e2⟩
/-- isinstance(e, c), e a made exception -/
def rIsX (K : Frag) : List V → Hp → VK → Prop := fun xs H Q => ∃ (a D : Addr) (c : V) (cv : Value) (b : Bool), xs = [.ref a, c] ∧ ExcAt H a D ∧ ExcC K D ∧ (∀ u, RelV c u → u = cv) ∧ kitOne K (.ref D) cv = some b ∧ Q (.bl b) H
theorem call_isX {X : Cx} : CallR X (.builtin "isinstance") (rIsX X.K) := by
  intro pins s σ H xs us Q I r h
  obtain ⟨a, D, c, cv, b, rfl, ha, C, hcv, e, q⟩ := h
  cases r with
  | cons rx rr =>
    cases rr with
    | cons rt rr =>
      cases rr
      cases rx
      have ec := hcv _ rt
      subst ec
      obtain ⟨ox, od, J⟩ := ha.inst I
      have hcl : (clsIn X.K D).isSome = true := by
        obtain ⟨cd, hc, _⟩ := any_some C.hd
        rw [hc] <;> rfl
      exact kia_one (kitx_exc (od := od) hcl C.hg C.hk C.hs C.ha C.hn C.ht C.hm) I.kIn J e (fun z => nomatch z) fun tk => ⟨.bl b, H, I.kept (t' := tk) fun _ _ z => z, rfl, q⟩
/-- e.f, e a made exception with a dict -/
def tXat (K : Frag) (f : Str) (te : TE) : TE := fun σ H Q => te σ H fun x H1 => ∃ (a C dx : Addr) (fs : List (Str × V)) (v : V), x = .ref a ∧ XfC K C ∧ findIn K (.ref C) f = some none ∧ H1 a = some (exo a C (some dx)) ∧ H1 dx = some (exd dx fs) ∧ fs.lookup f = some v ∧ Q v H1
theorem pe_xat {X : Cx} {e : Expr} {te : TE} {pos : Pos} {n : Str} (he : PE X e te) (hb : attributeBase e n X.env (eval e X.env) = eval e X.env := by rfl) : PE X (.Attribute e n pos) (tXat X.K n te) := by
  refine ⟨fun pins s σ H Q I h => ?_⟩
  refine attr_of hb (thn (he.run pins s σ H _ I h) fun u s1 hh => ?_)
  obtain ⟨x, H1, I1, rx, a, C, dx, fs, v, ex, T, hno, ea, ed, l, q⟩ := hh
  subst ex
  obtain rfl : u = Value.ref a := rx
  obtain ⟨t1, ha⟩ := exo_at I1.hok ea
  obtain ⟨mA, hns, hr⟩ := exd_at I1.hok ed
  obtain ⟨od, ho, hl⟩ := lookIn_ns hns
  obtain ⟨u, hu, ru⟩ := RelO.some_of (v := v) (o := mA n) (by rw [← l]; exact hr n)
  have J : InstAt s1.heap a _ C (some od) := ⟨ha, rfl, rfl, ho⟩
  exact HandSPX.exc_get I1.kIn J T.ga T.gg T.exC (findObj_own T.hdC hno rfl (by rw [hl, hu])) (handed_of ru) ⟨v, H1, I1.tok _, ru, q⟩
end Wnd

set_option maxHeartbeats 2000000
/-! {t!r}, t a tuple of None, texts and ints: some bounded text, whatever is being shown. -/
namespace Wnd
open PySem PySem.Spec PyProof.Rows L2
inductive Shw : List V → List Str → Prop where
  | nil : Shw [] []
  | non {l : List V} {ts : List Str} (h : Shw l ts) : Shw (.non :: l) ("None" :: ts)
  | str {y : Str} {l : List V} {ts : List Str} (z : (reprText y).length ≤ sizeLine) (h : Shw l ts) : Shw (.str y :: l) (reprText y :: ts)
  | int {i : Int} {l : List V} {ts : List Str} (z : i.natAbs.log2 < 1920) (h : Shw l ts) : Shw (.int i :: l) (toString i :: ts)
theorem Shw.all {prog : Program} {w : World} {l : List V} {ts : List Str} (h : Shw l ts) : ∀ {its : List Value}, Vals l its → ReprAll prog w its ts := by
  induction h with
  | nil =>
    intro its r
    cases r
    exact .nil
  | non _ ih =>
    intro its r
    cases r with
    | cons r1 r2 =>
      cases r1
      exact .cons ReprIs.none (ih r2)
  | str z _ ih =>
    intro its r
    cases r with
    | cons r1 r2 =>
      obtain ⟨t, rfl⟩ := r1
      exact .cons (ReprIs.str _ t z) (ih r2)
  | int z _ ih =>
    intro its r
    cases r with
    | cons r1 r2 =>
      obtain ⟨t, rfl⟩ := r1
      exact .cons (ReprIs.int t z) (ih r2)
def tFmtTR (K : PySem.W.Frag) (te : TE) : TE := fun σ H Q => te σ H fun x H1 => ∃ (a : Addr) (xs : List V) (ts : List Str), x = .ref a ∧ SqT K H1 a xs ∧ Shw xs ts ∧ (tupleText ts).length + 5 ≤ sizeLine ∧ ∀ m : Str, m.length ≤ (tupleText ts).length + 5 → Q (.str m) H1
theorem pe_fmtTR {X : Cx} {e : Expr} {te : TE} {pos : Pos} {k : Nat} (hr : Room k X.A) (he : PE X e te) : PE X (.FormattedValue e 114 none pos) (tFmtTR X.K te) := by
  refine ⟨fun pins s σ H Q I h => ?_⟩
  refine wpAny_FormattedValue_repr (thn (he.run pins s σ H _ I h) fun v s1 hv => ?_)
  obtain ⟨x, H1, I1, r1, a, l, ts, rfl, ht, hS, hz, q⟩ := hv
  cases r1
  obtain ⟨its, rv, ⟨o, ho, hcl, n, hd⟩, _⟩ := I1.tuple ht
  have hu := hr.un
  refine wpAny_pyReprObj_slot (by omega) ⟨o, ho, hcl⟩ F.slot_tuple_repr (fmt_tuple_repr ho hcl hd (hS.all rv) (by omega) fun m u tk hm => ⟨m, u, rfl, ?_⟩)
  exact wpAny_formatField_str ⟨.str m, H1, I1.tok _, ⟨u, rfl⟩, q m hm⟩ ⟨.str m, H1, I1.tok _, ⟨_, rfl⟩, q m hm⟩ (by omega)
end Wnd

namespace Wnd
open PySem PySem.Spec PyProof.Rows L2
abbrev s_ParseInit : Stmt := inClass (top 2) 0
abbrev s_NotInit : Stmt := inClass (top 3) 0
theorem sc_ParseInit : SupScope ["self", "line"] ["self", "line"] (defScope s_ParseInit) := ⟨rfl, rfl, rfl, by decide +kernel, rfl, by decide +kernel, by decide +kernel, by decide +kernel⟩
theorem sc_NotInit : SupScope ["self", "rule"] ["self", "rule"] (defScope s_NotInit) := ⟨rfl, rfl, rfl, by decide +kernel, rfl, by decide +kernel, by decide +kernel, by decide +kernel⟩
section
variable {P : Program} {w : World} {K : PySem.W.Frag} {mg : Str → Option Value} {base : Heap}
/-- an __init__ that begins with super().__init__(..), where the class holds it -/
structure InitAt (K : PySem.W.Frag) (C : Addr) (q : Str) (st : Stmt) (f cc cda : Addr) (fd : FuncData) : Prop where
  find : PySem.W.findIn K (.ref C) "__init__" = some (some (.ref f))
  typ : PySem.W.typeIn K (.ref f) = some (.type "function")
  at_ : ∃ (oc : Value) (od an : Option Addr) (kV dc pm ct : Value) (sl : Array (Option Value)), fd = PySem.W.ksFn "__init__" q (defArgs st) (defBody st) (defScope st) .none kV dc pm an (.ref cda) ct cc ∧ K.lookup f = some ⟨oc, od, .func fd, sl⟩
  code : PySem.W.codeIn K (.ref cda) q = true
def spParse (C : Addr) : Sp := fun vs H Q _ => ∃ (a : Addr) (i : Int), vs = [.ref a, .int i] ∧ H a = some (exo a C none) ∧ i.natAbs < 10 ^ 12 ∧ ∀ dx, H dx = none → dx ≠ a → Q .non (L2.upd (L2.upd H dx (exd dx [("line", .int i)])) a (exo a C (some dx)))
theorem int_txt {i : Int} (h : i.natAbs < 10 ^ 12) : (toString i : Str).length ≤ 13 := int_shown_len h
theorem ok_parse {C f cc cda : Addr} {fd : FuncData} (I : InitAt K C "ParseError.__init__" s_ParseInit f cc cda fd) (T : SupC P K mg C cc cda) (O : OexC K C) (hno : PySem.W.findIn K (.ref C) "line" = some none) :
    FnOk P w K mg base CX0 1 f fd ["self", "line"] (spParse C) := by
  obtain ⟨oc, od, an, kV, dc, pm, ct, sl, rfl, lk⟩ := I.at_
  obtain ⟨cl, cd, csl, hcell⟩ := T.cell
  refine fn_sup lk I.code sc_ParseInit hcell rfl (fun vs H Q E h => ?_) (fun A outer s H vs Q E hr h => ?_)
  · obtain ⟨a, i, rfl, _⟩ := h
    rfl
  · obtain ⟨a, i, rfl, ha, hi, q⟩ := h
    refine ⟨tSup C _, _, pat_super T lk rfl rfl rfl rfl rfl rfl rfl rfl (pe_joined (.cons pe_str (.cons (pe_fmt (pv 1)) (.cons pe_str .nil)))), pss_one (ps_ost (pv 0) (pv 1)), ?_⟩
    have big : sizeLine > 100000 := by decide
    have hl := int_txt hi
    refine ⟨a, rfl, ha, _, rfl, by decide +kernel, _, rfl, .inr ⟨i, rfl, Nat.lt_trans (log_small (k := 40) (by decide) (Nat.lt_trans hi (by decide))) (by decide), _, rfl, ?_, _, rfl, ?_, ha, ?_⟩⟩
    · rw [strLen_append]
      have e1 : (Str.empty ++ ("not the text of a system, as line " : Str)).length = 34 := by decide +kernel
      omega
    · rw [strLen_append, strLen_append]
      have e1 : (Str.empty ++ ("not the text of a system, as line " : Str)).length = 34 := by decide +kernel
      have e2 : ((" shows" : Str)).length = 6 := by decide +kernel
      omega
    · refine ⟨_, rfl, _, rfl, a, C, rfl, O, hno, .inl ⟨ha, fun dx n1 n2 => q dx n1 n2⟩⟩
def spNot (K : PySem.W.Frag) (C : Addr) : Sp := fun vs H Q _ => ∃ (a t : Addr) (xs : List V) (ts : List Str), vs = [.ref a, .ref t] ∧ H a = some (exo a C none) ∧ SqT K H t xs ∧ Shw xs ts ∧ (tupleText ts).length ≤ 1000 ∧ ∀ dx, H dx = none → dx ≠ a → Q .non (L2.upd (L2.upd H dx (exd dx [("rule", .ref t)])) a (exo a C (some dx)))
theorem ok_not {C f cc cda : Addr} {fd : FuncData} (I : InitAt K C "NotAdmitted.__init__" s_NotInit f cc cda fd) (T : SupC P K mg C cc cda) (O : OexC K C) (hno : PySem.W.findIn K (.ref C) "rule" = some none) :
    FnOk P w K mg base CX0 1 f fd ["self", "rule"] (spNot K C) := by
  obtain ⟨oc, od, an, kV, dc, pm, ct, sl, rfl, lk⟩ := I.at_
  obtain ⟨cl, cd, csl, hcell⟩ := T.cell
  refine fn_sup lk I.code sc_NotInit hcell rfl (fun vs H Q E h => ?_) (fun A outer s H vs Q E hr h => ?_)
  · obtain ⟨a, t, xs, ts, rfl, _⟩ := h
    rfl
  · obtain ⟨a, t, xs, ts, rfl, ha, ht, hS, hz, q⟩ := h
    refine ⟨tSup C _, _, pat_super T lk rfl rfl rfl rfl rfl rfl rfl rfl (pe_joined (.cons pe_str (.cons (pe_fmtTR hr (pv 1)) .nil))), pss_one (ps_ost (pv 0) (pv 1)), ?_⟩
    have big : sizeLine > 100000 := by decide
    refine ⟨a, rfl, ha, _, rfl, by decide +kernel, _, rfl, t, xs, ts, rfl, ht, hS, by omega, fun m hm => ⟨_, rfl, ?_, ha, ?_⟩⟩
    · rw [strLen_append]
      have e1 : (Str.empty ++ ("a rule does not hold: " : Str)).length = 22 := by decide +kernel
      omega
    · refine ⟨_, rfl, _, rfl, a, C, rfl, O, hno, .inl ⟨ha, fun dx n1 n2 => q dx n1 n2⟩⟩
end
/-! ### the twenty classes -/
abbrev s_law_kinds : Stmt := top 26
theorem sc_law_kinds : FnScope ["_law_error", "_law_found"] ["_law_error"] (defScope s_law_kinds) := ⟨rfl, rfl, rfl, by decide +kernel, rfl, by decide +kernel, by decide +kernel⟩
abbrev s_law : Stmt := top 27
theorem sc_law : FnScope ["_law_script", "_law_pen_here", "_law_index", "_law_note", "_law_ask", "_law_errors", "_law_k", "_law_held", "_law_j"] ["_law_script"] (defScope s_law) := ⟨rfl, rfl, rfl, by decide +kernel, rfl, by decide +kernel, by decide +kernel⟩
def errN : List Str := ["ParseError", "NotAdmitted", "InvalidSystem", "UnknownRule", "UnknownSetting", "InvalidNumbers", "Contradiction", "InvalidStep", "InvalidPrices", "NoSolution", "InvalidAmounts", "NotASolution", "PlanFinished", "NothingToUndo", "InvalidName", "DuplicateName", "UnknownName", "UnknownMark", "InvalidCommand", "InvalidLine"]
abbrev veB : List Value := [.type "ValueError", .type "Exception", .type "BaseException", .type "object"]
structure ErrK (K : PySem.W.Frag) (mg : Str → Option Value) (W : Addr) (Cs : List Addr) : Prop where
  g : ∀ i < 20, mg (errN.getD i "") = some (.ref (Cs.getD i 0))
  w : mg "WindowError" = some (.ref W)
  exc : ∀ i < 20, ExcC K (Cs.getD i 0)
  kit : ∀ i < 20, ∀ j < 20, PySem.W.kitOne K (.ref (Cs.getD i 0)) (.ref (Cs.getD j 0)) = some (i == j)
  ve : ∀ i < 20, PySem.W.kitOne K (.ref (Cs.getD i 0)) (.type "ValueError") = some true
  we : ∀ i < 20, PySem.W.kitOne K (.ref (Cs.getD i 0)) (.ref W) = some true
  plain : ∀ i < 20, 2 ≤ i → PySem.W.excIn K (Cs.getD i 0) veB "ValueError.__new__" = true
  kp : ∀ i < 20, PySem.W.keepIn K (.ref (Cs.getD i 0)) = true
  xf : ∀ i < 2, XfC K (Cs.getD i 0)
  no0 : PySem.W.findIn K (.ref (Cs.getD 0 0)) "line" = some none
  no1 : PySem.W.findIn K (.ref (Cs.getD 1 0)) "rule" = some none
structure BltE (mg : Str → Option Value) : Prop extends Blt mg where
  isinstance : mg "isinstance" = none
  str : mg "str" = none
  ValueError : mg "ValueError" = none
theorem ExcAt.same {H H' : Hp} {a D : Addr} (h : ExcAt H a D) (s : Same H H') : ExcAt H' a D := by
  rcases h with h | h | ⟨d, fs, h, hd⟩
  · exact .inl (s _ _ h)
  · exact .inr (.inl (s _ _ h))
  · exact .inr (.inr ⟨d, fs, s _ _ h, s _ _ hd⟩)
theorem pe_cls {X : Cx} {x : Str} {C : Addr} {pos : Pos} (hm : X.mg x = some (.ref C)) (hg : Gl X x := by rfl) (hd : (x == ("__debug__" : Str)) = false := by decide) : PE X (.Name x pos) (tC (.ref C)) := pe_glob hg hm rfl hd
/-- C(e), C a class without own __init__ -/
theorem pe_exc {X : Cx} {C : Addr} {x : Str} {e : Expr} {ta : TE} {p pos : Pos} (q : PySem.W.excIn X.K C veB "ValueError.__new__" = true) (kC : PySem.W.keepIn X.K (.ref C) = true) (gC : X.mg x = some (.ref C)) (he : PE X e ta) (hg : Gl X x := by rfl)
    (hs : starEach [e] X.env = (false, eval e X.env) :: starEach [] X.env := by rfl) (hdb : (x == ("__debug__" : Str)) = false := by decide) :
    PE X (.Call (.Name x p) [e] [] pos) (fun σ H Q => ta σ H fun _ H1 => ∀ a, H1 a = none → Q (.ref a) (L2.upd H1 a (ExO (.ref C) a))) := pe_exc1 F.excBase_ValueError q gC kC hg he hs hdb
section
variable {P : Program} {w : World} {K : PySem.W.Frag} {mg : Str → Option Value} {base : Heap}
def spKinds (Cs : List Addr) : Sp := fun vs H Q _ => ∃ (e : Addr) (i : Nat), vs = [.ref e] ∧ i < 20 ∧ ExcAt H e (Cs.getD i 0) ∧ ∀ l H', Same H H' → H l = none → H' l = some (.lst ((List.range 20).map fun j => V.bl (i == j))) → Q (.ref l) H'
theorem ok_kinds {W : Addr} {Cs : List Addr} {f : Addr} {fd : FuncData} (D : DefAt K mg "_law_kinds" s_law_kinds ["_law_error"] f fd) (B : BltE mg) (Z : ErrK K mg W Cs) : Ok P w K mg base 1 "_law_kinds" ["_law_error"] (spKinds Cs) := by
  refine D.ok (D.fn.ok sc_law_kinds (fun vs H Q E h => ?_) (fun cdv A outer s H vs Q E hr h => ?_))
  · obtain ⟨e, i, rfl, _⟩ := h
    rfl
  · obtain ⟨e, i, rfl, hi, hE0, q⟩ := h
    have nd := sc_law_kinds.nd
    have C_ParseError : mg "ParseError" = some (.ref (Cs.getD 0 0)) := Z.g 0 (by decide)
    have C_NotAdmitted : mg "NotAdmitted" = some (.ref (Cs.getD 1 0)) := Z.g 1 (by decide)
    have C_InvalidSystem : mg "InvalidSystem" = some (.ref (Cs.getD 2 0)) := Z.g 2 (by decide)
    have C_UnknownRule : mg "UnknownRule" = some (.ref (Cs.getD 3 0)) := Z.g 3 (by decide)
    have C_UnknownSetting : mg "UnknownSetting" = some (.ref (Cs.getD 4 0)) := Z.g 4 (by decide)
    have C_InvalidNumbers : mg "InvalidNumbers" = some (.ref (Cs.getD 5 0)) := Z.g 5 (by decide)
    have C_Contradiction : mg "Contradiction" = some (.ref (Cs.getD 6 0)) := Z.g 6 (by decide)
    have C_InvalidStep : mg "InvalidStep" = some (.ref (Cs.getD 7 0)) := Z.g 7 (by decide)
    have C_InvalidPrices : mg "InvalidPrices" = some (.ref (Cs.getD 8 0)) := Z.g 8 (by decide)
    have C_NoSolution : mg "NoSolution" = some (.ref (Cs.getD 9 0)) := Z.g 9 (by decide)
    have C_InvalidAmounts : mg "InvalidAmounts" = some (.ref (Cs.getD 10 0)) := Z.g 10 (by decide)
    have C_NotASolution : mg "NotASolution" = some (.ref (Cs.getD 11 0)) := Z.g 11 (by decide)
    have C_PlanFinished : mg "PlanFinished" = some (.ref (Cs.getD 12 0)) := Z.g 12 (by decide)
    have C_NothingToUndo : mg "NothingToUndo" = some (.ref (Cs.getD 13 0)) := Z.g 13 (by decide)
    have C_InvalidName : mg "InvalidName" = some (.ref (Cs.getD 14 0)) := Z.g 14 (by decide)
    have C_DuplicateName : mg "DuplicateName" = some (.ref (Cs.getD 15 0)) := Z.g 15 (by decide)
    have C_UnknownName : mg "UnknownName" = some (.ref (Cs.getD 16 0)) := Z.g 16 (by decide)
    have C_UnknownMark : mg "UnknownMark" = some (.ref (Cs.getD 17 0)) := Z.g 17 (by decide)
    have C_InvalidCommand : mg "InvalidCommand" = some (.ref (Cs.getD 18 0)) := Z.g 18 (by decide)
    have C_InvalidLine : mg "InvalidLine" = some (.ref (Cs.getD 19 0)) := Z.g 19 (by decide)
    refine ⟨_, (pss_cons (ps_set (i := 1) nd rfl (Or.inl rfl) (pe_lst (pa_cons (pe_callB call_isX (by rfl) B.isinstance (by decide +kernel) (pa_cons (pv 0) (pa_cons (pe_cls C_ParseError) pa_nil))) (pa_cons (pe_callB call_isX (by rfl) B.isinstance (by decide +kernel) (pa_cons (pv 0) (pa_cons (pe_cls C_NotAdmitted) pa_nil))) (pa_cons (pe_callB call_isX (by rfl) B.isinstance (by decide +kernel) (pa_cons (pv 0) (pa_cons (pe_cls C_InvalidSystem) pa_nil))) pa_nil)))))
      (pss_cons (ps_set (i := 1) nd rfl (Or.inl rfl) (pe_op op_cat (pv 1) (pe_lst (pa_cons (pe_callB call_isX (by rfl) B.isinstance (by decide +kernel) (pa_cons (pv 0) (pa_cons (pe_cls C_UnknownRule) pa_nil))) (pa_cons (pe_callB call_isX (by rfl) B.isinstance (by decide +kernel) (pa_cons (pv 0) (pa_cons (pe_cls C_UnknownSetting) pa_nil))) pa_nil)))))
      (pss_cons (ps_set (i := 1) nd rfl (Or.inl rfl) (pe_op op_cat (pv 1) (pe_lst (pa_cons (pe_callB call_isX (by rfl) B.isinstance (by decide +kernel) (pa_cons (pv 0) (pa_cons (pe_cls C_InvalidNumbers) pa_nil))) (pa_cons (pe_callB call_isX (by rfl) B.isinstance (by decide +kernel) (pa_cons (pv 0) (pa_cons (pe_cls C_Contradiction) pa_nil))) pa_nil)))))
      (pss_cons (ps_set (i := 1) nd rfl (Or.inl rfl) (pe_op op_cat (pv 1) (pe_lst (pa_cons (pe_callB call_isX (by rfl) B.isinstance (by decide +kernel) (pa_cons (pv 0) (pa_cons (pe_cls C_InvalidStep) pa_nil))) (pa_cons (pe_callB call_isX (by rfl) B.isinstance (by decide +kernel) (pa_cons (pv 0) (pa_cons (pe_cls C_InvalidPrices) pa_nil))) (pa_cons (pe_callB call_isX (by rfl) B.isinstance (by decide +kernel) (pa_cons (pv 0) (pa_cons (pe_cls C_NoSolution) pa_nil))) pa_nil))))))
      (pss_cons (ps_set (i := 1) nd rfl (Or.inl rfl) (pe_op op_cat (pv 1) (pe_lst (pa_cons (pe_callB call_isX (by rfl) B.isinstance (by decide +kernel) (pa_cons (pv 0) (pa_cons (pe_cls C_InvalidAmounts) pa_nil))) (pa_cons (pe_callB call_isX (by rfl) B.isinstance (by decide +kernel) (pa_cons (pv 0) (pa_cons (pe_cls C_NotASolution) pa_nil))) pa_nil)))))
      (pss_cons (ps_set (i := 1) nd rfl (Or.inl rfl) (pe_op op_cat (pv 1) (pe_lst (pa_cons (pe_callB call_isX (by rfl) B.isinstance (by decide +kernel) (pa_cons (pv 0) (pa_cons (pe_cls C_PlanFinished) pa_nil))) (pa_cons (pe_callB call_isX (by rfl) B.isinstance (by decide +kernel) (pa_cons (pv 0) (pa_cons (pe_cls C_NothingToUndo) pa_nil))) pa_nil)))))
      (pss_cons (ps_set (i := 1) nd rfl (Or.inl rfl) (pe_op op_cat (pv 1) (pe_lst (pa_cons (pe_callB call_isX (by rfl) B.isinstance (by decide +kernel) (pa_cons (pv 0) (pa_cons (pe_cls C_InvalidName) pa_nil))) (pa_cons (pe_callB call_isX (by rfl) B.isinstance (by decide +kernel) (pa_cons (pv 0) (pa_cons (pe_cls C_DuplicateName) pa_nil))) pa_nil)))))
      (pss_cons (ps_set (i := 1) nd rfl (Or.inl rfl) (pe_op op_cat (pv 1) (pe_lst (pa_cons (pe_callB call_isX (by rfl) B.isinstance (by decide +kernel) (pa_cons (pv 0) (pa_cons (pe_cls C_UnknownName) pa_nil))) (pa_cons (pe_callB call_isX (by rfl) B.isinstance (by decide +kernel) (pa_cons (pv 0) (pa_cons (pe_cls C_UnknownMark) pa_nil))) pa_nil)))))
      (pss_one (ps_ret (pe_op op_cat (pv 1) (pe_lst (pa_cons (pe_callB call_isX (by rfl) B.isinstance (by decide +kernel) (pa_cons (pv 0) (pa_cons (pe_cls C_InvalidCommand) pa_nil))) (pa_cons (pe_callB call_isX (by rfl) B.isinstance (by decide +kernel) (pa_cons (pv 0) (pa_cons (pe_cls C_InvalidLine) pa_nil))) pa_nil)))))))))))))), ?_⟩
    refine ⟨_, rfl, e, Cs.getD i 0, .ref (Cs.getD 0 0), .ref (Cs.getD 0 0), (i == 0), rfl, hE0, Z.exc i hi, (fun _ r => r), Z.kit i hi 0 (by decide), _, rfl, e, Cs.getD i 0, .ref (Cs.getD 1 0), .ref (Cs.getD 1 0), (i == 1), rfl, hE0, Z.exc i hi, (fun _ r => r), Z.kit i hi 1 (by decide), _, rfl, e, Cs.getD i 0, .ref (Cs.getD 2 0), .ref (Cs.getD 2 0), (i == 2), rfl, hE0, Z.exc i hi, (fun _ r => r), Z.kit i hi 2 (by decide), by show 3 ≤ sizeLine; decide, fun l0 hl0 => ?_⟩
    have s0 := same_new (o := .lst [V.bl (i == 0), V.bl (i == 1), V.bl (i == 2)]) hl0
    have g0 := upd_same (H := H) (a := l0) (o := .lst [V.bl (i == 0), V.bl (i == 1), V.bl (i == 2)])
    have hE1 := hE0.same s0
    generalize upd H l0 (.lst [V.bl (i == 0), V.bl (i == 1), V.bl (i == 2)]) = H1 at s0 g0 hE1 ⊢
    refine ⟨_, rfl, _, rfl, e, Cs.getD i 0, .ref (Cs.getD 3 0), .ref (Cs.getD 3 0), (i == 3), rfl, hE1, Z.exc i hi, (fun _ r => r), Z.kit i hi 3 (by decide), _, rfl, e, Cs.getD i 0, .ref (Cs.getD 4 0), .ref (Cs.getD 4 0), (i == 4), rfl, hE1, Z.exc i hi, (fun _ r => r), Z.kit i hi 4 (by decide), by show 2 ≤ sizeLine; decide, fun m1 hm1 => ?_⟩
    have t1 := same_new (o := .lst [V.bl (i == 3), V.bl (i == 4)]) hm1
    have n1 := upd_same (H := H1) (a := m1) (o := .lst [V.bl (i == 3), V.bl (i == 4)])
    generalize upd H1 m1 (.lst [V.bl (i == 3), V.bl (i == 4)]) = G1 at t1 n1 ⊢
    refine ⟨l0, m1, _, _, rfl, rfl, t1 _ _ g0, n1, by show 5 ≤ sizeLine; decide, fun l1 hl1 => ?_⟩
    have u1 := same_new (o := .lst ([V.bl (i == 0), V.bl (i == 1), V.bl (i == 2)] ++ [V.bl (i == 3), V.bl (i == 4)])) hl1
    have g1 : (upd G1 l1 (.lst ([V.bl (i == 0), V.bl (i == 1), V.bl (i == 2)] ++ [V.bl (i == 3), V.bl (i == 4)]))) l1 = some (.lst [V.bl (i == 0), V.bl (i == 1), V.bl (i == 2), V.bl (i == 3), V.bl (i == 4)]) := upd_same
    have s1 := s0.trans (t1.trans u1)
    have hE2 := hE0.same s1
    generalize upd G1 l1 (.lst ([V.bl (i == 0), V.bl (i == 1), V.bl (i == 2)] ++ [V.bl (i == 3), V.bl (i == 4)])) = H2 at u1 g1 s1 hE2 ⊢
    refine ⟨_, rfl, _, rfl, e, Cs.getD i 0, .ref (Cs.getD 5 0), .ref (Cs.getD 5 0), (i == 5), rfl, hE2, Z.exc i hi, (fun _ r => r), Z.kit i hi 5 (by decide), _, rfl, e, Cs.getD i 0, .ref (Cs.getD 6 0), .ref (Cs.getD 6 0), (i == 6), rfl, hE2, Z.exc i hi, (fun _ r => r), Z.kit i hi 6 (by decide), by show 2 ≤ sizeLine; decide, fun m2 hm2 => ?_⟩
    have t2 := same_new (o := .lst [V.bl (i == 5), V.bl (i == 6)]) hm2
    have n2 := upd_same (H := H2) (a := m2) (o := .lst [V.bl (i == 5), V.bl (i == 6)])
    generalize upd H2 m2 (.lst [V.bl (i == 5), V.bl (i == 6)]) = G2 at t2 n2 ⊢
    refine ⟨l1, m2, _, _, rfl, rfl, t2 _ _ g1, n2, by show 7 ≤ sizeLine; decide, fun l2 hl2 => ?_⟩
    have u2 := same_new (o := .lst ([V.bl (i == 0), V.bl (i == 1), V.bl (i == 2), V.bl (i == 3), V.bl (i == 4)] ++ [V.bl (i == 5), V.bl (i == 6)])) hl2
    have g2 : (upd G2 l2 (.lst ([V.bl (i == 0), V.bl (i == 1), V.bl (i == 2), V.bl (i == 3), V.bl (i == 4)] ++ [V.bl (i == 5), V.bl (i == 6)]))) l2 = some (.lst [V.bl (i == 0), V.bl (i == 1), V.bl (i == 2), V.bl (i == 3), V.bl (i == 4), V.bl (i == 5), V.bl (i == 6)]) := upd_same
    have s2 := s1.trans (t2.trans u2)
    have hE3 := hE0.same s2
    generalize upd G2 l2 (.lst ([V.bl (i == 0), V.bl (i == 1), V.bl (i == 2), V.bl (i == 3), V.bl (i == 4)] ++ [V.bl (i == 5), V.bl (i == 6)])) = H3 at u2 g2 s2 hE3 ⊢
    refine ⟨_, rfl, _, rfl, e, Cs.getD i 0, .ref (Cs.getD 7 0), .ref (Cs.getD 7 0), (i == 7), rfl, hE3, Z.exc i hi, (fun _ r => r), Z.kit i hi 7 (by decide), _, rfl, e, Cs.getD i 0, .ref (Cs.getD 8 0), .ref (Cs.getD 8 0), (i == 8), rfl, hE3, Z.exc i hi, (fun _ r => r), Z.kit i hi 8 (by decide), _, rfl, e, Cs.getD i 0, .ref (Cs.getD 9 0), .ref (Cs.getD 9 0), (i == 9), rfl, hE3, Z.exc i hi, (fun _ r => r), Z.kit i hi 9 (by decide), by show 3 ≤ sizeLine; decide, fun m3 hm3 => ?_⟩
    have t3 := same_new (o := .lst [V.bl (i == 7), V.bl (i == 8), V.bl (i == 9)]) hm3
    have n3 := upd_same (H := H3) (a := m3) (o := .lst [V.bl (i == 7), V.bl (i == 8), V.bl (i == 9)])
    generalize upd H3 m3 (.lst [V.bl (i == 7), V.bl (i == 8), V.bl (i == 9)]) = G3 at t3 n3 ⊢
    refine ⟨l2, m3, _, _, rfl, rfl, t3 _ _ g2, n3, by show 10 ≤ sizeLine; decide, fun l3 hl3 => ?_⟩
    have u3 := same_new (o := .lst ([V.bl (i == 0), V.bl (i == 1), V.bl (i == 2), V.bl (i == 3), V.bl (i == 4), V.bl (i == 5), V.bl (i == 6)] ++ [V.bl (i == 7), V.bl (i == 8), V.bl (i == 9)])) hl3
    have g3 : (upd G3 l3 (.lst ([V.bl (i == 0), V.bl (i == 1), V.bl (i == 2), V.bl (i == 3), V.bl (i == 4), V.bl (i == 5), V.bl (i == 6)] ++ [V.bl (i == 7), V.bl (i == 8), V.bl (i == 9)]))) l3 = some (.lst [V.bl (i == 0), V.bl (i == 1), V.bl (i == 2), V.bl (i == 3), V.bl (i == 4), V.bl (i == 5), V.bl (i == 6), V.bl (i == 7), V.bl (i == 8), V.bl (i == 9)]) := upd_same
    have s3 := s2.trans (t3.trans u3)
    have hE4 := hE0.same s3
    generalize upd G3 l3 (.lst ([V.bl (i == 0), V.bl (i == 1), V.bl (i == 2), V.bl (i == 3), V.bl (i == 4), V.bl (i == 5), V.bl (i == 6)] ++ [V.bl (i == 7), V.bl (i == 8), V.bl (i == 9)])) = H4 at u3 g3 s3 hE4 ⊢
    refine ⟨_, rfl, _, rfl, e, Cs.getD i 0, .ref (Cs.getD 10 0), .ref (Cs.getD 10 0), (i == 10), rfl, hE4, Z.exc i hi, (fun _ r => r), Z.kit i hi 10 (by decide), _, rfl, e, Cs.getD i 0, .ref (Cs.getD 11 0), .ref (Cs.getD 11 0), (i == 11), rfl, hE4, Z.exc i hi, (fun _ r => r), Z.kit i hi 11 (by decide), by show 2 ≤ sizeLine; decide, fun m4 hm4 => ?_⟩
    have t4 := same_new (o := .lst [V.bl (i == 10), V.bl (i == 11)]) hm4
    have n4 := upd_same (H := H4) (a := m4) (o := .lst [V.bl (i == 10), V.bl (i == 11)])
    generalize upd H4 m4 (.lst [V.bl (i == 10), V.bl (i == 11)]) = G4 at t4 n4 ⊢
    refine ⟨l3, m4, _, _, rfl, rfl, t4 _ _ g3, n4, by show 12 ≤ sizeLine; decide, fun l4 hl4 => ?_⟩
    have u4 := same_new (o := .lst ([V.bl (i == 0), V.bl (i == 1), V.bl (i == 2), V.bl (i == 3), V.bl (i == 4), V.bl (i == 5), V.bl (i == 6), V.bl (i == 7), V.bl (i == 8), V.bl (i == 9)] ++ [V.bl (i == 10), V.bl (i == 11)])) hl4
    have g4 : (upd G4 l4 (.lst ([V.bl (i == 0), V.bl (i == 1), V.bl (i == 2), V.bl (i == 3), V.bl (i == 4), V.bl (i == 5), V.bl (i == 6), V.bl (i == 7), V.bl (i == 8), V.bl (i == 9)] ++ [V.bl (i == 10), V.bl (i == 11)]))) l4 = some (.lst [V.bl (i == 0), V.bl (i == 1), V.bl (i == 2), V.bl (i == 3), V.bl (i == 4), V.bl (i == 5), V.bl (i == 6), V.bl (i == 7), V.bl (i == 8), V.bl (i == 9), V.bl (i == 10), V.bl (i == 11)]) := upd_same
    have s4 := s3.trans (t4.trans u4)
    have hE5 := hE0.same s4
    generalize upd G4 l4 (.lst ([V.bl (i == 0), V.bl (i == 1), V.bl (i == 2), V.bl (i == 3), V.bl (i == 4), V.bl (i == 5), V.bl (i == 6), V.bl (i == 7), V.bl (i == 8), V.bl (i == 9)] ++ [V.bl (i == 10), V.bl (i == 11)])) = H5 at u4 g4 s4 hE5 ⊢
    refine ⟨_, rfl, _, rfl, e, Cs.getD i 0, .ref (Cs.getD 12 0), .ref (Cs.getD 12 0), (i == 12), rfl, hE5, Z.exc i hi, (fun _ r => r), Z.kit i hi 12 (by decide), _, rfl, e, Cs.getD i 0, .ref (Cs.getD 13 0), .ref (Cs.getD 13 0), (i == 13), rfl, hE5, Z.exc i hi, (fun _ r => r), Z.kit i hi 13 (by decide), by show 2 ≤ sizeLine; decide, fun m5 hm5 => ?_⟩
    have t5 := same_new (o := .lst [V.bl (i == 12), V.bl (i == 13)]) hm5
    have n5 := upd_same (H := H5) (a := m5) (o := .lst [V.bl (i == 12), V.bl (i == 13)])
    generalize upd H5 m5 (.lst [V.bl (i == 12), V.bl (i == 13)]) = G5 at t5 n5 ⊢
    refine ⟨l4, m5, _, _, rfl, rfl, t5 _ _ g4, n5, by show 14 ≤ sizeLine; decide, fun l5 hl5 => ?_⟩
    have u5 := same_new (o := .lst ([V.bl (i == 0), V.bl (i == 1), V.bl (i == 2), V.bl (i == 3), V.bl (i == 4), V.bl (i == 5), V.bl (i == 6), V.bl (i == 7), V.bl (i == 8), V.bl (i == 9), V.bl (i == 10), V.bl (i == 11)] ++ [V.bl (i == 12), V.bl (i == 13)])) hl5
    have g5 : (upd G5 l5 (.lst ([V.bl (i == 0), V.bl (i == 1), V.bl (i == 2), V.bl (i == 3), V.bl (i == 4), V.bl (i == 5), V.bl (i == 6), V.bl (i == 7), V.bl (i == 8), V.bl (i == 9), V.bl (i == 10), V.bl (i == 11)] ++ [V.bl (i == 12), V.bl (i == 13)]))) l5 = some (.lst [V.bl (i == 0), V.bl (i == 1), V.bl (i == 2), V.bl (i == 3), V.bl (i == 4), V.bl (i == 5), V.bl (i == 6), V.bl (i == 7), V.bl (i == 8), V.bl (i == 9), V.bl (i == 10), V.bl (i == 11), V.bl (i == 12), V.bl (i == 13)]) := upd_same
    have s5 := s4.trans (t5.trans u5)
    have hE6 := hE0.same s5
    generalize upd G5 l5 (.lst ([V.bl (i == 0), V.bl (i == 1), V.bl (i == 2), V.bl (i == 3), V.bl (i == 4), V.bl (i == 5), V.bl (i == 6), V.bl (i == 7), V.bl (i == 8), V.bl (i == 9), V.bl (i == 10), V.bl (i == 11)] ++ [V.bl (i == 12), V.bl (i == 13)])) = H6 at u5 g5 s5 hE6 ⊢
    refine ⟨_, rfl, _, rfl, e, Cs.getD i 0, .ref (Cs.getD 14 0), .ref (Cs.getD 14 0), (i == 14), rfl, hE6, Z.exc i hi, (fun _ r => r), Z.kit i hi 14 (by decide), _, rfl, e, Cs.getD i 0, .ref (Cs.getD 15 0), .ref (Cs.getD 15 0), (i == 15), rfl, hE6, Z.exc i hi, (fun _ r => r), Z.kit i hi 15 (by decide), by show 2 ≤ sizeLine; decide, fun m6 hm6 => ?_⟩
    have t6 := same_new (o := .lst [V.bl (i == 14), V.bl (i == 15)]) hm6
    have n6 := upd_same (H := H6) (a := m6) (o := .lst [V.bl (i == 14), V.bl (i == 15)])
    generalize upd H6 m6 (.lst [V.bl (i == 14), V.bl (i == 15)]) = G6 at t6 n6 ⊢
    refine ⟨l5, m6, _, _, rfl, rfl, t6 _ _ g5, n6, by show 16 ≤ sizeLine; decide, fun l6 hl6 => ?_⟩
    have u6 := same_new (o := .lst ([V.bl (i == 0), V.bl (i == 1), V.bl (i == 2), V.bl (i == 3), V.bl (i == 4), V.bl (i == 5), V.bl (i == 6), V.bl (i == 7), V.bl (i == 8), V.bl (i == 9), V.bl (i == 10), V.bl (i == 11), V.bl (i == 12), V.bl (i == 13)] ++ [V.bl (i == 14), V.bl (i == 15)])) hl6
    have g6 : (upd G6 l6 (.lst ([V.bl (i == 0), V.bl (i == 1), V.bl (i == 2), V.bl (i == 3), V.bl (i == 4), V.bl (i == 5), V.bl (i == 6), V.bl (i == 7), V.bl (i == 8), V.bl (i == 9), V.bl (i == 10), V.bl (i == 11), V.bl (i == 12), V.bl (i == 13)] ++ [V.bl (i == 14), V.bl (i == 15)]))) l6 = some (.lst [V.bl (i == 0), V.bl (i == 1), V.bl (i == 2), V.bl (i == 3), V.bl (i == 4), V.bl (i == 5), V.bl (i == 6), V.bl (i == 7), V.bl (i == 8), V.bl (i == 9), V.bl (i == 10), V.bl (i == 11), V.bl (i == 12), V.bl (i == 13), V.bl (i == 14), V.bl (i == 15)]) := upd_same
    have s6 := s5.trans (t6.trans u6)
    have hE7 := hE0.same s6
    generalize upd G6 l6 (.lst ([V.bl (i == 0), V.bl (i == 1), V.bl (i == 2), V.bl (i == 3), V.bl (i == 4), V.bl (i == 5), V.bl (i == 6), V.bl (i == 7), V.bl (i == 8), V.bl (i == 9), V.bl (i == 10), V.bl (i == 11), V.bl (i == 12), V.bl (i == 13)] ++ [V.bl (i == 14), V.bl (i == 15)])) = H7 at u6 g6 s6 hE7 ⊢
    refine ⟨_, rfl, _, rfl, e, Cs.getD i 0, .ref (Cs.getD 16 0), .ref (Cs.getD 16 0), (i == 16), rfl, hE7, Z.exc i hi, (fun _ r => r), Z.kit i hi 16 (by decide), _, rfl, e, Cs.getD i 0, .ref (Cs.getD 17 0), .ref (Cs.getD 17 0), (i == 17), rfl, hE7, Z.exc i hi, (fun _ r => r), Z.kit i hi 17 (by decide), by show 2 ≤ sizeLine; decide, fun m7 hm7 => ?_⟩
    have t7 := same_new (o := .lst [V.bl (i == 16), V.bl (i == 17)]) hm7
    have n7 := upd_same (H := H7) (a := m7) (o := .lst [V.bl (i == 16), V.bl (i == 17)])
    generalize upd H7 m7 (.lst [V.bl (i == 16), V.bl (i == 17)]) = G7 at t7 n7 ⊢
    refine ⟨l6, m7, _, _, rfl, rfl, t7 _ _ g6, n7, by show 18 ≤ sizeLine; decide, fun l7 hl7 => ?_⟩
    have u7 := same_new (o := .lst ([V.bl (i == 0), V.bl (i == 1), V.bl (i == 2), V.bl (i == 3), V.bl (i == 4), V.bl (i == 5), V.bl (i == 6), V.bl (i == 7), V.bl (i == 8), V.bl (i == 9), V.bl (i == 10), V.bl (i == 11), V.bl (i == 12), V.bl (i == 13), V.bl (i == 14), V.bl (i == 15)] ++ [V.bl (i == 16), V.bl (i == 17)])) hl7
    have g7 : (upd G7 l7 (.lst ([V.bl (i == 0), V.bl (i == 1), V.bl (i == 2), V.bl (i == 3), V.bl (i == 4), V.bl (i == 5), V.bl (i == 6), V.bl (i == 7), V.bl (i == 8), V.bl (i == 9), V.bl (i == 10), V.bl (i == 11), V.bl (i == 12), V.bl (i == 13), V.bl (i == 14), V.bl (i == 15)] ++ [V.bl (i == 16), V.bl (i == 17)]))) l7 = some (.lst [V.bl (i == 0), V.bl (i == 1), V.bl (i == 2), V.bl (i == 3), V.bl (i == 4), V.bl (i == 5), V.bl (i == 6), V.bl (i == 7), V.bl (i == 8), V.bl (i == 9), V.bl (i == 10), V.bl (i == 11), V.bl (i == 12), V.bl (i == 13), V.bl (i == 14), V.bl (i == 15), V.bl (i == 16), V.bl (i == 17)]) := upd_same
    have s7 := s6.trans (t7.trans u7)
    have hE8 := hE0.same s7
    generalize upd G7 l7 (.lst ([V.bl (i == 0), V.bl (i == 1), V.bl (i == 2), V.bl (i == 3), V.bl (i == 4), V.bl (i == 5), V.bl (i == 6), V.bl (i == 7), V.bl (i == 8), V.bl (i == 9), V.bl (i == 10), V.bl (i == 11), V.bl (i == 12), V.bl (i == 13), V.bl (i == 14), V.bl (i == 15)] ++ [V.bl (i == 16), V.bl (i == 17)])) = H8 at u7 g7 s7 hE8 ⊢
    refine ⟨_, rfl, _, rfl, e, Cs.getD i 0, .ref (Cs.getD 18 0), .ref (Cs.getD 18 0), (i == 18), rfl, hE8, Z.exc i hi, (fun _ r => r), Z.kit i hi 18 (by decide), _, rfl, e, Cs.getD i 0, .ref (Cs.getD 19 0), .ref (Cs.getD 19 0), (i == 19), rfl, hE8, Z.exc i hi, (fun _ r => r), Z.kit i hi 19 (by decide), by show 2 ≤ sizeLine; decide, fun m8 hm8 => ?_⟩
    have t8 := same_new (o := .lst [V.bl (i == 18), V.bl (i == 19)]) hm8
    have n8 := upd_same (H := H8) (a := m8) (o := .lst [V.bl (i == 18), V.bl (i == 19)])
    generalize upd H8 m8 (.lst [V.bl (i == 18), V.bl (i == 19)]) = G8 at t8 n8 ⊢
    refine ⟨l7, m8, _, _, rfl, rfl, t8 _ _ g7, n8, by show 20 ≤ sizeLine; decide, fun l8 hl8 => ?_⟩
    have u8 := same_new (o := .lst ([V.bl (i == 0), V.bl (i == 1), V.bl (i == 2), V.bl (i == 3), V.bl (i == 4), V.bl (i == 5), V.bl (i == 6), V.bl (i == 7), V.bl (i == 8), V.bl (i == 9), V.bl (i == 10), V.bl (i == 11), V.bl (i == 12), V.bl (i == 13), V.bl (i == 14), V.bl (i == 15), V.bl (i == 16), V.bl (i == 17)] ++ [V.bl (i == 18), V.bl (i == 19)])) hl8
    have g8 : (upd G8 l8 (.lst ([V.bl (i == 0), V.bl (i == 1), V.bl (i == 2), V.bl (i == 3), V.bl (i == 4), V.bl (i == 5), V.bl (i == 6), V.bl (i == 7), V.bl (i == 8), V.bl (i == 9), V.bl (i == 10), V.bl (i == 11), V.bl (i == 12), V.bl (i == 13), V.bl (i == 14), V.bl (i == 15), V.bl (i == 16), V.bl (i == 17)] ++ [V.bl (i == 18), V.bl (i == 19)]))) l8 = some (.lst [V.bl (i == 0), V.bl (i == 1), V.bl (i == 2), V.bl (i == 3), V.bl (i == 4), V.bl (i == 5), V.bl (i == 6), V.bl (i == 7), V.bl (i == 8), V.bl (i == 9), V.bl (i == 10), V.bl (i == 11), V.bl (i == 12), V.bl (i == 13), V.bl (i == 14), V.bl (i == 15), V.bl (i == 16), V.bl (i == 17), V.bl (i == 18), V.bl (i == 19)]) := upd_same
    have s8 := s7.trans (t8.trans u8)
    exact q l8 _ s8 ((s7.trans t8).free hl8) g8
def spLaw (K : PySem.W.Frag) : Sp := fun vs H Q _ => ∃ (a : Addr) (ns : List Int), vs = [.ref a] ∧ SqL K H a (ns.map V.int) ∧ ns.length ≤ 63 ∧ ∀ H', Q (.bl true) H'
theorem lay_bools : ∀ bs : List Bool, PyData.canLayAll0 (bs.map PyData.bool) = true ∧ PyData.depthAll (bs.map PyData.bool) = 0
  | [] => ⟨by simp [PyData.canLayAll0], by simp [PyData.depthAll]⟩
  | c :: r => by
    obtain ⟨h1, h2⟩ := lay_bools r
    refine ⟨?_, ?_⟩
    · simp [PyData.canLayAll0, PyData.canLay0, h1]
    · simp [PyData.depthAll, PyData.depth, h2]
theorem lay_bool (bs : List Bool) : PyData.canLay0 (.list (bs.map PyData.bool)) = true := by
  obtain ⟨h1, h2⟩ := lay_bools bs
  simp [PyData.canLay0, h1]
theorem shaped_bools (bs : List Bool) : SeqAt.shaped (.list (bs.map PyData.bool)) = true := by
  obtain ⟨h1, h2⟩ := lay_bools bs
  simp [SeqAt.shaped, PyData.canLay0, h1, PyData.depth, h2]
theorem dpA_bools {H : Hp} : ∀ bs : List Bool, DpAll K H (bs.map V.bl) (bs.map PyData.bool)
  | [] => .nil
  | c :: r => .cons (.bl c) (dpA_bools r)
theorem dp_bools {H : Hp} {a : Addr} {bs : List Bool} (h : SqL K H a (bs.map V.bl)) : Dp K H (.ref a) (.list (bs.map PyData.bool)) := .lst h (dpA_bools bs)
theorem got_new {H : Hp} {e d C : Addr} {fs : List (Str × V)} (he : H e = none) (hd : (L2.upd H e (exo e C none)) d = none) (hn : d ≠ e) :
    Same H (L2.upd (L2.upd (L2.upd H e (exo e C none)) d (exd d fs)) e (exo e C (some d))) ∧ (L2.upd (L2.upd (L2.upd H e (exo e C none)) d (exd d fs)) e (exo e C (some d))) e = some (exo e C (some d)) ∧ (L2.upd (L2.upd (L2.upd H e (exo e C none)) d (exd d fs)) e (exo e C (some d))) d = some (exd d fs) := by
  refine ⟨fun b o q => ?_, upd_same, ?_⟩
  · have nb : b ≠ e := ne_of_none q he
    have hd' : H d = none := by
      rw [upd_ne hn] at hd
      exact hd
    rw [upd_ne nb, upd_ne (ne_of_none q hd'), upd_ne nb]
    exact q
  · rw [upd_ne hn, upd_same]
theorem run_law {W : Addr} {Cs : List Addr} {f : Addr} {fd : FuncData} (F : Fun K "law" "law" s_law f fd) (bd : Binds K fd ["_law_script"] []) (room : Room 4 callerA) (B : BltE mg) (Z : ErrK K mg W Cs) (O_law_pen : Ok P w K mg base 1 "_law_pen" ["_law_script"] (spPen K)) (O_law_draw : Ok P w K mg base 2 "_law_draw" ["_law_pen_here", "_law_under"] spDraw)
    (O_law_kinds : Ok P w K mg base 1 "_law_kinds" ["_law_error"] (spKinds Cs)) (O1 : OkX P w K mg base (Cs.getD 0 0) 1 ["self", "line"] ["line"] (spParse (Cs.getD 0 0))) (O2 : OkX P w K mg base (Cs.getD 1 0) 1 ["self", "rule"] ["rule"] (spNot K (Cs.getD 1 0)))
    {s : Shared} {H : Hp} {us : List Value} {vs : List V} {Q : VK} {E : XK} (env : Env0 P w K mg base callerA [] s H) (len : vs.length = 1) (rel : Vals vs us) (h : spLaw K vs H Q E) : codeAny (model P w) callerA (.call (.ref f) ⟨us, []⟩) (CR CX0 [] P w H s Q E) s := by
  refine top_run (k := 3) F sc_law bd room (fun cdv s H vs Q E hr h => ?_) env len rel h
  obtain ⟨a, ns, rfl, hS, hlen, q⟩ := h
  have nd := sc_law.nd
  have big : sizeLine > 100000 := by decide
  have C_ParseError : mg "ParseError" = some (.ref (Cs.getD 0 0)) := Z.g 0 (by decide)
  have C_NotAdmitted : mg "NotAdmitted" = some (.ref (Cs.getD 1 0)) := Z.g 1 (by decide)
  have C_InvalidSystem : mg "InvalidSystem" = some (.ref (Cs.getD 2 0)) := Z.g 2 (by decide)
  have C_UnknownRule : mg "UnknownRule" = some (.ref (Cs.getD 3 0)) := Z.g 3 (by decide)
  have C_UnknownSetting : mg "UnknownSetting" = some (.ref (Cs.getD 4 0)) := Z.g 4 (by decide)
  have C_InvalidNumbers : mg "InvalidNumbers" = some (.ref (Cs.getD 5 0)) := Z.g 5 (by decide)
  have C_Contradiction : mg "Contradiction" = some (.ref (Cs.getD 6 0)) := Z.g 6 (by decide)
  have C_InvalidStep : mg "InvalidStep" = some (.ref (Cs.getD 7 0)) := Z.g 7 (by decide)
  have C_InvalidPrices : mg "InvalidPrices" = some (.ref (Cs.getD 8 0)) := Z.g 8 (by decide)
  have C_NoSolution : mg "NoSolution" = some (.ref (Cs.getD 9 0)) := Z.g 9 (by decide)
  have C_InvalidAmounts : mg "InvalidAmounts" = some (.ref (Cs.getD 10 0)) := Z.g 10 (by decide)
  have C_NotASolution : mg "NotASolution" = some (.ref (Cs.getD 11 0)) := Z.g 11 (by decide)
  have C_PlanFinished : mg "PlanFinished" = some (.ref (Cs.getD 12 0)) := Z.g 12 (by decide)
  have C_NothingToUndo : mg "NothingToUndo" = some (.ref (Cs.getD 13 0)) := Z.g 13 (by decide)
  have C_InvalidName : mg "InvalidName" = some (.ref (Cs.getD 14 0)) := Z.g 14 (by decide)
  have C_DuplicateName : mg "DuplicateName" = some (.ref (Cs.getD 15 0)) := Z.g 15 (by decide)
  have C_UnknownName : mg "UnknownName" = some (.ref (Cs.getD 16 0)) := Z.g 16 (by decide)
  have C_UnknownMark : mg "UnknownMark" = some (.ref (Cs.getD 17 0)) := Z.g 17 (by decide)
  have C_InvalidCommand : mg "InvalidCommand" = some (.ref (Cs.getD 18 0)) := Z.g 18 (by decide)
  have C_InvalidLine : mg "InvalidLine" = some (.ref (Cs.getD 19 0)) := Z.g 19 (by decide)
  have C_WindowError := Z.w
  refine ⟨_, (pss_cons (ps_set (i := 1) nd rfl (Or.inl rfl) (pe_own O_law_pen (hr.mono (by decide)) (pa_cons (pv 0) pa_nil)))
      (pss_cons (ps_par (i := 2) (j := 3) rfl nd rfl rfl (by decide) rfl rfl (pa_cons (pe_own O_law_draw (hr.mono (by decide)) (pa_cons (pv 1) (pa_cons (pe_op op_pow pe_int pe_int) pa_nil))) (pa_cons (pe_op op_add_str pe_str (pe_callTy call_str_int (by rfl) B.str (by decide +kernel) (pa_cons (pe_own O_law_draw (hr.mono (by decide)) (pa_cons (pv 1) (pa_cons pe_int pa_nil))) pa_nil))) pa_nil)) (by rfl))
      (pss_cons (ps_set (i := 4) nd rfl (Or.inl rfl) (pe_tup (pa_cons pe_str (pa_cons pe_non (pa_cons (pe_own O_law_draw (hr.mono (by decide)) (pa_cons (pv 1) (pa_cons pe_int pa_nil))) pa_nil)))))
      (pss_cons (ps_set (i := 5) nd rfl (Or.inl rfl) (pe_lst (pa_cons (pe_oexV O1 (hr.mono (by decide)) C_ParseError (pa_cons (pv 2) pa_nil)) (pa_cons (pe_oexV O2 (hr.mono (by decide)) C_NotAdmitted (pa_cons (pv 4) pa_nil)) (pa_cons (pe_exc (Z.plain 2 (by decide) (by decide)) (Z.kp 2 (by decide)) C_InvalidSystem (pv 3)) (pa_cons (pe_exc (Z.plain 3 (by decide) (by decide)) (Z.kp 3 (by decide)) C_UnknownRule (pv 3)) (pa_cons (pe_exc (Z.plain 4 (by decide) (by decide)) (Z.kp 4 (by decide)) C_UnknownSetting (pv 3)) pa_nil)))))))
      (pss_cons (ps_set (i := 5) nd rfl (Or.inl rfl) (pe_op op_cat (pv 5) (pe_lst (pa_cons (pe_exc (Z.plain 5 (by decide) (by decide)) (Z.kp 5 (by decide)) C_InvalidNumbers (pv 3)) (pa_cons (pe_exc (Z.plain 6 (by decide) (by decide)) (Z.kp 6 (by decide)) C_Contradiction (pv 3)) (pa_cons (pe_exc (Z.plain 7 (by decide) (by decide)) (Z.kp 7 (by decide)) C_InvalidStep (pv 3)) (pa_cons (pe_exc (Z.plain 8 (by decide) (by decide)) (Z.kp 8 (by decide)) C_InvalidPrices (pv 3)) pa_nil)))))))
      (pss_cons (ps_set (i := 5) nd rfl (Or.inl rfl) (pe_op op_cat (pv 5) (pe_lst (pa_cons (pe_exc (Z.plain 9 (by decide) (by decide)) (Z.kp 9 (by decide)) C_NoSolution (pv 3)) (pa_cons (pe_exc (Z.plain 10 (by decide) (by decide)) (Z.kp 10 (by decide)) C_InvalidAmounts (pv 3)) (pa_cons (pe_exc (Z.plain 11 (by decide) (by decide)) (Z.kp 11 (by decide)) C_NotASolution (pv 3)) (pa_cons (pe_exc (Z.plain 12 (by decide) (by decide)) (Z.kp 12 (by decide)) C_PlanFinished (pv 3)) pa_nil)))))))
      (pss_cons (ps_set (i := 5) nd rfl (Or.inl rfl) (pe_op op_cat (pv 5) (pe_lst (pa_cons (pe_exc (Z.plain 13 (by decide) (by decide)) (Z.kp 13 (by decide)) C_NothingToUndo (pv 3)) (pa_cons (pe_exc (Z.plain 14 (by decide) (by decide)) (Z.kp 14 (by decide)) C_InvalidName (pv 3)) (pa_cons (pe_exc (Z.plain 15 (by decide) (by decide)) (Z.kp 15 (by decide)) C_DuplicateName (pv 3)) (pa_cons (pe_exc (Z.plain 16 (by decide) (by decide)) (Z.kp 16 (by decide)) C_UnknownName (pv 3)) pa_nil)))))))
      (pss_cons (ps_set (i := 5) nd rfl (Or.inl rfl) (pe_op op_cat (pv 5) (pe_lst (pa_cons (pe_exc (Z.plain 17 (by decide) (by decide)) (Z.kp 17 (by decide)) C_UnknownMark (pv 3)) (pa_cons (pe_exc (Z.plain 18 (by decide) (by decide)) (Z.kp 18 (by decide)) C_InvalidCommand (pv 3)) (pa_cons (pe_exc (Z.plain 19 (by decide) (by decide)) (Z.kp 19 (by decide)) C_InvalidLine (pv 3)) pa_nil))))))
      (pss_cons (ps_for PassesOwn.never rfl (pi_range1 (by rfl) B.range (pa_cons (pe_callB call_len_seq (by rfl) B.len PySem.boot_len (pa_cons (pv 5) pa_nil)) pa_nil)) (pg_name (i := 6) nd rfl (Or.inr rfl)) (pss_cons (ps_if (PW.pt (pw_or (pt_not (pt_val (pe_callB call_isX (by rfl) B.isinstance (by decide +kernel) (pa_cons (pe_ix ix_list (pv 5) (pv 6) (fun _ _ => rfl)) (pa_cons (pe_bltn (v := .ty "ValueError") (by rfl) B.ValueError (by decide +kernel) rfl) pa_nil))))) (pw_or1 (pt_not (pt_val (pe_callB call_isX (by rfl) B.isinstance (by decide +kernel) (pa_cons (pe_ix ix_list (pv 5) (pv 6) (fun _ _ => rfl)) (pa_cons (pe_cls C_WindowError) pa_nil)))))))) (pss_one (ps_ret pe_bl)) pss_nil)
      (pss_one (ps_if (pt_cmpR (op_neDK K (hu_of64 hr)) (pe_own O_law_kinds (hr.mono (by decide)) (pa_cons (pe_ix ix_list (pv 5) (pv 6) (fun _ _ => rfl)) pa_nil)) (pe_lc (own := [("_law_j", 8)]) (g := gName 8) (tt := tYes) (by rfl) nd (pi_range1 (by rfl) B.range (pa_cons (pe_callB call_len_seq (by rfl) B.len PySem.boot_len (pa_cons (pv 5) pa_nil)) pa_nil)) (blkOk_by (own := [("_law_j", 8)]) (N := ["_law_script", "_law_pen_here", "_law_index", "_law_note", "_law_ask", "_law_errors", "_law_k", "_law_held", "_law_j"]) (sc := defScope s_law) (by decide +kernel)) (fun _ _ _ _ _ => (pg_name (i := 8) nd rfl (Or.inl rfl))) (fun _ _ _ _ _ => pts_nil) (fun _ _ _ _ _ => (pe_cmpR op_eq (pv 8) (pv 6) (nomark _)))) (nomark _)) (pss_one (ps_ret pe_bl)) pss_nil))))
      (pss_cons (ps_set (i := 7) nd rfl (Or.inl rfl) (pe_lst (pa_cons (pe_xat (pe_ix ix_list (pv 5) pe_int (fun _ _ => rfl))) (pa_cons (pe_xat (pe_ix ix_list (pv 5) pe_int (fun _ _ => rfl))) (pa_cons (pe_xat (pe_oexVK O1 (hr.mono (by decide)) C_ParseError (pk_cons pe_int pk_nil))) (pa_cons (pe_xat (pe_oexVK O2 (hr.mono (by decide)) C_NotAdmitted (pk_cons (pe_tup (pa_cons pe_str (pa_cons pe_str (pa_cons pe_int pa_nil)))) pk_nil))) pa_nil))))))
      (pss_one (ps_ret (pe_cmpR (op_eqDK K (hu_of64 hr)) (pv 7) (pe_lst (pa_cons (pv 2) (pa_cons (pv 4) (pa_cons pe_int (pa_cons (pe_tup (pa_cons pe_str (pa_cons pe_str (pa_cons pe_int pa_nil)))) pa_nil))))) (nomark _)))))))))))))), ?_⟩
  refine ⟨_, rfl, a, ns, rfl, hS, hlen, fun p c H0 s0 np nc hP0 => ?_⟩
  refine ⟨_, rfl, 10, 6, rfl, rfl, ⟨by decide, by decide, by decide⟩, p, c, 0, _, rfl, hP0, by omega, by decide, by decide, fun i1 H1 i10 i11 b1 hP1 => ?_⟩
  have i11 : i1 < 1000000 := i11
  refine ⟨_, rfl, p, c, 1, 1000, rfl, hP1, by omega, by decide, by decide, fun i2 H2 i20 i21 b2 hP2 => ?_⟩
  have l2 := int_txt (i := i2) (by omega)
  refine ⟨i2, rfl, Nat.lt_trans (log_small (k := 40) (by decide) (show (i2 : Int).natAbs < 2 ^ 40 by omega)) (by decide), _, _, rfl, rfl, by show 5 + (toString i2 : Str).length ≤ sizeLine; omega, _, _, rfl, ?_⟩
  generalize (("note " : Str) ++ (toString i2 : Str)) = note
  clear l2
  refine ⟨_, rfl, p, c, 2, 99, rfl, hP2, by omega, by decide, by decide, fun i3 H3 i30 i31 b3 hP3 => ?_⟩
  refine ⟨by show 3 ≤ sizeLine; decide, fun t ht => ?_⟩
  have ht0 := upd_same (H := H3) (a := t) (o := .tup [.str "a", .non, .int i3])
  generalize upd H3 t (.tup [.str "a", .non, .int i3]) = G0 at ht0 ⊢
  clear ht hP3 b3 hP2 b2 hP1 b1 hP0 np nc s0 hS hlen i20 i21 H0 H1 H2 H3 c ns
  have l3 := int_txt (i := i3) (by omega)
  refine ⟨_, rfl, by show 1 ≤ 1000; decide, fun e0 n0 => ⟨e0, i1, rfl, upd_same, by omega, fun d0 nd0 ne0 => ⟨rfl, ?_⟩⟩⟩
  obtain ⟨t1, he0, hd0⟩ := got_new (fs := [("line", V.int i1)]) n0 nd0 ne0
  generalize upd (upd (upd G0 e0 (exo e0 (Cs.getD 0 0) none)) d0 (exd d0 [("line", V.int i1)])) e0 (exo e0 (Cs.getD 0 0) (some d0)) = G1 at t1 he0 hd0 ⊢
  have ht1 := t1 _ _ ht0
  refine ⟨_, rfl, by show 1 ≤ 1000; decide, fun e1 n1 => ⟨e1, t, _, [reprText "a", "None", toString i3], rfl, upd_same, SqT.of (same_new n1 _ _ ht1), .str (by decide +kernel) (.non (.int (Nat.lt_trans (log_small (k := 40) (by decide) (show (i3 : Int).natAbs < 2 ^ 40 by omega)) (by decide)) .nil)), ?_, fun d1 nd1 ne1 => ⟨rfl, ?_⟩⟩⟩
  · have z := fmt_text [reprText "a", "None", toString i3]
    have e1 : (reprText "a").length = 3 := by decide +kernel
    have e2 : (("None" : Str)).length = 4 := by decide +kernel
    simp only [piled_cons, piled_nil, e1, e2] at z
    omega
  obtain ⟨t2, he1, hd1⟩ := got_new (fs := [("rule", V.ref t)]) n1 nd1 ne1
  generalize upd (upd (upd G1 e1 (exo e1 (Cs.getD 1 0) none)) d1 (exd d1 [("rule", V.ref t)])) e1 (exo e1 (Cs.getD 1 0) (some d1)) = G2 at t2 he1 hd1 ⊢
  refine ⟨_, rfl, fun e2 n2 => ?_⟩
  have t3 := same_new (o := ExO (.ref (Cs.getD 2 0)) e2) n2
  have he2 := upd_same (H := G2) (a := e2) (o := ExO (.ref (Cs.getD 2 0)) e2)
  generalize upd G2 e2 (ExO (.ref (Cs.getD 2 0)) e2) = G3 at t3 he2 ⊢
  refine ⟨_, rfl, fun e3 n3 => ?_⟩
  have t4 := same_new (o := ExO (.ref (Cs.getD 3 0)) e3) n3
  have he3 := upd_same (H := G3) (a := e3) (o := ExO (.ref (Cs.getD 3 0)) e3)
  generalize upd G3 e3 (ExO (.ref (Cs.getD 3 0)) e3) = G4 at t4 he3 ⊢
  refine ⟨_, rfl, fun e4 n4 => ?_⟩
  have t5 := same_new (o := ExO (.ref (Cs.getD 4 0)) e4) n4
  have he4 := upd_same (H := G4) (a := e4) (o := ExO (.ref (Cs.getD 4 0)) e4)
  generalize upd G4 e4 (ExO (.ref (Cs.getD 4 0)) e4) = G5 at t5 he4 ⊢
  refine ⟨by show 5 ≤ sizeLine; decide, fun l0 hl0 => ?_⟩
  have t6 := same_new (o := .lst [V.ref e0, V.ref e1, V.ref e2, V.ref e3, V.ref e4]) hl0
  have g0 := upd_same (H := G5) (a := l0) (o := .lst [V.ref e0, V.ref e1, V.ref e2, V.ref e3, V.ref e4])
  generalize upd G5 l0 (.lst [V.ref e0, V.ref e1, V.ref e2, V.ref e3, V.ref e4]) = G6 at t6 g0 ⊢
  refine ⟨_, rfl, ?_⟩
  refine ⟨_, rfl, fun e5 n5 => ?_⟩
  have t7 := same_new (o := ExO (.ref (Cs.getD 5 0)) e5) n5
  have he5 := upd_same (H := G6) (a := e5) (o := ExO (.ref (Cs.getD 5 0)) e5)
  generalize upd G6 e5 (ExO (.ref (Cs.getD 5 0)) e5) = G7 at t7 he5 ⊢
  refine ⟨_, rfl, fun e6 n6 => ?_⟩
  have t8 := same_new (o := ExO (.ref (Cs.getD 6 0)) e6) n6
  have he6 := upd_same (H := G7) (a := e6) (o := ExO (.ref (Cs.getD 6 0)) e6)
  generalize upd G7 e6 (ExO (.ref (Cs.getD 6 0)) e6) = G8 at t8 he6 ⊢
  refine ⟨_, rfl, fun e7 n7 => ?_⟩
  have t9 := same_new (o := ExO (.ref (Cs.getD 7 0)) e7) n7
  have he7 := upd_same (H := G8) (a := e7) (o := ExO (.ref (Cs.getD 7 0)) e7)
  generalize upd G8 e7 (ExO (.ref (Cs.getD 7 0)) e7) = G9 at t9 he7 ⊢
  refine ⟨_, rfl, fun e8 n8 => ?_⟩
  have t10 := same_new (o := ExO (.ref (Cs.getD 8 0)) e8) n8
  have he8 := upd_same (H := G9) (a := e8) (o := ExO (.ref (Cs.getD 8 0)) e8)
  generalize upd G9 e8 (ExO (.ref (Cs.getD 8 0)) e8) = G10 at t10 he8 ⊢
  refine ⟨by show 4 ≤ sizeLine; decide, fun m1 hm1 => ?_⟩
  have t11 := same_new (o := .lst [V.ref e5, V.ref e6, V.ref e7, V.ref e8]) hm1
  have n_1 := upd_same (H := G10) (a := m1) (o := .lst [V.ref e5, V.ref e6, V.ref e7, V.ref e8])
  generalize upd G10 m1 (.lst [V.ref e5, V.ref e6, V.ref e7, V.ref e8]) = G11 at t11 n_1 ⊢
  refine ⟨l0, m1, _, _, rfl, rfl, t11 _ _ (t10 _ _ (t9 _ _ (t8 _ _ (t7 _ _ (g0))))), n_1, by show 9 ≤ sizeLine; decide, fun l1 hl1 => ?_⟩
  have t12 := same_new (o := .lst ([V.ref e0, V.ref e1, V.ref e2, V.ref e3, V.ref e4] ++ [V.ref e5, V.ref e6, V.ref e7, V.ref e8])) hl1
  have g1 : (upd G11 l1 (.lst ([V.ref e0, V.ref e1, V.ref e2, V.ref e3, V.ref e4] ++ [V.ref e5, V.ref e6, V.ref e7, V.ref e8]))) l1 = some (.lst [V.ref e0, V.ref e1, V.ref e2, V.ref e3, V.ref e4, V.ref e5, V.ref e6, V.ref e7, V.ref e8]) := upd_same
  generalize upd G11 l1 (.lst ([V.ref e0, V.ref e1, V.ref e2, V.ref e3, V.ref e4] ++ [V.ref e5, V.ref e6, V.ref e7, V.ref e8])) = G12 at t12 g1 ⊢
  refine ⟨_, rfl, ?_⟩
  refine ⟨_, rfl, fun e9 n9 => ?_⟩
  have t13 := same_new (o := ExO (.ref (Cs.getD 9 0)) e9) n9
  have he9 := upd_same (H := G12) (a := e9) (o := ExO (.ref (Cs.getD 9 0)) e9)
  generalize upd G12 e9 (ExO (.ref (Cs.getD 9 0)) e9) = G13 at t13 he9 ⊢
  refine ⟨_, rfl, fun e10 n10 => ?_⟩
  have t14 := same_new (o := ExO (.ref (Cs.getD 10 0)) e10) n10
  have he10 := upd_same (H := G13) (a := e10) (o := ExO (.ref (Cs.getD 10 0)) e10)
  generalize upd G13 e10 (ExO (.ref (Cs.getD 10 0)) e10) = G14 at t14 he10 ⊢
  refine ⟨_, rfl, fun e11 n11 => ?_⟩
  have t15 := same_new (o := ExO (.ref (Cs.getD 11 0)) e11) n11
  have he11 := upd_same (H := G14) (a := e11) (o := ExO (.ref (Cs.getD 11 0)) e11)
  generalize upd G14 e11 (ExO (.ref (Cs.getD 11 0)) e11) = G15 at t15 he11 ⊢
  refine ⟨_, rfl, fun e12 n12 => ?_⟩
  have t16 := same_new (o := ExO (.ref (Cs.getD 12 0)) e12) n12
  have he12 := upd_same (H := G15) (a := e12) (o := ExO (.ref (Cs.getD 12 0)) e12)
  generalize upd G15 e12 (ExO (.ref (Cs.getD 12 0)) e12) = G16 at t16 he12 ⊢
  refine ⟨by show 4 ≤ sizeLine; decide, fun m2 hm2 => ?_⟩
  have t17 := same_new (o := .lst [V.ref e9, V.ref e10, V.ref e11, V.ref e12]) hm2
  have n_2 := upd_same (H := G16) (a := m2) (o := .lst [V.ref e9, V.ref e10, V.ref e11, V.ref e12])
  generalize upd G16 m2 (.lst [V.ref e9, V.ref e10, V.ref e11, V.ref e12]) = G17 at t17 n_2 ⊢
  refine ⟨l1, m2, _, _, rfl, rfl, t17 _ _ (t16 _ _ (t15 _ _ (t14 _ _ (t13 _ _ (g1))))), n_2, by show 13 ≤ sizeLine; decide, fun l2 hl2 => ?_⟩
  have t18 := same_new (o := .lst ([V.ref e0, V.ref e1, V.ref e2, V.ref e3, V.ref e4, V.ref e5, V.ref e6, V.ref e7, V.ref e8] ++ [V.ref e9, V.ref e10, V.ref e11, V.ref e12])) hl2
  have g2 : (upd G17 l2 (.lst ([V.ref e0, V.ref e1, V.ref e2, V.ref e3, V.ref e4, V.ref e5, V.ref e6, V.ref e7, V.ref e8] ++ [V.ref e9, V.ref e10, V.ref e11, V.ref e12]))) l2 = some (.lst [V.ref e0, V.ref e1, V.ref e2, V.ref e3, V.ref e4, V.ref e5, V.ref e6, V.ref e7, V.ref e8, V.ref e9, V.ref e10, V.ref e11, V.ref e12]) := upd_same
  generalize upd G17 l2 (.lst ([V.ref e0, V.ref e1, V.ref e2, V.ref e3, V.ref e4, V.ref e5, V.ref e6, V.ref e7, V.ref e8] ++ [V.ref e9, V.ref e10, V.ref e11, V.ref e12])) = G18 at t18 g2 ⊢
  refine ⟨_, rfl, ?_⟩
  refine ⟨_, rfl, fun e13 n13 => ?_⟩
  have t19 := same_new (o := ExO (.ref (Cs.getD 13 0)) e13) n13
  have he13 := upd_same (H := G18) (a := e13) (o := ExO (.ref (Cs.getD 13 0)) e13)
  generalize upd G18 e13 (ExO (.ref (Cs.getD 13 0)) e13) = G19 at t19 he13 ⊢
  refine ⟨_, rfl, fun e14 n14 => ?_⟩
  have t20 := same_new (o := ExO (.ref (Cs.getD 14 0)) e14) n14
  have he14 := upd_same (H := G19) (a := e14) (o := ExO (.ref (Cs.getD 14 0)) e14)
  generalize upd G19 e14 (ExO (.ref (Cs.getD 14 0)) e14) = G20 at t20 he14 ⊢
  refine ⟨_, rfl, fun e15 n15 => ?_⟩
  have t21 := same_new (o := ExO (.ref (Cs.getD 15 0)) e15) n15
  have he15 := upd_same (H := G20) (a := e15) (o := ExO (.ref (Cs.getD 15 0)) e15)
  generalize upd G20 e15 (ExO (.ref (Cs.getD 15 0)) e15) = G21 at t21 he15 ⊢
  refine ⟨_, rfl, fun e16 n16 => ?_⟩
  have t22 := same_new (o := ExO (.ref (Cs.getD 16 0)) e16) n16
  have he16 := upd_same (H := G21) (a := e16) (o := ExO (.ref (Cs.getD 16 0)) e16)
  generalize upd G21 e16 (ExO (.ref (Cs.getD 16 0)) e16) = G22 at t22 he16 ⊢
  refine ⟨by show 4 ≤ sizeLine; decide, fun m3 hm3 => ?_⟩
  have t23 := same_new (o := .lst [V.ref e13, V.ref e14, V.ref e15, V.ref e16]) hm3
  have n_3 := upd_same (H := G22) (a := m3) (o := .lst [V.ref e13, V.ref e14, V.ref e15, V.ref e16])
  generalize upd G22 m3 (.lst [V.ref e13, V.ref e14, V.ref e15, V.ref e16]) = G23 at t23 n_3 ⊢
  refine ⟨l2, m3, _, _, rfl, rfl, t23 _ _ (t22 _ _ (t21 _ _ (t20 _ _ (t19 _ _ (g2))))), n_3, by show 17 ≤ sizeLine; decide, fun l3 hl3 => ?_⟩
  have t24 := same_new (o := .lst ([V.ref e0, V.ref e1, V.ref e2, V.ref e3, V.ref e4, V.ref e5, V.ref e6, V.ref e7, V.ref e8, V.ref e9, V.ref e10, V.ref e11, V.ref e12] ++ [V.ref e13, V.ref e14, V.ref e15, V.ref e16])) hl3
  have g3 : (upd G23 l3 (.lst ([V.ref e0, V.ref e1, V.ref e2, V.ref e3, V.ref e4, V.ref e5, V.ref e6, V.ref e7, V.ref e8, V.ref e9, V.ref e10, V.ref e11, V.ref e12] ++ [V.ref e13, V.ref e14, V.ref e15, V.ref e16]))) l3 = some (.lst [V.ref e0, V.ref e1, V.ref e2, V.ref e3, V.ref e4, V.ref e5, V.ref e6, V.ref e7, V.ref e8, V.ref e9, V.ref e10, V.ref e11, V.ref e12, V.ref e13, V.ref e14, V.ref e15, V.ref e16]) := upd_same
  generalize upd G23 l3 (.lst ([V.ref e0, V.ref e1, V.ref e2, V.ref e3, V.ref e4, V.ref e5, V.ref e6, V.ref e7, V.ref e8, V.ref e9, V.ref e10, V.ref e11, V.ref e12] ++ [V.ref e13, V.ref e14, V.ref e15, V.ref e16])) = G24 at t24 g3 ⊢
  refine ⟨_, rfl, ?_⟩
  refine ⟨_, rfl, fun e17 n17 => ?_⟩
  have t25 := same_new (o := ExO (.ref (Cs.getD 17 0)) e17) n17
  have he17 := upd_same (H := G24) (a := e17) (o := ExO (.ref (Cs.getD 17 0)) e17)
  generalize upd G24 e17 (ExO (.ref (Cs.getD 17 0)) e17) = G25 at t25 he17 ⊢
  refine ⟨_, rfl, fun e18 n18 => ?_⟩
  have t26 := same_new (o := ExO (.ref (Cs.getD 18 0)) e18) n18
  have he18 := upd_same (H := G25) (a := e18) (o := ExO (.ref (Cs.getD 18 0)) e18)
  generalize upd G25 e18 (ExO (.ref (Cs.getD 18 0)) e18) = G26 at t26 he18 ⊢
  refine ⟨_, rfl, fun e19 n19 => ?_⟩
  have t27 := same_new (o := ExO (.ref (Cs.getD 19 0)) e19) n19
  have he19 := upd_same (H := G26) (a := e19) (o := ExO (.ref (Cs.getD 19 0)) e19)
  generalize upd G26 e19 (ExO (.ref (Cs.getD 19 0)) e19) = G27 at t27 he19 ⊢
  refine ⟨by show 3 ≤ sizeLine; decide, fun m4 hm4 => ?_⟩
  have t28 := same_new (o := .lst [V.ref e17, V.ref e18, V.ref e19]) hm4
  have n_4 := upd_same (H := G27) (a := m4) (o := .lst [V.ref e17, V.ref e18, V.ref e19])
  generalize upd G27 m4 (.lst [V.ref e17, V.ref e18, V.ref e19]) = G28 at t28 n_4 ⊢
  refine ⟨l3, m4, _, _, rfl, rfl, t28 _ _ (t27 _ _ (t26 _ _ (t25 _ _ (g3)))), n_4, by show 20 ≤ sizeLine; decide, fun l4 hl4 => ?_⟩
  have t29 := same_new (o := .lst ([V.ref e0, V.ref e1, V.ref e2, V.ref e3, V.ref e4, V.ref e5, V.ref e6, V.ref e7, V.ref e8, V.ref e9, V.ref e10, V.ref e11, V.ref e12, V.ref e13, V.ref e14, V.ref e15, V.ref e16] ++ [V.ref e17, V.ref e18, V.ref e19])) hl4
  have g4 : (upd G28 l4 (.lst ([V.ref e0, V.ref e1, V.ref e2, V.ref e3, V.ref e4, V.ref e5, V.ref e6, V.ref e7, V.ref e8, V.ref e9, V.ref e10, V.ref e11, V.ref e12, V.ref e13, V.ref e14, V.ref e15, V.ref e16] ++ [V.ref e17, V.ref e18, V.ref e19]))) l4 = some (.lst [V.ref e0, V.ref e1, V.ref e2, V.ref e3, V.ref e4, V.ref e5, V.ref e6, V.ref e7, V.ref e8, V.ref e9, V.ref e10, V.ref e11, V.ref e12, V.ref e13, V.ref e14, V.ref e15, V.ref e16, V.ref e17, V.ref e18, V.ref e19]) := upd_same
  generalize upd G28 l4 (.lst ([V.ref e0, V.ref e1, V.ref e2, V.ref e3, V.ref e4, V.ref e5, V.ref e6, V.ref e7, V.ref e8, V.ref e9, V.ref e10, V.ref e11, V.ref e12, V.ref e13, V.ref e14, V.ref e15, V.ref e16] ++ [V.ref e17, V.ref e18, V.ref e19])) = G29 at t29 g4 ⊢
  have c29 : Same G29 G29 := Same.refl _
  have c28 : Same G28 G29 := t29.trans c29
  have c27 : Same G27 G29 := t28.trans c28
  have c26 : Same G26 G29 := t27.trans c27
  have c25 : Same G25 G29 := t26.trans c26
  have c24 : Same G24 G29 := t25.trans c25
  have c23 : Same G23 G29 := t24.trans c24
  have c22 : Same G22 G29 := t23.trans c23
  have c21 : Same G21 G29 := t22.trans c22
  have c20 : Same G20 G29 := t21.trans c21
  have c19 : Same G19 G29 := t20.trans c20
  have c18 : Same G18 G29 := t19.trans c19
  have c17 : Same G17 G29 := t18.trans c18
  have c16 : Same G16 G29 := t17.trans c17
  have c15 : Same G15 G29 := t16.trans c16
  have c14 : Same G14 G29 := t15.trans c15
  have c13 : Same G13 G29 := t14.trans c14
  have c12 : Same G12 G29 := t13.trans c13
  have c11 : Same G11 G29 := t12.trans c12
  have c10 : Same G10 G29 := t11.trans c11
  have c9 : Same G9 G29 := t10.trans c10
  have c8 : Same G8 G29 := t9.trans c9
  have c7 : Same G7 G29 := t8.trans c8
  have c6 : Same G6 G29 := t7.trans c7
  have c5 : Same G5 G29 := t6.trans c6
  have c4 : Same G4 G29 := t5.trans c5
  have c3 : Same G3 G29 := t4.trans c4
  have c2 : Same G2 G29 := t3.trans c3
  have c1 : Same G1 G29 := t2.trans c2
  have c0 : Same G0 G29 := t1.trans c1
  have hE0 := c1 _ _ he0
  have hD0 := c1 _ _ hd0
  have hE1 := c2 _ _ he1
  have hD1 := c2 _ _ hd1
  have hT := c0 _ _ ht0
  obtain ⟨Es, hEs⟩ : ∃ Es : List Addr, Es = [e0, e1, e2, e3, e4, e5, e6, e7, e8, e9, e10, e11, e12, e13, e14, e15, e16, e17, e18, e19] := ⟨_, rfl⟩
  have lE : Es.length = 20 := by rw [hEs]; rfl
  have hL : G29 l4 = some (.lst (Es.map V.ref)) := by rw [hEs]; exact g4
  have hx : ∀ i, i < 20 → ExcAt G29 (Es.getD i 0) (Cs.getD i 0) := by
    rw [hEs]
    intro i hi
    match i, hi with
    | 0, _ => exact .inr (.inr ⟨d0, _, hE0, hD0⟩)
    | 1, _ => exact .inr (.inr ⟨d1, _, hE1, hD1⟩)
    | 2, _ => exact .inl (c3 _ _ he2)
    | 3, _ => exact .inl (c4 _ _ he3)
    | 4, _ => exact .inl (c5 _ _ he4)
    | 5, _ => exact .inl (c7 _ _ he5)
    | 6, _ => exact .inl (c8 _ _ he6)
    | 7, _ => exact .inl (c9 _ _ he7)
    | 8, _ => exact .inl (c10 _ _ he8)
    | 9, _ => exact .inl (c13 _ _ he9)
    | 10, _ => exact .inl (c14 _ _ he10)
    | 11, _ => exact .inl (c15 _ _ he11)
    | 12, _ => exact .inl (c16 _ _ he12)
    | 13, _ => exact .inl (c19 _ _ he13)
    | 14, _ => exact .inl (c20 _ _ he14)
    | 15, _ => exact .inl (c21 _ _ he15)
    | 16, _ => exact .inl (c22 _ _ he16)
    | 17, _ => exact .inl (c25 _ _ he17)
    | 18, _ => exact .inl (c26 _ _ he18)
    | 19, _ => exact .inl (c27 _ _ he19)
    | n + 20, h => exact absurd h (by omega)
  have q0 : Es.getD 0 0 = e0 := by rw [hEs]; rfl
  have q1 : Es.getD 1 0 = e1 := by rw [hEs]; rfl
  have atE : ∀ i : Nat, i < 20 → atI (Es.map V.ref) (i : Int) = some (.ref (Es.getD i 0)) := fun i hi => atI_nat (by rw [List.getElem?_map, List.getElem?_eq_getElem (by omega), List.getD_eq_getElem?_getD, List.getElem?_eq_getElem (by omega)]; rfl)
  generalize G29 = Y at hE0 hD0 hE1 hD1 hT hL hx ⊢
  clear c0 c1 c2 c3 c4 c5 c6 c7 c8 c9 c10 c11 c12 c13 c14 c15 c16 c17 c18 c19 c20 c21 c22 c23 c24 c25 c26 c27 c28 c29 
  have eK : ∀ j i : Nat, decide (V.int (0 + (j : Nat)) = V.int (0 + (i : Nat))) = (i == j) := fun j i => by
    rw [dec_int, Int.zero_add, Int.zero_add]
    by_cases h : i = j
    · subst h
      simp
    · have h2 : ¬ ((j : Int) = (i : Int)) := fun z => h (by omega)
      rw [beq_eq_false_iff_ne.mpr h, beq_eq_false_iff_ne.mpr h2]
  refine ⟨_, rfl, l4, _, rfl, .inl (SqL.of hL), 20, by rw [List.length_map, lE]; rfl, by decide, by decide, ?_⟩
  refine for_it walk_range (fun i σ Hc => ∃ (o6 o7 o8 : Option V), σ = [some (.ref a), some (.ref p), some (.int i1), some (.str note), some (.ref t), some (.ref l4), o6, o7, o8] ∧ Same Y Hc) ⟨_, _, _, rfl, Same.refl _⟩ (fun _ _ _ _ _ => True.intro) ?_ ?_
  · rintro i x σ Hc H' hi ⟨o6, o7, o8, rfl, sc⟩ ⟨rfl, rfl⟩
    have hi : i < 20 := hi
    have ix := atE i hi
    rw [← Int.zero_add (i : Int)] at ix
    refine ⟨_, rfl, _, rfl, l4, _, (0 + (i : Nat) : Int), .ref (Es.getD i 0), rfl, rfl, SqL.of (sc _ _ hL), ix, Es.getD i 0, Cs.getD i 0, .ty "ValueError", .type "ValueError", true, rfl, (hx i hi).same sc, Z.exc i hi, (fun _ r => r), Z.ve i hi, true, rfl, ?_⟩
    refine ⟨_, rfl, _, rfl, l4, _, (0 + (i : Nat) : Int), .ref (Es.getD i 0), rfl, rfl, SqL.of (sc _ _ hL), ix, Es.getD i 0, Cs.getD i 0, .ref W, .ref W, true, rfl, (hx i hi).same sc, Z.exc i hi, (fun _ r => r), Z.we i hi, true, rfl, ?_⟩
    refine ⟨_, rfl, _, rfl, l4, _, (0 + (i : Nat) : Int), .ref (Es.getD i 0), rfl, rfl, SqL.of (sc _ _ hL), ix, Es.getD i 0, i, rfl, hi, (hx i hi).same sc, fun l Z1 s1 nl hl => ?_⟩
    have sc1 := sc.trans s1
    refine ⟨_, rfl, l4, _, rfl, .inl (SqL.of (sc1 _ _ hL)), 20, by rw [List.length_map, lE]; rfl, by decide, by decide, fun D hD => ?_⟩
    refine lc_map walk_range hD ((List.range 20).map fun j => V.bl (i == j)) (by rw [List.length_map, List.length_range]; rfl) (by decide) (fun _ _ => True.intro) ?_ ?_
    · rintro j x H2 H3 hj R L s2 ⟨rfl, rfl⟩ hR
      refine ⟨rfl, ?_⟩
      refine iteT (B := L H3) ?_
      refine ⟨_, rfl, _, rfl, rfl, ?_⟩
      have hR := hR _ (Same.refl _)
      rw [List.getElem_map, List.getElem_range] at hR
      rw [eK]
      exact hR
    · intro H2 s2 h2
      refine ⟨_, _, dp_bools (bs := (List.range 20).map fun j => i == j) (SqL.of (by rw [List.map_map]; exact s2 _ _ hl)), dp_bools (bs := (List.range 20).map fun j => i == j) (SqL.of (by rw [List.map_map]; exact h2)), shaped_bools _, shaped_bools _, _, rfl, ?_⟩
      rw [SeqAt.eqv_refl _ (lay_bool _)]
      refine iteF ?_
      exact ⟨_, _, _, rfl, sc1.trans s2⟩
  · rintro σ Hc ⟨o6, o7, o8, rfl, sc⟩
    have a0 : atI (Es.map V.ref) 0 = some (.ref e0) := q0 ▸ atE 0 (by decide)
    have a1 : atI (Es.map V.ref) 1 = some (.ref e1) := q1 ▸ atE 1 (by decide)
    refine ⟨_, rfl, l4, _, 0, .ref e0, rfl, rfl, SqL.of (sc _ _ hL), a0, e0, Cs.getD 0 0, d0, _, .int i1, rfl, Z.xf 0 (by decide), Z.no0, sc _ _ hE0, sc _ _ hD0, rfl, ?_⟩
    refine ⟨_, rfl, l4, _, 1, .ref e1, rfl, rfl, SqL.of (sc _ _ hL), a1, e1, Cs.getD 1 0, d1, _, .ref t, rfl, Z.xf 1 (by decide), Z.no1, sc _ _ hE1, sc _ _ hD1, rfl, ?_⟩
    refine ⟨rfl, fun f0 nf0 => ⟨f0, 5, rfl, upd_same, by decide, fun k0 nk0 ne => ⟨rfl, ?_⟩⟩⟩
    obtain ⟨u1, hf0, hk0⟩ := got_new (fs := [("line", V.int 5)]) nf0 nk0 ne
    generalize upd (upd (upd Hc f0 (exo f0 (Cs.getD 0 0) none)) k0 (exd k0 [("line", V.int 5)])) f0 (exo f0 (Cs.getD 0 0) (some k0)) = Y1 at u1 hf0 hk0 ⊢
    refine ⟨f0, Cs.getD 0 0, k0, _, .int 5, rfl, Z.xf 0 (by decide), Z.no0, hf0, hk0, rfl, ?_⟩
    refine ⟨by show 3 ≤ sizeLine; decide, fun t2 ht2 => ?_⟩
    have u2 := same_new (o := .tup [.str "b", .str "a", .int 0]) ht2
    have g2 := upd_same (H := Y1) (a := t2) (o := .tup [.str "b", .str "a", .int 0])
    generalize upd Y1 t2 (.tup [.str "b", .str "a", .int 0]) = Y2 at u2 g2 ⊢
    refine ⟨rfl, fun f1 nf1 => ⟨f1, t2, _, [reprText "b", reprText "a", toString (0 : Int)], rfl, upd_same, SqT.of (same_new nf1 _ _ g2), .str (by decide +kernel) (.str (by decide +kernel) (.int (by decide) .nil)), by decide +kernel, fun k1 nk1 ne1 => ⟨rfl, ?_⟩⟩⟩
    obtain ⟨u3, hf1, hk1⟩ := got_new (fs := [("rule", V.ref t2)]) nf1 nk1 ne1
    generalize upd (upd (upd Y2 f1 (exo f1 (Cs.getD 1 0) none)) k1 (exd k1 [("rule", V.ref t2)])) f1 (exo f1 (Cs.getD 1 0) (some k1)) = Y3 at u3 hf1 hk1 ⊢
    refine ⟨f1, Cs.getD 1 0, k1, _, .ref t2, rfl, Z.xf 1 (by decide), Z.no1, hf1, hk1, rfl, ?_⟩
    refine ⟨by show 4 ≤ sizeLine; decide, fun lh hlh => ?_⟩
    have u4 := same_new (o := .lst [.int i1, .ref t, .int 5, .ref t2]) hlh
    have g4 := upd_same (H := Y3) (a := lh) (o := .lst [.int i1, .ref t, .int 5, .ref t2])
    generalize upd Y3 lh (.lst [.int i1, .ref t, .int 5, .ref t2]) = Y4 at u4 g4 ⊢
    refine ⟨_, rfl, _, rfl, _, rfl, by show 3 ≤ sizeLine; decide, fun t3 ht3 => ?_⟩
    have u5 := same_new (o := .tup [.str "b", .str "a", .int 0]) ht3
    have g5 := upd_same (H := Y4) (a := t3) (o := .tup [.str "b", .str "a", .int 0])
    generalize upd Y4 t3 (.tup [.str "b", .str "a", .int 0]) = Y5 at u5 g5 ⊢
    refine ⟨by show 4 ≤ sizeLine; decide, fun lr hlr => ?_⟩
    have u6 := same_new (o := .lst [.int i1, .ref t, .int 5, .ref t3]) hlr
    have g6 := upd_same (H := Y5) (a := lr) (o := .lst [.int i1, .ref t, .int 5, .ref t3])
    generalize upd Y5 lr (.lst [.int i1, .ref t, .int 5, .ref t3]) = Y6 at u6 g6 ⊢
    have uT : Same Y Y6 := sc.trans (u1.trans (u2.trans (u3.trans (u4.trans (u5.trans u6)))))
    have dT : Dp K Y6 (.ref t) (.tuple [.str "a", .none, .int i3]) := .tup (SqT.of (uT _ _ hT)) (.cons (.str _) (.cons .non (.cons (.int _) .nil)))
    have d2 : Dp K Y6 (.ref t2) (.tuple [.str "b", .str "a", .int 0]) := .tup (SqT.of ((u3.trans (u4.trans (u5.trans u6))) _ _ g2)) (.cons (.str _) (.cons (.str _) (.cons (.int _) .nil)))
    have d3 : Dp K Y6 (.ref t3) (.tuple [.str "b", .str "a", .int 0]) := .tup (SqT.of (u6 _ _ g5)) (.cons (.str _) (.cons (.str _) (.cons (.int _) .nil)))
    have cl : PyData.canLay0 (.list [.int i1, .tuple [.str "a", .none, .int i3], .int 5, .tuple [.str "b", .str "a", .int 0]]) = true := by
      have o1 : PyData.strOk "a" = true := by decide +kernel
      have o2 : PyData.strOk "b" = true := by decide +kernel
      simp [PyData.canLay0, PyData.canLayAll0, o1, o2]
    have sh : SeqAt.shaped (.list [.int i1, .tuple [.str "a", .none, .int i3], .int 5, .tuple [.str "b", .str "a", .int 0]]) = true := by simp [SeqAt.shaped, cl, PyData.depth, PyData.depthAll]
    refine ⟨_, _, .lst (SqL.of ((u5.trans u6) _ _ g4)) (.cons (.int _) (.cons dT (.cons (.int _) (.cons d2 .nil)))), .lst (SqL.of g6) (.cons (.int _) (.cons dT (.cons (.int _) (.cons d3 .nil)))), sh, sh, ?_⟩
    rw [SeqAt.eqv_refl _ cl]
    exact q _
end
end Wnd

namespace Wnd
open PySem PySem.Spec PyProof.Rows L2
section
variable {K : PySem.W.Frag} {mg : Str → Option Value}
/-- what is computed of the classes -/
def excCB (K : PySem.W.Frag) (D : Addr) : Bool := decide (PySem.W.findIn K (.ref D) "__getattribute__" = some (some (.builtin "BaseException.__getattribute__"))) && (decide (PySem.W.findIn K (.ref D) "__getattr__" = some none) && (decide (PySem.W.subIn K (.ref D) (.type "BaseException") = some true) && (PySem.W.hasDictIn K D &&
  (decide (PySem.W.findIn K (.ref D) "__class__" = some (some (.builtin "object.__class__"))) && (decide (PySem.W.specialIn K (.builtin "object.__class__") "__get__" = some (some (.builtin "getset_descriptor.__get__"))) && (decide (PySem.W.takesIn K (.builtin "object.__class__") = some true) && decide (PySem.W.mroIn K D (.type "object") = some true)))))))
theorem excCB_ok {D : Addr} (h : excCB K D = true) : ExcC K D := by
  unfold excCB at h
  simp only [Bool.and_eq_true, decide_eq_true_eq] at h
  obtain ⟨h1, h2, h3, h4, h5, h6, h7, h8⟩ := h
  exact ⟨h1, h2, h3, h4, h5, h6, h7, h8⟩
def kitB (K : PySem.W.Frag) (W : Addr) (Cs : List Addr) (i : Nat) : Bool := (List.range 20).all (fun j => decide (PySem.W.kitOne K (.ref (Cs.getD i 0)) (.ref (Cs.getD j 0)) = some (i == j))) && (decide (PySem.W.kitOne K (.ref (Cs.getD i 0)) (.type "ValueError") = some true) && (decide (PySem.W.kitOne K (.ref (Cs.getD i 0)) (.ref W) = some true) && PySem.W.keepIn K (.ref (Cs.getD i 0))))
def plB (K : PySem.W.Frag) (Cs : List Addr) (i : Nat) : Bool := decide (i < 2) || PySem.W.excIn K (Cs.getD i 0) veB "ValueError.__new__"
theorem errK_of {W : Addr} {Cs : List Addr} (g : ∀ i < 20, mg (errN.getD i "") = some (.ref (Cs.getD i 0))) (w : mg "WindowError" = some (.ref W)) (e1 : (List.range 20).all (fun i => excCB K (Cs.getD i 0)) = true) (e2 : (List.range 20).all (kitB K W Cs) = true) (e3 : (List.range 20).all (plB K Cs) = true)
    (x0 : xfB K (Cs.getD 0 0) = true) (x1 : xfB K (Cs.getD 1 0) = true) (n0 : PySem.W.findIn K (.ref (Cs.getD 0 0)) "line" = some none) (n1 : PySem.W.findIn K (.ref (Cs.getD 1 0)) "rule" = some none) : ErrK K mg W Cs := by
  have k : ∀ i < 20, kitB K W Cs i = true := fun i hi => List.all_eq_true.mp e2 i (List.mem_range.mpr hi)
  refine ⟨g, w, fun i hi => excCB_ok (List.all_eq_true.mp e1 i (List.mem_range.mpr hi)), fun i hi j hj => ?_, fun i hi => ?_, fun i hi => ?_, fun i hi h2 => ?_, fun i hi => ?_, fun i hi => ?_, n0, n1⟩
  · have z := k i hi
    unfold kitB at z
    exact of_decide_eq_true (List.all_eq_true.mp (Bool.and_eq_true_iff.mp z).1 j (List.mem_range.mpr hj))
  · have z := k i hi
    unfold kitB at z
    exact of_decide_eq_true (Bool.and_eq_true_iff.mp (Bool.and_eq_true_iff.mp z).2).1
  · have z := k i hi
    unfold kitB at z
    exact of_decide_eq_true (Bool.and_eq_true_iff.mp (Bool.and_eq_true_iff.mp (Bool.and_eq_true_iff.mp z).2).2).1
  · have z := List.all_eq_true.mp e3 i (List.mem_range.mpr hi)
    unfold plB at z
    rcases Bool.or_eq_true_iff.mp z with z | z
    · have := of_decide_eq_true z
      omega
    · exact z
  · have z := k i hi
    unfold kitB at z
    exact (Bool.and_eq_true_iff.mp (Bool.and_eq_true_iff.mp (Bool.and_eq_true_iff.mp z).2).2).2
  · match i, hi with
    | 0, _ => exact xfB_ok x0
    | 1, _ => exact xfB_ok x1
theorem initAt_mk {C : Addr} {q : Str} {st : Stmt} {f cc cda : Addr} {oc : Value} {od an : Option Addr} {kV dc pm ct : Value} {sl : Array (Option Value)} (a : PySem.W.findIn K (.ref C) "__init__" = some (some (.ref f))) (b : PySem.W.typeIn K (.ref f) = some (.type "function"))
    (c : K.lookup f = some ⟨oc, od, .func (PySem.W.ksFn "__init__" q (defArgs st) (defBody st) (defScope st) .none kV dc pm an (.ref cda) ct cc), sl⟩) (d : PySem.W.codeIn K (.ref cda) q = true) : ∃ fd, InitAt K C q st f cc cda fd ∧ ∃ (kV dc pm : Value) (an : Option Addr) (cdv ct : Value) (cc : Addr), fd = PySem.W.ksFn "__init__" q (defArgs st) (defBody st) (defScope st) .none kV dc pm an cdv ct cc :=
  ⟨_, ⟨a, b, ⟨oc, od, an, kV, dc, pm, ct, sl, rfl, c⟩, d⟩, _, _, _, _, _, _, _, rfl⟩
/-- all that the written part says of such a class -/
structure SupRaw (P : Program) (K : PySem.W.Frag) (C : Addr) (q : Str) (st : Stmt) : Prop where
  ex : ∃ (f cc cda : Addr) (fd : FuncData), InitAt K C q st f cc cda fd ∧ (∃ (kV dc pm : Value) (an : Option Addr) (cdv ct : Value) (cc : Addr), fd = PySem.W.ksFn "__init__" q (defArgs st) (defBody st) (defScope st) .none kV dc pm an cdv ct cc) ∧
    (∃ cl cd vs sl file tf, K.lookup cda = some ⟨cl, cd, .fields vs, sl⟩ ∧ vs[2]? = some (.str file tf) ∧ ((P.main.file : Str) == file) = true) ∧ (∃ cl cd sl, K.lookup cc = some ⟨cl, cd, .cell (some (.ref C)), sl⟩)
  cls : ∃ nm q N bs bm sn sub ab col dd k0 k1 k2 k3 k5, K.lookup C = some (excClassObj nm q C N bs bm true sn sub ab col dd k0 k1 k2 k3 k5 "ValueError.__new__") ∧ PySem.HandSPX.refsVE bm = true
  self : PySem.W.mroIn K C (.ref C) = some true
  init : PySem.W.ks_superIn K C C "__init__" = some (some (.builtin "ValueError.__init__"))
  ve : PySem.W.subIn K (.ref C) (.type "ValueError") = some true
  sa : PySem.W.findIn K (.ref C) "__setattr__" = some (some (.builtin "object.__setattr__"))
  exC : PySem.W.subIn K (.ref C) (.type "BaseException") = some true
  tyC : PySem.W.typeIn K (.ref C) = some (.type "type")
  kC : PySem.W.keepIn K (.ref C) = true
theorem SupRaw.oex {P : Program} {C : Addr} {q : Str} {st : Stmt} (R : SupRaw P K C q st) : OexC K C := ⟨R.cls, R.sa, R.exC, R.tyC, R.kC⟩
theorem supRaw_mk {P : Program} {C : Addr} {q : Str} {st : Stmt} {f cc cda : Addr} {oc : Value} {od an : Option Addr} {kV dc pm ct : Value} {sl : Array (Option Value)} {cl1 : Value} {cd1 : Option Addr} {vs1 : Array Value} {sl1 : Array (Option Value)} {file : Str} {tf : Tok} {cl2 : Value} {cd2 : Option Addr} {sl2 : Array (Option Value)}
    {nm q2 : Str} {N : Addr} {bs bm : List Value} {sn : List Str} {sub : List Value} {ab : Bool} {col : Option Bool} {dd : Option Addr} {k0 k1 k2 k3 k5 : Option Value}
    (a : PySem.W.findIn K (.ref C) "__init__" = some (some (.ref f))) (b : PySem.W.typeIn K (.ref f) = some (.type "function"))
    (c : K.lookup f = some ⟨oc, od, .func (PySem.W.ksFn "__init__" q (defArgs st) (defBody st) (defScope st) .none kV dc pm an (.ref cda) ct cc), sl⟩) (d : PySem.W.codeIn K (.ref cda) q = true)
    (e : K.lookup cda = some ⟨cl1, cd1, .fields vs1, sl1⟩) (e2 : vs1[2]? = some (.str file tf)) (e3 : ((P.main.file : Str) == file) = true) (g : K.lookup cc = some ⟨cl2, cd2, .cell (some (.ref C)), sl2⟩)
    (h : K.lookup C = some (excClassObj nm q2 C N bs bm true sn sub ab col dd k0 k1 k2 k3 k5 "ValueError.__new__")) (h2 : PySem.HandSPX.refsVE bm = true)
    (self : PySem.W.mroIn K C (.ref C) = some true) (init : PySem.W.ks_superIn K C C "__init__" = some (some (.builtin "ValueError.__init__"))) (ve : PySem.W.subIn K (.ref C) (.type "ValueError") = some true)
    (sa : PySem.W.findIn K (.ref C) "__setattr__" = some (some (.builtin "object.__setattr__"))) (exC : PySem.W.subIn K (.ref C) (.type "BaseException") = some true) (tyC : PySem.W.typeIn K (.ref C) = some (.type "type")) (kC : PySem.W.keepIn K (.ref C) = true) : SupRaw P K C q st :=
  ⟨⟨f, cc, cda, _, ⟨a, b, ⟨oc, od, an, kV, dc, pm, ct, sl, rfl, c⟩, d⟩, ⟨_, _, _, _, _, _, _, rfl⟩, ⟨_, _, _, _, _, _, e, e2, e3⟩, ⟨_, _, _, g⟩⟩, ⟨nm, q2, N, bs, bm, sn, sub, ab, col, dd, k0, k1, k2, k3, k5, h, h2⟩, self, init, ve, sa, exC, tyC, kC⟩
end
set_option maxHeartbeats 4000000 in
theorem all_mk {l : PySem.W.OpenLaw} {w : World} {K : PySem.W.Frag} {h : Heap} {mg : Str → Option Value} {fa : Addr} (X : K.In h) (G : h.Ns mainGlobals mg) (hfa : mg "law" = some (.ref fa)) {W c0 c1 c2 c3 c4 c5 c6 c7 c8 c9 c10 c11 c12 c13 c14 c15 c16 c17 c18 c19 : Addr}
    (y0 : PySem.W.nsIn K mainGlobals "ParseError" = some (some (.ref c0))) (y1 : PySem.W.nsIn K mainGlobals "NotAdmitted" = some (some (.ref c1))) (y2 : PySem.W.nsIn K mainGlobals "InvalidSystem" = some (some (.ref c2))) (y3 : PySem.W.nsIn K mainGlobals "UnknownRule" = some (some (.ref c3))) (y4 : PySem.W.nsIn K mainGlobals "UnknownSetting" = some (some (.ref c4))) (y5 : PySem.W.nsIn K mainGlobals "InvalidNumbers" = some (some (.ref c5))) (y6 : PySem.W.nsIn K mainGlobals "Contradiction" = some (some (.ref c6))) (y7 : PySem.W.nsIn K mainGlobals "InvalidStep" = some (some (.ref c7))) (y8 : PySem.W.nsIn K mainGlobals "InvalidPrices" = some (some (.ref c8))) (y9 : PySem.W.nsIn K mainGlobals "NoSolution" = some (some (.ref c9))) (y10 : PySem.W.nsIn K mainGlobals "InvalidAmounts" = some (some (.ref c10))) (y11 : PySem.W.nsIn K mainGlobals "NotASolution" = some (some (.ref c11))) (y12 : PySem.W.nsIn K mainGlobals "PlanFinished" = some (some (.ref c12))) (y13 : PySem.W.nsIn K mainGlobals "NothingToUndo" = some (some (.ref c13))) (y14 : PySem.W.nsIn K mainGlobals "InvalidName" = some (some (.ref c14))) (y15 : PySem.W.nsIn K mainGlobals "DuplicateName" = some (some (.ref c15))) (y16 : PySem.W.nsIn K mainGlobals "UnknownName" = some (some (.ref c16))) (y17 : PySem.W.nsIn K mainGlobals "UnknownMark" = some (some (.ref c17))) (y18 : PySem.W.nsIn K mainGlobals "InvalidCommand" = some (some (.ref c18))) (y19 : PySem.W.nsIn K mainGlobals "InvalidLine" = some (some (.ref c19))) (yw : PySem.W.nsIn K mainGlobals "WindowError" = some (some (.ref W)))
    (r0 : SupRaw l.prog K c0 "ParseError.__init__" s_ParseInit) (r1 : SupRaw l.prog K c1 "NotAdmitted.__init__" s_NotInit)
    (e1 : (List.range 20).all (fun i => excCB K ([c0, c1, c2, c3, c4, c5, c6, c7, c8, c9, c10, c11, c12, c13, c14, c15, c16, c17, c18, c19].getD i 0)) = true) (e2 : (List.range 20).all (kitB K W [c0, c1, c2, c3, c4, c5, c6, c7, c8, c9, c10, c11, c12, c13, c14, c15, c16, c17, c18, c19]) = true) (e3 : (List.range 20).all (plB K [c0, c1, c2, c3, c4, c5, c6, c7, c8, c9, c10, c11, c12, c13, c14, c15, c16, c17, c18, c19]) = true)
    (x0 : xfB K c0 = true) (x1 : xfB K c1 = true) (n0 : PySem.W.findIn K (.ref c0) "line" = some none) (n1 : PySem.W.findIn K (.ref c1) "rule" = some none)
    (top : (l.prog.main.scope.names.lookup ("super" : Str)).isSome = false) (any : PySem.W.nsIn K PySem.cStatics "thirdparty.any" = some none)
    (r_law_pen : DefRaw K "_law_pen" s_law_pen) (r_law_next : DefRaw K "_law_next" s_law_next) (r_law_draw : DefRaw K "_law_draw" s_law_draw) (r_law_kinds : DefRaw K "_law_kinds" s_law_kinds) (r_law : DefRaw K "law" s_law)
    (z_len : PySem.W.nsIn K mainGlobals "len" = some none) (z_list : PySem.W.nsIn K mainGlobals "list" = some none) (z_range : PySem.W.nsIn K mainGlobals "range" = some none) (z_min : PySem.W.nsIn K mainGlobals "min" = some none) (z_max : PySem.W.nsIn K mainGlobals "max" = some none) (z_dict : PySem.W.nsIn K mainGlobals "dict" = some none) (z_sorted : PySem.W.nsIn K mainGlobals "sorted" = some none) (z_isinstance : PySem.W.nsIn K mainGlobals "isinstance" = some none) (z_str : PySem.W.nsIn K mainGlobals "str" = some none) (z_ValueError : PySem.W.nsIn K mainGlobals "ValueError" = some none) (z_super : PySem.W.nsIn K mainGlobals "super" = some none) :
    ∀ (base : Heap) (H : Hp) (s : Shared) (a : Addr) (ns : List Int), ns.length ≤ 63 → K.In base → base.Ns mainGlobals mg → Env0 l.prog w K mg base callerA [] s H → SqL K H a (ns.map V.int) →
        codeAny (model l.prog w) callerA (.call (.ref fa) ⟨[.ref a], []⟩) (CR CX0 [] l.prog w H s (fun v _ => v = .bl true) fun _ _ _ => False) s := by
  have B : BltE mg := ⟨⟨PySem.W.mg_none_of X G z_len, PySem.W.mg_none_of X G z_list, PySem.W.mg_none_of X G z_range, PySem.W.mg_none_of X G z_min, PySem.W.mg_none_of X G z_max, PySem.W.mg_none_of X G z_dict, PySem.W.mg_none_of X G z_sorted⟩, PySem.W.mg_none_of X G z_isinstance, PySem.W.mg_none_of X G z_str, PySem.W.mg_none_of X G z_ValueError⟩
  have Z : ErrK K mg W [c0, c1, c2, c3, c4, c5, c6, c7, c8, c9, c10, c11, c12, c13, c14, c15, c16, c17, c18, c19] := errK_of (fun i hi => by
    match i, hi with
    | 0, _ => exact PySem.W.mg_of X G y0
    | 1, _ => exact PySem.W.mg_of X G y1
    | 2, _ => exact PySem.W.mg_of X G y2
    | 3, _ => exact PySem.W.mg_of X G y3
    | 4, _ => exact PySem.W.mg_of X G y4
    | 5, _ => exact PySem.W.mg_of X G y5
    | 6, _ => exact PySem.W.mg_of X G y6
    | 7, _ => exact PySem.W.mg_of X G y7
    | 8, _ => exact PySem.W.mg_of X G y8
    | 9, _ => exact PySem.W.mg_of X G y9
    | 10, _ => exact PySem.W.mg_of X G y10
    | 11, _ => exact PySem.W.mg_of X G y11
    | 12, _ => exact PySem.W.mg_of X G y12
    | 13, _ => exact PySem.W.mg_of X G y13
    | 14, _ => exact PySem.W.mg_of X G y14
    | 15, _ => exact PySem.W.mg_of X G y15
    | 16, _ => exact PySem.W.mg_of X G y16
    | 17, _ => exact PySem.W.mg_of X G y17
    | 18, _ => exact PySem.W.mg_of X G y18
    | 19, _ => exact PySem.W.mg_of X G y19
    | n + 20, h => exact absurd h (by omega)) (PySem.W.mg_of X G yw) e1 e2 e3 x0 x1 n0 n1
  obtain ⟨_, _, D_law_pen⟩ := r_law_pen.at (ps := ["_law_script"]) X G fun _ _ _ _ _ _ us hl => match us, hl with | [_], _ => rfl
  obtain ⟨_, _, D_law_next⟩ := r_law_next.at (ps := ["_law_pen_here"]) X G fun _ _ _ _ _ _ us hl => match us, hl with | [_], _ => rfl
  obtain ⟨_, _, D_law_draw⟩ := r_law_draw.at (ps := ["_law_pen_here", "_law_under"]) X G fun _ _ _ _ _ _ us hl => match us, hl with | [_, _], _ => rfl
  obtain ⟨_, _, D_law_kinds⟩ := r_law_kinds.at (ps := ["_law_error"]) X G fun _ _ _ _ _ _ us hl => match us, hl with | [_], _ => rfl
  obtain ⟨_, _, D_law⟩ := r_law.at (ps := ["_law_script"]) X G fun _ _ _ _ _ _ us hl => match us, hl with | [_], _ => rfl
  have e := hfa.symm.trans D_law.at_
  cases e
  intro base H s a ns hl kb nb env seq
  have o0 := r0.oex
  have o1 := r1.oex
  obtain ⟨f0, cc0, cda0, fd0, I0, ⟨_, _, _, _, _, _, _, d0⟩, q0, z0⟩ := r0.ex
  obtain ⟨f1, cc1, cda1, fd1, I1, ⟨_, _, _, _, _, _, _, d1⟩, q1, z1⟩ := r1.ex
  have T0 : SupC l.prog K mg c0 cc0 cda0 := ⟨r0.cls, q0, z0, top, PySem.W.mg_none_of X G z_super, any, r0.self, r0.init, r0.ve⟩
  have T1 : SupC l.prog K mg c1 cc1 cda1 := ⟨r1.cls, q1, z1, top, PySem.W.mg_none_of X G z_super, any, r1.self, r1.init, r1.ve⟩
  have F0 := ok_parse (w := w) (base := base) I0 T0 o0 n0
  have F1 := ok_not (w := w) (base := base) I1 T1 o1 n1
  have O1 : OkX l.prog w K mg base c0 1 ["self", "line"] ["line"] (spParse c0) := ⟨⟨f0, fd0, I0.find, I0.typ, by
    rw [d0]
    exact .all fun us hl => match us, hl with | [_, _], _ => rfl, by
    rw [d0]
    exact ⟨fun s us ws _ l1 l2 => match us, ws, l1, l2 with | [_], [_], _, _ => BindsTo.of_eq rfl, fun r1 r2 => r1.append r2⟩, F0⟩, o0⟩
  have O2 : OkX l.prog w K mg base c1 1 ["self", "rule"] ["rule"] (spNot K c1) := ⟨⟨f1, fd1, I1.find, I1.typ, by
    rw [d1]
    exact .all fun us hl => match us, hl with | [_, _], _ => rfl, by
    rw [d1]
    exact ⟨fun s us ws _ l1 l2 => match us, ws, l1, l2 with | [_], [_], _, _ => BindsTo.of_eq rfl, fun r1 r2 => r1.append r2⟩, F1⟩, o1⟩
  have p1 := ok_pen (P := l.prog) (w := w) (base := base) D_law_pen B.toBlt
  have p2 := ok_next (P := l.prog) (w := w) (base := base) D_law_next B.toBlt
  have p3 := ok_draw D_law_draw p2
  have p4 := ok_kinds (P := l.prog) (w := w) (base := base) D_law_kinds B Z
  exact run_law D_law.fn D_law.bi ⟨rfl, by decide, by decide⟩ B Z p1 p3 p4 O1 O2 (vs := [V.ref a]) (us := [Value.ref a]) env rfl (.cons rfl .nil) ⟨a, ns, rfl, seq, hl, fun _ => rfl⟩
end Wnd
open PySem PySem.W PyProof.Rows in
set_option maxRecDepth 100000 in
set_option maxHeartbeats 0 in
theorem PySem.Challenge.cw_windowsteps_k01_errors_holds : PySem.Challenge.rw_windowsteps_k01_errors.Holds := by
  w_on; o_law; k_head; (case hw => w_witness2)
  k_fill
  refine Wnd.top_walk (l := PySem.Challenge.rw_windowsteps_k01_errors) (n := 63) rfl (by decide) rfl (fun w h Y => PySem.W.kIn_of Y) ?F
  case F =>
    intro w mg fa h KX G hmg
    refine' Wnd.all_mk KX G hmg ?y0 ?y1 ?y2 ?y3 ?y4 ?y5 ?y6 ?y7 ?y8 ?y9 ?y10 ?y11 ?y12 ?y13 ?y14 ?y15 ?y16 ?y17 ?y18 ?y19 ?yw ?r0 ?r1 ?e1 ?e2 ?e3 ?x0 ?x1 ?n0 ?n1 ?top ?any ?r_law_pen ?r_law_next ?r_law_draw ?r_law_kinds ?r_law ?z_len ?z_list ?z_range ?z_min ?z_max ?z_dict ?z_sorted ?z_isinstance ?z_str ?z_ValueError ?z_super
    (case y0 => k_is)
    (case y1 => k_is)
    (case y2 => k_is)
    (case y3 => k_is)
    (case y4 => k_is)
    (case y5 => k_is)
    (case y6 => k_is)
    (case y7 => k_is)
    (case y8 => k_is)
    (case y9 => k_is)
    (case y10 => k_is)
    (case y11 => k_is)
    (case y12 => k_is)
    (case y13 => k_is)
    (case y14 => k_is)
    (case y15 => k_is)
    (case y16 => k_is)
    (case y17 => k_is)
    (case y18 => k_is)
    (case y19 => k_is)
    (case yw => k_is)
    (case r0 => refine' Wnd.supRaw_mk ?pa ?pb ?pc ?pd ?pe ?pe2 ?pe3 ?pg ?ph ?ph2 ?pself ?pinit ?pve ?psa ?pexC ?ptyC ?pkC; (case pa => k_is); (case pb => k_is); (case pc => k_is); (case pd => k_is); (case pe => k_is); (case pe2 => rfl); (case pe3 => decide +kernel); (case pg => k_is); (case ph => k_is); (case ph2 => decide +kernel); (case pinit => kernel_rfl); (case pself => k_is); (case pve => k_is); (case psa => k_is); (case pexC => k_is); (case ptyC => k_is); (case pkC => k_is))
    (case r1 => refine' Wnd.supRaw_mk ?pa ?pb ?pc ?pd ?pe ?pe2 ?pe3 ?pg ?ph ?ph2 ?pself ?pinit ?pve ?psa ?pexC ?ptyC ?pkC; (case pa => k_is); (case pb => k_is); (case pc => k_is); (case pd => k_is); (case pe => k_is); (case pe2 => rfl); (case pe3 => decide +kernel); (case pg => k_is); (case ph => k_is); (case ph2 => decide +kernel); (case pinit => kernel_rfl); (case pself => k_is); (case pve => k_is); (case psa => k_is); (case pexC => k_is); (case ptyC => k_is); (case pkC => k_is))
    (case e1 => kernel_rfl)
    (case e2 => kernel_rfl)
    (case e3 => kernel_rfl)
    (case x0 => kernel_rfl)
    (case x1 => kernel_rfl)
    (case n0 => k_is)
    (case n1 => k_is)
    (case top => decide +kernel)
    (case any => k_is)
    (case r_law_pen => refine' Wnd.defRaw_mk ?a ?b ?c ?d; (case a => k_is); (case b => k_is); (case c => k_is); (case d => k_is))
    (case r_law_next => refine' Wnd.defRaw_mk ?a ?b ?c ?d; (case a => k_is); (case b => k_is); (case c => k_is); (case d => k_is))
    (case r_law_draw => refine' Wnd.defRaw_mk ?a ?b ?c ?d; (case a => k_is); (case b => k_is); (case c => k_is); (case d => k_is))
    (case r_law_kinds => refine' Wnd.defRaw_mk ?a ?b ?c ?d; (case a => k_is); (case b => k_is); (case c => k_is); (case d => k_is))
    (case r_law => refine' Wnd.defRaw_mk ?a ?b ?c ?d; (case a => k_is); (case b => k_is); (case c => k_is); (case d => k_is))
    (case z_len => k_is)
    (case z_list => k_is)
    (case z_range => k_is)
    (case z_min => k_is)
    (case z_max => k_is)
    (case z_dict => k_is)
    (case z_sorted => k_is)
    (case z_isinstance => k_is)
    (case z_str => k_is)
    (case z_ValueError => k_is)
    (case z_super => k_is)
#print axioms PySem.Challenge.cw_windowsteps_k01_errors_holds

