import PyProof.Rows.All
import Wide.All
import OpenK.AllK
import Wide.FinOn
import KE.KStateDown
import KE.KTupSum
import Lean
import HandS.ForMost
import HandS.ForExc
import HandS.More
import HandS.Flow
import HandS.IsInst
import HandS.TupAny
import HandS.Defaults
import HandS.Head0
import HandS.Head1
import HandS.Head2
import HandS.HeadEnd
import HandS.HeadHook1
import HandS.HeadHook2
import HandS.Wide
import PyProof.ReprBulk
import PyProof.FitsInt
import KE.KExcInit
import HandS.ExcOwn
import HandS.CallSlots
import HandS.CallLocal
import HandS.ExcIs
import HandS.HeadHook3
import HandS.HeadHook4
import KE.KExcIs
import HandS.Conv
import HandS.TupMul
import KE.GoesEnum
import HandS.Style
import HandS.Star
import PyProof.FactsAll.tuple_2
import HandS.Zip
import KE.DataAny
import HandS.HotCalls
import HandS.TryMany
import PyProof.Rows.ReprOcc
import PyProof.NeKinds
import HandS.ExcValue
import PyProof.Rows.IntBool
import PyProof.EqKinds
import HandS.Text
import HandS.DictComp
import PyProof.StrOps2
import HandS.Codes
import HandS.Property
import HandS.FStr
import HandS.OwnEq
import HandS.ClsMeth
import KE.KDictDisplayH
import HandS.Walk
import HandS.TryOnly
import HandS.SetFor
import HandS.Strs
import HandS.TupSets
import KE.KParD
import HandS.Finally
import HandS.ExcInitHot
import HandS.MakeKwOnly
import HandS.ExcCtx
import HandS.GenList
import HandS.GenYield
import HandS.Iter
import HandS.Comp
import HandS.Exc
import PyProof.Seq
import PySem.Challenge.RW_ringpostfix_k75_whole_histories_and_new
set_option Elab.async false
set_option linter.all false
set_option maxRecDepth 100000
set_option maxHeartbeats 4000000
/-! My own rules over the layer: sum and min of a tuple of ints, a def by its name. -/
namespace My
open PySem PySem.Spec PyProof.Rows L2

section
variable {X : Cx}
/-- sum(t) -/
def rSumT (K : PySem.W.Frag) : List V → Hp → VK → Prop := fun vs H Q =>
  ∃ (a : Addr) (ns : List Int), vs = [V.ref a] ∧ SqT K H a (ns.map V.int) ∧ Q (.int ns.sum) H
theorem call_sumT (hc : X.calm = true) : CallR X (.builtin "sum") (rSumT X.K) := by
  intro pins s σ H vs us Q I r hq
  obtain ⟨a, ns, rfl, ht, q⟩ := hq
  obtain ⟨its, rv, tt, _⟩ := I.tuple ht
  rw [Vals.ref1 r]
  have hi := rv.ints
  obtain ⟨xs, ex⟩ := hi.allInts.items
  have en : numsOf (intItems xs).toList = ns := by
    rw [← ex]
    exact hi.numsOf
  rw [nums_intItems] at en
  rw [ex] at tt
  refine PySem.W.ktm_sumG (I.ok.hd hc) tt fun h' tk t' hk => ?_
  rw [preSum_eq, List.take_of_length_le (by simp), en]
  exact ⟨.int _, H, I.kept hk, ⟨_, rfl⟩, q⟩
/-- min(t) -/
def rMinT (K : PySem.W.Frag) : List V → Hp → VK → Prop := fun vs H Q =>
  ∃ (a : Addr) (ns : List Int), vs = [V.ref a] ∧ SqT K H a (ns.map V.int) ∧ 0 < ns.length ∧ ∀ m, m ∈ ns → (∀ y, y ∈ ns → m ≤ y) → Q (.int m) H
theorem iter_tup_old {s : Shared} {l : Addr} {o : Obj} {h' : Heap}
    (hk : ∀ b o', b ∉ [s.heap.objs.size] → (s.heap.push o).get? b = some o' → h'.get? b = some o') : ∀ b o', s.heap.get? b = some o' → h'.get? b = some o' := by
  intro b o' e
  refine hk b o' (fun hb => ?_) (Heap.get?_push_of_some _ e)
  have e2 : b = s.heap.objs.size := List.mem_singleton.mp hb
  have e3 := Heap.lt_size e
  rw [e2] at e3
  exact Nat.lt_irrefl _ e3
theorem min_intTup {prog : Program} {w : World} {A : Around} {E : Value → Shared → Prop} {s : Shared} {l : Addr} {xs : Array (Int × Tok)} {Q : Value → Shared → Prop}
    (hh : A.handled = none) (hl : s.heap.IsTuple l (intItems xs)) (hne : 0 < xs.size)
    (h : ∀ v h' tk, (intItems xs)[argBest (fun i j => decide (numAt xs i < numAt xs j)) (xs.size - 1)]? = some v →
      (∀ b o, s.heap.get? b = some o → h'.get? b = some o) → Q v { s with heap := h', toks := tk }) :
    wpAny (model prog w) A (call (.builtin "min") [.ref l]) Q E s := by
  have hlt : l < s.heap.objs.size := by
    obtain ⟨_, e, _⟩ := hl
    exact Heap.lt_size e
  refine call_min_walk (wpAny_pyIter_tuple hl ?_)
  refine ⟨s.heap.objs.size, _, _, _, _, _, _, rfl, Walks.tuple (A := A.in1) hh _ l (Nat.ne_of_lt hlt) (intItems xs), ⟨⟨_, Heap.get?_push_size _ rfl, rfl, rfl⟩, hl.push _⟩, ?_, by simpa [intItems] using hne,
    CmpOf.ints_lt (numAt xs) (fun _ _ => intItems_at), ?_⟩
  · intro b hb
    show b < (s.heap.push _).objs.size
    rw [Heap.size_push]
    rcases List.mem_cons.mp hb with e | hb
    · rw [e]
      exact Nat.lt_succ_self _
    · have e := List.mem_singleton.mp hb
      rw [e]
      exact Nat.lt_succ_of_lt hlt
  · intro v h' tk hP hk
    exact h v h' tk (by simpa [intItems] using hP) (iter_tup_old (l := l) hk)
theorem call_minT (hc : X.calm = true) : CallR X (.builtin "min") (rMinT X.K) := by
  intro pins s σ H vs us Q I r hq
  obtain ⟨a, ns, rfl, ht, hne, q⟩ := hq
  obtain ⟨its, rv, tt, _⟩ := I.tuple ht
  rw [Vals.ref1 r]
  have hi := rv.ints
  obtain ⟨xs, ex⟩ := hi.allInts.items
  have en : numsOf (intItems xs).toList = ns := by
    rw [← ex]
    exact hi.numsOf
  rw [nums_intItems] at en
  subst en
  rw [ex] at tt
  have hsz : 0 < xs.size := by simpa using hne
  refine min_intTup (I.ok.hd hc) tt hsz fun v h' tk hv hk => ?_
  obtain ⟨t, rfl⟩ := intItems_at hv
  obtain ⟨h1, h2⟩ := argBest_lt (numAt xs) (xs.size - 1)
  refine ⟨.int _, H, I.kept hk, ⟨_, rfl⟩, q _ ?_ ?_⟩
  · rw [numAt_eq]
    exact PySem.getD_mem (by rw [List.length_map, Array.length_toList]; omega)
  · intro y hy
    obtain ⟨j, hj, rfl⟩ := mem_getD hy
    rw [List.length_map, Array.length_toList] at hj
    rw [← numAt_eq]
    exact h2 j (by omega)
end
/-- the def that the module's name x holds keeps the promise sp -/
def Ok (P : Program) (w : World) (K : PySem.W.Frag) (mg : Str → Option Value) (base : Heap) (CX : CXT) (k : Nat) (x : Str) (ps : List Str) (sp : Sp) : Prop :=
  ∃ fd : FuncData, FnOk P w K mg base CX k (He.ga K x) fd ps sp ∧ Binds K fd ps [] ∧ PySem.W.keepIn K (.ref (He.ga K x)) = true ∧ mg x = some (.ref (He.ga K x))
theorem Ok.mono {P : Program} {w : World} {K : PySem.W.Frag} {mg : Str → Option Value} {base : Heap} {CX : CXT} {j k : Nat} {x : Str} {ps : List Str} {sp : Sp}
    (O : Ok P w K mg base CX j x ps sp) (h : j ≤ k) : Ok P w K mg base CX k x ps sp := by
  obtain ⟨fd, F, b, kp, m⟩ := O
  exact ⟨fd, F.mono h, b, kp, m⟩
section
variable {X : Cx} {CX : CXT} {k : Nat} {ps : List Str} {sp : Sp} {E : XK} {x : Str} {p pos : Pos} {e : Expr} {es : List Expr} {t : TA}
/-- x(e, ..), x a def of the module -/
theorem cal (O : Ok X.prog X.w X.K X.mg X.base CX k x ps sp) (hr : Room k X.A) (hx : Passes CX X E) (ha : PA X (e :: es) t) (hg : Gl X x := by rfl)
    (hdb : (x == ("__debug__" : Str)) = false := by decide)
    (he : starEach (e :: es) X.env = (false, eval e X.env) :: starEach es X.env := by rfl) (hpl : (backTo pos (starEach es X.env)).any (·.1) = false := by rfl) :
    PE X (.Call (.Name x p) (e :: es) [] pos) (tCall sp [] E t) := by
  obtain ⟨fd, F, b, kp, m⟩ := O
  exact pe_call F hr hg m kp b .nil hx ha hdb he hpl
end
/-- a def of no default, by its body: nothing raised leaves it -/
theorem fnok_of {P : Program} {w : World} {K : PySem.W.Frag} {mg : Str → Option Value} {base : Heap} {CX : CXT} {k : Nat} {x qual : Str} {params : Arguments} {body : List Stmt} {scope : Scope} {N ps : List Str} {sp : Sp} {f : Addr} {fd : FuncData}
    (F : FunD K x qual params body scope [] [] f fd) (S : FnScope N ps scope)
    (len : ∀ vs H Q E, sp vs H Q E → vs.length = ps.length)
    (hbody : ∀ (cdv : Value) (A : Around) (outer : List Env) (s : Shared) (H : Hp) (vs : List V) (Q : VK) (E : XK),
      Room k (A.deeper (envOfC qual scope s.heap.objs.size f cdv)) → sp vs H Q E →
      ∃ t, PSs (cxOf CX P w K mg base N qual scope f cdv A outer s H E).nox body t ∧ t { nx := fun _ H' => Q .non H', rt := Q } (start N vs) H) :
    FnOk P w K mg base CX (k + 1) f fd ps sp := by
  refine F.ok S len fun cdv A outer s H vs Q E hr h => ?_
  obtain ⟨t, h1, h2⟩ := hbody cdv A outer s H vs Q E hr h
  exact ⟨t, h1.nox, h2⟩
theorem ok_of {P : Program} {w : World} {K : PySem.W.Frag} {mg : Str → Option Value} {base : Heap} {CX : CXT} {k : Nat} {x qual : Str} {params : Arguments} {body : List Stmt} {scope : Scope} {N ps : List Str} {sp : Sp}
    (F : ∃ fd, FunD K x qual params body scope [] [] (He.ga K x) fd) (g : mg x = some (.ref (He.ga K x))) (S : FnScope N ps scope)
    (hb : ∀ (kV doc pm : Value) (an : Option Addr) (cdv ct : Value) (us : List Value), us.length = ps.length →
      bindArgs (PySem.W.fnOf x qual params body scope .none kV doc pm an cdv ct) ⟨us, []⟩ = pure (ps.zip us))
    (len : ∀ vs H Q E, sp vs H Q E → vs.length = ps.length)
    (hbody : ∀ (cdv : Value) (A : Around) (outer : List Env) (s : Shared) (H : Hp) (vs : List V) (Q : VK) (E : XK),
      Room k (A.deeper (envOfC qual scope s.heap.objs.size (He.ga K x) cdv)) → sp vs H Q E →
      ∃ t, PSs (cxOf CX P w K mg base N qual scope (He.ga K x) cdv A outer s H E).nox body t ∧ t { nx := fun _ H' => Q .non H', rt := Q } (start N vs) H) :
    Ok P w K mg base CX (k + 1) x ps sp := by
  obtain ⟨fd, F⟩ := F
  exact ⟨fd, fnok_of F S len hbody, F.bindsN hb, F.kp, g⟩
/-- the same of a def that may raise -/
theorem ok_ofX {P : Program} {w : World} {K : PySem.W.Frag} {mg : Str → Option Value} {base : Heap} {CX : CXT} {k : Nat} {x qual : Str} {params : Arguments} {body : List Stmt} {scope : Scope} {N ps : List Str} {sp : Sp}
    (F : ∃ fd, FunD K x qual params body scope [] [] (He.ga K x) fd) (g : mg x = some (.ref (He.ga K x))) (S : FnScope N ps scope)
    (hb : ∀ (kV doc pm : Value) (an : Option Addr) (cdv ct : Value) (us : List Value), us.length = ps.length →
      bindArgs (PySem.W.fnOf x qual params body scope .none kV doc pm an cdv ct) ⟨us, []⟩ = pure (ps.zip us))
    (len : ∀ vs H Q E, sp vs H Q E → vs.length = ps.length)
    (hbody : ∀ (cdv : Value) (A : Around) (outer : List Env) (s : Shared) (H : Hp) (vs : List V) (Q : VK) (E : XK),
      Room k (A.deeper (envOfC qual scope s.heap.objs.size (He.ga K x) cdv)) → sp vs H Q E →
      ∃ t, PSs (cxOf CX P w K mg base N qual scope (He.ga K x) cdv A outer s H E) body t ∧ t { nx := fun _ H' => Q .non H', rt := Q } (start N vs) H) :
    Ok P w K mg base CX (k + 1) x ps sp := by
  obtain ⟨fd, F⟩ := F
  exact ⟨fd, F.ok S len hbody, F.bindsN hb, F.kp, g⟩
end My

namespace My
open PySem PySem.Spec PyProof.Rows L2
/-! ### values of the kinds that callers pass -/
def isI : V → Bool
  | .int _ => true
  | _ => false
def isB : V → Bool
  | .bl _ => true
  | _ => false
def ixB : V → Int → Bool
  | .int i, n => decide (0 ≤ i) && decide (i < n)
  | _, _ => false
inductive Kd (K : PySem.W.Frag) (H : Hp) : V → Prop
  | non : Kd K H .non
  | bl (b : Bool) : Kd K H (.bl b)
  | int (i : Int) : Kd K H (.int i)
  | str (x : Str) : Kd K H (.str x)
  | ref {a : Addr} {t : String} (h : TyX K H (.ref a) (.type t)) (ht : t = "list" ∨ t = "tuple" ∨ t = "dict") : Kd K H (.ref a)
theorem kd_int {K : PySem.W.Frag} {H : Hp} {v : V} (h : Kd K H v) : ∃ t, TyX K H v t ∧ PySem.W.kitOne K t (.type "int") = some (isI v || isB v) := by
  cases h with
  | non => exact ⟨_, .base .non, kit_ty (a := "NoneType") (b := "int") (r := false) (by decide +kernel)⟩
  | bl b => exact ⟨_, .base (.bl b), kit_ty (a := "bool") (b := "int") (r := true) (by decide +kernel)⟩
  | int i => exact ⟨_, .base (.int i), kit_ty (a := "int") (b := "int") (r := true) (by decide +kernel)⟩
  | str x => exact ⟨_, .base (.str x), kit_ty (a := "str") (b := "int") (r := false) (by decide +kernel)⟩
  | ref h ht =>
    refine ⟨_, h, ?_⟩
    rcases ht with rfl | rfl | rfl
    · exact kit_ty (a := "list") (b := "int") (r := false) (by decide +kernel)
    · exact kit_ty (a := "tuple") (b := "int") (r := false) (by decide +kernel)
    · exact kit_ty (a := "dict") (b := "int") (r := false) (by decide +kernel)
theorem kd_bool {K : PySem.W.Frag} {H : Hp} {v : V} (h : Kd K H v) : ∃ t, TyX K H v t ∧ PySem.W.kitOne K t (.type "bool") = some (isB v) := by
  cases h with
  | non => exact ⟨_, .base .non, kit_ty (a := "NoneType") (b := "bool") (r := false) (by decide +kernel)⟩
  | bl b => exact ⟨_, .base (.bl b), kit_ty (a := "bool") (b := "bool") (r := true) (by decide +kernel)⟩
  | int i => exact ⟨_, .base (.int i), kit_ty (a := "int") (b := "bool") (r := false) (by decide +kernel)⟩
  | str x => exact ⟨_, .base (.str x), kit_ty (a := "str") (b := "bool") (r := false) (by decide +kernel)⟩
  | ref h ht =>
    refine ⟨_, h, ?_⟩
    rcases ht with rfl | rfl | rfl
    · exact kit_ty (a := "list") (b := "bool") (r := false) (by decide +kernel)
    · exact kit_ty (a := "tuple") (b := "bool") (r := false) (by decide +kernel)
    · exact kit_ty (a := "dict") (b := "bool") (r := false) (by decide +kernel)
/-! ### rings, heights, needs: the mathematics -/
def rot (ns : List Int) (p : Nat) : List Int := ns.drop p ++ ns.take p
def hts : Int → List Int → List Int
  | _, [] => []
  | h, a :: r => (h + (1 - a)) :: hts (h + (1 - a)) r
def lo : List Int → Int
  | [] => 0
  | [x] => x
  | x :: y :: r => if x ≤ lo (y :: r) then x else lo (y :: r)
def pos0 (i : Int) : Int := if i > 0 then i else 0
def nd (ns : List Int) (p : Nat) : Int := pos0 (1 - lo (hts 0 (rot ns p)))
def bal (ns : List Int) : Int := (ns.length : Int) - ns.sum
def Ring (ns : List Int) : Prop := 1 ≤ ns.length ∧ ns.length ≤ 24 ∧ ∀ x ∈ ns, 0 ≤ x ∧ x ≤ 5
theorem rot_len (ns : List Int) (p : Nat) (h : p ≤ ns.length) : (rot ns p).length = ns.length := by
  unfold rot
  rw [List.length_append, List.length_drop, List.length_take]
  omega
theorem hts_len : ∀ (r : List Int) (h : Int), (hts h r).length = r.length
  | [], _ => rfl
  | a :: r, h => by
    show (hts (h + (1 - a)) r).length + 1 = r.length + 1
    rw [hts_len r]
theorem lo_mem : ∀ (l : List Int), l ≠ [] → lo l ∈ l
  | [], h => absurd rfl h
  | [x], _ => List.mem_cons_self
  | x :: y :: r, _ => by
    have ih := lo_mem (y :: r) (List.cons_ne_nil _ _)
    show (if x ≤ lo (y :: r) then x else lo (y :: r)) ∈ x :: y :: r
    by_cases q : x ≤ lo (y :: r)
    · rw [if_pos q]
      exact List.mem_cons_self
    · rw [if_neg q]
      exact List.mem_cons_of_mem _ ih
theorem lo_le : ∀ (l : List Int) (z : Int), z ∈ l → lo l ≤ z
  | [], _, h => by cases h
  | [x], z, h => by
    have e := List.mem_singleton.mp h
    subst e
    exact Int.le_refl _
  | x :: y :: r, z, h => by
    show (if x ≤ lo (y :: r) then x else lo (y :: r)) ≤ z
    have ih := lo_le (y :: r)
    by_cases q : x ≤ lo (y :: r)
    · rw [if_pos q]
      rcases List.mem_cons.mp h with e | h
      · subst e
        exact Int.le_refl _
      · exact Int.le_trans q (ih z h)
    · rw [if_neg q]
      rcases List.mem_cons.mp h with e | h
      · subst e
        omega
      · exact ih z h
theorem lo_uniq {l : List Int} {m : Int} (h1 : m ∈ l) (h2 : ∀ y ∈ l, m ≤ y) : m = lo l := by
  have ne : l ≠ [] := fun e => by
    subst e
    cases h1
  have a := h2 _ (lo_mem l ne)
  have b := lo_le l m h1
  omega
/-- the k-th height from the start -/
theorem hts_get : ∀ (r : List Int) (h : Int) (k : Nat), k < r.length → (hts h r)[k]? = some (h + ((k : Int) + 1) - (r.take (k + 1)).sum)
  | [], _, _, q => absurd q (Nat.not_lt_zero _)
  | a :: r, h, 0, _ => by
    show some (h + (1 - a)) = some _
    rw [List.take_succ_cons, List.take_zero, List.sum_cons, List.sum_nil]
    congr 1
    omega
  | a :: r, h, k + 1, q => by
    have ih := hts_get r (h + (1 - a)) k (Nat.lt_of_succ_lt_succ q)
    show (hts (h + (1 - a)) r)[k]? = _
    rw [ih, List.take_succ_cons, List.sum_cons]
    congr 1
    omega
/-! ### the least need of a ring -/
/-- puts minus takes of the first k tokens -/
def ps (ns : List Int) (k : Nat) : Int := (k : Int) - (ns.take k).sum
theorem sum_app : ∀ (a b : List Int), (a ++ b).sum = a.sum + b.sum
  | [], b => by
    rw [List.nil_append, List.sum_nil]
    omega
  | x :: a, b => by
    rw [List.cons_append, List.sum_cons, List.sum_cons, sum_app a b]
    omega
theorem ps_all (ns : List Int) : ps ns ns.length = bal ns := by
  unfold ps bal
  rw [List.take_length]
theorem ps_zero (ns : List Int) : ps ns 0 = 0 := by
  unfold ps
  rw [List.take_zero, List.sum_nil]
  rfl
theorem sum_drop_take (ns : List Int) (p k : Nat) : ((ns.drop p).take k).sum = (ns.take (p + k)).sum - (ns.take p).sum := by
  have e : ns.take (p + k) = ns.take p ++ (ns.drop p).take k := by
    rw [List.take_add]
  rw [e, sum_app]
  omega
theorem rot_ps (ns : List Int) (p k : Nat) (hp : p ≤ ns.length) (hk : k ≤ ns.length) :
    ((k : Int) - ((rot ns p).take k).sum) = if p + k ≤ ns.length then ps ns (p + k) - ps ns p else bal ns - ps ns p + ps ns (p + k - ns.length) := by
  unfold rot
  by_cases h : p + k ≤ ns.length
  · rw [if_pos h]
    have e : (ns.drop p ++ ns.take p).take k = (ns.drop p).take k := by
      rw [List.take_append_of_le_length]
      rw [List.length_drop]
      omega
    rw [e, sum_drop_take]
    unfold ps
    omega
  · rw [if_neg h]
    have e : (ns.drop p ++ ns.take p).take k = ns.drop p ++ ns.take (p + k - ns.length) := by
      rw [List.take_append, List.length_drop, List.take_of_length_le (l := ns.drop p) (by rw [List.length_drop]; omega), List.take_take]
      congr 2
      omega
    have e2 : (ns.drop p).sum = ns.sum - (ns.take p).sum := by
      have := sum_app (ns.take p) (ns.drop p)
      rw [List.take_append_drop] at this
      omega
    rw [e, sum_app, e2]
    unfold ps bal
    omega
theorem mem_get {l : List Int} {z : Int} (h : z ∈ l) : ∃ k, k < l.length ∧ l[k]? = some z := by
  obtain ⟨k, hk, e⟩ := List.getElem_of_mem h
  exact ⟨k, hk, by rw [List.getElem?_eq_getElem hk, e]⟩
theorem Ring.rot {ns : List Int} (h : Ring ns) (p : Nat) (hp : p ≤ ns.length) : Ring (rot ns p) := by
  obtain ⟨a, b, c⟩ := h
  refine ⟨by rw [rot_len ns p hp]; exact a, by rw [rot_len ns p hp]; exact b, fun x hx => c x ?_⟩
  unfold My.rot at hx
  rcases List.mem_append.mp hx with q | q
  · exact List.mem_of_mem_drop q
  · exact List.mem_of_mem_take q
end My
namespace My
open PySem PySem.Spec PyProof.Rows L2
theorem same_upd {H : Hp} {p : Addr} {o : HO} (h : H p = none) : Same H (upd H p o) := fun b x e => by
  rw [upd_ne (ne_of_none e h)]
  exact e
theorem same_seqT {K : PySem.W.Frag} {H H' : Hp} {a : Addr} {xs : List V} (e : Same H H') (h : SqT K H a xs) : SqT K H' a xs := by
  rcases h with (h | ⟨o, h⟩) | h
  · exact .inl (.inl (e _ _ h))
  · exact .inl (.inr ⟨o, e _ _ h⟩)
  · exact .inr h
/-- what the caller's tuple of ints is -/
abbrev TupI (K : PySem.W.Frag) (H : Hp) (a : Addr) (ns : List Int) : Prop := SqT K H a (ns.map V.int)
theorem tupI_of {K : PySem.W.Frag} {H : Hp} {a : Addr} {ns : List Int} (h : H a = some (.tup (ns.map V.int))) : TupI K H a ns := .inl (.inl h)
theorem lstI_of {K : PySem.W.Frag} {H : Hp} {a : Addr} {xs : List V} (h : H a = some (.lst xs)) : SqL K H a xs := .inl (.inl h)
theorem sz {n : Nat} (h : n ≤ 1000000) : n ≤ sizeLine := by
  rw [sizeLine_eq]
  omega
theorem szl {n : Nat} (h : n ≤ 1000000) : n < sizeLine := by
  rw [sizeLine_eq]
  omega
theorem cut_lo (xs : List V) (p : Nat) (h : p ≤ xs.length) : cutV xs (some (p : Int)) none = xs.drop p := by
  unfold cutV
  rw [show HT.sIx xs.length 0 (some (p : Int)) = min p xs.length from HT.sIx_nat xs.length 0 p, HT.sIx_none, Nat.min_eq_left h]
  rw [List.take_of_length_le]
  rw [List.length_drop]
  omega
theorem cut_hi (xs : List V) (p : Nat) (h : p ≤ xs.length) : cutV xs none (some (p : Int)) = xs.take p := by
  unfold cutV
  rw [show HT.sIx xs.length xs.length (some (p : Int)) = min p xs.length from HT.sIx_nat xs.length xs.length p, HT.sIx_none, Nat.min_eq_left h]
  show List.take (p - 0) (List.drop 0 xs) = _
  rw [List.drop_zero, Nat.sub_zero]
end My

namespace My
open PySem PySem.Spec PyProof.Rows L2
/-! ### the stream of draws: a list of the great cells, the list of all cells, the turn -/
structure Strm (H : Hp) (S A B : Addr) (t : Nat) : Prop where
  s : H S = some (.lst [.ref A, .ref B, .int t])
  a : ∃ as : List Int, H A = some (.lst (as.map V.int)) ∧ as.length ≤ 64
  b : ∃ bs : List Int, H B = some (.lst (bs.map V.int)) ∧ bs.length ≤ 64 ∧ 0 < bs.length
  sa : S ≠ A
  sb : S ≠ B
  ab : A ≠ B
/-- all but the stream stands -/
def SameX (S A : Addr) (H H' : Hp) : Prop := ∀ b o, H b = some o → b ≠ S → b ≠ A → H' b = some o
theorem SameX.refl (S A : Addr) (H : Hp) : SameX S A H H := fun _ _ h _ _ => h
theorem SameX.trans {S A : Addr} {H H1 H2 : Hp} (a : SameX S A H H1) (b : SameX S A H1 H2) : SameX S A H H2 := fun c o h x y => b c o (a c o h x y) x y
theorem Same.x {S A : Addr} {H H' : Hp} (a : Same H H') : SameX S A H H' := fun c o h _ _ => a c o h
theorem Strm.same {H H' : Hp} {S A B : Addr} {t : Nat} (x : Strm H S A B t) (e : Same H H') : Strm H' S A B t := by
  obtain ⟨s, ⟨as, a1, a2⟩, ⟨bs, b1, b2, b3⟩, n1, n2, n3⟩ := x
  exact ⟨e _ _ s, ⟨as, e _ _ a1, a2⟩, ⟨bs, e _ _ b1, b2, b3⟩, n1, n2, n3⟩
/-- another object is written -/
theorem Strm.upd {H : Hp} {S A B : Addr} {t : Nat} (x : Strm H S A B t) {d : Addr} {o : HO} (h1 : S ≠ d) (h2 : A ≠ d) (h3 : B ≠ d) : Strm (L2.upd H d o) S A B t := by
  obtain ⟨s, ⟨as, a1, a2⟩, ⟨bs, b1, b2, b3⟩, n1, n2, n3⟩ := x
  exact ⟨by rw [upd_ne h1]; exact s, ⟨as, by rw [upd_ne h2]; exact a1, a2⟩, ⟨bs, by rw [upd_ne h3]; exact b1, b2, b3⟩, n1, n2, n3⟩
theorem SameX.upd {S A : Addr} {H H' : Hp} (a : SameX S A H H') {d : Addr} {o : HO} (h : H d = none) : SameX S A H (L2.upd H' d o) := fun c z e x y => by
  rw [upd_ne (ne_of_none e h)]
  exact a c z e x y
theorem dpAll_ints {K : PySem.W.Frag} {H : Hp} : ∀ ns : List Int, DpAll K H (ns.map V.int) (ns.map PyData.int)
  | [] => .nil
  | n :: ns => .cons (.int n) (dpAll_ints ns)
theorem canLay_ints : ∀ ns : List Int, PyData.canLayAll0 (ns.map PyData.int) = true
  | [] => rfl
  | n :: ns => by
    show (true && PyData.canLayAll0 (ns.map PyData.int)) = true
    rw [canLay_ints ns]
    rfl
theorem depth_ints : ∀ ns : List Int, PyData.depthAll (ns.map PyData.int) ≤ 1
  | [] => Nat.zero_le _
  | n :: ns => Nat.max_le.mpr ⟨by first | exact Nat.le_refl _ | exact Nat.zero_le _, depth_ints ns⟩
theorem shaped_ints (ns : List Int) : SeqAt.shaped (.list (ns.map PyData.int)) = true := by
  unfold SeqAt.shaped
  have h1 : PyData.canLay0 (.list (ns.map PyData.int)) = true := canLay_ints ns
  have h2 : (PyData.list (ns.map PyData.int)).depth ≤ 2 := by
    have := depth_ints ns
    show _ + 1 ≤ 2
    omega
  rw [h1, decide_eq_true (by omega)]
  rfl
theorem eqv_ints_nil : ∀ ns : List Int, PyData.eqv (.list (ns.map PyData.int)) (.list []) = ns.isEmpty
  | [] => rfl
  | _ :: _ => rfl
theorem ixN_of {n j : Nat} (h : j < n) : ixN n (j : Int) = some j := by
  unfold ixN
  rw [if_pos (by omega), if_pos (by omega)]
  rfl
/-- // by a positive divisor of at most 36 digits -/
theorem op_fdivL {X : Cx} : OpR X (binaryOp .FloorDiv) (rI (fun _ j => 0 < j ∧ j < 1000000000000000000000000000000000000) fun i j => .int (i.fdiv j)) := opI fun i j _ _ _ _ _ hc q => by
  have h1 : (0 : Int) < j := hc.1
  have h2 : j < 1000000000000000000000000000000000000 := hc.2
  have h3 : j.natAbs < 2 ^ 200 := by
    have e : (2 : Nat) ^ 200 = 1606938044258990275541962092341162602522202993782792835301376 := by decide +kernel
    rw [e]
    omega
  have h4 : j.natAbs.log2 < 9000 := Nat.lt_of_lt_of_le (PySem.Flt.log2_lt_of (by decide) h3) (by decide)
  exact floordiv_int (by omega) q (.inl (PyProof.noPylong_of_log2 h4))
def spDraw (K : PySem.W.Frag) : Sp := fun vs H Q _ => ∃ (S A B : Addr) (t : Nat) (many : Int), vs = [.ref S, .int many] ∧ Strm H S A B t ∧ 0 < many ∧ many < 1000000000000000000000000000000000000 ∧ t < 1000000000 ∧
  ∀ H' t' v, SameX S A H H' → Strm H' S A B t' → t' ≤ t + 1 → 0 ≤ v → v < many → Q (.int v) H'
def spStream (K : PySem.W.Frag) : Sp := fun vs H Q _ => ∃ (a : Addr) (ns : List Int), vs = [.ref a] ∧ SqL K H a (ns.map V.int) ∧ ns.length ≤ 63 ∧
  ∀ H' S A B, Same H H' → H S = none → H A = none → H B = none → Strm H' S A B 0 → Q (.ref S) H'
def spPick (K : PySem.W.Frag) : Sp := fun vs H Q _ => ∃ (S A B : Addr) (t : Nat) (l : Addr) (xs : List V), vs = [.ref S, .ref l] ∧ Strm H S A B t ∧ t < 1000000000 ∧ SqL K H l xs ∧ l ≠ S ∧ l ≠ A ∧ 0 < xs.length ∧ xs.length < 1000000 ∧
  ∀ H' t' v, SameX S A H H' → Strm H' S A B t' → t' ≤ t + 1 → v ∈ xs → Q v H'
def spRing (K : PySem.W.Frag) : Sp := fun vs H Q _ => ∃ (S A B : Addr) (t : Nat) (most : Int), vs = [.ref S, .int most] ∧ Strm H S A B t ∧ t < 900000000 ∧ 0 < most ∧ most ≤ 24 ∧
  ∀ H' t' r ns, SameX S A H H' → Strm H' S A B t' → t' ≤ t + 200 → H r = none → H' r = some (.tup (ns.map V.int)) → Ring ns → (ns.length : Int) ≤ most → Q (.ref r) H'
theorem fmod_nn {a b : Int} (h : 0 < b) : 0 ≤ a.fmod b := by
  rw [Int.fmod_eq_emod_of_nonneg _ (Int.le_of_lt h)]
  exact Int.emod_nonneg _ (Int.ne_of_gt h)
theorem fmod_lt' {a b : Int} (h : 0 < b) : a.fmod b < b := by
  rw [Int.fmod_eq_emod_of_nonneg _ (Int.le_of_lt h)]
  exact Int.emod_lt_of_pos _ h
end My
namespace My
open PySem PySem.Spec PyProof.Rows L2
/-- a list of arities to pick from, apart from the stream -/
def Menu (S A : Addr) (H : Hp) (v : V) : Prop := ∃ (m : Addr) (ks : List Int), v = .ref m ∧ H m = some (.lst (ks.map V.int)) ∧ m ≠ S ∧ m ≠ A ∧ 0 < ks.length ∧ ks.length ≤ 10 ∧ ∀ k ∈ ks, 0 ≤ k ∧ k ≤ 5
theorem Menu.x {S A : Addr} {H H' : Hp} {v : V} (h : Menu S A H v) (e : SameX S A H H') : Menu S A H' v := by
  obtain ⟨m, ks, h1, h2, h3, h4, h5⟩ := h
  exact ⟨m, ks, h1, e _ _ h2 h3 h4, h3, h4, h5⟩
theorem Menu.new {S A B : Addr} {t : Nat} {H : Hp} (st : Strm H S A B t) {m : Addr} (nm : H m = none) (ks : List Int) (h1 : 0 < ks.length) (h2 : ks.length ≤ 10) (h3 : ∀ k ∈ ks, 0 ≤ k ∧ k ≤ 5) : Menu S A (upd H m (.lst (ks.map V.int))) (.ref m) := by
  obtain ⟨as, ha, _⟩ := st.a
  exact ⟨m, ks, rfl, upd_same, Ne.symm (ne_of_none st.s nm), Ne.symm (ne_of_none ha nm), h1, h2, h3⟩
def Tok5 (ks : List Int) : Prop := ∀ k ∈ ks, 0 ≤ k ∧ k ≤ 5
theorem Tok5.set {ks : List Int} (h : Tok5 ks) {j : Nat} {z : Int} (h0 : 0 ≤ z) (h5 : z ≤ 5) : Tok5 (ks.set j z) := fun k hk => by
  rcases List.mem_or_eq_of_mem_set hk with q | q
  · exact h k q
  · subst q
    exact ⟨h0, h5⟩
theorem map_set_int (ks : List Int) (j : Nat) (z : Int) : (ks.map V.int).set j (.int z) = (ks.set j z).map V.int := by
  rw [List.map_set]
theorem get_map_int {ks : List Int} {j : Nat} (h : j < ks.length) : (ks.map V.int)[j]? = some (.int ks[j]) := by
  rw [List.getElem?_map, List.getElem?_eq_getElem h]
  rfl
end My

namespace My
open PySem PySem.Spec PyProof.Rows L2
/-! ### repr of data of any depth -/
/-- data whose text is short enough -/
structure Fit (n k : Nat) (d : PyData) : Prop where
  sh : d.showable = true
  lv : d.leavesShort 40 = true
  bk : d.bulk ≤ n
  dp : d.depth ≤ k
structure FitAll (n k : Nat) (ds : List PyData) : Prop where
  sh : PyData.showableAll ds = true
  lv : PyData.leavesShortAll 40 ds = true
  bk : PyData.bulkAll ds ≤ n
  dp : PyData.depthAll ds ≤ k
theorem fitAll_nil (n k : Nat) : FitAll n k [] := ⟨rfl, rfl, Nat.zero_le _, Nat.zero_le _⟩
theorem fitAll_cons {n m k : Nat} {d : PyData} {ds : List PyData} (a : Fit n k d) (b : FitAll m k ds) : FitAll (n + 1 + m) k (d :: ds) := by
  obtain ⟨a1, a2, a3, a4⟩ := a
  obtain ⟨b1, b2, b3, b4⟩ := b
  refine ⟨?_, ?_, ?_, ?_⟩
  · show (_ && _) = true
    rw [a1, b1]
    rfl
  · show (_ && _) = true
    rw [a2, b2]
    rfl
  · show d.bulk + 1 + PyData.bulkAll ds ≤ _
    omega
  · show max d.depth (PyData.depthAll ds) ≤ k
    exact Nat.max_le.mpr ⟨a4, b4⟩
theorem fit_list {n k : Nat} {ds : List PyData} (a : FitAll n k ds) : Fit n (k + 1) (.list ds) := ⟨a.sh, a.lv, a.bk, Nat.succ_le_succ a.dp⟩
theorem fit_tuple {n k : Nat} {ds : List PyData} (a : FitAll n k ds) : Fit n (k + 1) (.tuple ds) := ⟨a.sh, a.lv, a.bk, Nat.succ_le_succ a.dp⟩
theorem Fit.mono {n m k j : Nat} {d : PyData} (a : Fit n k d) (h1 : n ≤ m) (h2 : k ≤ j) : Fit m j d := ⟨a.sh, a.lv, Nat.le_trans a.bk h1, Nat.le_trans a.dp h2⟩
theorem FitAll.mono {n m k j : Nat} {d : List PyData} (a : FitAll n k d) (h1 : n ≤ m) (h2 : k ≤ j) : FitAll m j d := ⟨a.sh, a.lv, Nat.le_trans a.bk h1, Nat.le_trans a.dp h2⟩
theorem fit_none (n k : Nat) : Fit n k .none := ⟨rfl, rfl, Nat.zero_le _, Nat.zero_le _⟩
theorem fit_bool (n k : Nat) (b : Bool) : Fit n k (.bool b) := ⟨rfl, rfl, Nat.zero_le _, Nat.zero_le _⟩
theorem log_of {i : Int} (h : i.natAbs < 10 ^ 30) : i.natAbs.log2 < 1920 := by
  by_cases e : i.natAbs = 0
  · rw [e]
    decide
  · refine (Nat.log2_lt e).mpr (Nat.lt_of_lt_of_le h ?_)
    exact Nat.le_trans (show 10 ^ 30 ≤ 2 ^ 100 by decide) (Nat.pow_le_pow_right (show 0 < 2 by decide) (show 100 ≤ 1920 by decide))
theorem fit_int (n k : Nat) {i : Int} (h : i.natAbs < 10 ^ 30) : Fit n k (.int i) := by
  have e1 : (toString i).length ≤ 31 := int_text_length_le10 (by decide) h
  have e2 : (PyData.shown (.int i)).length ≤ 40 := by
    show (Str.ofString (toString i)).length ≤ 40
    rw [PySem.ofString_length]
    omega
  exact ⟨decide_eq_true (log_of h), decide_eq_true e2, Nat.zero_le _, Nat.zero_le _⟩
theorem fitAll_ints : ∀ (ns : List Int) (k : Nat), (∀ x ∈ ns, x.natAbs < 10 ^ 30) → FitAll ns.length k (ns.map PyData.int)
  | [], k, _ => fitAll_nil _ _
  | x :: ns, k, h => by
    have a := fitAll_cons (fit_int 0 k (h x List.mem_cons_self)) (fitAll_ints ns k fun y hy => h y (List.mem_cons_of_mem _ hy))
    exact a.mono (by show 0 + 1 + ns.length ≤ ns.length + 1; omega) (Nat.le_refl _)
theorem Fit.text {d : PyData} (a : Fit 100000 50 d) : d.shown.length ≤ sizeLine := by
  have h := PyData.shown_le_bulk 40 (by decide) d a.lv
  have h2 := a.bk
  rw [sizeLine_eq]
  omega
/-! what a value is as data; b: dicts may occur in it -/
mutual
inductive Dq (b : Bool) (K : PySem.W.Frag) (H : Hp) : V → PyData → Prop
  | non : Dq b K H .non .none
  | bl (x : Bool) : Dq b K H (.bl x) (.bool x)
  | int (i : Int) : Dq b K H (.int i) (.int i)
  | str (x : Str) : Dq b K H (.str x) (.str x)
  | lst {a : Addr} {xs : List V} {ds : List PyData} : SqL K H a xs → (b = true → a ≠ sysModules) → DqAll b K H xs ds → Dq b K H (.ref a) (.list ds)
  | tup {a : Addr} {xs : List V} {ds : List PyData} : SqT K H a xs → DqAll b K H xs ds → Dq b K H (.ref a) (.tuple ds)
  | dic {a : Addr} {kvs : List (Str × Int)} : b = true → H a = some (.dK (kvs.map fun p => ((Sum.inr p.1 : Key), V.int p.2))) → Dq b K H (.ref a) (.dict (kvs.map fun p => (PyData.str p.1, PyData.int p.2)))
inductive DqAll (b : Bool) (K : PySem.W.Frag) (H : Hp) : List V → List PyData → Prop
  | nil : DqAll b K H [] []
  | cons {v : V} {vs : List V} {d : PyData} {ds : List PyData} : Dq b K H v d → DqAll b K H vs ds → DqAll b K H (v :: vs) (d :: ds)
end
mutual
theorem Dq.same {b : Bool} {K : PySem.W.Frag} {H H' : Hp} (e : Same H H') : ∀ {v : V} {d : PyData}, Dq b K H v d → Dq b K H' v d
  | _, _, .non => .non
  | _, _, .bl x => .bl x
  | _, _, .int i => .int i
  | _, _, .str x => .str x
  | _, _, .lst h n a => .lst (e.seq h) n (DqAll.same e a)
  | _, _, .tup h a => .tup (same_seqT e h) (DqAll.same e a)
  | _, _, .dic h1 h2 => .dic h1 (e _ _ h2)
theorem DqAll.same {b : Bool} {K : PySem.W.Frag} {H H' : Hp} (e : Same H H') : ∀ {vs : List V} {ds : List PyData}, DqAll b K H vs ds → DqAll b K H' vs ds
  | _, _, .nil => .nil
  | _, _, .cons h a => .cons (Dq.same e h) (DqAll.same e a)
end
section
variable {X : Cx} {pins : List (Addr × Obj)} {σ : L2.St} {H : Hp} {s : Shared}
theorem dic_reads {P : Program} {w : World} : ∀ (kvs : List (Str × Int)) (vs : List (Key × Value)) (es : List DictEntry) (h : Heap),
    KV (kvs.map fun p => ((Sum.inr p.1 : Key), V.int p.2)) vs → Pairs (mixKind P w) es vs →
    ReadsAll h (es.map (·.key)) ((kvs.map fun p => (PyData.str p.1, PyData.int p.2)).map (·.1)) [] ∧ ReadsAll h (es.map (·.val)) ((kvs.map fun p => (PyData.str p.1, PyData.int p.2)).map (·.2)) []
  | [], vs, es, h, r, q => by
    cases r
    cases q
    exact ⟨.nil, .nil⟩
  | p :: kvs, vs, es, h, r, q => by
    cases r with
    | cons r1 r2 =>
      cases q with
      | cons q1 q2 q3 =>
        obtain ⟨a1, a2⟩ := dic_reads kvs _ _ h r2 q3
        obtain ⟨e1, t, e2⟩ := r1
        rw [← e1] at q1
        have q1 : keyIs (Sum.inr p.1) _ = true := q1
        rcases keyIs_shape q1 with ⟨i, t2, ek, _⟩ | ⟨x, t2, ek, ev⟩
        · cases ek
        · cases ek
          refine ⟨?_, ?_⟩
          · have := ReadsAll.cons (h := h) (Reads.str p.1 t2) a1
            rw [← ev] at this
            exact this
          · have := ReadsAll.cons (h := h) (Reads.int p.2 t) a2
            rw [← e2, ← q2] at this
            exact this
mutual
theorem Dq.reads {b : Bool} (I : Inv X pins σ H s) : ∀ (d : PyData) (v : V) (u : Value), Dq b X.K H v d → RelV v u → ∃ as, Reads s.heap u d as ∧ (b = true → sysModules ∉ as) ∧ (b = false → d.hasDict = false)
  | .none, _, _, h, r => by
    cases h
    cases r
    exact ⟨_, Reads.none, (fun _ z => nomatch z), fun _ => rfl⟩
  | .bool x, _, _, h, r => by
    cases h
    cases r
    exact ⟨_, Reads.bool x, (fun _ z => nomatch z), fun _ => rfl⟩
  | .int i, _, _, h, r => by
    cases h
    obtain ⟨t, rfl⟩ := r
    exact ⟨_, Reads.int i t, (fun _ z => nomatch z), fun _ => rfl⟩
  | .str x, _, _, h, r => by
    cases h
    obtain ⟨t, rfl⟩ := r
    exact ⟨_, Reads.str x t, (fun _ z => nomatch z), fun _ => rfl⟩
  | .list ds, _, _, h, r => by
    cases h with
    | lst hs hn ha =>
      cases r
      obtain ⟨its, rv, ⟨o, n, ho, hc, _, hd⟩, _⟩ := I.list hs
      obtain ⟨as, q, q1, q2⟩ := DqAll.reads I ds _ its ha rv
      refine ⟨_, Reads.list ho hc hd q, fun e z => ?_, q2⟩
      rcases List.mem_cons.mp z with z | z
      · exact hn e z.symm
      · exact q1 e z
  | .tuple ds, _, _, h, r => by
    cases h with
    | tup hs ha =>
      cases r
      obtain ⟨its, rv, ⟨o, ho, hc, n, hd⟩, _⟩ := I.tuple hs
      obtain ⟨as, q, q1, q2⟩ := DqAll.reads I ds _ its ha rv
      exact ⟨_, Reads.tuple ho hc hd q, q1, q2⟩
  | .dict _, _, _, h, r => by
    cases h with
    | dic hb hd =>
      cases r
      obtain ⟨_, hm, vs, rv, o, es, ep, ho, ⟨hc, _⟩, hdat, _, pr, _⟩ := I.hok _ _ hd
      obtain ⟨a1, a2⟩ := dic_reads _ _ _ s.heap rv pr
      refine ⟨_, Reads.dict ho hc hdat a1 a2, fun _ z => ?_, fun e => ?_⟩
      · rcases List.mem_cons.mp z with z | z
        · rw [← z] at hm
          exact absurd hm (by decide)
        · cases z
      · rw [hb] at e
        cases e
theorem DqAll.reads {b : Bool} (I : Inv X pins σ H s) : ∀ (ds : List PyData) (vs : List V) (us : List Value), DqAll b X.K H vs ds → Vals vs us → ∃ as, ReadsAll s.heap us ds as ∧ (b = true → sysModules ∉ as) ∧ (b = false → PyData.hasDictAll ds = false)
  | [], _, _, h, r => by
    cases h
    cases r
    exact ⟨_, ReadsAll.nil, (fun _ z => nomatch z), fun _ => rfl⟩
  | d :: ds, _, _, h, r => by
    cases h with
    | cons h1 h2 =>
      cases r with
      | cons r1 r2 =>
        obtain ⟨as, q, q1, q2⟩ := Dq.reads I d _ _ h1 r1
        obtain ⟨bs, p, p1, p2⟩ := DqAll.reads I ds _ _ h2 r2
        refine ⟨_, ReadsAll.cons q p, fun e z => ?_, fun e => ?_⟩
        · rcases List.mem_append.mp z with z | z
          · exact q1 e z
          · exact p1 e z
        · show (d.hasDict || PyData.hasDictAll ds) = false
          rw [q2 e, p2 e]
          rfl
end
end
section
variable {X : Cx}
/-- repr(x) -/
def rRepr (K : PySem.W.Frag) : List V → Hp → VK → Prop := fun xs H Q => ∃ (b : Bool) (v : V) (d : PyData), xs = [v] ∧ Dq b K H v d ∧ Fit 100000 50 d ∧ Q (.str d.shown) H
theorem call_repr (hg : X.A.guards = some []) (hu : X.A.units + 64 < cLine) : CallR X (.builtin "repr") (rRepr X.K) := by
  intro pins s σ H xs us Q I r hq
  obtain ⟨b, v, d, rfl, dq, ft, q⟩ := hq
  obtain ⟨u, rfl, rx⟩ := vals1 r
  obtain ⟨as, rd, n1, n2⟩ := Dq.reads I d v u dq rx
  have hsm : d.hasDict = true → sysModules ∉ as := fun e => by
    cases b with
    | true => exact n1 rfl
    | false =>
      rw [n2 rfl] at e
      cases e
  have tx := ft.text
  have dp := ft.dp
  have big : ∀ (a : Addr), u = .ref a → wpAny (model X.prog X.w) X.A (call (.builtin "repr") [u]) (EP X pins σ Q) X.xe s := fun a e => by
    subst e
    exact repr_of_reads' rd ft.sh hsm hg (by omega) (fun _ _ e => e) (fun h' u2 tk hk => ⟨.str _, H, I.kept hk, ⟨_, rfl⟩, q⟩) tx
  cases rd with
  | none => exact PySem.P.repr_of_none ⟨.str _, H, I.tok _, ⟨_, rfl⟩, q⟩
  | bool x =>
    refine PySem.P.repr_of_bool ⟨.str _, H, I.tok _, ⟨_, rfl⟩, ?_⟩
    cases x <;> exact q
  | int i t => exact PySem.P.repr_of_int (of_decide_eq_true ft.sh) ⟨.str _, H, I.tok _, ⟨_, rfl⟩, q⟩
  | str x t => exact PySem.P.repr_of_str ⟨.str _, H, I.tok _, ⟨_, rfl⟩, q⟩ tx
  | list _ _ _ _ => exact big _ rfl
  | tuple _ _ _ _ => exact big _ rfl
  | dict _ _ _ _ _ => exact big _ rfl
end
end My

namespace My
open PySem PySem.Spec PyProof.Rows L2
/-! ### the law's own def where it is known that no repr runs around it -/
/-- a def's run at a caller around whom nothing is being shown -/
def RunG (P : Program) (w : World) (K : PySem.W.Frag) (mg : Str → Option Value) (base : Heap) (k : Nat) (f : Addr) (fd : FuncData) (ps : List Str) (sp : Sp) : Prop :=
  ∀ (Ar : Around) (st0 : Shared) (hp : Hp) (vals : List Value) (vs : List V) (Q : VK) (E : XK), Ar.guards = some [] → Room k Ar →
    Env0 P w K mg base Ar [] st0 hp → BindsTo st0 fd ⟨vals, []⟩ (ps.zip vals) → Vals vs vals → sp vs hp Q E →
    codeAny (model P w) Ar (.call (.ref f) ⟨vals, []⟩) (CR CX0 [] P w hp st0 Q E) st0
theorem runG_of {P : Program} {w : World} {K : PySem.W.Frag} {mg : Str → Option Value} {base : Heap} {k : Nat} {x qual : Str} {params : Arguments} {body : List Stmt} {scope : Scope} {N ps : List Str} {sp : Sp} {f : Addr} {fd : FuncData}
    (F : FunD K x qual params body scope [] [] f fd) (S : FnScope N ps scope)
    (len : ∀ vs H Q E, sp vs H Q E → vs.length = ps.length)
    (hbody : ∀ (cdv : Value) (A : Around) (outer : List Env) (s : Shared) (H : Hp) (vs : List V) (Q : VK) (E : XK), A.guards = some [] →
      Room k (A.deeper (envOfC qual scope s.heap.objs.size f cdv)) → sp vs H Q E →
      ∃ t, PSs (cxOf CX0 P w K mg base N qual scope f cdv A outer s H E).nox body t ∧ t { nx := fun _ H' => Q .non H', rt := Q } (start N vs) H) :
    RunG P w K mg base (k + 1) f fd ps sp := by
  intro Ar st0 hp vals vs Q E hgd room env0 bnd rel hsp
  obtain ⟨c1, c2, c3, c4, c5, c6, c7, code, c9, c10, rfl, found, coded, _, _⟩ := F.ex
  have same := len _ _ _ _ hsp
  have stands : ∀ b o, base.get? b = some o → st0.heap.get? b = some o := fun b o e => (env0.bs b o e).1
  have kin := env0.mod.kin.keeps stands
  have free := env0.mod.nolimit.keeps stands
  refine codeAny_call_function room.depth (kin _ _ found) rfl S.co S.gen rfl
    (PySem.W.codeRec_of kin coded) (bnd _ _ _ _ ?_)
  refine wpAny_newFunctionEnv_cells S.kind (fun y hy => ?_) fun env isEnv st1 made => ?_
  · obtain ⟨n, v⟩ := y
    rcases S.par n (List.of_mem_zip hy).1 with z | z
    · exact Or.inl z
    · exact Or.inr ⟨z, PySem.W.cellsFrom_some _ _ _ (Or.inl z)⟩
  subst isEnv
  refine ⟨free.keeps made.toInCall.keep, codeAny_func ?_⟩
  obtain ⟨t, der, rd⟩ := hbody code Ar [] st0 hp vs Q E hgd (room.deeper _) hsp
  have start0 := inv_start (CX := CX0) (E := E) S room.hd env0 same rel made
  refine wpAny_mono (der.nox.run [] st1 (start N vs) hp _ start0 rd) (fun fl st2 post => ?_) fun e st2 post => post
  cases fl with
  | ret u =>
    obtain ⟨v, σ2, H2, J, rv, q⟩ := post
    exact ⟨v, H2, J.os, J.bare, J.base, J.hok, rv, q⟩
  | next =>
    obtain ⟨σ2, H2, J, q⟩ := post
    exact ⟨V.non, H2, J.os, J.bare, J.base, J.hok, rfl, q⟩
  | brk =>
    obtain ⟨_, _, _, q⟩ := post
    exact q.elim
  | cont =>
    obtain ⟨_, _, _, q⟩ := post
    exact q.elim
/-- the heap at the law's entry: what is tracked there -/
theorem entry_heap {P : Program} {w : World} {K : PySem.W.Frag} {s₁ : Shared} {a : Addr} {vs : List Value} {ns : List Int} (kin : K.In s₁.heap)
    (ha : s₁.heap.get? a = some { cls := .type "list", data := .seq vs.toArray }) (hi : IntsAre vs ns) (hl : ns.length ≤ sizeLine) :
    ∃ H : Hp, Only H ∧ SqL K H a (ns.map V.int) ∧ HOk P w H s₁.heap ∧ (∀ b u, H b = some u → b = a) ∧ ∀ b o u, K.lookup b = some o → H b = some u → False := by
  have rel := vals_ints hi
  cases look : K.lookup a with
  | some o =>
    have same := kin a o look
    rw [ha] at same
    cases same
    refine ⟨fun _ => none, fun _ => Or.inl rfl, Or.inr ⟨_, vs.toArray, _, look, rfl, rfl, rfl, ?_, by simpa using rel⟩, ?_, ?_, ?_⟩
    · rw [List.size_toArray, hi.length]
      exact hl
    · intro b u e
      cases (show (none : Option HO) = some u from e)
    · intro b u e
      cases (show (none : Option HO) = some u from e)
    · intro b o u _ e
      cases (show (none : Option HO) = some u from e)
  | none =>
    refine ⟨upd (fun _ => none) a (.frz { cls := .type "list", data := .seq vs.toArray } (.lst (ns.map V.int))), fun b => ?_, Or.inl (Or.inr ⟨_, upd_same⟩), fun b u e => ?_, fun b u e => ?_, fun b o u e1 e2 => ?_⟩
    · by_cases hb : b = a
      · rw [hb]
        exact Or.inr ⟨_, _, upd_same⟩
      · exact Or.inl (upd_ne hb)
    · by_cases hb : b = a
      · rw [hb, upd_same] at e
        cases e
        rw [hb]
        exact ⟨ha, by rw [List.length_map]; exact hl, vs, _, rel, ha⟩
      · rw [upd_ne hb] at e
        cases e
    · by_cases hb : b = a
      · exact hb
      · rw [upd_ne hb] at e
        cases e
    · by_cases hb : b = a
      · rw [hb, look] at e1
        cases e1
      · rw [upd_ne hb] at e2
        cases e2
theorem law_callG {P : Program} {w : World} {K : PySem.W.Frag} {mg mb : Str → Option Value} {k : Nat} {fa a : Addr} {fd : FuncData} {x : Str} {sp : Sp} {s₁ : Shared} {vs : List Value} {ns : List Int}
    (kin : K.In s₁.heap) (glob : s₁.heap.Ns mainGlobals mg) (bns : s₁.heap.Ns builtinsNs mb) (bboot : ∀ y : Str, y ≠ "__name__" → mb y = bootBuiltins y) (nolim : s₁.heap.NoLimit) (gens : s₁.gens = #[])
    (ha : s₁.heap.get? a = some { cls := .type "list", data := .seq vs.toArray }) (hi : IntsAre vs ns) (hl : ns.length ≤ sizeLine) (room : Room k callerA)
    (R : ∀ base : Heap, K.In base → base.Ns mainGlobals mg → RunG P w K mg base k fa fd [x] sp) (bnd : ∀ (s : Shared) (u : Value), BindsTo s fd ⟨[u], []⟩ [(x, u)])
    (hsp : ∀ H : Hp, Only H → SqL K H a (ns.map V.int) → sp [.ref a] H (fun v _ => v = .bl true) fun _ _ _ => False) :
    codeAny (model P w) callerA (.call (.ref fa) ⟨[.ref a], []⟩)
      (fun r s' => r = .ok (.ret (.bool true)) ∧ OldK s₁.heap s'.heap ∧ s'.os = s₁.os ∧ AllBare s'.gens) s₁ := by
  obtain ⟨H, only, sq, ok, isA, offK⟩ := entry_heap (P := P) (w := w) kin ha hi hl
  have away : ∀ {b : Addr} {o : Obj} {es : Array DictEntry} {ep : Nat}, s₁.heap.get? b = some o → o.data = .dict es ep → H b = none := by
    intro b o es ep e d
    cases q : H b with
    | none => rfl
    | some u =>
      rw [isA b u q, ha] at e
      cases e
      cases (show Data.seq vs.toArray _ = Data.dict es ep from d)
  have names : ∀ {b : Addr} {m : Str → Option Value}, s₁.heap.Ns b m → (hidT s₁.heap H).Ns b m := by
    intro b m z
    obtain ⟨o, es, ep, e, d, more⟩ := z
    exact ⟨o, es, ep, hidT_get e (away e d), d, more⟩
  have kin2 : K.In (hidT s₁.heap H) := by
    intro b o e
    refine hidT_get (kin b o e) ?_
    cases q : H b with
    | none => rfl
    | some u => exact (offK b o u e q).elim
  have lim2 : (hidT s₁.heap H).NoLimit := by
    obtain ⟨mc, z1, z2⟩ := nolim
    exact ⟨mc, names z1, z2⟩
  have e0 : Env0 P w K mg (hidT s₁.heap H) callerA [] s₁ H := by
    refine ⟨rfl, ⟨kin2, names glob, ⟨mb, names bns, bboot⟩, lim2⟩, fun b o e => of_hidT e, Nat.le_of_eq (hidT_size _ _), trivial, ?_, ok, AllBare.of_eq gens⟩
    intro b hb
    cases (show b ∈ ([] : List Addr) from hb)
  refine codeAny_mono (R _ kin2 (names glob) callerA s₁ H [.ref a] [.ref a] _ _ rfl room e0 (bnd s₁ (.ref a)) (.cons rfl .nil) (hsp H only sq)) fun r s2 post => ?_
  cases r with
  | error e => exact (show False from post).elim
  | ok fl =>
    cases fl with
    | ret u =>
      obtain ⟨v, H2, hos, bare, un, ok2, rv, q⟩ := post
      have q : v = .bl true := q
      subst q
      have ru : u = Value.bool true := rv
      subst ru
      refine ⟨rfl, OldK.of_keep fun b o e => ?_, hos, bare⟩
      cases z : H b with
      | none =>
        refine un.keep b o e z (fun y => ?_) (fun y => ?_)
        · cases (show b ∈ ([] : List Addr) from y)
        · cases y
      | some u2 =>
        rcases only b with y | ⟨ob, xs, y⟩
        · rw [z] at y
          cases y
        · obtain ⟨g1, _⟩ := ok b _ y
          obtain ⟨g2, _⟩ := ok2 b _ (un.frzs b ob _ y)
          rw [e] at g1
          cases g1
          exact g2
    | next => exact (show False from post).elim
    | brk => exact (show False from post).elim
    | cont => exact (show False from post).elim
/-- a law's end over a head by facts, its def's run told at its own caller -/
theorem walk_ofG {l : PySem.W.OpenLaw} {n k : Nat} {q : Program} {loose : List Str} {XP : (Str → Option Value) → Heap → Prop} {YP : World → Heap → Prop} {d : DefRec} {x : Str}
    (hn : l.most = some n) (hn2 : n ≤ sizeLine) (hdf : d.params.defaults = []) (hr : Room k callerA)
    (F : ∀ (w : World) (mg : Str → Option Value) (fa : Addr) (h : Heap), YP w h → h.Ns mainGlobals mg → mg d.name = some (.ref fa) →
      ∃ (K : PySem.W.Frag) (fd : FuncData) (sp : Sp), K.In h ∧ (∀ (s : Shared) (u : Value), BindsTo s fd ⟨[u], []⟩ [(x, u)]) ∧
        (∀ (H : Hp) (a : Addr) (ns : List Int), ns.length ≤ n → Only H → SqL K H a (ns.map V.int) → sp [.ref a] H (fun v _ => v = .bl true) fun _ _ _ => False) ∧
        ∀ base : Heap, K.In base → base.Ns mainGlobals mg → RunG l.prog w K mg base k fa fd [x] sp) :
    PySem.W.WalkO q loose XP YP l.row.toRowW d [] (fun f vs => PySem.call f vs) := by
  refine Att.attach_call hn hdf fun w t0 t1 mg mb fa o pm cd doc a vs ns G Y ho hd hcd hmg ha hi hlen hg => ?_
  obtain ⟨K, fd, sp, kin, bnd, hsp, R⟩ := F w mg fa _ Y G.T.g hmg
  exact law_callG kin G.T.g G.T.b G.T.builtins G.T.nolimit hg ha hi (Nat.le_trans hlen hn2) hr R bnd fun H o1 o2 => hsp H a ns hlen o1 o2
end My

namespace My
open PySem PySem.Spec PyProof.Rows L2
/-! ### a stack that is filled up where a token finds too few values: (depth, missing) -/
end My
namespace My
open PySem PySem.Spec PyProof.Rows L2
end My

/-! ### an error of an own class over any built-in base, with one field: stored -/
namespace PySem
namespace NX
open PySem.W PySem.Calls PyProof.Rows PySem.HandSPX
theorem osaB {prog : Program} {w : World} {A : Around} {R : Result → Shared → Prop} {hp : Heap} {g : Array GenState} {d : Drawn} {t : Nat} {os : OsState} {K : Frag} {name : Str} {tk : Tok} {v : Value} {x C t1 : Addr} {B : String} {bmB : List Value}
    (SF : StoreFacts B bmB "object.__setattr__" "object") (X : K.In hp) (hx : hp.get? x = some (excO C t1)) (ov : excOver K C bmB = true) (tkr : takerIn K C name = some none) (hdi : hasDictIn K C = true)
    (hq : ∀ h' tk' dx, (∀ b o, b ≠ x → hp.get? b = some o → h'.get? b = some o) → hp.objs.size ≤ dx → dx ≠ x →
      h'.get? x = some { cls := .ref C, dict := some dx, data := .fields #[.ref t1, .none, .none, .none, .bool false, .none] } →
      h'.Ns1 dx (fun y => if y = name then some v else none) → R (.ok (.ret .none)) ⟨h', g, d, tk', os⟩) :
    codeAny (model prog w) A (.call (.builtin "object.__setattr__") ⟨[.ref x, .str name tk, v], []⟩) R ⟨hp, g, d, t, os⟩ := by
  refine osa_openX (s := ⟨hp, g, d, t, os⟩) (od := none) SF X ⟨hx, rfl, rfl, trivial⟩ ov tkr fun b => ?_
  obtain ⟨cd, look, dict⟩ := any_some hdi
  have small : x < hp.objs.size := Heap.lt_size hx
  have apart : x ≠ hp.objs.size := Nat.ne_of_lt small
  have there : (hp.push (dictOf [] 0)).get? x = some (excO C t1) := Heap.get?_push_of_some _ hx
  refine wpAny_bind (wpAny_pure (wpAny_bind
    (instanceDict_exc (s := ⟨hp, g, d, t, os⟩) (t := t1) (c2 := .none) hx (looks_clsIn X look) dict ?_)))
  refine store_in_new ?_ fun h' tk' names same => ?_
  · exact ⟨_, #[], _, (Heap.get?_update_ne _ _ _ _ apart.symm).trans (Heap.get?_push_at rfl rfl), rfl,
      fun e he => absurd he (by simp), fun _ => rfl⟩
  · refine hq h' tk' hp.objs.size (fun b o hb ho => ?_) (Nat.le_refl _) apart.symm ?_ names
    · have far : b ≠ hp.objs.size := Nat.ne_of_lt (Heap.lt_size ho)
      exact (same.2 b far).trans ((Heap.get?_update_ne _ _ _ _ hb).trans (Heap.get?_push_of_some _ ho))
    · exact (same.2 x apart).trans (Heap.get?_update_self _ there rfl)
end NX
end PySem

/-! ### the block of the guide's own-error skeleton, for any class over any built-in base whose __init__ stores the field value -/
namespace PySem
namespace Xf_value
open PySem.W PySem.Calls PyProof.Rows PySem.HandSPX
def iA (p1 p2 : Pos) : Arguments := { posonlyargs := [], args := [{ arg := "self", annotation := none, pos := p1 }, { arg := "value", annotation := none, pos := p2 }], vararg := none, kwonlyargs := [], kw_defaults := [], kwarg := none, defaults := [] }
def iB (q1 q2 q3 q4 : Pos) : List Stmt := [.Assign [.Attribute (.Name "self" q1) "value" q2] (.Name "value" q3) q4]
def iS : Scope := { kind := .function, names := [(PySem.Str.ofString "self", .local), (PySem.Str.ofString "value", .local)], isGenerator := false, isCoroutine := false, more := [] }
/-- what the written part says of the class x at C and of its __init__ at fI -/
structure Txt (K : Frag) (mg : Str → Option Value) (x q : Str) (C fI : Addr) (newId : String) (bmB : List Value) : Prop where
  gC : mg x = some (.ref C)
  mkr : excInitIn K C bmB newId = true
  ov : excOver K C bmB = true
  tk : takerIn K C "value" = some none
  sa : findIn K (.ref C) "__setattr__" = some (some (.builtin "object.__setattr__"))
  ga : findIn K (.ref C) "__getattribute__" = some (some (.builtin "BaseException.__getattribute__"))
  gg : findIn K (.ref C) "__getattr__" = some none
  noN : findIn K (.ref C) "value" = some none
  iC : findIn K (.ref C) "__init__" = some (some (.ref fI))
  tC : typeIn K (.ref fI) = some (.type "function")
  kC : keepIn K (.ref C) = true
  exC : subIn K (.ref C) (.type "BaseException") = some true
  tyC : typeIn K (.ref C) = some (.type "type")
  hdC : hasDictIn K C = true
  te : exmOne K (.ref C) (.ref C) = some true
  fn : ∃ (p1 p2 q1 q2 q3 q4 : Pos) (fd : FuncData), L2.FunD K "__init__" q (iA p1 p2) (iB q1 q2 q3 q4) iS [] [] fI fd
theorem one_size (v : Value) : [v].length ≤ sizeLine := by
  rw [sizeLine_eq]
  exact (by decide : 1 ≤ 16777216)
theorem ldC {M : Model} {s : Shared} {name : Str} {scope : Scope} {L a : Addr} {cd : Value} {m : Str → Option Value} {x : Str} {pos : Pos} {v : Value} {Q : Value → Shared → Prop} {A : Around} {E : Value → Shared → Prop} (hn : s.heap.Ns L m) (hv : m x = some v) (h : Q v s)
    (hk : scope.kind = .function := by rfl) (hl : (envOfC name scope L a cd).kindOf x = some .local := by rfl) (hd : (x == ("__debug__" : Str)) = false := by decide) :
    wpAny M A (eval (.Name x pos) (envOfC name scope L a cd)) Q E s := wpAny_Name (wpAny_loadName_local hk hl hn hv h) hd
/-- what __init__ leaves of a fresh error at x -/
structure InitEnd (h h' : Heap) (x C dx t1 : Addr) (v : Value) : Prop where
  keep : ∀ b o, b ≠ x → h.get? b = some o → h'.get? b = some o
  obj : h'.get? x = some { cls := .ref C, dict := some dx, data := .fields #[.ref t1, .none, .none, .none, .bool false, .none] }
  dbig : h.objs.size ≤ dx
  dne : dx ≠ x
  ns : h'.Ns1 dx (fun y => if y = "value" then some v else none)
/-- a made error -/
structure OwnMade (h h' : Heap) (e C d : Addr) (v : Value) : Prop where
  keep : ∀ b o, h.get? b = some o → h'.get? b = some o
  new : h.objs.size ≤ e
  obj : ∃ oe vs, h'.get? e = some oe ∧ oe.cls = .ref C ∧ oe.dict = some d ∧ oe.data = .fields vs ∧ vs[1]? = some .none
  dbig : h.objs.size ≤ d
  dne : d ≠ e
  ns : h'.Ns1 d (fun y => if y = "value" then some v else none)
section
variable {prog : Program} {w : World} {A : Around} {E : Value → Shared → Prop} {R : Result → Shared → Prop} {s : Shared} {K : Frag} {mg : Str → Option Value} {C fI : Addr} {x0 q0 : Str} {B newId initId : String} {bmB : List Value}
theorem init_end (SF : StoreFacts B bmB "object.__setattr__" "object") (T : Txt K mg x0 q0 C fI newId bmB) {x t0 : Addr} {v : Value} (X : K.In s.heap) (hlim : s.heap.NoLimit) (hx : s.heap.get? x = some (excO C t0)) (hroom : A.depth < recursionLimit)
    (hq : ∀ h' tk dx, InitEnd s.heap h' x C dx t0 v → R (.ok (.ret .none)) { s with heap := h', toks := tk }) :
    codeAny (model prog w) A (.call (.ref fI) ⟨[.ref x, v], []⟩) R s := by
  obtain ⟨p1, p2, q1, q2, q3, q4, fd, F⟩ := T.fn
  obtain ⟨oc, od, dV, kV, doc, pm, an, cdv, ct, osl, rfl, ho, hcd, hdv, _⟩ := F.ex
  have e0 : dV = .none := by
    rcases hdv with ⟨_, e⟩ | ⟨e, _⟩
    · exact e
    · exact absurd rfl e
  subst e0
  refine Att.call_fn (binds := [("self", .ref x), ("value", v)]) X hlim ho hcd hroom (BindsTo.of_eq (by first | rfl | with_unfolding_all rfl)) (by first | rfl | decide | with_unfolding_all rfl) (fun s₁ IC => ?_) rfl rfl rfl
  obtain ⟨h₁, tk₁, rfl⟩ := IC.toInCall.same
  have k : ∀ b o, s.heap.get? b = some o → h₁.get? b = some o := IC.toInCall.keep
  have hn := IC.toInCall.ns
  have X₁ : K.In h₁ := X.keeps k
  have hx₁ := k _ _ hx
  show wpAny _ _ (execs _ _) _ _ _
  refine wpAny_execs_cons (plainObj_wpAny_Assign_Attribute ?_)
  refine ldC (v := v) hn (by first | rfl | with_unfolding_all rfl | kernel_rfl) (ldC (v := .ref x) hn (by first | rfl | with_unfolding_all rfl | kernel_rfl) ?_)
  refine set_plain X₁ (ox := excO C t0) (od := none) ⟨hx₁, rfl, rfl, trivial⟩ T.sa ?_
  refine PySem.NX.osaB SF X₁ hx₁ T.ov T.tk T.hdC (fun h₃ tk₃ dx k₃ dn dne hx₃ hn₃ => ?_)
  show wpAny _ _ (execs _ _) _ _ _
  have z : s.heap.objs.size < h₁.objs.size := hn.lt
  exact wpAny_execs_nil (hq h₃ tk₃ dx ⟨fun b o hb e => k₃ b o hb (k b o e), hx₃, Nat.le_of_lt (Nat.lt_of_lt_of_le z dn), dne, hn₃⟩)
theorem made (FB : ExcBaseFacts B newId initId bmB) (SF : StoreFacts B bmB "object.__setattr__" "object") (T : Txt K mg x0 q0 C fI newId bmB) {v : Value} (X : K.In s.heap) (hlim : s.heap.NoLimit) (hroom : A.depth + 1 < recursionLimit)
    (hq : ∀ h' tk e d, OwnMade s.heap h' e C d v → R (.ok (.ret (.ref e))) { s with heap := h', toks := tk }) :
    codeAny (model prog w) A (.call (.ref C) ⟨[v], []⟩) R s := by
  obtain ⟨nm, N, q, bs, bm, hdct, sn, sub, ab, col, dd, k0, k1, k2, k3, k5, hC, hbm⟩ := excInit_of X T.mkr
  obtain ⟨hp, g, dr, tk, os⟩ := s
  have k : ∀ b o, hp.get? b = some o → ((hp.push (kdv_tup [v])).push (excO C hp.objs.size)).get? b = some o := fun b o e => Heap.get?_push_of_some _ (Heap.get?_push_of_some _ e)
  have hget : ((hp.push (kdv_tup [v])).push (excO C hp.objs.size)).get? (hp.objs.size + 1) = some (excO C hp.objs.size) := by heap_get
  refine call_own FB hbm hC (looks_findIn X T.iC) (fun self => bind_fn X self T.tC) (one_size v) ?_
  refine init_end (s := ⟨(hp.push (kdv_tup [v])).push (excO C hp.objs.size), g, dr, tk, os⟩) SF T (X.keeps k) (hlim.keeps k) hget ?_ fun h' tk' dx ⟨k', hx, dn, dne, hns⟩ => ?_
  · show A.depth + 1 < recursionLimit
    exact hroom
  · have old : ∀ b o, hp.get? b = some o → h'.get? b = some o := fun b o e => k' b o (Nat.ne_of_lt (Nat.lt_succ_of_lt (Heap.lt_size e))) (k b o e)
    have z : hp.objs.size + 1 + 1 ≤ dx := by
      first
        | (simpa only [Heap.size_push] using dn)
        | exact dn
        | (have q := dn; rw [Heap.size_push, Heap.size_push] at q; exact q)
    exact ⟨rfl, hq h' tk' (hp.objs.size + 1) dx ⟨old, Nat.le_succ _, ⟨_, _, hx, rfl, rfl, rfl, rfl⟩, Nat.le_trans (Nat.le_trans (Nat.le_succ _) (Nat.le_succ _)) z, dne, hns⟩⟩
end
end Xf_value
end PySem
namespace L2
open PySem PySem.Spec PyProof.Rows
theorem relO_value {v : V} {v' : Value} (r : RelV v v') (f : Str) : RelO (List.lookup f [(("value" : Str), v)]) (if f = "value" then some v' else none) := by
  by_cases hw : f = "value"
  · subst hw
    rw [if_pos rfl]
    have q : List.lookup ("value" : Str) [(("value" : Str), v)] = some v := by simp [List.lookup]
    rw [q]
    exact r
  · rw [if_neg hw]
    have qw : (f == ("value" : Str)) = false := by simpa using hw
    have q2 : List.lookup f [(("value" : Str), v)] = none := by simp [List.lookup, qw]
    rw [q2]
    trivial
section
variable {X : Cx} {C fI : Addr} {x0 q0 : Str} {B newId initId : String} {bmB : List Value}
/-- x(e) -/
def tMk_value (C : Addr) (ta : TA) : L2.St → Hp → XK → Prop := fun σ H Q => ta σ H fun vs H1 => ∃ v, vs = [v] ∧ ∀ d, H1 d = none → Q (.ref C) (some d) (upd H1 d (.xd [(("value" : Str), v)]))
theorem pmk_value {a : Expr} {ta : TA} {p pos : Pos} {k : Nat} (FB : ExcBaseFacts B newId initId bmB) (SF : StoreFacts B bmB "object.__setattr__" "object") (T : PySem.Xf_value.Txt X.K X.mg x0 q0 C fI newId bmB) (hr : Room k X.A) (ha : PA X [a] ta) (hg : Gl X x0 := by rfl) (hdb : (x0 == ("__debug__" : Str)) = false := by decide)
    (he : starEach (a :: []) X.env = (false, eval a X.env) :: starEach [] X.env := by rfl) (hpl : (backTo pos (starEach [] X.env)).any (·.1) = false := by rfl) :
    PMk X (.Call (.Name x0 p) [a] [] pos) (tMk_value C ta) := by
  intro pins s σ H Q I h
  refine wpAny_Call_Name_kw (ld_glob I hg T.gC ?_ hdb)
  refine PySem.W.callWith_K (h₀ := X.base) I.ok.mod.kin T.kC (thn (ha.run pos pins s σ H _ I h) fun us s1 hh => ?_) he hpl
  obtain ⟨vs, H1, I1, r1, v, ev, q1⟩ := hh
  subst ev
  refine ⟨I1.kIn, ?_⟩
  cases r1 with
  | cons rv rn =>
    rename_i v' us'
    cases rn
    show wpAny _ _ (call (.ref C) [v']) _ _ _
    have hlim := I1.nolimit
    obtain ⟨hp, g, dr, tk, os⟩ := s1
    refine wpAny_call (PySem.Xf_value.made FB SF T I1.kIn hlim (by have := hr.dp; omega) fun h' tk' e d M => ?_)
    show MkP X pins σ Q (.ref e) ⟨h', g, dr, tk', os⟩
    obtain ⟨oe, fv, hoe, hc, hd, hdat, h1⟩ := M.obj
    have hns := M.ns
    obtain ⟨G', g1, g2⟩ := restrict h' fun b => decide (b ≠ e)
    have gk : ∀ b, b ≠ e → G'.get? b = h'.get? b := fun b hb => g1 b (decide_eq_true hb)
    have ge : G'.get? e = none := g2 e (by simp)
    have old : ∀ b o, hp.get? b = some o → G'.get? b = some o := fun b o q => (gk b (Nat.ne_of_lt (Nat.lt_of_lt_of_le (Heap.lt_size q) M.new))).trans (M.keep b o q)
    have ob : ObjOk X.prog X.w (upd H1 d (.xd [(("value" : Str), v)])) G' d (.xd [(("value" : Str), v)]) :=
      ⟨_, hns.at (fun o q => (gk d M.dne).trans q), fun f => relO_value rv f⟩
    have J : Inv X pins σ (upd H1 d (.xd [(("value" : Str), v)])) ⟨G', g, dr, tk', os⟩ := I1.laid (t' := tk') old M.dbig ob
    refine ⟨e, oe, fv, ⟨G', g, dr, tk', os⟩, _, .ref C, some d, rfl, J, fun b o q => ?_, ge, hoe, ⟨hc, hd⟩, hdat, h1, ?_, rfl, I1.bare, raises_own T.exC T.tyC, q1 d (I1.hok.fresh M.dbig)⟩
    · by_cases hb : b = e
      · have q' : G'.get? b = some o := q
        rw [hb, ge] at q'; cases q'
      · exact (gk b hb).symm.trans q
    · rw [upd_ne (Ne.symm M.dne)]
      exact I1.hok.fresh M.new
/-- raise x(e) -/
def tRaise_value (C : Addr) (W : WX) (ta : TA) : TS := fun _ σ H => tMk_value C ta σ H fun cls d H' => W cls d σ H'
theorem ps_raise_value {a : Expr} {ta : TA} {W : WX} {p pos pos2 : Pos} {k : Nat} (hc : X.calm = true) (FB : ExcBaseFacts B newId initId bmB) (SF : StoreFacts B bmB "object.__setattr__" "object") (T : PySem.Xf_value.Txt X.K X.mg x0 q0 C fI newId bmB) (hr : Room k X.A) (tk : Takes X W) (ha : PA X [a] ta) (hg : Gl X x0 := by rfl) (hdb : (x0 == ("__debug__" : Str)) = false := by decide)
    (he : starEach (a :: []) X.env = (false, eval a X.env) :: starEach [] X.env := by rfl) (hpl : (backTo pos (starEach [] X.env)).any (·.1) = false := by rfl) :
    PS X (.Raise (some (.Call (.Name x0 p) [a] [] pos)) none pos2) (tRaise_value C W ta) := ps_raise hc tk (pmk_value FB SF T hr ha hg hdb he hpl)
end
end L2

namespace My
open PySem PySem.Spec PyProof.Rows L2
/-! ### classes of errors: what a head's own Bool tells -/
def leB : List Value := [.type "LookupError", .type "Exception", .type "BaseException", .type "object"]
def veB : List Value := [.type "ValueError", .type "Exception", .type "BaseException", .type "object"]
/-- x: an error class of its own __init__ that stores f; over a base whose line is bmB -/
def excB (K : PySem.W.Frag) (x f : Str) (newId : String) (bmB : List Value) : Bool :=
  PySem.W.excInitIn K (He.ga K x) bmB newId && (PySem.W.excOver K (He.ga K x) bmB && (decide (PySem.W.takerIn K (He.ga K x) f = some none) &&
  (He.eqO (PySem.W.findIn K (.ref (He.ga K x)) "__setattr__") (some (some (.builtin "object.__setattr__"))) &&
  (He.eqO (PySem.W.findIn K (.ref (He.ga K x)) "__getattribute__") (some (some (.builtin "BaseException.__getattribute__"))) &&
  (He.eqO (PySem.W.findIn K (.ref (He.ga K x)) "__getattr__") (some none) &&
  (He.eqO (PySem.W.findIn K (.ref (He.ga K x)) f) (some none) &&
  (He.eqO (PySem.W.findIn K (.ref (He.ga K x)) "__init__") (some (some (.ref (He.ma K (He.ga K x) "__init__")))) &&
  (decide (PySem.W.typeIn K (.ref (He.ma K (He.ga K x) "__init__")) = some (.type "function")) &&
  (PySem.W.keepIn K (.ref (He.ga K x)) &&
  (decide (PySem.W.subIn K (.ref (He.ga K x)) (.type "BaseException") = some true) &&
  (decide (PySem.W.typeIn K (.ref (He.ga K x)) = some (.type "type")) &&
  (PySem.W.hasDictIn K (He.ga K x) &&
  decide (PySem.W.exmOne K (.ref (He.ga K x)) (.ref (He.ga K x)) = some true)))))))))))))
theorem excB_value {K : PySem.W.Frag} {mg : Str → Option Value} {x q : Str} {newId : String} {bmB : List Value} (glo : mg x = some (.ref (He.ga K x))) (c : excB K x "value" newId bmB = true)
    (fn : ∃ (p1 p2 q1 q2 q3 q4 : Pos) (fd : FuncData), FunD K "__init__" q (PySem.Xf_value.iA p1 p2) (PySem.Xf_value.iB q1 q2 q3 q4) PySem.Xf_value.iS [] [] (He.ma K (He.ga K x) "__init__") fd) :
    PySem.Xf_value.Txt K mg x q (He.ga K x) (He.ma K (He.ga K x) "__init__") newId bmB := by
  unfold excB at c
  simp only [Bool.and_eq_true, decide_eq_true_eq] at c
  obtain ⟨c1, c2, c3, c4, c5, c6, c7, c8, c9, c10, c11, c12, c13, c14⟩ := c
  exact ⟨glo, c1, c2, c3, He.eqO_ok c4, He.eqO_ok c5, He.eqO_ok c6, He.eqO_ok c7, He.eqO_ok c8, c9, c10, c11, c12, c13, c14, fn⟩
/-- instances of x may be asked for their class -/
def clsB (K : PySem.W.Frag) (x : Str) : Bool :=
  (PySem.W.clsIn K (He.ga K x)).isSome && (He.eqO (PySem.W.findIn K (.ref (He.ga K x)) "__getattribute__") (some (some (.builtin "BaseException.__getattribute__"))) &&
  (He.eqO (PySem.W.findIn K (.ref (He.ga K x)) "__getattr__") (some none) && (decide (PySem.W.subIn K (.ref (He.ga K x)) (.type "BaseException") = some true) &&
  (He.eqO (PySem.W.findIn K (.ref (He.ga K x)) "__class__") (some (some (.builtin "object.__class__"))) &&
  (decide (PySem.W.specialIn K (.builtin "object.__class__") "__get__" = some (some (.builtin "getset_descriptor.__get__"))) &&
  (decide (PySem.W.takesIn K (.builtin "object.__class__") = some true) && decide (PySem.W.mroIn K (He.ga K x) (.type "object") = some true)))))))
structure ClsE (K : PySem.W.Frag) (D : Addr) : Prop where
  c1 : (PySem.W.clsIn K D).isSome = true
  c2 : PySem.W.findIn K (.ref D) "__getattribute__" = some (some (.builtin "BaseException.__getattribute__"))
  c3 : PySem.W.findIn K (.ref D) "__getattr__" = some none
  c4 : PySem.W.subIn K (.ref D) (.type "BaseException") = some true
  c5 : PySem.W.findIn K (.ref D) "__class__" = some (some (.builtin "object.__class__"))
  c6 : PySem.W.specialIn K (.builtin "object.__class__") "__get__" = some (some (.builtin "getset_descriptor.__get__"))
  c7 : PySem.W.takesIn K (.builtin "object.__class__") = some true
  c8 : PySem.W.mroIn K D (.type "object") = some true
theorem clsB_ok {K : PySem.W.Frag} {x : Str} (c : clsB K x = true) : ClsE K (He.ga K x) := by
  unfold clsB at c
  simp only [Bool.and_eq_true, decide_eq_true_eq] at c
  obtain ⟨c1, c2, c3, c4, c5, c6, c7, c8⟩ := c
  exact ⟨c1, He.eqO_ok c2, He.eqO_ok c3, c4, He.eqO_ok c5, c6, c7, c8⟩
/-! ### isinstance of the error that a suite holds -/
section
variable {X : Cx} {a : Addr} {oe : Obj} {cls : Value} {d : Option Addr} {pn : List (Addr × Obj)}
theorem kit_exc {K : PySem.W.Frag} {D x : Addr} {ox : Obj} {od : Option Obj} (c : ClsE K D) : PySem.W.KitX K (.ref x) (.ref D) (fun h => PySem.W.InstAt h x ox D od) :=
  PySem.W.kitx_exc c.c1 c.c2 c.c3 c.c4 c.c5 c.c6 c.c7 c.c8
end
/-! ### a list display that lies beyond the system's modules; the call of a def that a parameter holds -/
section
variable {X : Cx} {es : List Expr} {t : TA} {pos : Pos}
def tLst' (t : TA) : TE := fun σ H Q => t σ H fun xs H1 => xs.length ≤ sizeLine ∧ ∀ p, H1 p = none → p ≠ sysModules → Q (.ref p) (upd H1 p (.lst xs))
theorem pe_lst' (h : PA X es t) : PE X (.List es pos) (tLst' t) := by
  refine ⟨fun pins s σ H Q I hq => ?_⟩
  refine wpAny_List_spliced (thn (h.run pos pins s σ H _ I hq) fun us s1 got => ?_)
  obtain ⟨xs, H1, J, rel, size, fin⟩ := got
  have lies : H1 s1.heap.objs.size = none := J.hok.fresh (Nat.le_refl _)
  have new : ObjOk X.prog X.w (upd H1 s1.heap.objs.size (.lst xs)) (s1.heap.push { cls := .type "list", data := .seq us.toArray }) s1.heap.objs.size (.lst xs) :=
    ⟨size, us, 0, rel, Heap.get?_push_size _ rfl⟩
  refine ⟨by rw [← rel.length]; exact size, ?_⟩
  exact ⟨.ref s1.heap.objs.size, upd H1 s1.heap.objs.size (.lst xs), J.laid (t' := s1.toks) (fun b u e => Heap.get?_push_of_some _ e) (Nat.le_refl _) new, rfl, fin _ lies (Nat.ne_of_gt J.big)⟩
end
section
variable {X : Cx} {CX : CXT} {k i : Nat} {f : Addr} {fd : FuncData} {ps : List Str} {sp : Sp} {E : L2.St → XK} {x : Str} {p pos : Pos} {e : Expr} {es : List Expr} {t : TA}
end
end My

namespace My
open PySem PySem.Spec PyProof.Rows L2
theorem tyOf_same {K : PySem.W.Frag} {H H' : Hp} (e : Same H H') {v : V} {t : Value} (h : TyOf K H v t) : TyOf K H' v t := by
  cases h with
  | non => exact .non
  | bl x => exact .bl x
  | int i => exact .int i
  | str x => exact .str x
  | flt x => exact .flt x
  | lst z => exact .lst (e _ _ z)
  | frz z => exact .frz (e _ _ z)
  | tup z => exact .tup (e _ _ z)
  | dK z => exact .dK (e _ _ z)
  | dT z => exact .dT (e _ _ z)
  | ins z a b c d f => exact .ins (e _ _ z) a b c d f
theorem tyX_same {K : PySem.W.Frag} {H H' : Hp} (e : Same H H') {v : V} {t : Value} (h : TyX K H v t) : TyX K H' v t := by
  cases h with
  | base b => exact .base (tyOf_same e b)
  | byt b => exact .byt b
  | set z => exact .set (e _ _ z)
  | kList a b => exact .kList a b
  | kTuple a b => exact .kTuple a b
  | kDict a b => exact .kDict a b
  | fTuple z => exact .fTuple (e _ _ z)
  | fDict z => exact .fDict (e _ _ z)
theorem Kd.same {K : PySem.W.Frag} {H H' : Hp} (e : Same H H') {v : V} (h : Kd K H v) : Kd K H' v := by
  cases h with
  | non => exact .non
  | bl b => exact .bl b
  | int i => exact .int i
  | str x => exact .str x
  | ref h ht => exact .ref (tyX_same e h) ht
/-! ### values of any kind beside the stream -/
/-- the heap without the stream's two lists that draws change -/
def hid (S A : Addr) (H : Hp) : Hp := fun b => if b = S ∨ b = A then none else H b
theorem hid_ne {S A b : Addr} {H : Hp} (h1 : b ≠ S) (h2 : b ≠ A) : hid S A H b = H b := if_neg fun z => z.elim h1 h2
theorem hid_same (S A : Addr) (H : Hp) : Same (hid S A H) H := fun b o e => by
  unfold hid at e
  by_cases h : b = S ∨ b = A
  · rw [if_pos h] at e
    cases e
  · rw [if_neg h] at e
    exact e
theorem SameX.hid {S A : Addr} {H H' : Hp} (e : SameX S A H H') : Same (hid S A H) (hid S A H') := fun b o q => by
  unfold My.hid at q ⊢
  by_cases h : b = S ∨ b = A
  · rw [if_pos h] at q
    cases q
  · rw [if_neg h] at q ⊢
    exact e b o q (fun z => h (.inl z)) (fun z => h (.inr z))
theorem hid_get {S A B : Addr} {t : Nat} {H : Hp} (st : Strm H S A B t) {p : Addr} (np : H p = none) (o : HO) : hid S A (upd H p o) p = some o := by
  obtain ⟨as, ha, _⟩ := st.a
  rw [hid_ne (Ne.symm (ne_of_none st.s np)) (Ne.symm (ne_of_none ha np)), upd_same]
/-- a value of any kind, apart from the stream -/
structure Odd (K : PySem.W.Frag) (S A : Addr) (H : Hp) (v : V) : Prop where
  dq : ∃ d, Dq true K (hid S A H) v d ∧ Fit 100 10 d
  kd : Kd K (hid S A H) v
theorem Odd.x {K : PySem.W.Frag} {S A : Addr} {H H' : Hp} {v : V} (o : Odd K S A H v) (e : SameX S A H H') : Odd K S A H' v := by
  obtain ⟨⟨d, h1, h2⟩, h3⟩ := o
  exact ⟨⟨d, Dq.same e.hid h1, h2⟩, h3.same e.hid⟩
theorem Odd.same {K : PySem.W.Frag} {S A : Addr} {H H' : Hp} {v : V} (o : Odd K S A H v) (e : Same H H') : Odd K S A H' v := o.x (Same.x e)
theorem Odd.kind {K : PySem.W.Frag} {S A : Addr} {H : Hp} {v : V} (o : Odd K S A H v) : Kd K H v := o.kd.same (hid_same S A H)
theorem Odd.data {K : PySem.W.Frag} {S A : Addr} {H : Hp} {v : V} (o : Odd K S A H v) : ∃ d, Dq true K H v d ∧ Fit 100 10 d := by
  obtain ⟨d, h1, h2⟩ := o.dq
  exact ⟨d, Dq.same (hid_same S A H) h1, h2⟩
theorem odd_non {K : PySem.W.Frag} {S A : Addr} {H : Hp} : Odd K S A H .non := ⟨⟨_, .non, fit_none _ _⟩, .non⟩
theorem odd_bl {K : PySem.W.Frag} {S A : Addr} {H : Hp} (b : Bool) : Odd K S A H (.bl b) := ⟨⟨_, .bl b, fit_bool _ _ b⟩, .bl b⟩
theorem odd_int {K : PySem.W.Frag} {S A : Addr} {H : Hp} {i : Int} (h : i.natAbs < 10 ^ 30) : Odd K S A H (.int i) := ⟨⟨_, .int i, fit_int _ _ h⟩, .int i⟩
theorem odd_str {K : PySem.W.Frag} {S A : Addr} {H : Hp} {x : Str} (h : Fit 100 10 (.str x)) : Odd K S A H (.str x) := ⟨⟨_, .str x, h⟩, .str x⟩
/-- a new tuple of data -/
theorem odd_tup {K : PySem.W.Frag} {S A B : Addr} {t : Nat} {H : Hp} (st : Strm H S A B t) {p : Addr} (np : H p = none) {xs : List V} {ds : List PyData} (h : DqAll true K (hid S A H) xs ds) (f : Fit 100 10 (.tuple ds)) : Odd K S A (upd H p (.tup xs)) (.ref p) := by
  have e := (Same.x (S := S) (A := A) (same_upd (o := .tup xs) np)).hid
  have g := hid_get st np (.tup xs)
  exact ⟨⟨_, .tup (.inl (.inl g)) (DqAll.same e h), f⟩, .ref (.base (.tup g)) (.inr (.inl rfl))⟩
theorem odd_lst {K : PySem.W.Frag} {S A B : Addr} {t : Nat} {H : Hp} (st : Strm H S A B t) {p : Addr} (np : H p = none) (ns : p ≠ sysModules) {xs : List V} {ds : List PyData} (h : DqAll true K (hid S A H) xs ds) (f : Fit 100 10 (.list ds)) : Odd K S A (upd H p (.lst xs)) (.ref p) := by
  have e := (Same.x (S := S) (A := A) (same_upd (o := .lst xs) np)).hid
  have g := hid_get st np (.lst xs)
  exact ⟨⟨_, .lst (.inl (.inl g)) (fun _ => ns) (DqAll.same e h), f⟩, .ref (.base (.lst g)) (.inl rfl)⟩
theorem odd_dic {K : PySem.W.Frag} {S A B : Addr} {t : Nat} {H : Hp} (st : Strm H S A B t) {p : Addr} (np : H p = none) (kvs : List (Str × Int))
    (f : Fit 100 10 (.dict (kvs.map fun p => (PyData.str p.1, PyData.int p.2)))) : Odd K S A (upd H p (.dK (kvs.map fun p => ((Sum.inr p.1 : Key), V.int p.2)))) (.ref p) := by
  have g := hid_get st np (.dK (kvs.map fun p => ((Sum.inr p.1 : Key), V.int p.2)))
  exact ⟨⟨_, .dic rfl g, f⟩, .ref (.base (.dK g)) (.inr (.inr rfl))⟩
/-! ### promises of the defs that raise NoPlace -/
def spCheckX (K : PySem.W.Frag) : Sp := fun vs H Q E => ∃ (a : Addr) (ns : List Int) (v : V), vs = [.ref a, v] ∧ TupI K H a ns ∧ Kd K H v ∧
  (ixB v (ns.length : Int) = true → Q .non H) ∧
  (ixB v (ns.length : Int) = false → ∀ H' d, Same H H' → H' d = some (.xd [("value", v)]) → E (.ref (He.ga K "NoPlace")) (some d) H')
theorem ix_cases {v : V} {n : Nat} : (∃ p : Nat, v = .int p ∧ p < n) ∨ ixB v (n : Int) = false := by
  cases v with
  | int i =>
    by_cases h : 0 ≤ i ∧ i < n
    · obtain ⟨p, hp⟩ := Int.eq_ofNat_of_zero_le h.1
      exact .inl ⟨p, by rw [hp], by omega⟩
    · refine .inr ?_
      show (decide (0 ≤ i) && decide (i < (n : Int))) = false
      by_cases h0 : 0 ≤ i
      · have h1 : ¬ i < (n : Int) := fun z => h ⟨h0, z⟩
        rw [decide_eq_false h1, Bool.and_false]
      · rw [decide_eq_false h0, Bool.false_and]
  | _ => exact .inr rfl
end My
namespace My
open PySem PySem.Spec PyProof.Rows L2
/-! ### reading a row with so many values on the stack -/
def reads : Int → List Int → Bool
  | _, [] => true
  | d, a :: r => if d < a then false else reads (d - a + 1) r
end My
namespace My
open PySem PySem.Spec PyProof.Rows L2
/-! ### inside a comprehension: the rules whose relation names no context -/
def rLenK (K : PySem.W.Frag) : List V → Hp → VK → Prop := fun xs H Q => ∃ p ys, xs = [V.ref p] ∧ (SqL K H p ys ∨ SqT K H p ys) ∧ Q (V.int ys.length) H
theorem call_lenK {X : Cx} {K : PySem.W.Frag} (e : X.K = K) : CallR X (.builtin "len") (rLenK K) := by
  subst e
  exact call_len_seq
end My

/-! ### t[::-1], t == (), list(t) beyond the system's modules -/
namespace PySem
namespace HTR
open PySem.W PySem.Calls PyProof.Rows HT L2
section
variable {prog : Program} {w : World} {A : Around} {E : Value → Shared → Prop} {s : Shared}
end
end HTR
end PySem
/-! ### enumerate(t), t a tuple -/
namespace PySem
open Sem (wp)
namespace HTR
theorem meets_enumerate_new1 {v : Value} {o : Obj} {H : Heap → Prop} (B : Begins v o H) :
    Meets (Builtin.«enumerate.__new__» ⟨[.type "enumerate", v], []⟩) (fun _ R s => H s.heap ∧
      R (.ok (.ret (.ref (s.heap.push o).objs.size))) { s with heap := (s.heap.push o).push { cls := .type "enumerate", data := .fields #[.none, .bool false, .ref s.heap.objs.size, rawInt 0, .none, .none] } }) :=
  .of_wp fun prog w A R s h => by
    obtain ⟨hp, g, d, tk, os⟩ := s; obtain ⟨h1, h⟩ := h
    have hsub := sub_enumerate
    have q1 : ∀ {A' : Around} {E : Value → Shared → Prop} {Q : Value → Shared → Prop}, Q (.ref hp.objs.size) ⟨hp.push o, g, d, tk, os⟩ → wpAny (model prog w) A' (pyIter v) Q E ⟨hp, g, d, tk, os⟩ :=
      fun q => B.iter prog w _ _ ⟨hp, g, d, tk, os⟩ _ h1 q
    wp_walk using q1
    refine wpAny_stack_any fun st => wpAny_pure ?_
    split
    · rename_i c _ _ _ _ _
      cases (c == Value.type "enumerate")
      · wp_walk using q1
        exact ⟨_, rfl, h⟩
      · wp_walk using q1
        exact ⟨_, rfl, h⟩
    · wp_walk using q1
      exact ⟨_, rfl, h⟩
theorem enum1 {prog : Program} {w : World} {A : Around} {E : Value → Shared → Prop} {s : Shared} {v : Value} {o : Obj} {H : Heap → Prop} {Q : Value → Shared → Prop} (B : Begins v o H) (h1 : H s.heap)
    (h : ∀ h', IsEnum h' (s.heap.objs.size + 1) s.heap.objs.size 0 .none → h'.get? s.heap.objs.size = some o → h'.objs.size = s.heap.objs.size + 2 →
      (∀ b o, s.heap.get? b = some o → h'.get? b = some o) → Q (.ref (s.heap.objs.size + 1)) { s with heap := h' }) :
    wpAny (model prog w) A (call (.type "enumerate") [v]) Q E s := by
  refine callType_new F.called_enumerate (by decide) (F.typeCall_enumerate_1 _) (F.newCall_enumerate_1 _) (fun obj => F.args_object_init_2 obj _) F.entry_enumerate_new
    (meets_enumerate_new1 B) ⟨h1, ?_⟩
  have hz : (s.heap.push o).objs.size = s.heap.objs.size + 1 := Heap.size_push ..
  show _ ∧ _
  rw [hz]
  have he : IsEnum ((s.heap.push o).push { cls := .type "enumerate", data := .fields #[.none, .bool false, .ref s.heap.objs.size, rawInt 0, .none, .none] }) (s.heap.objs.size + 1) s.heap.objs.size 0 .none := by
    have := Heap.get?_push_size (s.heap.push o) (o := { cls := .type "enumerate", data := .fields #[.none, .bool false, .ref s.heap.objs.size, rawInt 0, .none, .none] }) rfl
    rw [hz] at this; exact this
  refine ⟨⟨_, he, rfl⟩, h _ he (Heap.get?_push_of_some _ (Heap.get?_push_size _ B.free)) (by rw [Heap.size_push, hz]) fun b o x => Heap.get?_push_of_some _ (Heap.get?_push_of_some _ x)⟩
theorem wpAny_pyNext_enum_endT {prog : Program} {w : World} {A : Around} {E : Value → Shared → Prop} {s : Shared} {e it l : Addr} {i : Nat} {items : Array Value} {c : Int} {old : Value} {Q : Option Value → Shared → Prop} (hh : A.handled = none)
    (he : IsEnum s.heap e it c old) (hit : s.heap.IsTupleIter it l i) (hl : s.heap.IsTuple l items) (hx : items[i]? = none)
    (hQ : ∀ h', Heap.ExtBut it s.heap h' → Q none { s with heap := h' }) : wpAny (model prog w) A (pyNext (.ref e)) Q E s := by
  have hT : s.TypeIs (.ref e) "enumerate" := ⟨_, he, rfl⟩
  unfold pyNext
  refine wpAny_bind (wpAny_attempt (wpAny_callSpecial?_slot (name := Str.ofString "__next__") hT F.slot_enumerate_next
    (wpAny_call_entry F.slot_enumerate_next hT F.entry_enumerate_next ?_ (F.args_enumerate_next_1 _))))
  show wpAny _ _ (field (.ref e) 2 >>= _) _ _ _
  refine wpAny_bind (wpAny_field he rfl (x := .ref it) rfl ?_)
  refine wpAny_bind (wpAny_nextOf_tuple_end hh hit hl hx fun h' x he' hx' => ?_)
  obtain ⟨o, ho, hc⟩ := hx'
  refine wpAny_bind (wpAny_isInstance (T := "StopIteration") (b := true) ⟨o, ho, hc⟩ isSubtype_stop ?_)
  exact wpAny_pure (hQ _ he')
end HTR
end PySem
namespace L2
open PySem PySem.Spec PyProof.Rows
def Itet (K : PySem.W.Frag) (a : Addr) : It :=
  ⟨fun i H => ∃ (xs : List V) (x : V), SqT K H a xs ∧ xs[i]? = some x, fun i H v H' => ∃ T x, v = .ref T ∧ H T = none ∧ H' = upd H T (.tup [.int (i : Nat), x]) ∧ ∀ xs, SqT K H a xs → xs[i]? = some x, fun i H => ∃ xs : List V, SqT K H a xs ∧ xs.length ≤ i⟩
theorem turn_enumT {P : Program} {w : World} {K : PySem.W.Frag} {elts : List Expr} {kk : Nat} {tpos : Pos} (a e it : Addr) :
    Turn P w K (.Tuple elts kk tpos) (Itet K a) [e, it] e (fun i h => (∃ old, IsEnum h e it ((i : Nat) : Int) old) ∧ h.IsTupleIter it a i ∧ e ≠ it) where
  mem := by simp
  obj := fun i h st b hb => by
    obtain ⟨⟨old, he⟩, ⟨o, ho, hc, hd⟩, _⟩ := st
    have e' : b = e ∨ b = it := by simpa using hb
    rcases e' with z | z
    · rw [z]; exact ⟨_, he, fun v q => nomatch q⟩
    · rw [z]; exact ⟨o, ho, fun v q => by rw [hd] at q; cases q⟩
  keep := fun i h h' st k => let ⟨⟨old, he⟩, hi, hne⟩ := st; ⟨⟨old, k e (by simp) _ he⟩, hi.at fun o q => k it (by simp) o q, hne⟩
  item := by
    intro X hP hw hK hc i pins s σ H E I hf st hg
    subst hP hw hK
    obtain ⟨⟨old, he⟩, hit, hne⟩ := st
    obtain ⟨xs, x, hq, hx⟩ := hg
    obtain ⟨its, rv, p, hz⟩ := I.tuple hq
    obtain ⟨u, hu, ru⟩ := rv.get hx
    have hel : e < s.heap.objs.size := Heap.lt_size he
    have hil : it < s.heap.objs.size := by obtain ⟨_, q, _⟩ := hit; exact Heap.lt_size q
    have nai : a ≠ it := fun z => by
      obtain ⟨o1, ho1, hc1, _⟩ := p
      obtain ⟨o2, ho2, hc2, _⟩ := hit
      rw [z] at ho1
      have q := Option.some.inj (ho2.symm.trans ho1)
      rw [← q, hc2] at hc1
      injection hc1 with t
      exact absurd t (by decide)
    have nea : e ≠ a := fun z => by
      obtain ⟨o1, ho1, hc1, _⟩ := p
      rw [← z] at ho1
      have q := Option.some.inj (Eq.trans (Eq.symm he) ho1)
      rw [← q] at hc1
      injection hc1 with t
      exact absurd t (by decide)
    have hlt : i < its.toArray.size := by
      rw [List.size_toArray]
      exact (List.getElem?_eq_some_iff.mp hu).1
    refine wpAny_pyNext_enum_itemD (Draws.tuple (A := X.A.in1) (show X.A.in1.handled = none from I.ok.hd hc) it a nai its.toArray) he ⟨hit, p⟩ hlt hne (by simp [hne, nea]) fun x' h' tk hx' ho st' hT hsz hk => ?_
    have ex : x' = u := by
      have q : its[i]? = some x' := by simpa using hx'
      rw [hu] at q
      exact (Option.some.inj q).symm
    subst ex
    refine ⟨_, rfl, wpAny_letOwnedTupleGo_enum (s := { s with heap := h', toks := tk + 1 }) ho fun h'' he' sb => ?_⟩
    have hT2 : h''.get? s.heap.objs.size = some { cls := .type "tuple", data := .seq #[.int i tk, x'] } := (sb.2 _ (Nat.ne_of_gt hel)).trans hT
    have new : ObjOk X.prog X.w (upd H s.heap.objs.size (.tup [.int (i : Nat), x])) h'' s.heap.objs.size (.tup [.int (i : Nat), x]) :=
      ⟨by show 2 ≤ sizeLine; decide, [.int i tk, x'], .cons ⟨_, rfl⟩ (.cons ru .nil), ⟨_, hT2, rfl, _, rfl⟩⟩
    have I1 : Inv X pins σ (upd H s.heap.objs.size (.tup [.int (i : Nat), x])) { s with heap := h'', toks := tk + 1 } :=
      I.turnedNew (ch := [e, it]) (fun b ob hb q => (sb.2 b (fun z => hb (by simp [z]))).trans (hk b ob (fun z => hb (by simp [z])) (fun z => hb (by simp [z])) q)) hf (Nat.le_refl _) new
    refine ⟨.ref s.heap.objs.size, _, I1, rfl, ⟨_, x, rfl, I.hok.fresh (Nat.le_refl _), rfl, fun ys hy => by rw [I.tuple_inj hy hq]; exact hx⟩, ⟨⟨x', ?_⟩, st'.1.at fun o q => (sb.2 it (Ne.symm hne)).trans q, hne⟩, fun b hb => ?_⟩
    · have e1 : ((i + 1 : Nat) : Int) = (i : Int) + 1 := by omega
      rw [e1]; exact he'
    · have hb' : b < s.heap.objs.size := by
        have e' : b = e ∨ b = it := by simpa using hb
        rcases e' with z | z
        · rw [z]; exact hel
        · rw [z]; exact hil
      rw [upd_ne (Nat.ne_of_lt hb')]
      exact (hf b hb).1
  done := by
    intro X hP hw hK hc i pins s σ H E I hf st hg
    subst hP hw hK
    obtain ⟨⟨old, he⟩, hit, hne⟩ := st
    obtain ⟨xs, hq, hx⟩ := hg
    obtain ⟨its, rv, p, hz⟩ := I.tuple hq
    obtain ⟨f0, f1, f2, f3, f4, f5⟩ := hf it (by simp)
    have hl := rv.length
    exact HTR.wpAny_pyNext_enum_endT (I.ok.hd hc) he hit p (by simp; omega) fun h' eb => ⟨rfl, I.turned (t' := s.toks) (fun b o hb q => eb b o hb q) f0 f1 f3 f4 f5⟩
  self := fun A i s Q E st h => let ⟨⟨_, he⟩, _⟩ := st; wpAny_pyIter_enum he h
end L2

namespace L2
open PySem PySem.Spec PyProof.Rows
def iEnumT (K : PySem.W.Frag) (ta : TA) : TI := fun σ H R => ta σ H fun vs H1 => ∃ a xs, vs = [.ref a] ∧ SqT K H1 a xs ∧ R (Itet K a) H1
theorem pi_enumT {X : Cx} {e : Expr} {ta : TA} {p pos tpos : Pos} {elts : List Expr} {kk : Nat} (hg : Gl X "enumerate") (hm : X.mg "enumerate" = none) (ha : PA X [e] ta) (hs : starEach [e] X.env = [(false, eval e X.env)] := by rfl) :
    PI X (.Tuple elts kk tpos) (.Call (.Name "enumerate" p) [e] [] pos) (iEnumT X.K ta) := by
  refine ⟨fun pins s σ H R I h => ?_⟩
  refine Call_ (ld_blt I hg hm boot_enumerate (PyProof.Rows.callWith_type1 (thn (ha.run pos pins s σ H _ I h) fun us s1 ⟨vs, H1, I1, r1, q1⟩ => ?_) hs rfl))
  obtain ⟨a, xs, ex, hq, q⟩ := q1
  subst ex
  cases r1 with
  | cons r rr =>
    cases rr
    cases r
    obtain ⟨its, rv, p', hz⟩ := I1.tuple hq
    refine HTR.enum1 (begins_tuple a its.toArray) p' fun h' he hit hsz hk => wpAny_pyIter_enum he ?_
    have I2 : Inv X pins σ H1 { s1 with heap := h' } := I1.kept (t' := s1.toks) hk
    refine ⟨s1.heap.objs.size + 1, [s1.heap.objs.size + 1, s1.heap.objs.size], _, _, H1, rfl, I2, turn_enumT a (s1.heap.objs.size + 1) s1.heap.objs.size, ⟨⟨.none, he⟩, ⟨_, hit, rfl, rfl⟩, Nat.succ_ne_self _⟩, fun b hb => ?_, q⟩
    have e' : b = s1.heap.objs.size + 1 ∨ b = s1.heap.objs.size := by simpa using hb
    have hle : s1.heap.objs.size ≤ b := by
      rcases e' with z | z
      · rw [z]; exact Nat.le_add_right _ _
      · rw [z]; exact Nat.le_refl _
    exact I1.fpOk hle (I1.hok.fresh hle)
theorem for_enumT {K : PySem.W.Frag} {a : Addr} {xs : List V} {g : TG} {tb : TS} {D : Ends} {σ : L2.St} {H : Hp} (Pv : Nat → L2.St → Hp → Prop) (h0 : Pv 0 σ H) (hl : ∀ i σ H, i ≤ xs.length → Pv i σ H → SqT K H a xs)
    (hs : ∀ i x σ H T, xs[i]? = some x → Pv i σ H → H T = none → g (.ref T) σ (upd H T (.tup [.int (i : Nat), x])) fun σ2 H2 => tb { D with nx := Pv (i + 1), ct := Pv (i + 1), bk := D.nx } σ2 H2) (hd : ∀ σ H, Pv xs.length σ H → D.nx σ H) :
    ∃ W : Nat → Nat → L2.St → Hp → Prop, (∃ m, W 0 m σ H) ∧ ∀ i m σ H, W i m σ H →
      ((Itet K a).stop i H ∧ D.nx σ H) ∨ ((Itet K a).go i H ∧ ∃ N : L2.St → Hp → Prop, (∀ σ' H', N σ' H' → ∃ m', m' < m ∧ W (i + 1) m' σ' H') ∧ ∀ x H', (Itet K a).yld i H x H' → g x σ H' fun σ2 H2 => tb { D with nx := N, ct := N, bk := D.nx } σ2 H2) := by
  refine ⟨fun i m σ H => m = xs.length - i ∧ i ≤ xs.length ∧ Pv i σ H, ⟨xs.length, by simp, Nat.zero_le _, h0⟩, ?_⟩
  rintro i m σ H ⟨rfl, hi, p⟩
  have q := hl i σ H hi p
  by_cases hlt : i < xs.length
  · refine .inr ⟨⟨xs, xs[i], q, by simp [hlt]⟩, Pv (i + 1), fun σ' H' p' => ⟨xs.length - (i + 1), by omega, rfl, hlt, p'⟩, fun x H' y => ?_⟩
    obtain ⟨T, x, rfl, hT, rfl, y⟩ := y
    exact hs i x σ _ T (y xs q) p hT
  · have e : i = xs.length := by omega
    subst e
    exact .inl ⟨⟨xs, q, Nat.le_refl _⟩, hd σ H p⟩
/-! ### t == (), t[::-1], list(t) -/
section
variable {X : Cx}
end
end L2

namespace My
open PySem PySem.Spec PyProof.Rows L2
/-! ### values of any kind: a tuple of odd values, or no tuple -/
def NotT (K : PySem.W.Frag) (G : Hp) (v : V) : Prop := ∃ t, TyX K G v t ∧ PySem.W.kitOne K t (.type "tuple") = some false
theorem NotT.same {K : PySem.W.Frag} {G G' : Hp} {v : V} (h : NotT K G v) (e : Same G G') : NotT K G' v := by
  obtain ⟨t, h1, h2⟩ := h
  exact ⟨t, tyX_same e h1, h2⟩
def Vl (K : PySem.W.Frag) (S A : Addr) (n : Nat) (H : Hp) (v : V) : Prop :=
  (∃ p xs, v = .ref p ∧ hid S A H p = some (.tup xs) ∧ xs.length ≤ n ∧ ∀ x ∈ xs, Odd K S A H x) ∨ ((∃ d, Dq true K (hid S A H) v d ∧ Fit 50000 20 d) ∧ NotT K (hid S A H) v)
section
variable {K : PySem.W.Frag} {S A B : Addr} {n m t : Nat} {H H' : Hp} {v : V}
theorem Vl.x (h : Vl K S A n H v) (e : SameX S A H H') : Vl K S A n H' v := by
  rcases h with ⟨p, xs, h1, h2, h3, h4⟩ | ⟨⟨d, h1, h2⟩, h3⟩
  · exact .inl ⟨p, xs, h1, e.hid _ _ h2, h3, fun x hx => (h4 x hx).x e⟩
  · exact .inr ⟨⟨d, Dq.same e.hid h1, h2⟩, h3.same e.hid⟩
theorem Vl.same (h : Vl K S A n H v) (e : Same H H') : Vl K S A n H' v := h.x (Same.x e)
theorem Vl.mono (h : Vl K S A n H v) (e : n ≤ m) : Vl K S A m H v := by
  rcases h with ⟨p, xs, h1, h2, h3, h4⟩ | h
  · exact .inl ⟨p, xs, h1, h2, Nat.le_trans h3 e, h4⟩
  · exact .inr h
theorem odds_data : ∀ {xs : List V}, (∀ x ∈ xs, Odd K S A H x) → ∃ ds, DqAll true K (hid S A H) xs ds ∧ FitAll (101 * xs.length) 10 ds
  | [], _ => ⟨[], .nil, fitAll_nil _ _⟩
  | x :: xs, h => by
    obtain ⟨d, h1, h2⟩ := (h x List.mem_cons_self).dq
    obtain ⟨ds, h3, h4⟩ := odds_data fun y hy => h y (List.mem_cons_of_mem _ hy)
    refine ⟨d :: ds, .cons h1 h3, ?_⟩
    have e : 101 * (x :: xs).length = 100 + 1 + 101 * xs.length := by
      rw [List.length_cons]
      omega
    rw [e]
    exact fitAll_cons h2 h4
theorem Vl.data (h : Vl K S A n H v) (hn : n ≤ 300) : ∃ d, Dq true K H v d ∧ Fit 60000 30 d := by
  rcases h with ⟨p, xs, rfl, h2, h3, h4⟩ | ⟨⟨d, h1, h2⟩, h3⟩
  · obtain ⟨ds, g1, g2⟩ := odds_data h4
    exact ⟨_, Dq.same (hid_same S A H) (.tup (.inl (.inl h2)) g1), (fit_tuple g2).mono (by omega) (by decide)⟩
  · exact ⟨d, Dq.same (hid_same S A H) h1, h2.mono (by decide) (by decide)⟩
theorem vl_tup {p : Addr} {xs : List V} (st : Strm H S A B t) (h : H p = some (.tup xs)) (hn : xs.length ≤ n) (hx : ∀ x ∈ xs, Odd K S A H x) : Vl K S A n H (.ref p) := by
  obtain ⟨as, ha, _⟩ := st.a
  refine .inl ⟨p, xs, rfl, ?_, hn, hx⟩
  rw [hid_ne (fun z => ?_) (fun z => ?_)]
  · exact h
  · rw [z, st.s] at h
    cases h
  · rw [z, ha] at h
    cases h
theorem Odd.vl (o : Odd K S A H v) (h : NotT K (hid S A H) v) : Vl K S A n H v := by
  obtain ⟨d, h1, h2⟩ := o.dq
  exact .inr ⟨⟨d, h1, h2.mono (by decide) (by decide)⟩, h⟩
def Od2 (K : PySem.W.Frag) (S A : Addr) (H : Hp) (v : V) : Prop := Odd K S A H v ∧ Vl K S A 3 H v
theorem Od2.x (h : Od2 K S A H v) (e : SameX S A H H') : Od2 K S A H' v := ⟨h.1.x e, h.2.x e⟩
theorem Od2.same (h : Od2 K S A H v) (e : Same H H') : Od2 K S A H' v := h.x (Same.x e)
theorem od2_non : Od2 K S A H .non := ⟨odd_non, odd_non.vl ⟨_, .base .non, kit_ty (a := "NoneType") (b := "tuple") (r := false) (by decide +kernel)⟩⟩
theorem od2_bl (b : Bool) : Od2 K S A H (.bl b) := ⟨odd_bl b, (odd_bl b).vl ⟨_, .base (.bl b), kit_ty (a := "bool") (b := "tuple") (r := false) (by decide +kernel)⟩⟩
theorem od2_int {i : Int} (h : i.natAbs < 10 ^ 30) : Od2 K S A H (.int i) := ⟨odd_int h, (odd_int h).vl ⟨_, .base (.int i), kit_ty (a := "int") (b := "tuple") (r := false) (by decide +kernel)⟩⟩
theorem od2_str {x : Str} (h : Fit 100 10 (.str x)) : Od2 K S A H (.str x) := ⟨odd_str h, (odd_str h).vl ⟨_, .base (.str x), kit_ty (a := "str") (b := "tuple") (r := false) (by decide +kernel)⟩⟩
theorem od2_tup (st : Strm H S A B t) {p : Addr} (np : H p = none) {xs : List V} {ds : List PyData} (h : DqAll true K (hid S A H) xs ds) (f : Fit 100 10 (.tuple ds)) (h3 : xs.length ≤ 3) (hx : ∀ x ∈ xs, Odd K S A H x) : Od2 K S A (upd H p (.tup xs)) (.ref p) :=
  ⟨odd_tup st np h f, .inl ⟨p, xs, rfl, hid_get st np _, h3, fun x z => (hx x z).same (same_upd np)⟩⟩
theorem od2_lst (st : Strm H S A B t) {p : Addr} (np : H p = none) (ns : p ≠ sysModules) {xs : List V} {ds : List PyData} (h : DqAll true K (hid S A H) xs ds) (f : Fit 100 10 (.list ds)) : Od2 K S A (upd H p (.lst xs)) (.ref p) :=
  ⟨odd_lst st np ns h f, (odd_lst st np ns h f).vl ⟨_, .base (.lst (hid_get st np _)), kit_ty (a := "list") (b := "tuple") (r := false) (by decide +kernel)⟩⟩
theorem od2_dic (st : Strm H S A B t) {p : Addr} (np : H p = none) (kvs : List (Str × Int))
    (f : Fit 100 10 (.dict (kvs.map fun p => (PyData.str p.1, PyData.int p.2)))) : Od2 K S A (upd H p (.dK (kvs.map fun p => ((Sum.inr p.1 : Key), V.int p.2)))) (.ref p) :=
  ⟨odd_dic st np kvs f, (odd_dic st np kvs f).vl ⟨_, .base (.dK (hid_get st np _)), kit_ty (a := "dict") (b := "tuple") (r := false) (by decide +kernel)⟩⟩
/-! ### rows of odd values: slices and sums -/
def Rw (K : PySem.W.Frag) (S A : Addr) (n : Nat) (H : Hp) (p : Addr) : Prop := ∃ xs, H p = some (.tup xs) ∧ xs.length ≤ n ∧ ∀ x ∈ xs, Odd K S A H x
theorem Rw.same {p : Addr} (h : Rw K S A n H p) (e : Same H H') : Rw K S A n H' p := by
  obtain ⟨xs, h1, h2, h3⟩ := h
  exact ⟨xs, e _ _ h1, h2, fun x hx => (h3 x hx).same e⟩
theorem Rw.vl {p : Addr} (h : Rw K S A n H p) (st : Strm H S A B t) : Vl K S A n H (.ref p) := by
  obtain ⟨xs, h1, h2, h3⟩ := h
  exact vl_tup st h1 h2 h3
end
section
variable {K : PySem.W.Frag} {S A B : Addr} {n m t : Nat} {H H' : Hp} {v : V}
theorem Rw.x {p : Addr} (h : Rw K S A n H p) (st : Strm H S A B t) (e : SameX S A H H') : Rw K S A n H' p := by
  obtain ⟨xs, h1, h2, h3⟩ := h
  obtain ⟨as, ha, _⟩ := st.a
  refine ⟨xs, e _ _ h1 (fun z => ?_) (fun z => ?_), h2, fun x hx => (h3 x hx).x e⟩
  · rw [z, st.s] at h1
    cases h1
  · rw [z, ha] at h1
    cases h1
end
def spOdd2 (K : PySem.W.Frag) : Sp := fun vs H Q _ => ∃ (S A B : Addr) (t : Nat), vs = [.ref S] ∧ Strm H S A B t ∧ t < 1000000000 ∧
  ∀ H' t' v, SameX S A H H' → Strm H' S A B t' → t' ≤ t + 1 → Od2 K S A H' v → Q v H'
def spBent (K : PySem.W.Frag) : Sp := fun vs H Q _ => ∃ (S A B : Addr) (t n : Nat) (v : V), vs = [.ref S, v] ∧ Strm H S A B t ∧ t < 900000000 ∧ n ≤ 80 ∧ Vl K S A n H v ∧
  ∀ H' t' u, SameX S A H H' → Strm H' S A B t' → t' ≤ t + 9 → Vl K S A (3 * n + 2) H' u → Q u H'
/-! ### the judgement of a ring -/
def arB (v : V) : Bool := ixB v 6
end My

namespace My
open PySem PySem.Spec PyProof.Rows L2
/-! ### the beginnings of a ring -/
/-- the beginnings among the first i places -/
def bgU (ns : List Int) (i : Nat) : List Nat := (List.range i).filter fun p => decide (nd ns p = 0)
def bgn (ns : List Int) : List Nat := bgU ns ns.length
def ofN (ps : List Nat) : List Int := ps.map fun p : Nat => (p : Int)
theorem bgU_yes {ns : List Int} {i : Nat} (h : nd ns i = 0) : bgU ns (i + 1) = bgU ns i ++ [i] := by
  unfold bgU
  rw [List.range_succ, List.filter_append, List.filter_cons_of_pos (by simp [h])]
  rfl
theorem bgU_no {ns : List Int} {i : Nat} (h : nd ns i ≠ 0) : bgU ns (i + 1) = bgU ns i := by
  unfold bgU
  rw [List.range_succ, List.filter_append, List.filter_cons_of_neg (by simp [h]), List.filter_nil, List.append_nil]
theorem bgU_len (ns : List Int) (i : Nat) : (bgU ns i).length ≤ i := by
  have := List.length_filter_le (fun p => decide (nd ns p = 0)) (List.range i)
  rw [List.length_range] at this
  exact this
theorem ofN_len (ps : List Nat) : (ofN ps).length = ps.length := List.length_map _
theorem ofN_app (a b : List Nat) : ofN (a ++ b) = ofN a ++ ofN b := List.map_append
theorem mem_bgn {ns : List Int} {p : Nat} : p ∈ bgn ns ↔ p < ns.length ∧ nd ns p = 0 := by
  unfold bgn bgU
  rw [List.mem_filter, List.mem_range, decide_eq_true_iff]
theorem mem_ofN {ps : List Nat} {x : Int} : x ∈ ofN ps ↔ ∃ p ∈ ps, x = (p : Int) := by
  unfold ofN
  rw [List.mem_map]
  exact ⟨fun ⟨p, h, e⟩ => ⟨p, h, e.symm⟩, fun ⟨p, h, e⟩ => ⟨p, h, e.symm⟩⟩
end My

namespace My
open PySem PySem.Spec PyProof.Rows L2
/-! ### a written tuple of ints that the module's name holds -/
/-! ### slices of a tuple, whole or not -/
theorem slT_lo {K : PySem.W.Frag} {H : Hp} {a : Addr} {xs : List V} {p : Nat} {Q : VK} (hT : SqT K H a xs) (hp : p ≤ xs.length) (h : ∀ H' d, Same H H' → SqT K H' d (xs.drop p) → Q (.ref d) H') :
    rSlA K (.ref a) (some (p : Int)) none H Q := by
  refine ⟨a, _, rfl, hT, fun e => ?_, fun e d nd => ?_⟩
  · rw [show HT.sIx xs.length 0 (some (p : Int)) = min p xs.length from HT.sIx_nat _ _ p] at e
    have p0 : p = 0 ∨ xs.length = 0 := by omega
    refine h H a (Same.refl H) ?_
    rcases p0 with z | z
    · rw [z, List.drop_zero]
      exact hT
    · rw [List.eq_nil_of_length_eq_zero z] at hT ⊢
      rw [List.drop_nil]
      exact hT
  · refine h _ d (same_upd nd) (.inl (.inl ?_))
    rw [upd_same, cut_lo _ _ hp]
theorem slT_hi {K : PySem.W.Frag} {H : Hp} {a : Addr} {xs : List V} {p : Nat} {Q : VK} (hT : SqT K H a xs) (hp : p ≤ xs.length) (h : ∀ H' d, Same H H' → SqT K H' d (xs.take p) → Q (.ref d) H') :
    rSlA K (.ref a) none (some (p : Int)) H Q := by
  refine ⟨a, _, rfl, hT, fun e => ?_, fun e d nd => ?_⟩
  · rw [HT.sIx_none, show HT.sIx xs.length xs.length (some (p : Int)) = min p xs.length from HT.sIx_nat _ _ p] at e
    refine h H a (Same.refl H) ?_
    rw [List.take_of_length_le (by omega)]
    exact hT
  · refine h _ d (same_upd nd) (.inl (.inl ?_))
    rw [upd_same, cut_hi _ _ hp]
theorem catT {K : PySem.W.Frag} {H : Hp} {a b : Addr} {xs ys : List V} {Q : VK} (hx : SqT K H a xs) (hy : SqT K H b ys) (hl : xs.length + ys.length ≤ 1000000) (h : ∀ H' d, Same H H' → SqT K H' d (xs ++ ys) → Q (.ref d) H') :
    rCatA K (.ref a) (.ref b) H Q := by
  refine ⟨a, b, _, _, rfl, rfl, hx, hy, sz hl, fun e => ?_, fun e1 e2 => ?_, fun e1 e2 d nd => ?_⟩
  · refine h H b (Same.refl H) ?_
    rw [e, List.nil_append]
    exact hy
  · refine h H a (Same.refl H) ?_
    rw [e2, List.append_nil]
    exact hx
  · refine h _ d (same_upd nd) (.inl (.inl ?_))
    rw [upd_same]
/-! ### effects -/
end My
namespace My
open PySem PySem.Spec PyProof.Rows L2
/-- a row: at most 24 arities -/
def Row (ns : List Int) : Prop := ns.length ≤ 24 ∧ ∀ x ∈ ns, 0 ≤ x ∧ x ≤ 5
theorem Ring.row {ns : List Int} (h : Ring ns) : Row ns := ⟨h.2.1, h.2.2⟩
theorem Row.take {ns : List Int} (h : Row ns) (p : Nat) : Row (ns.take p) := ⟨by rw [List.length_take]; have := h.1; omega, fun x hx => h.2 x (List.mem_of_mem_take hx)⟩
theorem Row.drop {ns : List Int} (h : Row ns) (p : Nat) : Row (ns.drop p) := ⟨by rw [List.length_drop]; have := h.1; omega, fun x hx => h.2 x (List.mem_of_mem_drop hx)⟩
theorem Row.reverse {ns : List Int} (h : Row ns) : Row ns.reverse := ⟨by rw [List.length_reverse]; exact h.1, fun x hx => h.2 x (List.mem_reverse.mp hx)⟩
/-- a value that is a row -/
def RowAt (K : PySem.W.Frag) (H : Hp) (v : V) : Prop := ∃ a ns, v = .ref a ∧ TupI K H a ns ∧ Row ns
theorem RowAt.same {K : PySem.W.Frag} {H H' : Hp} {v : V} (h : RowAt K H v) (e : Same H H') : RowAt K H' v := by
  obtain ⟨a, ns, h1, h2, h3⟩ := h
  exact ⟨a, ns, h1, same_seqT e h2, h3⟩
end My
namespace My
open PySem PySem.Spec PyProof.Rows L2
end My

namespace My
open PySem PySem.Spec PyProof.Rows L2
/-! ### reading round and round: the height after k tokens, without an end -/
/-- the arity of the token that is read as number k -/
def ar (ns : List Int) (k : Nat) : Int := ns.getD (k % ns.length) 0
def Sh (ns : List Int) : Nat → Int
  | 0 => 0
  | k + 1 => Sh ns k + 1 - ar ns k
theorem ar_at (ns : List Int) (k : Nat) (h : k < ns.length) : ar ns k = ns[k] := by
  unfold ar
  rw [Nat.mod_eq_of_lt h, List.getD_eq_getElem?_getD, List.getElem?_eq_getElem h]
  rfl
theorem ar_round (ns : List Int) (k : Nat) : ar ns (k + ns.length) = ar ns k := by
  unfold ar
  rw [Nat.add_mod_right]
theorem Sh_ps (ns : List Int) : ∀ k : Nat, k ≤ ns.length → Sh ns k = ps ns k
  | 0, _ => (ps_zero ns).symm
  | k + 1, h => by
    have ih := Sh_ps ns k (by omega)
    have hk : k < ns.length := by omega
    show Sh ns k + 1 - ar ns k = _
    rw [ih, ar_at ns k hk]
    unfold ps
    rw [sum_take (List.getElem?_eq_getElem hk)]
    omega
theorem Sh_all (ns : List Int) : Sh ns ns.length = bal ns := by rw [Sh_ps ns _ (Nat.le_refl _), ps_all]
theorem Sh_round (ns : List Int) : ∀ k : Nat, Sh ns (k + ns.length) = Sh ns k + bal ns
  | 0 => by rw [Nat.zero_add, Sh_all]; show _ = (0 : Int) + _; omega
  | k + 1 => by
    have ih := Sh_round ns k
    have e : k + 1 + ns.length = (k + ns.length) + 1 := by omega
    rw [e]
    show Sh ns (k + ns.length) + 1 - ar ns (k + ns.length) = Sh ns k + 1 - ar ns k + bal ns
    rw [ih, ar_round]
    omega
/-- the heights from the place p -/
theorem rot_Sh (ns : List Int) (p k : Nat) (hp : p ≤ ns.length) (hk : k ≤ ns.length) : ps (rot ns p) k = Sh ns (p + k) - Sh ns p := by
  have h := rot_ps ns p k hp hk
  have e : ps (rot ns p) k = (k : Int) - ((rot ns p).take k).sum := rfl
  rw [e, h]
  by_cases c : p + k ≤ ns.length
  · rw [if_pos c, Sh_ps ns _ c, Sh_ps ns p hp]
  · rw [if_neg c, Sh_ps ns p hp]
    have e2 : p + k = (p + k - ns.length) + ns.length := by omega
    have := Sh_round ns (p + k - ns.length)
    rw [← e2, Sh_ps ns (p + k - ns.length) (by omega)] at this
    omega
theorem hts_Sh (ns : List Int) (p k : Nat) (hp : p ≤ ns.length) (hk : k < ns.length) : (hts 0 (rot ns p))[k]? = some (Sh ns (p + (k + 1)) - Sh ns p) := by
  rw [hts_get _ _ _ (by rw [rot_len ns p hp]; exact hk), ← rot_Sh ns p (k + 1) hp (by omega)]
  unfold ps
  congr 1
  omega
theorem nd_zero_win (ns : List Int) (p : Nat) (hp : p < ns.length) : nd ns p = 0 ↔ ∀ k, k < ns.length → Sh ns p < Sh ns (p + (k + 1)) := by
  have ne : hts 0 (rot ns p) ≠ [] := fun e => by
    have := hts_len (rot ns p) 0
    rw [e, rot_len ns p (by omega), List.length_nil] at this
    omega
  constructor
  · intro h k hk
    have m := lo_le _ _ (List.mem_of_getElem? (hts_Sh ns p k (by omega) hk))
    have : 1 ≤ lo (hts 0 (rot ns p)) := by
      unfold nd pos0 at h
      split at h <;> omega
    omega
  · intro h
    obtain ⟨k, hk, e⟩ := mem_get (lo_mem _ ne)
    rw [hts_len, rot_len ns p (by omega)] at hk
    rw [hts_Sh ns p k (by omega) hk] at e
    have e := Option.some.inj e
    have := h k hk
    unfold nd pos0
    split <;> omega
/-! the least height from k on -/
end My

namespace My
open PySem PySem.Spec PyProof.Rows L2
/-! ### the way from a beginning to the next -/
/-- L is the number of tokens from the beginning p to the next one -/
def Unl (ns : List Int) (p L : Nat) : Prop := 1 ≤ L ∧ nd ns ((p + L) % ns.length) = 0 ∧ ∀ k, 1 ≤ k → k < L → nd ns ((p + k) % ns.length) ≠ 0
theorem Unl.uniq {ns : List Int} {p L M : Nat} (a : Unl ns p L) (b : Unl ns p M) : L = M := by
  obtain ⟨a1, a2, a3⟩ := a
  obtain ⟨b1, b2, b3⟩ := b
  rcases Nat.lt_trichotomy L M with h | h | h
  · exact absurd a2 (b3 L a1 h)
  · exact h
  · exact absurd b2 (a3 M b1 h)
theorem Unl.le {ns : List Int} {p L : Nat} (a : Unl ns p L) (hp : p < ns.length) (h : nd ns p = 0) : L ≤ ns.length := by
  obtain ⟨a1, a2, a3⟩ := a
  by_cases c : L ≤ ns.length
  · exact c
  · refine absurd ?_ (a3 ns.length (by omega) (by omega))
    rw [Nat.add_mod_right, Nat.mod_eq_of_lt hp]
    exact h
/-! the list of the beginnings ascends -/
theorem bgn_asc (ns : List Int) : (bgn ns).Pairwise (· < ·) := List.Pairwise.filter _ List.pairwise_lt_range
theorem bgn_lt {ns : List Int} {i j a b : Nat} (ha : (bgn ns)[i]? = some a) (hb : (bgn ns)[j]? = some b) (h : i < j) : a < b := by
  obtain ⟨h1, e1⟩ := List.getElem?_eq_some_iff.mp ha
  obtain ⟨h2, e2⟩ := List.getElem?_eq_some_iff.mp hb
  have := List.pairwise_iff_getElem.mp (bgn_asc ns) i j h1 h2 h
  rw [e1, e2] at this
  exact this
theorem bgn_at {ns : List Int} {p : Nat} (hp : p < ns.length) (h : nd ns p = 0) : ∃ i : Nat, (bgn ns)[i]? = some p := by
  obtain ⟨i, hi, e⟩ := List.getElem_of_mem (mem_bgn.mpr ⟨hp, h⟩)
  exact ⟨i, by rw [List.getElem?_eq_getElem hi, e]⟩
theorem unl_mid {ns : List Int} {i s a : Nat} (hs : (bgn ns)[i]? = some s) (ha : (bgn ns)[i + 1]? = some a) : Unl ns s (a - s) ∧ s < a := by
  obtain ⟨s1, s2⟩ := mem_bgn.mp (List.mem_of_getElem? hs)
  obtain ⟨a1, a2⟩ := mem_bgn.mp (List.mem_of_getElem? ha)
  have lt := bgn_lt hs ha (Nat.lt_succ_self i)
  refine ⟨⟨by omega, ?_, fun k k1 k2 z => ?_⟩, lt⟩
  · rw [show s + (a - s) = a by omega, Nat.mod_eq_of_lt a1]
    exact a2
  · rw [Nat.mod_eq_of_lt (by omega)] at z
    obtain ⟨j, hj⟩ := bgn_at (p := s + k) (by omega) z
    rcases Nat.lt_trichotomy j (i + 1) with h | h | h
    · by_cases e : j = i
      · rw [e, hs] at hj
        have := Option.some.inj hj
        omega
      · have := bgn_lt hj hs (by omega)
        omega
    · rw [h, ha] at hj
      have := Option.some.inj hj
      omega
    · have := bgn_lt ha hj h
      omega
theorem unl_last {ns : List Int} {i s a : Nat} (hi : i + 1 = (bgn ns).length) (hs : (bgn ns)[i]? = some s) (ha : (bgn ns)[0]? = some a) : Unl ns s (ns.length - s + a) ∧ a ≤ s := by
  obtain ⟨s1, s2⟩ := mem_bgn.mp (List.mem_of_getElem? hs)
  obtain ⟨a1, a2⟩ := mem_bgn.mp (List.mem_of_getElem? ha)
  have le : a ≤ s := by
    by_cases c0 : i = 0
    · rw [c0, ha] at hs
      have := Option.some.inj hs
      omega
    · have := bgn_lt ha hs (by omega)
      omega
  refine ⟨⟨by omega, ?_, fun k k1 k2 z => ?_⟩, le⟩
  · rw [show s + (ns.length - s + a) = a + ns.length by omega, Nat.add_mod_right, Nat.mod_eq_of_lt a1]
    exact a2
  · by_cases c2 : s + k < ns.length
    · rw [Nat.mod_eq_of_lt c2] at z
      obtain ⟨j, hj⟩ := bgn_at (p := s + k) c2 z
      have hj2 := (List.getElem?_eq_some_iff.mp hj).1
      by_cases e : j = i
      · rw [e, hs] at hj
        have := Option.some.inj hj
        omega
      · have := bgn_lt hj hs (by omega)
        omega
    · rw [show s + k = (s + k - ns.length) + ns.length by omega, Nat.add_mod_right, Nat.mod_eq_of_lt (by omega)] at z
      obtain ⟨j, hj⟩ := bgn_at (p := s + k - ns.length) (by omega) z
      by_cases c0 : j = 0
      · rw [c0, ha] at hj
        have := Option.some.inj hj
        omega
      · have := bgn_lt ha hj (by omega)
        omega
/-- the lengths of the units, in order -/
structure Lens (ns : List Int) (us : List Nat) : Prop where
  len : us.length = (bgn ns).length
  at_ : ∀ (i s L : Nat), (bgn ns)[i]? = some s → us[i]? = some L → Unl ns s L
theorem Lens.pre {ns : List Int} {us : List Nat} (h : Lens ns us) {a : Nat} (ha : (bgn ns)[0]? = some a) : ∀ (k s : Nat), (bgn ns)[k]? = some s → (us.take k).sum + a = s
  | 0, s, hs => by
    rw [ha] at hs
    have := Option.some.inj hs
    rw [List.take_zero, List.sum_nil, Nat.zero_add]
    exact this
  | k + 1, s, hs => by
    have hk := (List.getElem?_eq_some_iff.mp hs).1
    obtain ⟨r, hr⟩ : ∃ r, (bgn ns)[k]? = some r := ⟨_, List.getElem?_eq_getElem (by omega)⟩
    obtain ⟨L, hL⟩ : ∃ L, us[k]? = some L := ⟨_, List.getElem?_eq_getElem (by rw [h.len]; omega)⟩
    have ih := h.pre ha k r hr
    obtain ⟨u, lt⟩ := unl_mid hr hs
    have e := (h.at_ k r L hr hL).uniq u
    rw [List.take_add_one, hL]
    show (us.take k ++ [L]).sum + a = s
    rw [List.sum_append, List.sum_cons, List.sum_nil]
    omega
theorem Lens.sum {ns : List Int} {us : List Nat} (h : Lens ns us) (ne : 0 < us.length) : us.sum = ns.length := by
  have hm := h.len
  obtain ⟨a, ha⟩ : ∃ a, (bgn ns)[0]? = some a := ⟨_, List.getElem?_eq_getElem (by omega)⟩
  obtain ⟨s, hs⟩ : ∃ s, (bgn ns)[us.length - 1]? = some s := ⟨_, List.getElem?_eq_getElem (by omega)⟩
  obtain ⟨L, hL⟩ : ∃ L, us[us.length - 1]? = some L := ⟨_, List.getElem?_eq_getElem (by omega)⟩
  have p := h.pre ha _ _ hs
  obtain ⟨u, le⟩ := unl_last (by omega) hs ha
  have e := (h.at_ _ _ _ hs hL).uniq u
  have t : us.take (us.length - 1 + 1) = us := List.take_of_length_le (by omega)
  rw [List.take_add_one, hL] at t
  have t : us.take (us.length - 1) ++ [L] = us := t
  obtain ⟨s1, s2⟩ := mem_bgn.mp (List.mem_of_getElem? hs)
  rw [← t, List.sum_append, List.sum_cons, List.sum_nil]
  omega
/-! a list of pairs, as the program and the law hold it -/
def Duo (H : Hp) (as : List Addr) (ss us : List Nat) : Prop := ∀ (k : Nat) (a : Addr) (s L : Nat), as[k]? = some a → ss[k]? = some s → us[k]? = some L → H a = some (.tup [.int (s : Int), .int (L : Int)])
theorem Duo.same {H H' : Hp} {as : List Addr} {ss us : List Nat} (h : Duo H as ss us) (e : Same H H') : Duo H' as ss us := fun k a s L h1 h2 h3 => e _ _ (h k a s L h1 h2 h3)
theorem Duo.upd {H : Hp} {as : List Addr} {ss us : List Nat} (h : Duo H as ss us) {d : Addr} {xs : List V} {o : HO} (hd : H d = some (.lst xs)) (hl : as.length ≤ ss.length) (hu : as.length ≤ us.length) : Duo (upd H d o) as ss us := fun k a s L h1 h2 h3 => by
  have e := h k a s L h1 h2 h3
  rw [upd_ne (ne_of e hd (by intro q; cases q))]
  exact e
theorem snoc_get {α : Type} {l : List α} {x y : α} {k : Nat} (h : (l ++ [x])[k]? = some y) : (l[k]? = some y ∧ k < l.length) ∨ (k = l.length ∧ x = y) := by
  rcases Nat.lt_trichotomy k l.length with c | c | c
  · rw [List.getElem?_append_left c] at h
    exact .inl ⟨h, c⟩
  · rw [c, List.getElem?_append_right (Nat.le_refl _), Nat.sub_self] at h
    exact .inr ⟨c, Option.some.inj h⟩
  · rw [List.getElem?_eq_none (by rw [List.length_append]; show l.length + 1 ≤ k; omega)] at h
    cases h
theorem Duo.snoc {H : Hp} {as : List Addr} {ss us : List Nat} (h : Duo H as ss us) (hu : us.length = as.length) {b : Addr} {s L : Nat} (hs : ss[as.length]? = some s) (hb : H b = some (.tup [.int (s : Int), .int (L : Int)])) : Duo H (as ++ [b]) ss (us ++ [L]) := fun k a s' L' h1 h2 h3 => by
  rcases snoc_get h1 with ⟨z1, z2⟩ | ⟨z1, rfl⟩
  · rcases snoc_get h3 with ⟨w1, w2⟩ | ⟨w1, rfl⟩
    · exact h k a s' L' z1 h2 w1
    · omega
  · rcases snoc_get h3 with ⟨w1, w2⟩ | ⟨w1, rfl⟩
    · omega
    · rw [z1, hs] at h2
      cases h2
      exact hb
/-- the lengths that are found so far -/
def LensU (ns : List Int) (us : List Nat) : Prop := ∀ (i s L : Nat), (bgn ns)[i]? = some s → us[i]? = some L → Unl ns s L
theorem LensU.snoc {ns : List Int} {us : List Nat} (h : LensU ns us) {s L : Nat} (hs : (bgn ns)[us.length]? = some s) (u : Unl ns s L) : LensU ns (us ++ [L]) := fun i s' L' h1 h2 => by
  rcases snoc_get h2 with ⟨z1, z2⟩ | ⟨rfl, rfl⟩
  · exact h i s' L' h1 z1
  · rw [hs] at h1
    cases h1
    exact u
theorem Lens.uniq {ns : List Int} {us vs : List Nat} (a : Lens ns us) (b : Lens ns vs) : us = vs := by
  refine List.ext_getElem? fun i => ?_
  by_cases c : i < (bgn ns).length
  · have c1 : i < us.length := by rw [a.len]; exact c
    have c2 : i < vs.length := by rw [b.len]; exact c
    have u := a.at_ i _ _ (List.getElem?_eq_getElem c) (List.getElem?_eq_getElem c1)
    have v := b.at_ i _ _ (List.getElem?_eq_getElem c) (List.getElem?_eq_getElem c2)
    rw [List.getElem?_eq_getElem c1, List.getElem?_eq_getElem c2, u.uniq v]
  · rw [List.getElem?_eq_none (by rw [a.len]; omega), List.getElem?_eq_none (by rw [b.len]; omega)]
end My
namespace My
open PySem PySem.Spec PyProof.Rows L2
end My
namespace My
theorem iteN {c : Bool} {A B : Prop} (h : c = false) (b : B) : if c = true then A else B := by
  rw [if_neg (by rw [h]; exact Bool.false_ne_true)]
  exact b
theorem iteY {c : Bool} {A B : Prop} (h : c = true) (a : A) : if c = true then A else B := by
  rw [if_pos h]
  exact a
end My

namespace My
open PySem PySem.Spec PyProof.Rows L2
/-! ### the next beginning, going round -/
/-- None, or the place -/
def optV : Option Nat → V
  | none => .non
  | some q => .int (q : Int)
end My
namespace My
open PySem PySem.Spec PyProof.Rows L2
end My
namespace My
open PySem PySem.Spec PyProof.Rows L2
end My

namespace My
open PySem PySem.Spec PyProof.Rows L2
/-! ### turning a turned ring -/
theorem rot_get {ns : List Int} {p k : Nat} (hp : p < ns.length) (hk : k < ns.length) : (rot ns p)[k]? = ns[(p + k) % ns.length]? := by
  unfold rot
  by_cases c : p + k < ns.length
  · rw [Nat.mod_eq_of_lt c, List.getElem?_append_left (by rw [List.length_drop]; omega), List.getElem?_drop]
  · rw [List.getElem?_append_right (by rw [List.length_drop]; omega), List.length_drop, List.getElem?_take_of_lt (by omega), show p + k = (p + k - ns.length) + ns.length by omega, Nat.add_mod_right, Nat.mod_eq_of_lt (by omega)]
    congr 1
    omega
/-- the place b as it is numbered from p on -/
def back (n p b : Nat) : Nat := (b + (n - p)) % n
/-- a ring that the stream leaves alone -/
def RingX (S A : Addr) (H : Hp) (v : V) : Prop := ∃ a ns, v = .ref a ∧ a ≠ S ∧ a ≠ A ∧ H a = some (.tup (ns.map V.int)) ∧ Ring ns
theorem RingX.x {S A : Addr} {H H' : Hp} {v : V} (h : RingX S A H v) (e : SameX S A H H') : RingX S A H' v := by
  obtain ⟨a, ns, h1, h2, h3, h4, h5⟩ := h
  exact ⟨a, ns, h1, h2, h3, e _ _ h4 h2 h3, h5⟩
theorem RingX.same {S A : Addr} {H H' : Hp} {v : V} (h : RingX S A H v) (e : Same H H') : RingX S A H' v := h.x (Same.x e)
end My
namespace My
open PySem PySem.Spec PyProof.Rows L2
end My
namespace My
open PySem PySem.Spec PyProof.Rows L2
theorem RingX.upd {S A : Addr} {H : Hp} {v : V} (h : RingX S A H v) {d : Addr} {xs : List V} {o : HO} (hd : H d = some (.lst xs)) : RingX S A (L2.upd H d o) v := by
  obtain ⟨a, ns, h1, h2, h3, h4, h5⟩ := h
  exact ⟨a, ns, h1, h2, h3, by rw [upd_ne (ne_of h4 hd (by intro q; cases q))]; exact h4, h5⟩
theorem eqv_ints_self : ∀ ns : List Int, PyData.eqv (.tuple (ns.map PyData.int)) (.tuple (ns.map PyData.int)) = true := fun ns => by
  have h : ∀ l : List Int, PyData.eqvAll (l.map PyData.int) (l.map PyData.int) = true := fun l => by
    induction l with
    | nil => rfl
    | cons x l ih =>
      show (decide (x = x) && PyData.eqvAll (l.map PyData.int) (l.map PyData.int)) = true
      rw [ih, decide_eq_true rfl]
      rfl
  exact h ns
theorem shapedT_ints (ns : List Int) : SeqAt.shaped (.tuple (ns.map PyData.int)) = true := by
  unfold SeqAt.shaped
  have h1 : PyData.canLay0 (.tuple (ns.map PyData.int)) = true := canLay_ints ns
  have h2 : (PyData.tuple (ns.map PyData.int)).depth ≤ 2 := by
    have := depth_ints ns
    show _ + 1 ≤ 2
    omega
  rw [h1, decide_eq_true (by omega)]
  rfl
theorem dp_tup {K : PySem.W.Frag} {H : Hp} {a : Addr} {ns : List Int} (h : TupI K H a ns) : Dp K H (.ref a) (.tuple (ns.map PyData.int)) := .tup h (dpAll_ints ns)
end My
namespace My
open PySem PySem.Spec PyProof.Rows L2
end My

namespace My
open PySem PySem.Spec PyProof.Rows L2
/-! ### a def with a star parameter alone -/
section
variable {X : Cx} {CX : CXT} {k : Nat} {sp : Sp} {E : XK} {x : Str} {p pos : Pos} {e : Expr} {es : List Expr} {t : TA}
end
/-! ### effects at addresses -/
def Effs (K : PySem.W.Frag) (H : Hp) (as : List Addr) (es : List (Int × Int)) : Prop := as.length = es.length ∧ ∀ (k : Nat) (a : Addr) (e : Int × Int), as[k]? = some a → es[k]? = some e → TupI K H a [e.1, e.2]
theorem Effs.same {K : PySem.W.Frag} {H H' : Hp} {as : List Addr} {es : List (Int × Int)} (h : Effs K H as es) (s : Same H H') : Effs K H' as es := ⟨h.1, fun k a e h1 h2 => same_seqT s (h.2 k a e h1 h2)⟩
theorem Effs.nil {K : PySem.W.Frag} {H : Hp} : Effs K H [] [] := ⟨rfl, fun _ _ _ z => nomatch z⟩
theorem Effs.snoc {K : PySem.W.Frag} {H : Hp} {as : List Addr} {es : List (Int × Int)} (h : Effs K H as es) {a : Addr} {e : Int × Int} (ha : TupI K H a [e.1, e.2]) : Effs K H (as ++ [a]) (es ++ [e]) := by
  refine ⟨by rw [List.length_append, List.length_append, h.1]; rfl, fun k b f h1 h2 => ?_⟩
  have hl := h.1
  rcases snoc_get h1 with ⟨z1, z2⟩ | ⟨z1, rfl⟩
  · rcases snoc_get h2 with ⟨w1, w2⟩ | ⟨w1, rfl⟩
    · exact h.2 k b f z1 w1
    · omega
  · rcases snoc_get h2 with ⟨w1, w2⟩ | ⟨w1, rfl⟩
    · omega
    · exact ha
theorem Effs.at_ {K : PySem.W.Frag} {H : Hp} {as : List Addr} {es : List (Int × Int)} (h : Effs K H as es) {k : Nat} {a : Addr} (ha : as[k]? = some a) : ∃ e, es[k]? = some e ∧ TupI K H a [e.1, e.2] := by
  have hk := (List.getElem?_eq_some_iff.mp ha).1
  have hk2 : k < es.length := by rw [← h.1]; exact hk
  exact ⟨es[k], List.getElem?_eq_getElem hk2, h.2 k a _ ha (List.getElem?_eq_getElem hk2)⟩
/-! ### data with great ints -/
structure FitB (n k : Nat) (d : PyData) : Prop where
  sh : d.showable = true
  lv : d.leavesShort 100 = true
  bk : d.bulk ≤ n
  dp : d.depth ≤ k
structure FitBAll (n k : Nat) (ds : List PyData) : Prop where
  sh : PyData.showableAll ds = true
  lv : PyData.leavesShortAll 100 ds = true
  bk : PyData.bulkAll ds ≤ n
  dp : PyData.depthAll ds ≤ k
theorem FitB.mono {n m k j : Nat} {d : PyData} (a : FitB n k d) (h1 : n ≤ m) (h2 : k ≤ j) : FitB m j d := ⟨a.sh, a.lv, Nat.le_trans a.bk h1, Nat.le_trans a.dp h2⟩
theorem FitBAll.mono {n m k j : Nat} {d : List PyData} (a : FitBAll n k d) (h1 : n ≤ m) (h2 : k ≤ j) : FitBAll m j d := ⟨a.sh, a.lv, Nat.le_trans a.bk h1, Nat.le_trans a.dp h2⟩
theorem FitB.text {d : PyData} (a : FitB 1000 50 d) : d.shown.length ≤ sizeLine := by
  have h := PyData.shown_le_bulk 100 (by decide) d a.lv
  have h2 := a.bk
  rw [sizeLine_eq]
  omega
section
variable {X : Cx}
end
theorem SameX.free {S A B : Addr} {t : Nat} {H H' : Hp} (st : Strm H' S A B t) (sx : SameX S A H H') {p : Addr} (np : H' p = none) : H p = none := by
  cases e : H p with
  | none => rfl
  | some o =>
    exfalso
    obtain ⟨as, ha, _⟩ := st.a
    have n1 := Ne.symm (ne_of_none st.s np)
    have n2 := Ne.symm (ne_of_none ha np)
    have := sx _ _ e n1 n2
    rw [np] at this
    cases this
end My
namespace My
open PySem PySem.Spec PyProof.Rows L2
/-- effects that are objects of their own, apart from the stream -/
def EffX (S A : Addr) (H : Hp) (as : List Addr) (es : List (Int × Int)) : Prop := as.length = es.length ∧ (∀ a ∈ as, a ≠ S ∧ a ≠ A) ∧ ∀ (k : Nat) (a : Addr) (e : Int × Int), as[k]? = some a → es[k]? = some e → H a = some (.tup ([e.1, e.2].map V.int))
theorem EffX.x {S A : Addr} {H H' : Hp} {as : List Addr} {es : List (Int × Int)} (h : EffX S A H as es) (s : SameX S A H H') : EffX S A H' as es := ⟨h.1, h.2.1, fun k a e h1 h2 => by
  obtain ⟨n1, n2⟩ := h.2.1 a (List.mem_of_getElem? h1)
  exact s _ _ (h.2.2 k a e h1 h2) n1 n2⟩
theorem EffX.nil {S A : Addr} {H : Hp} : EffX S A H [] [] := ⟨rfl, fun _ z => (nomatch z), fun _ _ _ z => (nomatch z)⟩
theorem EffX.upd {S A : Addr} {H : Hp} {as : List Addr} {es : List (Int × Int)} (h : EffX S A H as es) {d : Addr} {xs : List V} {o : HO} (hd : H d = some (.lst xs)) : EffX S A (L2.upd H d o) as es := ⟨h.1, h.2.1, fun k a e h1 h2 => by
  have z := h.2.2 k a e h1 h2
  rw [upd_ne (ne_of z hd (by intro q; cases q))]
  exact z⟩
theorem EffX.snoc {S A : Addr} {H : Hp} {as : List Addr} {es : List (Int × Int)} (h : EffX S A H as es) {a : Addr} {e : Int × Int} (n1 : a ≠ S) (n2 : a ≠ A) (ha : H a = some (.tup ([e.1, e.2].map V.int))) : EffX S A H (as ++ [a]) (es ++ [e]) := by
  refine ⟨by rw [List.length_append, List.length_append, h.1]; rfl, fun b hb => ?_, fun k b f h1 h2 => ?_⟩
  · rcases List.mem_append.mp hb with z | z
    · exact h.2.1 b z
    · rw [List.mem_singleton] at z
      rw [z]
      exact ⟨n1, n2⟩
  · have hl := h.1
    rcases snoc_get h1 with ⟨z1, z2⟩ | ⟨z1, rfl⟩
    · rcases snoc_get h2 with ⟨w1, w2⟩ | ⟨w1, rfl⟩
      · exact h.2.2 k b f z1 w1
      · omega
    · rcases snoc_get h2 with ⟨w1, w2⟩ | ⟨w1, rfl⟩
      · omega
      · exact ha
/-- a new object is none of the stream's -/
theorem Strm.ne {S A B : Addr} {t : Nat} {H : Hp} (st : Strm H S A B t) {p : Addr} (np : H p = none) : p ≠ S ∧ p ≠ A ∧ p ≠ B := by
  obtain ⟨as, ha, _⟩ := id st.a
  obtain ⟨bs, hb, _⟩ := id st.b
  exact ⟨Ne.symm (ne_of_none st.s np), Ne.symm (ne_of_none ha np), Ne.symm (ne_of_none hb np)⟩
end My

namespace My
open PySem PySem.Spec PyProof.Rows L2
/-! ### an effect so many times -/
end My

namespace My
open PySem PySem.Spec PyProof.Rows L2
/-! ### tuple * int, also 0 and 1 times -/
/-! more rules with the context's K named -/
end My

namespace My
open PySem PySem.Spec PyProof.Rows L2
/-! ### effects of stretches -/
def Ar (ns : List Int) : Prop := ∀ x ∈ ns, 0 ≤ x ∧ x ≤ 5
theorem Ar.take {ns : List Int} (h : Ar ns) (k : Nat) : Ar (ns.take k) := fun x hx => h x (List.mem_of_mem_take hx)
theorem Ar.drop {ns : List Int} (h : Ar ns) (k : Nat) : Ar (ns.drop k) := fun x hx => h x (List.mem_of_mem_drop hx)
theorem Effs.take {K : PySem.W.Frag} {H : Hp} {as : List Addr} {es : List (Int × Int)} (h : Effs K H as es) (k : Nat) : Effs K H (as.take k) (es.take k) :=
  ⟨by rw [List.length_take, List.length_take, h.1], fun i a e h1 h2 => by
    have hi := (List.getElem?_eq_some_iff.mp h1).1
    rw [List.length_take] at hi
    rw [List.getElem?_take_of_lt (by omega)] at h1 h2
    exact h.2 i a e h1 h2⟩
theorem Effs.drop {K : PySem.W.Frag} {H : Hp} {as : List Addr} {es : List (Int × Int)} (h : Effs K H as es) (k : Nat) : Effs K H (as.drop k) (es.drop k) :=
  ⟨by rw [List.length_drop, List.length_drop, h.1], fun i a e h1 h2 => by
    rw [List.getElem?_drop] at h1 h2
    exact h.2 _ a e h1 h2⟩
theorem sqT_upd {K : PySem.W.Frag} {H : Hp} {a d : Addr} {xs ys : List V} {o : HO} (h : SqT K H a xs) (hd : H d = some (.lst ys)) : SqT K (upd H d o) a xs := by
  rcases h with (z | ⟨ob, z⟩) | z
  · exact .inl (.inl (by rw [upd_ne (ne_of z hd (by intro q; cases q))]; exact z))
  · exact .inl (.inr ⟨ob, by rw [upd_ne (ne_of z hd (by intro q; cases q))]; exact z⟩)
  · exact .inr z
theorem Effs.upd {K : PySem.W.Frag} {H : Hp} {as : List Addr} {es : List (Int × Int)} (h : Effs K H as es) {d : Addr} {ys : List V} {o : HO} (hd : H d = some (.lst ys)) : Effs K (L2.upd H d o) as es := ⟨h.1, fun k a e h1 h2 => sqT_upd (h.2 k a e h1 h2) hd⟩
end My

namespace My
open PySem PySem.Spec PyProof.Rows L2
/-! ### the first number below i that passes -/
def fst1 (f : Nat → Bool) (i : Nat) : Option Nat := ((List.range i).filter f).head?
/-! ### who takes which value -/
/-- the token read as number i takes the value of number j -/
def Tk (ns : List Int) (j i : Nat) : Prop := j < i ∧ Sh ns (i + 1) ≤ Sh ns (j + 1) ∧ ∀ m, j < m → m < i → Sh ns (j + 1) < Sh ns (m + 1)
def tks (ns : List Int) (j : Nat) : Option Nat := fst1 (fun s => decide (Sh ns (j + s + 2) ≤ Sh ns (j + 1))) ns.length
def tkr (ns : List Int) (p : Nat) : Option Nat := (tks ns p).map fun s => (p + s + 1) % ns.length
theorem Tk.uniq {ns : List Int} {j i k : Nat} (a : Tk ns j i) (b : Tk ns j k) : i = k := by
  obtain ⟨a1, a2, a3⟩ := a
  obtain ⟨b1, b2, b3⟩ := b
  rcases Nat.lt_trichotomy i k with h | h | h
  · have := b3 i a1 h
    omega
  · exact h
  · have := a3 k b1 h
    omega
theorem Tk.le {ns : List Int} {j i : Nat} (h0 : 0 < ns.length) (a : Tk ns j i) : i ≤ j + ns.length := by
  obtain ⟨a1, a2, a3⟩ := a
  by_cases c : i ≤ j + ns.length
  · exact c
  · exfalso
    have h1 := a3 (j + ns.length) (by omega) (by omega)
    rw [show j + ns.length + 1 = (j + 1) + ns.length by omega, Sh_round] at h1
    have h2 := a3 (i - ns.length) (by omega) (by omega)
    have h3 := Sh_round ns (i - ns.length + 1)
    rw [show i - ns.length + 1 + ns.length = i + 1 by omega] at h3
    omega
def tkL (ns : List Int) : List (Option Nat) := (List.range ns.length).map (tkr ns)
/-! ### the stack of the numbers whose values wait -/
structure Stk (ns : List Int) (t : Nat) (st : List Nat) : Prop where
  asc : st.Pairwise (· < ·)
  lt : ∀ j ∈ st, j < t
  alive : ∀ j ∈ st, ∀ m, j < m → m < t → Sh ns (j + 1) < Sh ns (m + 1)
  lev : ∀ (k j : Nat), st[k]? = some j → Sh ns (j + 1) = Sh ns t - ((st.length : Int) - 1 - (k : Int))
  dead : ∀ j, j < t → j ∉ st → ∃ i, i < t ∧ Tk ns j i
theorem Stk.popped {ns : List Int} {t : Nat} {st : List Nat} (h : Stk ns t st) {a : Nat} (ha : ar ns t = (a : Int)) {j : Nat} (hj : j ∈ st.drop (st.length - a)) : Tk ns j t := by
  obtain ⟨k, hk, e⟩ := List.getElem_of_mem hj
  rw [List.length_drop] at hk
  have e2 : (st.drop (st.length - a))[k]? = some j := by rw [List.getElem?_eq_getElem (by rw [List.length_drop]; exact hk), e]
  rw [List.getElem?_drop] at e2
  have hm : j ∈ st := List.mem_of_mem_drop hj
  refine ⟨h.lt j hm, ?_, fun m m1 m2 => h.alive j hm m m1 m2⟩
  have l := h.lev _ _ e2
  have e3 : Sh ns (t + 1) = Sh ns t + 1 - ar ns t := rfl
  rw [e3, ha, l]
  omega
theorem Stk.kept {ns : List Int} {t : Nat} {st : List Nat} (h : Stk ns t st) {a : Nat} (ha : ar ns t = (a : Int)) {k j : Nat} (hj : (st.take (st.length - a))[k]? = some j) : Sh ns (j + 1) < Sh ns (t + 1) ∧ Sh ns (j + 1) = Sh ns t - ((st.length : Int) - 1 - (k : Int)) ∧ k + a < st.length := by
  have hk := (List.getElem?_eq_some_iff.mp hj).1
  rw [List.length_take] at hk
  rw [List.getElem?_take_of_lt (by omega)] at hj
  have l := h.lev _ _ hj
  have e3 : Sh ns (t + 1) = Sh ns t + 1 - ar ns t := rfl
  refine ⟨?_, l, by omega⟩
  rw [e3, ha, l]
  omega
theorem Stk.next {ns : List Int} {t : Nat} {st : List Nat} (h : Stk ns t st) {a : Nat} (ha : ar ns t = (a : Int)) : Stk ns (t + 1) (st.take (st.length - a) ++ [t]) := by
  have hl : (st.take (st.length - a)).length = st.length - a := by
    rw [List.length_take]
    omega
  refine ⟨?_, fun j hj => ?_, fun j hj m m1 m2 => ?_, fun k j hj => ?_, fun j hj hn => ?_⟩
  · refine List.pairwise_append.mpr ⟨h.asc.sublist (List.take_sublist _ _), List.pairwise_singleton _ _, fun x hx y hy => ?_⟩
    rw [List.mem_singleton] at hy
    rw [hy]
    exact h.lt x (List.mem_of_mem_take hx)
  · rcases List.mem_append.mp hj with z | z
    · have := h.lt j (List.mem_of_mem_take z)
      omega
    · rw [List.mem_singleton] at z
      omega
  · rcases List.mem_append.mp hj with z | z
    · by_cases e : m = t
      · obtain ⟨k, hk, ek⟩ := List.getElem_of_mem z
        rw [e]
        exact (h.kept ha (by rw [List.getElem?_eq_getElem hk, ek])).1
      · exact h.alive j (List.mem_of_mem_take z) m m1 (by omega)
    · rw [List.mem_singleton] at z
      omega
  · rw [List.length_append, hl]
    rcases snoc_get hj with ⟨z1, z2⟩ | ⟨z1, rfl⟩
    · obtain ⟨y1, y2, y3⟩ := h.kept ha z1
      have e3 : Sh ns (t + 1) = Sh ns t + 1 - ar ns t := rfl
      rw [e3, ha, y2]
      show _ = _ - ((((st.length - a) + 1 : Nat) : Int) - 1 - (k : Int))
      omega
    · rw [z1, hl]
      show _ = _ - ((((st.length - a) + 1 : Nat) : Int) - 1 - ((st.length - a : Nat) : Int))
      omega
  · by_cases e : j = t
    · exact absurd (List.mem_append.mpr (.inr (List.mem_singleton.mpr e))) hn
    · by_cases c : j ∈ st
      · have : j ∈ st.drop (st.length - a) := by
          rw [← List.take_append_drop (st.length - a) st] at c
          rcases List.mem_append.mp c with z | z
          · exact absurd (List.mem_append.mpr (.inl z)) hn
          · exact z
        exact ⟨t, Nat.lt_succ_self t, h.popped ha this⟩
      · obtain ⟨i, i1, i2⟩ := h.dead j (by omega) c
        exact ⟨i, by omega, i2⟩
/-! the list of what is taken: None first, then the numbers -/
end My

namespace My
open PySem PySem.Spec PyProof.Rows L2
end My
namespace My
open PySem PySem.Spec PyProof.Rows L2
end My
namespace My
open PySem PySem.Spec PyProof.Rows L2
theorem asc_eq {l m : List Nat} (h1 : l.Pairwise (· < ·)) (h2 : m.Pairwise (· < ·)) (h : ∀ x, x ∈ l ↔ x ∈ m) : l = m := by
  refine List.Perm.eq_of_pairwise (le := (· < ·)) (fun a b _ _ x y => by omega) h1 h2 ?_
  exact (List.perm_ext_iff_of_nodup (h1.imp fun h => Nat.ne_of_lt h) (h2.imp fun h => Nat.ne_of_lt h)).mpr h
theorem Stk.len {ns : List Int} {t : Nat} {st : List Nat} (h : Stk ns t st) : st.length ≤ t := by
  have e : st = (List.range t).filter fun x => decide (x ∈ st) := asc_eq h.asc (List.Pairwise.filter _ List.pairwise_lt_range) fun x => by
    rw [List.mem_filter, List.mem_range, decide_eq_true_iff]
    exact ⟨fun z => ⟨h.lt x z, z⟩, fun z => z.2⟩
  rw [e]
  have := List.length_filter_le (fun x => decide (x ∈ st)) (List.range t)
  rw [List.length_range] at this
  exact this
end My
namespace My
open PySem PySem.Spec PyProof.Rows L2
end My

namespace My
open PySem PySem.Spec PyProof.Rows L2
/-! ### count of flat values -/
theorem countP_eqU {x : V} : ∀ {xs : List V} {us : List Value}, Vals xs us → xs.all flatV = true → us.countP (eqU x) = xs.countP fun y => eqV y x
  | _, _, .nil, _ => rfl
  | y :: xs, u :: us, .cons r t, f => by
    rw [List.all_cons, Bool.and_eq_true] at f
    rw [List.countP_cons, List.countP_cons, eqU_of r f.1, countP_eqU t f.2]
def rCntF (K : PySem.W.Frag) : V → List V → Hp → VK → Prop := fun x xs H Q => ∃ (p : Addr) (ys : List V) (k : V), x = .ref p ∧ xs = [k] ∧ SqL K H p ys ∧ flatV k = true ∧ ys.all flatV = true ∧ Q (.int ((ys.countP fun y => eqV y k : Nat) : Int)) H
theorem mt_lcountF {X : Cx} {K : PySem.W.Frag} (e : X.K = K) : MtR X "list.count" (rCntF K) := by
  subst e
  intro pins s σ H x xs v us Q I rx rxs h
  obtain ⟨p, ys, k, rfl, rfl, hs, fk, fy, q⟩ := h
  cases rx
  obtain ⟨u, rfl, ru⟩ := rxs.one
  obtain ⟨its, rv, ⟨⟨cls, dd, data, sl⟩, n, ho, hc, hdn, hd⟩, hlen⟩ := I.list hs
  simp only at hc hd
  subst hc hd
  refine call_meets PySem.F.slot_list_count ⟨_, ho, rfl⟩ PySem.F.entry_list_count (PySem.F.args_list_count_2 _ _)
    (SeqAt.list_countAt p its.toArray n dd sl u (eqU k)) ⟨ho, fun y hy => mem_eqAt ru fk rv fy y (by simpa using hy), ?_⟩
  have ec : its.toArray.toList.countP (eqU k) = ys.countP fun y => eqV y k := countP_eqU rv fy
  refine ⟨.int ((ys.countP fun y => eqV y k : Nat) : Int), H, I.tok _, ⟨s.toks, ?_⟩, q⟩
  show Value.int ((its.toArray.toList.countP (eqU k) : Nat) : Int) s.toks = Value.int ((ys.countP fun y => eqV y k : Nat) : Int) s.toks
  rw [ec]
/-! ### givers and lacks -/
/-! a new tuple whose object is known, and its methods -/
/-- the takers, as an object that is known -/
def TkAt (ns : List Int) (H : Hp) (t : Addr) : Prop := ∃ ob : Obj, H t = some (.frz ob (.tup ((tkL ns).map optV))) ∧ ob.cls = .type "tuple" ∧ ob.dict = none
theorem TkAt.same {ns : List Int} {H H' : Hp} {t : Addr} (h : TkAt ns H t) (e : Same H H') : TkAt ns H' t := by
  obtain ⟨ob, h1, h2⟩ := h
  exact ⟨ob, e _ _ h1, h2⟩
theorem TkAt.seq {ns : List Int} {H : Hp} {t : Addr} {K : PySem.W.Frag} (h : TkAt ns H t) : SqT K H t ((tkL ns).map optV) := by
  obtain ⟨ob, h1, h2⟩ := h
  exact .inl (.inr ⟨ob, h1⟩)
end My
namespace My
open PySem PySem.Spec PyProof.Rows L2
end My

namespace My
open PySem PySem.Spec PyProof.Rows L2
/-! ### beginnings stand behind free tokens -/
/-! the takers of a turned ring -/
theorem ar_rot {ns : List Int} {o : Nat} (ho : o < ns.length) (k : Nat) : ar (rot ns o) k = ar ns (o + k) := by
  have l := rot_len ns o (by omega)
  have hk := Nat.mod_lt k (show 0 < ns.length by omega)
  unfold ar
  rw [l, List.getD_eq_getElem?_getD, List.getD_eq_getElem?_getD, rot_get ho hk, Nat.add_mod_mod]
theorem Sh_rot {ns : List Int} {o : Nat} (ho : o < ns.length) : ∀ k, Sh (rot ns o) k = Sh ns (o + k) - Sh ns o
  | 0 => by
    rw [Nat.add_zero, Int.sub_self]
    rfl
  | k + 1 => by
    show Sh (rot ns o) k + 1 - ar (rot ns o) k = Sh ns (o + k) + 1 - ar ns (o + k) - Sh ns o
    rw [Sh_rot ho k, ar_rot ho]
    omega
end My
namespace My
open PySem PySem.Spec PyProof.Rows L2
end My

namespace My
open PySem PySem.Spec PyProof.Rows L2
/-! ### building values: an expression that gives a value of some kind, whatever the heap, as long as what stood there stands -/
/-- the stream, drawn from at most t times -/
def St0 (S A B : Addr) (t : Nat) (H : Hp) : Prop := ∃ t', t' ≤ t ∧ Strm H S A B t'
/-- a kind of values that stays while the stream is drawn from -/
class MoV (S A : Addr) (P : Hp → V → Prop) : Prop where
  x : ∀ {H H' : Hp} {v : V}, P H v → SameX S A H H' → P H' v
section
variable {K : PySem.W.Frag} {S A B : Addr} {H0 : Hp} {σ : L2.St} {n m k j : Nat} {P R : Hp → V → Prop} {t u : TE} {ta : TA}
theorem St0.same {H H' : Hp} (h : St0 S A B n H) (e : Same H H') : St0 S A B n H' := by
  obtain ⟨t', h1, h2⟩ := h
  exact ⟨t', h1, h2.same e⟩
theorem St0.mono {H : Hp} (h : St0 S A B n H) (e : n ≤ m) : St0 S A B m H := by
  obtain ⟨t', h1, h2⟩ := h
  exact ⟨t', Nat.le_trans h1 e, h2⟩
theorem Strm.st0 {H : Hp} (h : Strm H S A B n) : St0 S A B n H := ⟨n, Nat.le_refl _, h⟩
instance moOdd : MoV S A (Odd K S A) := ⟨fun h e => h.x e⟩
instance moVl : MoV S A (Vl K S A n) := ⟨fun h e => h.x e⟩
instance moOd2 : MoV S A (Od2 K S A) := ⟨fun h e => h.x e⟩
def Gv (S A B : Addr) (H0 : Hp) (σ : L2.St) (k : Nat) (t : TE) (P : Hp → V → Prop) : Prop :=
  ∀ (H : Hp) (n : Nat) (Q : VK), SameX S A H0 H → St0 S A B n H → n + k ≤ 800000000 → (∀ H' v, SameX S A H H' → St0 S A B (n + k) H' → P H' v → Q v H') → t σ H Q
def AllV (P : Hp → V → Prop) (n : Nat) (H : Hp) (vs : List V) : Prop := vs.length = n ∧ ∀ v ∈ vs, P H v
def GvA (S A B : Addr) (H0 : Hp) (σ : L2.St) (k : Nat) (ta : TA) (P : Hp → List V → Prop) : Prop :=
  ∀ (H : Hp) (n : Nat) (Q : List V → Hp → Prop), SameX S A H0 H → St0 S A B n H → n + k ≤ 800000000 → (∀ H' vs, SameX S A H H' → St0 S A B (n + k) H' → P H' vs → Q vs H') → ta σ H Q
theorem Gv.imp (g : Gv S A B H0 σ k t P) (h : ∀ H v, P H v → R H v) : Gv S A B H0 σ k t R := fun H n Q sx st hn q => g H n Q sx st hn fun H' v s' st' p => q H' v s' st' (h H' v p)
/-- a list -/
def Lof (S A : Addr) (P : Hp → V → Prop) (n : Nat) (H : Hp) (v : V) : Prop := ∃ (l : Addr) (xs : List V), v = .ref l ∧ H l = some (.lst xs) ∧ l ≠ S ∧ l ≠ A ∧ xs.length = n ∧ ∀ x ∈ xs, P H x
instance moLof [MoV S A P] : MoV S A (Lof S A P n) := ⟨fun h e => by
  obtain ⟨l, xs, e1, h1, n1, n2, h2, h3⟩ := h
  exact ⟨l, xs, e1, e _ _ h1 n1 n2, n1, n2, h2, fun x hx => MoV.x (S := S) (A := A) (P := P) (h3 x hx) e⟩⟩
end
end My

namespace My
open PySem PySem.Spec PyProof.Rows L2
/-! ### texts of whole numbers; small whole numbers; one tuple of them in another -/
theorem fit_itext {i : Int} (h : i.natAbs < 10 ^ 30) : Fit 100 10 (.str (Str.ofString (toString i))) := by
  have e1 : (toString i).length ≤ 31 := int_text_length_le10 (by decide) h
  refine ⟨rfl, ?_, ?_, Nat.zero_le _⟩
  · show List.all _ _ = true
    rw [List.all_eq_true]
    intro c hc
    refine decide_eq_true (Decidable.byContradiction fun z => ?_)
    exact int_text_free' c ⟨by omega, by omega⟩ i hc
  · show (Str.ofString (toString i)).length ≤ 100
    rw [PySem.ofString_length]
    omega
/-- a small whole number -/
def SmI : Hp → V → Prop := fun _ v => ∃ i : Int, v = .int i ∧ i.natAbs < 10 ^ 30
section
variable {K : PySem.W.Frag} {S A B : Addr} {H0 : Hp} {σ : L2.St} {n m k j : Nat} {t u : TE} {ta : TA}
instance moSmI : MoV S A SmI := ⟨fun h _ => h⟩
theorem SmI.odd {H : Hp} {v : V} (h : SmI H v) : Odd K S A H v := by
  obtain ⟨i, rfl, h⟩ := h
  exact odd_int h
end
end My

namespace My
open PySem PySem.Spec PyProof.Rows L2
/-! ### reading once from a beginning -/
theorem Tk.up {ns : List Int} {j i : Nat} : Tk ns j i ↔ Tk ns (j + ns.length) (i + ns.length) := by
  have e : ∀ k, Sh ns (k + ns.length + 1) = Sh ns (k + 1) + bal ns := fun k => by
    rw [show k + ns.length + 1 = (k + 1) + ns.length by omega, Sh_round]
  unfold Tk
  constructor
  · rintro ⟨h1, h2, h3⟩
    refine ⟨by omega, by rw [e, e]; omega, fun m m1 m2 => ?_⟩
    have := h3 (m - ns.length) (by omega) (by omega)
    have e2 := e (m - ns.length)
    rw [show m - ns.length + ns.length = m by omega] at e2
    rw [e, e2]
    omega
  · rintro ⟨h1, h2, h3⟩
    rw [e, e] at h2
    refine ⟨by omega, by omega, fun m m1 m2 => ?_⟩
    have := h3 (m + ns.length) (by omega) (by omega)
    rw [e, e] at this
    omega
theorem Tk.rot {ns : List Int} {b j i : Nat} (hb : b < ns.length) : Tk (rot ns b) j i ↔ Tk ns (b + j) (b + i) := by
  have e : ∀ k, Sh (My.rot ns b) (k + 1) = Sh ns (b + k + 1) - Sh ns b := fun k => by rw [Sh_rot hb, Nat.add_assoc]
  unfold Tk
  constructor
  · rintro ⟨h1, h2, h3⟩
    rw [e, e] at h2
    refine ⟨by omega, by omega, fun m m1 m2 => ?_⟩
    have := h3 (m - b) (by omega) (by omega)
    rw [e, e, show b + (m - b) + 1 = m + 1 by omega] at this
    omega
  · rintro ⟨h1, h2, h3⟩
    refine ⟨by omega, by rw [e, e]; omega, fun m m1 m2 => ?_⟩
    have := h3 (b + m) (by omega) (by omega)
    rw [e, e]
    omega
end My

namespace My
open PySem PySem.Spec PyProof.Rows L2
theorem sqT_x {K : PySem.W.Frag} {S A B : Addr} {t : Nat} {H H' : Hp} {a : Addr} {xs : List V} (st : Strm H S A B t) (sx : SameX S A H H') (h : SqT K H a xs) : SqT K H' a xs := by
  obtain ⟨as, ha, _⟩ := id st.a
  have key : ∀ o : HO, H a = some o → (∀ ys, o ≠ .lst ys) → H' a = some o := fun o e n => sx _ _ e (fun z => by
    rw [z, st.s] at e
    exact n _ (Option.some.inj e).symm) (fun z => by
    rw [z, ha] at e
    exact n _ (Option.some.inj e).symm)
  rcases h with (h | ⟨ob, h⟩) | h
  · exact .inl (.inl (key _ h (fun ys z => nomatch z)))
  · exact .inl (.inr ⟨ob, key _ h (fun ys z => nomatch z)⟩)
  · exact .inr h
/-! ### rows of rows -/
structure Rws (K : PySem.W.Frag) (H : Hp) (as : List Addr) (rs : List (List Int)) : Prop where
  len : as.length = rs.length
  at_ : ∀ (k : Nat) (a : Addr) (r : List Int), as[k]? = some a → rs[k]? = some r → TupI K H a r
theorem Rws.same {K : PySem.W.Frag} {H H' : Hp} {as : List Addr} {rs : List (List Int)} (h : Rws K H as rs) (e : Same H H') : Rws K H' as rs := ⟨h.len, fun k a r h1 h2 => same_seqT e (h.at_ k a r h1 h2)⟩
theorem Rws.x {K : PySem.W.Frag} {S A B : Addr} {t : Nat} {H H' : Hp} {as : List Addr} {rs : List (List Int)} (h : Rws K H as rs) (st : Strm H S A B t) (e : SameX S A H H') : Rws K H' as rs := ⟨h.len, fun k a r h1 h2 => sqT_x st e (h.at_ k a r h1 h2)⟩
theorem Rws.get {K : PySem.W.Frag} {H : Hp} {as : List Addr} {rs : List (List Int)} (h : Rws K H as rs) {k : Nat} {a : Addr} (e : as[k]? = some a) : ∃ r, rs[k]? = some r ∧ TupI K H a r := by
  have hk := (List.getElem?_eq_some_iff.mp e).1
  obtain ⟨r, hr⟩ : ∃ r, rs[k]? = some r := ⟨_, List.getElem?_eq_getElem (by rw [← h.len]; exact hk)⟩
  exact ⟨r, hr, h.at_ k a r e hr⟩
theorem Rws.nil {K : PySem.W.Frag} {H : Hp} : Rws K H [] [] := ⟨rfl, fun _ _ _ z => nomatch z⟩
theorem Rws.snoc {K : PySem.W.Frag} {H : Hp} {as : List Addr} {rs : List (List Int)} {a : Addr} {r : List Int} (h : Rws K H as rs) (e : TupI K H a r) : Rws K H (as ++ [a]) (rs ++ [r]) := by
  refine ⟨by rw [List.length_append, List.length_append, h.len]; rfl, fun k b s h1 h2 => ?_⟩
  rcases snoc_get h1 with ⟨z1, z2⟩ | ⟨z1, z2⟩
  · rcases snoc_get h2 with ⟨y1, y2⟩ | ⟨y1, y2⟩
    · exact h.at_ k b s z1 y1
    · rw [← h.len] at y1
      have := (List.getElem?_eq_some_iff.mp z1).1
      omega
  · rcases snoc_get h2 with ⟨y1, y2⟩ | ⟨y1, y2⟩
    · have := (List.getElem?_eq_some_iff.mp y1).1
      rw [← h.len] at this
      omega
    · rw [← z2, ← y2]
      exact e
theorem Rws.upd {K : PySem.W.Frag} {H : Hp} {as : List Addr} {rs : List (List Int)} (h : Rws K H as rs) {d : Addr} {ys : List V} {o : HO} (hd : H d = some (.lst ys)) : Rws K (L2.upd H d o) as rs := ⟨h.len, fun k a r h1 h2 => sqT_upd (h.at_ k a r h1 h2) hd⟩
end My
namespace L2
open PySem PySem.Spec PyProof.Rows
/-! ### xs[-3::-1] of a list of two items or more -/
section
variable {X : Cx}
end
end L2

namespace L2
open PySem PySem.Spec PyProof.Rows
/-! ### xs.extend(t), t a tuple whatever else its object holds -/
/-! ### xs.extend(t), t a tuple -/
end L2
namespace My
open PySem PySem.Spec PyProof.Rows L2
/-! ### ready rows, one after the other -/
def Rdy (r : List Int) : Prop := 0 < r.length ∧ nd r 0 = 0
theorem Rdy.win {r : List Int} (h : Rdy r) : ∀ k, k < r.length → 0 < Sh r (k + 1) := fun k hk => by
  have := (nd_zero_win r 0 h.1).mp h.2 k hk
  rw [Nat.zero_add] at this
  exact this
theorem rdy_of {r : List Int} (h0 : 0 < r.length) (h : ∀ k, k < r.length → 0 < Sh r (k + 1)) : Rdy r := ⟨h0, (nd_zero_win r 0 h0).mpr fun k hk => by rw [Nat.zero_add]; exact h k hk⟩
theorem Rdy.bal {r : List Int} (h : Rdy r) : 0 < bal r := by
  have := h.win (r.length - 1) (by have := h.1; omega)
  rw [show r.length - 1 + 1 = r.length by have := h.1; omega, Sh_all] at this
  exact this
theorem Sh_app_lo {r s : List Int} : ∀ k, k ≤ r.length → Sh (r ++ s) k = Sh r k := fun k hk => by
  rw [Sh_ps _ _ (by rw [List.length_append]; omega), Sh_ps _ _ hk]
  unfold ps
  rw [List.take_append_of_le_length hk]
theorem Sh_app_hi {r s : List Int} : ∀ k, k ≤ s.length → Sh (r ++ s) (r.length + k) = bal r + Sh s k := fun k hk => by
  rw [Sh_ps _ _ (by rw [List.length_append]; omega), Sh_ps _ _ hk]
  unfold ps bal
  rw [List.take_append, List.take_of_length_le (by omega), show r.length + k - r.length = k by omega, List.sum_append]
  omega
theorem Rdy.app {r s : List Int} (h : Rdy r) (g : Rdy s) : Rdy (r ++ s) := by
  refine rdy_of (by rw [List.length_append]; have := h.1; omega) fun k hk => ?_
  by_cases c : k + 1 ≤ r.length
  · rw [Sh_app_lo _ c]
    exact h.win k (by omega)
  · rw [List.length_append] at hk
    have e := Sh_app_hi (r := r) (s := s) (k + 1 - r.length) (by omega)
    rw [show r.length + (k + 1 - r.length) = k + 1 by omega] at e
    have a := g.win (k + 1 - r.length - 1) (by omega)
    rw [show k + 1 - r.length - 1 + 1 = k + 1 - r.length by omega] at a
    have := h.bal
    omega
theorem Rws.take {K : PySem.W.Frag} {H : Hp} {as : List Addr} {rs : List (List Int)} (h : Rws K H as rs) (n : Nat) : Rws K H (as.take n) (rs.take n) := by
  refine ⟨by rw [List.length_take, List.length_take, h.len], fun k a r h1 h2 => ?_⟩
  have k1 : k < (as.take n).length := (List.getElem?_eq_some_iff.mp h1).1
  rw [List.length_take] at k1
  rw [List.getElem?_take_of_lt (by omega)] at h1 h2
  exact h.at_ _ a r h1 h2
theorem Rws.drop {K : PySem.W.Frag} {H : Hp} {as : List Addr} {rs : List (List Int)} (h : Rws K H as rs) (n : Nat) : Rws K H (as.drop n) (rs.drop n) := by
  refine ⟨by rw [List.length_drop, List.length_drop, h.len], fun k a r h1 h2 => ?_⟩
  rw [List.getElem?_drop] at h1 h2
  exact h.at_ _ a r h1 h2
end My

/-! ### the block of the guide's own-error skeleton, for any class over any built-in base whose __init__ stores the field row -/
namespace PySem
namespace Xf_row
open PySem.W PySem.Calls PyProof.Rows PySem.HandSPX
def iA (p1 p2 : Pos) : Arguments := { posonlyargs := [], args := [{ arg := "self", annotation := none, pos := p1 }, { arg := "row", annotation := none, pos := p2 }], vararg := none, kwonlyargs := [], kw_defaults := [], kwarg := none, defaults := [] }
def iB (q1 q2 q3 q4 : Pos) : List Stmt := [.Assign [.Attribute (.Name "self" q1) "row" q2] (.Name "row" q3) q4]
def iS : Scope := { kind := .function, names := [(PySem.Str.ofString "self", .local), (PySem.Str.ofString "row", .local)], isGenerator := false, isCoroutine := false, more := [] }
/-- what the written part says of the class x at C and of its __init__ at fI -/
structure Txt (K : Frag) (mg : Str → Option Value) (x q : Str) (C fI : Addr) (newId : String) (bmB : List Value) : Prop where
  gC : mg x = some (.ref C)
  mkr : excInitIn K C bmB newId = true
  ov : excOver K C bmB = true
  tk : takerIn K C "row" = some none
  sa : findIn K (.ref C) "__setattr__" = some (some (.builtin "object.__setattr__"))
  ga : findIn K (.ref C) "__getattribute__" = some (some (.builtin "BaseException.__getattribute__"))
  gg : findIn K (.ref C) "__getattr__" = some none
  noN : findIn K (.ref C) "row" = some none
  iC : findIn K (.ref C) "__init__" = some (some (.ref fI))
  tC : typeIn K (.ref fI) = some (.type "function")
  kC : keepIn K (.ref C) = true
  exC : subIn K (.ref C) (.type "BaseException") = some true
  tyC : typeIn K (.ref C) = some (.type "type")
  hdC : hasDictIn K C = true
  te : exmOne K (.ref C) (.ref C) = some true
  fn : ∃ (p1 p2 q1 q2 q3 q4 : Pos) (fd : FuncData), L2.FunD K "__init__" q (iA p1 p2) (iB q1 q2 q3 q4) iS [] [] fI fd
theorem one_size (v : Value) : [v].length ≤ sizeLine := by
  rw [sizeLine_eq]
  exact (by decide : 1 ≤ 16777216)
theorem ldC {M : Model} {s : Shared} {name : Str} {scope : Scope} {L a : Addr} {cd : Value} {m : Str → Option Value} {x : Str} {pos : Pos} {v : Value} {Q : Value → Shared → Prop} {A : Around} {E : Value → Shared → Prop} (hn : s.heap.Ns L m) (hv : m x = some v) (h : Q v s)
    (hk : scope.kind = .function := by rfl) (hl : (envOfC name scope L a cd).kindOf x = some .local := by rfl) (hd : (x == ("__debug__" : Str)) = false := by decide) :
    wpAny M A (eval (.Name x pos) (envOfC name scope L a cd)) Q E s := wpAny_Name (wpAny_loadName_local hk hl hn hv h) hd
/-- what __init__ leaves of a fresh error at x -/
structure InitEnd (h h' : Heap) (x C dx t1 : Addr) (v : Value) : Prop where
  keep : ∀ b o, b ≠ x → h.get? b = some o → h'.get? b = some o
  obj : h'.get? x = some { cls := .ref C, dict := some dx, data := .fields #[.ref t1, .none, .none, .none, .bool false, .none] }
  dbig : h.objs.size ≤ dx
  dne : dx ≠ x
  ns : h'.Ns1 dx (fun y => if y = "row" then some v else none)
/-- a made error -/
structure OwnMade (h h' : Heap) (e C d : Addr) (v : Value) : Prop where
  keep : ∀ b o, h.get? b = some o → h'.get? b = some o
  new : h.objs.size ≤ e
  obj : ∃ oe vs, h'.get? e = some oe ∧ oe.cls = .ref C ∧ oe.dict = some d ∧ oe.data = .fields vs ∧ vs[1]? = some .none
  dbig : h.objs.size ≤ d
  dne : d ≠ e
  ns : h'.Ns1 d (fun y => if y = "row" then some v else none)
section
variable {prog : Program} {w : World} {A : Around} {E : Value → Shared → Prop} {R : Result → Shared → Prop} {s : Shared} {K : Frag} {mg : Str → Option Value} {C fI : Addr} {x0 q0 : Str} {B newId initId : String} {bmB : List Value}
theorem init_end (SF : StoreFacts B bmB "object.__setattr__" "object") (T : Txt K mg x0 q0 C fI newId bmB) {x t0 : Addr} {v : Value} (X : K.In s.heap) (hlim : s.heap.NoLimit) (hx : s.heap.get? x = some (excO C t0)) (hroom : A.depth < recursionLimit)
    (hq : ∀ h' tk dx, InitEnd s.heap h' x C dx t0 v → R (.ok (.ret .none)) { s with heap := h', toks := tk }) :
    codeAny (model prog w) A (.call (.ref fI) ⟨[.ref x, v], []⟩) R s := by
  obtain ⟨p1, p2, q1, q2, q3, q4, fd, F⟩ := T.fn
  obtain ⟨oc, od, dV, kV, doc, pm, an, cdv, ct, osl, rfl, ho, hcd, hdv, _⟩ := F.ex
  have e0 : dV = .none := by
    rcases hdv with ⟨_, e⟩ | ⟨e, _⟩
    · exact e
    · exact absurd rfl e
  subst e0
  refine Att.call_fn (binds := [("self", .ref x), ("row", v)]) X hlim ho hcd hroom (BindsTo.of_eq (by first | rfl | with_unfolding_all rfl)) (by first | rfl | decide | with_unfolding_all rfl) (fun s₁ IC => ?_) rfl rfl rfl
  obtain ⟨h₁, tk₁, rfl⟩ := IC.toInCall.same
  have k : ∀ b o, s.heap.get? b = some o → h₁.get? b = some o := IC.toInCall.keep
  have hn := IC.toInCall.ns
  have X₁ : K.In h₁ := X.keeps k
  have hx₁ := k _ _ hx
  show wpAny _ _ (execs _ _) _ _ _
  refine wpAny_execs_cons (plainObj_wpAny_Assign_Attribute ?_)
  refine ldC (v := v) hn (by first | rfl | with_unfolding_all rfl | kernel_rfl) (ldC (v := .ref x) hn (by first | rfl | with_unfolding_all rfl | kernel_rfl) ?_)
  refine set_plain X₁ (ox := excO C t0) (od := none) ⟨hx₁, rfl, rfl, trivial⟩ T.sa ?_
  refine PySem.NX.osaB SF X₁ hx₁ T.ov T.tk T.hdC (fun h₃ tk₃ dx k₃ dn dne hx₃ hn₃ => ?_)
  show wpAny _ _ (execs _ _) _ _ _
  have z : s.heap.objs.size < h₁.objs.size := hn.lt
  exact wpAny_execs_nil (hq h₃ tk₃ dx ⟨fun b o hb e => k₃ b o hb (k b o e), hx₃, Nat.le_of_lt (Nat.lt_of_lt_of_le z dn), dne, hn₃⟩)
theorem made (FB : ExcBaseFacts B newId initId bmB) (SF : StoreFacts B bmB "object.__setattr__" "object") (T : Txt K mg x0 q0 C fI newId bmB) {v : Value} (X : K.In s.heap) (hlim : s.heap.NoLimit) (hroom : A.depth + 1 < recursionLimit)
    (hq : ∀ h' tk e d, OwnMade s.heap h' e C d v → R (.ok (.ret (.ref e))) { s with heap := h', toks := tk }) :
    codeAny (model prog w) A (.call (.ref C) ⟨[v], []⟩) R s := by
  obtain ⟨nm, N, q, bs, bm, hdct, sn, sub, ab, col, dd, k0, k1, k2, k3, k5, hC, hbm⟩ := excInit_of X T.mkr
  obtain ⟨hp, g, dr, tk, os⟩ := s
  have k : ∀ b o, hp.get? b = some o → ((hp.push (kdv_tup [v])).push (excO C hp.objs.size)).get? b = some o := fun b o e => Heap.get?_push_of_some _ (Heap.get?_push_of_some _ e)
  have hget : ((hp.push (kdv_tup [v])).push (excO C hp.objs.size)).get? (hp.objs.size + 1) = some (excO C hp.objs.size) := by heap_get
  refine call_own FB hbm hC (looks_findIn X T.iC) (fun self => bind_fn X self T.tC) (one_size v) ?_
  refine init_end (s := ⟨(hp.push (kdv_tup [v])).push (excO C hp.objs.size), g, dr, tk, os⟩) SF T (X.keeps k) (hlim.keeps k) hget ?_ fun h' tk' dx ⟨k', hx, dn, dne, hns⟩ => ?_
  · show A.depth + 1 < recursionLimit
    exact hroom
  · have old : ∀ b o, hp.get? b = some o → h'.get? b = some o := fun b o e => k' b o (Nat.ne_of_lt (Nat.lt_succ_of_lt (Heap.lt_size e))) (k b o e)
    have z : hp.objs.size + 1 + 1 ≤ dx := by
      first
        | (simpa only [Heap.size_push] using dn)
        | exact dn
        | (have q := dn; rw [Heap.size_push, Heap.size_push] at q; exact q)
    exact ⟨rfl, hq h' tk' (hp.objs.size + 1) dx ⟨old, Nat.le_succ _, ⟨_, _, hx, rfl, rfl, rfl, rfl⟩, Nat.le_trans (Nat.le_trans (Nat.le_succ _) (Nat.le_succ _)) z, dne, hns⟩⟩
end
end Xf_row
end PySem
namespace L2
open PySem PySem.Spec PyProof.Rows
section
variable {X : Cx} {C fI : Addr} {x0 q0 : Str} {B newId initId : String} {bmB : List Value}
end
end L2
namespace My
open PySem PySem.Spec PyProof.Rows L2
end My

/-! ### the block of the guide's own-error skeleton, for any class over any built-in base whose __init__ stores the field limit -/
namespace PySem
namespace Xf_limit
open PySem.W PySem.Calls PyProof.Rows PySem.HandSPX
def iA (p1 p2 : Pos) : Arguments := { posonlyargs := [], args := [{ arg := "self", annotation := none, pos := p1 }, { arg := "limit", annotation := none, pos := p2 }], vararg := none, kwonlyargs := [], kw_defaults := [], kwarg := none, defaults := [] }
def iB (q1 q2 q3 q4 : Pos) : List Stmt := [.Assign [.Attribute (.Name "self" q1) "limit" q2] (.Name "limit" q3) q4]
def iS : Scope := { kind := .function, names := [(PySem.Str.ofString "self", .local), (PySem.Str.ofString "limit", .local)], isGenerator := false, isCoroutine := false, more := [] }
/-- what the written part says of the class x at C and of its __init__ at fI -/
structure Txt (K : Frag) (mg : Str → Option Value) (x q : Str) (C fI : Addr) (newId : String) (bmB : List Value) : Prop where
  gC : mg x = some (.ref C)
  mkr : excInitIn K C bmB newId = true
  ov : excOver K C bmB = true
  tk : takerIn K C "limit" = some none
  sa : findIn K (.ref C) "__setattr__" = some (some (.builtin "object.__setattr__"))
  ga : findIn K (.ref C) "__getattribute__" = some (some (.builtin "BaseException.__getattribute__"))
  gg : findIn K (.ref C) "__getattr__" = some none
  noN : findIn K (.ref C) "limit" = some none
  iC : findIn K (.ref C) "__init__" = some (some (.ref fI))
  tC : typeIn K (.ref fI) = some (.type "function")
  kC : keepIn K (.ref C) = true
  exC : subIn K (.ref C) (.type "BaseException") = some true
  tyC : typeIn K (.ref C) = some (.type "type")
  hdC : hasDictIn K C = true
  te : exmOne K (.ref C) (.ref C) = some true
  fn : ∃ (p1 p2 q1 q2 q3 q4 : Pos) (fd : FuncData), L2.FunD K "__init__" q (iA p1 p2) (iB q1 q2 q3 q4) iS [] [] fI fd
theorem one_size (v : Value) : [v].length ≤ sizeLine := by
  rw [sizeLine_eq]
  exact (by decide : 1 ≤ 16777216)
theorem ldC {M : Model} {s : Shared} {name : Str} {scope : Scope} {L a : Addr} {cd : Value} {m : Str → Option Value} {x : Str} {pos : Pos} {v : Value} {Q : Value → Shared → Prop} {A : Around} {E : Value → Shared → Prop} (hn : s.heap.Ns L m) (hv : m x = some v) (h : Q v s)
    (hk : scope.kind = .function := by rfl) (hl : (envOfC name scope L a cd).kindOf x = some .local := by rfl) (hd : (x == ("__debug__" : Str)) = false := by decide) :
    wpAny M A (eval (.Name x pos) (envOfC name scope L a cd)) Q E s := wpAny_Name (wpAny_loadName_local hk hl hn hv h) hd
/-- what __init__ leaves of a fresh error at x -/
structure InitEnd (h h' : Heap) (x C dx t1 : Addr) (v : Value) : Prop where
  keep : ∀ b o, b ≠ x → h.get? b = some o → h'.get? b = some o
  obj : h'.get? x = some { cls := .ref C, dict := some dx, data := .fields #[.ref t1, .none, .none, .none, .bool false, .none] }
  dbig : h.objs.size ≤ dx
  dne : dx ≠ x
  ns : h'.Ns1 dx (fun y => if y = "limit" then some v else none)
/-- a made error -/
structure OwnMade (h h' : Heap) (e C d : Addr) (v : Value) : Prop where
  keep : ∀ b o, h.get? b = some o → h'.get? b = some o
  new : h.objs.size ≤ e
  obj : ∃ oe vs, h'.get? e = some oe ∧ oe.cls = .ref C ∧ oe.dict = some d ∧ oe.data = .fields vs ∧ vs[1]? = some .none
  dbig : h.objs.size ≤ d
  dne : d ≠ e
  ns : h'.Ns1 d (fun y => if y = "limit" then some v else none)
section
variable {prog : Program} {w : World} {A : Around} {E : Value → Shared → Prop} {R : Result → Shared → Prop} {s : Shared} {K : Frag} {mg : Str → Option Value} {C fI : Addr} {x0 q0 : Str} {B newId initId : String} {bmB : List Value}
theorem init_end (SF : StoreFacts B bmB "object.__setattr__" "object") (T : Txt K mg x0 q0 C fI newId bmB) {x t0 : Addr} {v : Value} (X : K.In s.heap) (hlim : s.heap.NoLimit) (hx : s.heap.get? x = some (excO C t0)) (hroom : A.depth < recursionLimit)
    (hq : ∀ h' tk dx, InitEnd s.heap h' x C dx t0 v → R (.ok (.ret .none)) { s with heap := h', toks := tk }) :
    codeAny (model prog w) A (.call (.ref fI) ⟨[.ref x, v], []⟩) R s := by
  obtain ⟨p1, p2, q1, q2, q3, q4, fd, F⟩ := T.fn
  obtain ⟨oc, od, dV, kV, doc, pm, an, cdv, ct, osl, rfl, ho, hcd, hdv, _⟩ := F.ex
  have e0 : dV = .none := by
    rcases hdv with ⟨_, e⟩ | ⟨e, _⟩
    · exact e
    · exact absurd rfl e
  subst e0
  refine Att.call_fn (binds := [("self", .ref x), ("limit", v)]) X hlim ho hcd hroom (BindsTo.of_eq (by first | rfl | with_unfolding_all rfl)) (by first | rfl | decide | with_unfolding_all rfl) (fun s₁ IC => ?_) rfl rfl rfl
  obtain ⟨h₁, tk₁, rfl⟩ := IC.toInCall.same
  have k : ∀ b o, s.heap.get? b = some o → h₁.get? b = some o := IC.toInCall.keep
  have hn := IC.toInCall.ns
  have X₁ : K.In h₁ := X.keeps k
  have hx₁ := k _ _ hx
  show wpAny _ _ (execs _ _) _ _ _
  refine wpAny_execs_cons (plainObj_wpAny_Assign_Attribute ?_)
  refine ldC (v := v) hn (by first | rfl | with_unfolding_all rfl | kernel_rfl) (ldC (v := .ref x) hn (by first | rfl | with_unfolding_all rfl | kernel_rfl) ?_)
  refine set_plain X₁ (ox := excO C t0) (od := none) ⟨hx₁, rfl, rfl, trivial⟩ T.sa ?_
  refine PySem.NX.osaB SF X₁ hx₁ T.ov T.tk T.hdC (fun h₃ tk₃ dx k₃ dn dne hx₃ hn₃ => ?_)
  show wpAny _ _ (execs _ _) _ _ _
  have z : s.heap.objs.size < h₁.objs.size := hn.lt
  exact wpAny_execs_nil (hq h₃ tk₃ dx ⟨fun b o hb e => k₃ b o hb (k b o e), hx₃, Nat.le_of_lt (Nat.lt_of_lt_of_le z dn), dne, hn₃⟩)
theorem made (FB : ExcBaseFacts B newId initId bmB) (SF : StoreFacts B bmB "object.__setattr__" "object") (T : Txt K mg x0 q0 C fI newId bmB) {v : Value} (X : K.In s.heap) (hlim : s.heap.NoLimit) (hroom : A.depth + 1 < recursionLimit)
    (hq : ∀ h' tk e d, OwnMade s.heap h' e C d v → R (.ok (.ret (.ref e))) { s with heap := h', toks := tk }) :
    codeAny (model prog w) A (.call (.ref C) ⟨[v], []⟩) R s := by
  obtain ⟨nm, N, q, bs, bm, hdct, sn, sub, ab, col, dd, k0, k1, k2, k3, k5, hC, hbm⟩ := excInit_of X T.mkr
  obtain ⟨hp, g, dr, tk, os⟩ := s
  have k : ∀ b o, hp.get? b = some o → ((hp.push (kdv_tup [v])).push (excO C hp.objs.size)).get? b = some o := fun b o e => Heap.get?_push_of_some _ (Heap.get?_push_of_some _ e)
  have hget : ((hp.push (kdv_tup [v])).push (excO C hp.objs.size)).get? (hp.objs.size + 1) = some (excO C hp.objs.size) := by heap_get
  refine call_own FB hbm hC (looks_findIn X T.iC) (fun self => bind_fn X self T.tC) (one_size v) ?_
  refine init_end (s := ⟨(hp.push (kdv_tup [v])).push (excO C hp.objs.size), g, dr, tk, os⟩) SF T (X.keeps k) (hlim.keeps k) hget ?_ fun h' tk' dx ⟨k', hx, dn, dne, hns⟩ => ?_
  · show A.depth + 1 < recursionLimit
    exact hroom
  · have old : ∀ b o, hp.get? b = some o → h'.get? b = some o := fun b o e => k' b o (Nat.ne_of_lt (Nat.lt_succ_of_lt (Heap.lt_size e))) (k b o e)
    have z : hp.objs.size + 1 + 1 ≤ dx := by
      first
        | (simpa only [Heap.size_push] using dn)
        | exact dn
        | (have q := dn; rw [Heap.size_push, Heap.size_push] at q; exact q)
    exact ⟨rfl, hq h' tk' (hp.objs.size + 1) dx ⟨old, Nat.le_succ _, ⟨_, _, hx, rfl, rfl, rfl, rfl⟩, Nat.le_trans (Nat.le_trans (Nat.le_succ _) (Nat.le_succ _)) z, dne, hns⟩⟩
end
end Xf_limit
end PySem
namespace L2
open PySem PySem.Spec PyProof.Rows
theorem relO_limit {v : V} {v' : Value} (r : RelV v v') (f : Str) : RelO (List.lookup f [(("limit" : Str), v)]) (if f = "limit" then some v' else none) := by
  by_cases hw : f = "limit"
  · subst hw
    rw [if_pos rfl]
    have q : List.lookup ("limit" : Str) [(("limit" : Str), v)] = some v := by simp [List.lookup]
    rw [q]
    exact r
  · rw [if_neg hw]
    have qw : (f == ("limit" : Str)) = false := by simpa using hw
    have q2 : List.lookup f [(("limit" : Str), v)] = none := by simp [List.lookup, qw]
    rw [q2]
    trivial
section
variable {X : Cx} {C fI : Addr} {x0 q0 : Str} {B newId initId : String} {bmB : List Value}
/-- x(e) -/
def tMk_limit (C : Addr) (ta : TA) : L2.St → Hp → XK → Prop := fun σ H Q => ta σ H fun vs H1 => ∃ v, vs = [v] ∧ ∀ d, H1 d = none → Q (.ref C) (some d) (upd H1 d (.xd [(("limit" : Str), v)]))
/-- raise x(e) -/
def tRaise_limit (C : Addr) (W : WX) (ta : TA) : TS := fun _ σ H => tMk_limit C ta σ H fun cls d H' => W cls d σ H'
end
end L2
namespace My
open PySem PySem.Spec PyProof.Rows L2
theorem excB_limit {K : PySem.W.Frag} {mg : Str → Option Value} {x q : Str} {newId : String} {bmB : List Value} (glo : mg x = some (.ref (He.ga K x))) (c : excB K x "limit" newId bmB = true)
    (fn : ∃ (p1 p2 q1 q2 q3 q4 : Pos) (fd : FuncData), FunD K "__init__" q (PySem.Xf_limit.iA p1 p2) (PySem.Xf_limit.iB q1 q2 q3 q4) PySem.Xf_limit.iS [] [] (He.ma K (He.ga K x) "__init__") fd) :
    PySem.Xf_limit.Txt K mg x q (He.ga K x) (He.ma K (He.ga K x) "__init__") newId bmB := by
  unfold excB at c
  simp only [Bool.and_eq_true, decide_eq_true_eq] at c
  obtain ⟨c1, c2, c3, c4, c5, c6, c7, c8, c9, c10, c11, c12, c13, c14⟩ := c
  exact ⟨glo, c1, c2, c3, He.eqO_ok c4, He.eqO_ok c5, He.eqO_ok c6, He.eqO_ok c7, He.eqO_ok c8, c9, c10, c11, c12, c13, c14, fn⟩
end My

namespace My
open PySem PySem.Spec PyProof.Rows L2
/-! ### errors of no field -/
/-- x: an error class with no __init__ of its own -/
def exc0B (K : PySem.W.Frag) (x : Str) (newId : String) (bmB : List Value) : Bool :=
  PySem.W.excIn K (He.ga K x) bmB newId && (PySem.W.keepIn K (.ref (He.ga K x)) && (decide (PySem.W.subIn K (.ref (He.ga K x)) (.type "BaseException") = some true) && decide (PySem.W.typeIn K (.ref (He.ga K x)) = some (.type "type"))))
structure Exc0 (K : PySem.W.Frag) (mg : Str → Option Value) (x : Str) (C : Addr) (newId : String) (bmB : List Value) : Prop where
  gC : mg x = some (.ref C)
  q : PySem.W.excIn K C bmB newId = true
  kC : PySem.W.keepIn K (.ref C) = true
  exC : PySem.W.subIn K (.ref C) (.type "BaseException") = some true
  tyC : PySem.W.typeIn K (.ref C) = some (.type "type")
theorem exc0_ok {K : PySem.W.Frag} {mg : Str → Option Value} {x : Str} {newId : String} {bmB : List Value} (glo : mg x = some (.ref (He.ga K x))) (c : exc0B K x newId bmB = true) : Exc0 K mg x (He.ga K x) newId bmB := by
  unfold exc0B at c
  simp only [Bool.and_eq_true, decide_eq_true_eq] at c
  obtain ⟨c1, c2, c3, c4⟩ := c
  exact ⟨glo, c1, c2, c3, c4⟩
section
variable {X : Cx} {C : Addr} {bmB : List Value} {B newId initId : String}
theorem pmk_own0 {x : Str} {p pos : Pos} (F : ExcBaseFacts B newId initId bmB) (T : Exc0 X.K X.mg x C newId bmB) (hg : Gl X x := by rfl)
    (hdb : (x == ("__debug__" : Str)) = false := by decide) : PMk X (.Call (.Name x p) [] [] pos) (fun _ H Q => Q (.ref C) none H) := by
  intro pins s σ H Q I h
  refine wpAny_Call_Name_kw (ld_glob I hg T.gC ?_ hdb)
  refine PySem.W.callWith_K0 I.kIn T.kC ?_
  obtain ⟨bm, N, nm, qn, bs, hdct, sn, sub, ab, col, dd, k0, k1, k2, k3, k5, mN, hC, hN, hni, TT⟩ := exc_obj I.kIn T.q
  refine wpAny_call_exc_subT F TT hC hN hni (fun h' e hm => ?_) (Nat.zero_le _)
  exact mk_of I hm (raises_own T.exC T.tyC) h (I.hok.gone hm.new)
/-- raise x() -/
def tRaise0 (C : Addr) (W : WX) : TS := fun _ σ H => W (.ref C) none σ H
theorem ps_raise0 {x : Str} {W : WX} {p pos pos2 : Pos} (hc : X.calm = true) (F : ExcBaseFacts B newId initId bmB) (T : Exc0 X.K X.mg x C newId bmB) (tk : Takes X W) (hg : Gl X x := by rfl) (hdb : (x == ("__debug__" : Str)) = false := by decide) :
    PS X (.Raise (some (.Call (.Name x p) [] [] pos)) none pos2) (tRaise0 C W) := ps_raise hc tk (pmk_own0 F T hg hdb)
end
/-! ### isinstance of a held error, with a dict or without -/
section
variable {X : Cx} {a : Addr} {oe : Obj} {cls : Value} {d : Option Addr} {pn : List (Addr × Obj)}
def HasD (H : Hp) (d : Option Addr) : Prop := d = none ∨ ∃ dd fs, d = some dd ∧ H dd = some (.xd fs)
theorem HasD.same {H H' : Hp} {d : Option Addr} (h : HasD H d) (e : Same H H') : HasD H' d := by
  rcases h with h | ⟨dd, fs, h1, h2⟩
  · exact .inl h
  · exact .inr ⟨dd, fs, h1, e _ _ h2⟩
def rIsT2 (K : PySem.W.Frag) (cls : Value) (d : Option Addr) (a : Addr) : List V → Hp → VK → Prop := fun xs H Q => ∃ (D tp : Addr) (cs : List V) (us : List Value) (b : Bool),
  xs = [.ref a, .ref tp] ∧ cls = .ref D ∧ ClsE K D ∧ HasD H d ∧ H tp = some (.tup cs) ∧ Paired ClsV cs us ∧ PySem.W.kitAny K (.ref D) us = some b ∧ Q (.bl b) H
def rIsO2 (K : PySem.W.Frag) (cls : Value) (d : Option Addr) (a : Addr) : List V → Hp → VK → Prop := fun xs H Q => ∃ (D : Addr) (c : V) (u : Value) (b : Bool),
  xs = [.ref a, c] ∧ cls = .ref D ∧ ClsE K D ∧ HasD H d ∧ ClsV c u ∧ PySem.W.kitOne K (.ref D) u = some b ∧ Q (.bl b) H
end
/-! ### a call of a def that takes any number of arguments, where it may raise -/
section
variable {X : Cx} {CX : CXT} {k : Nat} {sp : Sp} {E : L2.St → XK} {x : Str} {p pos : Pos} {e : Expr} {es : List Expr} {t : TA}
end
/-- a call of a def with so many arguments, where it may raise into a handler -/
theorem calXS {X : Cx} {CX : CXT} {k : Nat} {ps : List Str} {sp : Sp} {E : L2.St → XK} {x : Str} {p pos : Pos} {e : Expr} {es : List Expr} {t : TA} (O : Ok X.prog X.w X.K X.mg X.base CX k x ps sp) (hr : Room k X.A) (hx : ∀ σ, PassesAt CX X σ (E σ)) (ha : PA X (e :: es) t) (hg : Gl X x := by rfl)
    (hdb : (x == ("__debug__" : Str)) = false := by decide)
    (he : starEach (e :: es) X.env = (false, eval e X.env) :: starEach es X.env := by rfl) (hpl : (backTo pos (starEach es X.env)).any (·.1) = false := by rfl) :
    PE X (.Call (.Name x p) (e :: es) [] pos) (tCallS sp E t) := by
  obtain ⟨fd, F, b, kp, m⟩ := O
  exact pe_callS F hr hg m kp b hx ha hdb he hpl
end My

namespace My
open PySem PySem.Spec PyProof.Rows L2
/-! ### trees -/
inductive Tr
  | nd : List Tr → Tr
mutual
def Tr.row : Tr → List Int
  | .nd cs => Tr.rowL cs ++ [(cs.length : Int)]
def Tr.rowL : List Tr → List Int
  | [] => []
  | c :: cs => Tr.row c ++ Tr.rowL cs
end
mutual
def Tr.dat : Tr → PyData
  | .nd cs => .tuple (Tr.datL cs)
def Tr.datL : List Tr → List PyData
  | [] => []
  | c :: cs => Tr.dat c :: Tr.datL cs
end
/-! ### trees in the heap -/
mutual
inductive TrAt (K : PySem.W.Frag) (H : Hp) : V → Tr → Prop
  | nd {a : Addr} {xs : List V} {cs : List Tr} : SqT K H a xs → TrsAt K H xs cs → TrAt K H (.ref a) (.nd cs)
inductive TrsAt (K : PySem.W.Frag) (H : Hp) : List V → List Tr → Prop
  | nil : TrsAt K H [] []
  | cons {x : V} {t : Tr} {xs : List V} {ts : List Tr} : TrAt K H x t → TrsAt K H xs ts → TrsAt K H (x :: xs) (t :: ts)
end
mutual
theorem TrAt.tr {K : PySem.W.Frag} {H H' : Hp} (e : ∀ a xs, SqT K H a xs → SqT K H' a xs) : ∀ {v : V} {t : Tr}, TrAt K H v t → TrAt K H' v t
  | _, _, .nd h1 h2 => .nd (e _ _ h1) (TrsAt.tr e h2)
theorem TrsAt.tr {K : PySem.W.Frag} {H H' : Hp} (e : ∀ a xs, SqT K H a xs → SqT K H' a xs) : ∀ {vs : List V} {ts : List Tr}, TrsAt K H vs ts → TrsAt K H' vs ts
  | _, _, .nil => .nil
  | _, _, .cons h1 h2 => .cons (TrAt.tr e h1) (TrsAt.tr e h2)
end
section
variable {K : PySem.W.Frag} {H H' : Hp} {v : V} {t : Tr} {xs ys : List V} {ts us : List Tr} {S A B : Addr} {n : Nat}
theorem TrAt.same (h : TrAt K H v t) (e : Same H H') : TrAt K H' v t := TrAt.tr (fun _ _ => same_seqT e) h
theorem TrsAt.same (h : TrsAt K H xs ts) (e : Same H H') : TrsAt K H' xs ts := TrsAt.tr (fun _ _ => same_seqT e) h
theorem TrAt.x (h : TrAt K H v t) (st : Strm H S A B n) (e : SameX S A H H') : TrAt K H' v t := TrAt.tr (fun _ _ => sqT_x st e) h
theorem TrsAt.x (h : TrsAt K H xs ts) (st : Strm H S A B n) (e : SameX S A H H') : TrsAt K H' xs ts := TrsAt.tr (fun _ _ => sqT_x st e) h
theorem TrAt.upd (h : TrAt K H v t) {d : Addr} {zs : List V} {o : HO} (hd : H d = some (.lst zs)) : TrAt K (L2.upd H d o) v t := TrAt.tr (fun _ _ z => sqT_upd z hd) h
theorem TrsAt.upd (h : TrsAt K H xs ts) {d : Addr} {zs : List V} {o : HO} (hd : H d = some (.lst zs)) : TrsAt K (L2.upd H d o) xs ts := TrsAt.tr (fun _ _ z => sqT_upd z hd) h
theorem TrsAt.len : ∀ {xs : List V} {ts : List Tr}, TrsAt K H xs ts → xs.length = ts.length
  | _, _, .nil => rfl
  | _, _, .cons _ h => congrArg Nat.succ (TrsAt.len h)
theorem TrsAt.get : ∀ {xs : List V} {ts : List Tr}, TrsAt K H xs ts → ∀ {k : Nat} {x : V}, xs[k]? = some x → ∃ c, ts[k]? = some c ∧ TrAt K H x c
  | _, _, .nil, k, x, e => nomatch e
  | _, _, .cons h1 h2, 0, x, e => ⟨_, rfl, by cases e; exact h1⟩
  | _, _, .cons h1 h2, k + 1, x, e => TrsAt.get h2 (k := k) e
theorem TrsAt.app : ∀ {xs : List V} {ts : List Tr} {ys : List V} {us : List Tr}, TrsAt K H xs ts → TrsAt K H ys us → TrsAt K H (xs ++ ys) (ts ++ us)
  | _, _, _, _, .nil, g => g
  | _, _, _, _, .cons h1 h2, g => .cons h1 (TrsAt.app h2 g)
theorem TrsAt.snoc (h : TrsAt K H xs ts) (g : TrAt K H v t) : TrsAt K H (xs ++ [v]) (ts ++ [t]) := h.app (.cons g .nil)
theorem TrsAt.take : ∀ {xs : List V} {ts : List Tr}, TrsAt K H xs ts → ∀ n : Nat, TrsAt K H (xs.take n) (ts.take n)
  | _, _, _, 0 => .nil
  | _, _, .nil, _ + 1 => .nil
  | _, _, .cons h1 h2, n + 1 => .cons h1 (TrsAt.take h2 n)
theorem TrsAt.drop : ∀ {xs : List V} {ts : List Tr}, TrsAt K H xs ts → ∀ n : Nat, TrsAt K H (xs.drop n) (ts.drop n)
  | _, _, h, 0 => h
  | _, _, .nil, _ + 1 => .nil
  | _, _, .cons h1 h2, n + 1 => TrsAt.drop h2 n
end
mutual
theorem TrAt.dq {b : Bool} {K : PySem.W.Frag} {H : Hp} : ∀ {v : V} {t : Tr}, TrAt K H v t → Dq b K H v t.dat
  | _, _, .nd h1 h2 => .tup h1 (TrsAt.dq h2)
theorem TrsAt.dq {b : Bool} {K : PySem.W.Frag} {H : Hp} : ∀ {vs : List V} {ts : List Tr}, TrsAt K H vs ts → DqAll b K H vs (Tr.datL ts)
  | _, _, .nil => .nil
  | _, _, .cons h1 h2 => .cons (TrAt.dq h1) (TrsAt.dq h2)
end
/-! ### a tree that is written as lists of children -/
structure WfB (bl : List (List Nat)) : Prop where
  up : ∀ (j : Nat) (ks : List Nat), bl[j]? = some ks → ∀ k ∈ ks, j < k ∧ k < bl.length
end My

namespace My
open PySem PySem.Spec PyProof.Rows L2
/-! ### the nodes of a tree, with their paths -/
mutual
def Tr.lst : Tr → List Int → List (List Int × Int)
  | .nd cs, p => Tr.lstL cs p 0 ++ [(p, (cs.length : Int))]
def Tr.lstL : List Tr → List Int → Nat → List (List Int × Int)
  | [], _, _ => []
  | c :: cs, p, i => Tr.lst c (p ++ [(i : Int)]) ++ Tr.lstL cs p (i + 1)
end
/-! ### in the heap -/
def NdAt (K : PySem.W.Frag) (H : Hp) (x : V) (f : List Int × Int) : Prop := ∃ a q : Addr, x = .ref a ∧ SqT K H a [.ref q, .int f.2] ∧ TupI K H q f.1
def WtAt (K : PySem.W.Frag) (H : Hp) (x : V) (f : List Int × Tr) : Prop := ∃ (a q : Addr) (v : V), x = .ref a ∧ SqT K H a [.ref q, v] ∧ TupI K H q f.1 ∧ TrAt K H v f.2
def All2 {α : Type} (R : V → α → Prop) (xs : List V) (fs : List α) : Prop := xs.length = fs.length ∧ ∀ (k : Nat) (x : V) (f : α), xs[k]? = some x → fs[k]? = some f → R x f
theorem NdAt.tr {K : PySem.W.Frag} {H H' : Hp} {x : V} {f : List Int × Int} (e : ∀ a xs, SqT K H a xs → SqT K H' a xs) (h : NdAt K H x f) : NdAt K H' x f := by
  obtain ⟨a, q, h1, h2, h3⟩ := h
  exact ⟨a, q, h1, e _ _ h2, e _ _ h3⟩
theorem WtAt.tr {K : PySem.W.Frag} {H H' : Hp} {x : V} {f : List Int × Tr} (e : ∀ a xs, SqT K H a xs → SqT K H' a xs) (h : WtAt K H x f) : WtAt K H' x f := by
  obtain ⟨a, q, v, h1, h2, h3, h4⟩ := h
  exact ⟨a, q, v, h1, e _ _ h2, e _ _ h3, TrAt.tr e h4⟩
section
variable {α : Type} {R R' : V → α → Prop} {xs : List V} {fs : List α}
theorem All2.imp (h : All2 R xs fs) (e : ∀ x f, R x f → R' x f) : All2 R' xs fs := ⟨h.1, fun k x f h1 h2 => e x f (h.2 k x f h1 h2)⟩
theorem All2.nil : All2 R [] [] := ⟨rfl, fun _ _ _ z => nomatch z⟩
theorem All2.snoc (h : All2 R xs fs) {x : V} {f : α} (r : R x f) : All2 R (xs ++ [x]) (fs ++ [f]) := by
  refine ⟨by rw [List.length_append, List.length_append, h.1]; rfl, fun k y g h1 h2 => ?_⟩
  have hl := h.1
  rcases snoc_get h1 with ⟨z1, z2⟩ | ⟨z1, z2⟩
  · rcases snoc_get h2 with ⟨y1, y2⟩ | ⟨y1, y2⟩
    · exact h.2 k y g z1 y1
    · have := (List.getElem?_eq_some_iff.mp z1).1
      omega
  · rcases snoc_get h2 with ⟨y1, y2⟩ | ⟨y1, y2⟩
    · have := (List.getElem?_eq_some_iff.mp y1).1
      omega
    · rw [← z2, ← y2]
      exact r
theorem All2.front (h : All2 R xs fs) (n : Nat) : All2 R (xs.take n) (fs.take n) := by
  refine ⟨by rw [List.length_take, List.length_take, h.1], fun k a r h1 h2 => ?_⟩
  have k1 : k < (xs.take n).length := (List.getElem?_eq_some_iff.mp h1).1
  rw [List.length_take] at k1
  rw [List.getElem?_take_of_lt (by omega)] at h1 h2
  exact h.2 k a r h1 h2
theorem All2.back (h : All2 R xs fs) (hne : 0 < xs.length) : ∃ x f, xs = xs.dropLast ++ [x] ∧ fs = fs.dropLast ++ [f] ∧ R x f ∧ All2 R xs.dropLast fs.dropLast := by
  have hl := h.1
  have h1 : xs ≠ [] := fun z => by rw [z] at hne; exact absurd hne (Nat.lt_irrefl _)
  have h2 : fs ≠ [] := fun z => by rw [z] at hl; rw [hl] at hne; exact absurd hne (Nat.lt_irrefl _)
  refine ⟨xs.getLast h1, fs.getLast h2, (List.dropLast_concat_getLast h1).symm, (List.dropLast_concat_getLast h2).symm, ?_, ?_⟩
  · refine h.2 (xs.length - 1) _ _ ?_ ?_
    · rw [List.getLast_eq_getElem, List.getElem?_eq_getElem]
    · rw [List.getLast_eq_getElem, hl, List.getElem?_eq_getElem]
  · have e1 : xs.dropLast = xs.take (xs.length - 1) := List.dropLast_eq_take
    have e2 : fs.dropLast = fs.take (xs.length - 1) := by rw [List.dropLast_eq_take, hl]
    rw [e1, e2]
    exact h.front _
end
end My
namespace L2
open PySem PySem.Spec PyProof.Rows
end L2

namespace L2
open PySem PySem.Spec PyProof.Rows RZ
/-! ### all(list of bools) -/
/-! ### a comprehension over zip of two tuples of one length -/
end L2
namespace My
open PySem PySem.Spec PyProof.Rows L2
theorem seq_go {a b : TS} {D : Ends} {σ : L2.St} {H : Hp} (h : a { D with nx := b D } σ H) : tSeq a b D σ H := h
/-! ### lists of children in the heap -/
def Bel (H : Hp) (l : Addr) (bl : List (List Nat)) : Prop := ∃ as : List Addr, H l = some (.lst (as.map V.ref)) ∧ as.length = bl.length ∧ ∀ (j : Nat) (a : Addr) (ks : List Nat), as[j]? = some a → bl[j]? = some ks → H a = some (.lst ((ofN ks).map V.int))
theorem Bel.same {H H' : Hp} {l : Addr} {bl : List (List Nat)} (h : Bel H l bl) (e : Same H H') : Bel H' l bl := by
  obtain ⟨as, h1, h2, h3⟩ := h
  exact ⟨as, e _ _ h1, h2, fun j a ks x y => e _ _ (h3 j a ks x y)⟩
theorem Bel.get {H : Hp} {l : Addr} {bl : List (List Nat)} (h : Bel H l bl) {j : Nat} (hj : j < bl.length) : ∃ (as : List Addr) (a : Addr) (ks : List Nat), H l = some (.lst (as.map V.ref)) ∧ as[j]? = some a ∧ bl[j]? = some ks ∧ H a = some (.lst ((ofN ks).map V.int)) := by
  obtain ⟨as, h1, h2, h3⟩ := h
  exact ⟨as, as[j], bl[j], h1, List.getElem?_eq_getElem (by omega), List.getElem?_eq_getElem hj, h3 j _ _ (List.getElem?_eq_getElem (by omega)) (List.getElem?_eq_getElem hj)⟩
end My

namespace L2
open PySem PySem.Spec PyProof.Rows
/-! ### del xs[f:] of a list -/
section
variable {prog : Program} {w : World} {A : Around} {E : Value → Shared → Prop} {s : Shared}
end
end L2

namespace L2
open PySem PySem.Spec PyProof.Rows
end L2
namespace My
open PySem PySem.Spec PyProof.Rows L2
/-! ### trees built from a row, from the left -/
theorem tySq {K : PySem.W.Frag} {H : Hp} {p : Addr} {xs : List V} (h : SqT K H p xs) : ∃ t, TyX K H (.ref p) t ∧ PySem.W.kitOne K t (.type "tuple") = some true := by
  have k : PySem.W.kitOne K (.type "tuple") (.type "tuple") = some true := kit_ty (a := "tuple") (b := "tuple") (r := true) (by decide +kernel)
  rcases h with (h | ⟨o, h⟩) | ⟨o, its, n, h1, h2, _⟩
  · exact ⟨_, .base (.tup h), k⟩
  · exact ⟨_, .fTuple h, k⟩
  · exact ⟨_, .kTuple h1 h2, k⟩
end My

namespace My
open PySem PySem.Spec PyProof.Rows L2
/-! ### a def that is handed the error that a suite holds -/
abbrev SpE := Addr → Value → Option Addr → Sp
def ErrO (cls : Value) (d : Option Addr) (o : Obj) : Prop := Zc cls d o ∧ ∃ xs, o.data = .fields xs
structure FnE (P : Program) (w : World) (K : PySem.W.Frag) (mg : Str → Option Value) (base : Heap) (CX : CXT) (k : Nat) (f : Addr) (fd : FuncData) (ps : List Str) (sp : SpE) : Prop where
  len : ∀ a cls d vs H Q E, sp a cls d vs H Q E → vs.length = ps.length
  run : ∀ (p : Addr × Obj) (cls : Value) (d : Option Addr), ErrO cls d p.2 → ∀ (A : Around) (fr : List Env) (z : Shared) (H : Hp), L2H.RoomH k A → L2H.PinOk fr H z p → Env0 P w K mg base A fr z H →
    ∀ (args : Args) (us : List Value) (vs : List V) (Q : VK) (E : XK), BindsTo z fd args (ps.zip us) → Vals vs us → sp p.1 cls d vs H Q E → codeAny (model P w) A (.call (.ref f) args) (CR CX fr P w H z Q E) z
theorem fnE_of {P : Program} {w : World} {K : PySem.W.Frag} {mg : Str → Option Value} {base : Heap} {CX : CXT} {k : Nat} {x qual : Str} {pa : Arguments} {body : List Stmt} {sc : Scope} {N ps : List Str} {sp : SpE} {f : Addr} {fd : FuncData}
    (F : FunD K x qual pa body sc [] [] f fd) (S : FnScope N ps sc) (len : ∀ a cls d vs H Q E, sp a cls d vs H Q E → vs.length = ps.length)
    (hbody : ∀ (p : Addr × Obj) (cls : Value) (d : Option Addr), ErrO cls d p.2 → ∀ (cdv : Value) (A : Around) (fr : List Env) (z : Shared) (H : Hp) (vs : List V) (Q : VK) (E : XK),
      L2H.RoomH k (A.deeper (envOfC qual sc z.heap.objs.size f cdv)) → sp p.1 cls d vs H Q E →
      ∃ t, PSs (L2H.cxH CX P w K mg base N qual sc f cdv A fr z H E p) body t ∧ t { nx := fun _ H' => Q .non H', rt := Q } (L2.start N vs) H) :
    FnE P w K mg base CX (k + 1) f fd ps sp := by
  obtain ⟨oc, od, dV, kV, doc, pm, an, cdv, ct, osl, rfl, hlk, hc, _, _⟩ := F.ex
  constructor
  · exact len
  intro p cls d herr A fr z H room hp env args us vs Q E hb hv hsp
  have n1 := len _ _ _ _ _ _ _ hsp
  have hk : K.In z.heap := env.mod.kin.keeps fun b o e => (env.bs b o e).1
  have hlim : z.heap.NoLimit := env.mod.nolimit.keeps fun b o e => (env.bs b o e).1
  have kinds : ∀ y ∈ ps.zip us, sc.names.lookup y.1 = some .local ∨ (sc.names.lookup y.1 = some .cell ∧ ((cellsFrom (z.heap.objs.size + 1) sc.names []).lookup y.1).isSome = true) := by
    rintro ⟨n, v⟩ hy
    exact (S.par n (List.of_mem_zip hy).1).imp (fun q => q) fun q => ⟨q, PySem.W.cellsFrom_some _ _ _ (.inl q)⟩
  refine codeAny_call_function room.depth (hk _ _ hlk) rfl S.co S.gen rfl (PySem.W.codeRec_of hk hc) (hb _ _ _ _ ?_)
  refine wpAny_newFunctionEnv_cells S.kind kinds fun e1 he1 z1 hz1 => ?_
  subst he1
  refine ⟨hlim.keeps hz1.toInCall.keep, codeAny_func ?_⟩
  obtain ⟨t, ht, hq⟩ := hbody p cls d herr cdv A fr z H vs Q E (room.deeper _) hsp
  have st := L2H.inv_startH (CX := CX) (E := E) S hp env n1 hv hz1
  refine wpAny_mono (ht.run [] z1 (L2.start N vs) H _ st hq) (fun fl z2 h2 => ?_) fun _ _ h2 => h2
  cases fl with
  | next =>
    obtain ⟨_, H2, J, q⟩ := h2
    exact ⟨V.non, H2, J.os, J.bare, J.base, J.hok, rfl, q⟩
  | ret u =>
    obtain ⟨v, _, H2, J, rv, q⟩ := h2
    exact ⟨v, H2, J.os, J.bare, J.base, J.hok, rv, q⟩
  | brk => exact h2.elim fun _ h3 => h3.elim fun _ h4 => False.elim h4.2
  | cont => exact h2.elim fun _ h3 => h3.elim fun _ h4 => False.elim h4.2
/-- the def of the module x is handed the error -/
def OkE (P : Program) (w : World) (K : PySem.W.Frag) (mg : Str → Option Value) (base : Heap) (CX : CXT) (k : Nat) (x : Str) (ps : List Str) (sp : SpE) : Prop :=
  ∃ fd : FuncData, FnE P w K mg base CX k (He.ga K x) fd ps sp ∧ Binds K fd ps [] ∧ PySem.W.keepIn K (.ref (He.ga K x)) = true ∧ mg x = some (.ref (He.ga K x))
theorem okE_of {P : Program} {w : World} {K : PySem.W.Frag} {mg : Str → Option Value} {base : Heap} {CX : CXT} {k : Nat} {x qual : Str} {pa : Arguments} {body : List Stmt} {sc : Scope} {N ps : List Str} {sp : SpE}
    (F : ∃ fd, FunD K x qual pa body sc [] [] (He.ga K x) fd) (g : mg x = some (.ref (He.ga K x))) (S : FnScope N ps sc)
    (hb : ∀ (kV doc pm : Value) (an : Option Addr) (cdv ct : Value) (us : List Value), us.length = ps.length →
      bindArgs (PySem.W.fnOf x qual pa body sc .none kV doc pm an cdv ct) ⟨us, []⟩ = pure (ps.zip us))
    (len : ∀ a cls d vs H Q E, sp a cls d vs H Q E → vs.length = ps.length)
    (hbody : ∀ (p : Addr × Obj) (cls : Value) (d : Option Addr), ErrO cls d p.2 → ∀ (cdv : Value) (A : Around) (fr : List Env) (z : Shared) (H : Hp) (vs : List V) (Q : VK) (E : XK),
      L2H.RoomH k (A.deeper (envOfC qual sc z.heap.objs.size (He.ga K x) cdv)) → sp p.1 cls d vs H Q E →
      ∃ t, PSs (L2H.cxH CX P w K mg base N qual sc (He.ga K x) cdv A fr z H E p) body t ∧ t { nx := fun _ H' => Q .non H', rt := Q } (L2.start N vs) H) :
    OkE P w K mg base CX (k + 1) x ps sp := by
  obtain ⟨fd, F⟩ := F
  exact ⟨fd, fnE_of F S len hbody, F.bindsN hb, F.kp, g⟩
section
variable {X : Cx} {CX : CXT} {k : Nat} {ps : List Str} {sp : SpE} {E : XK} {x : Str} {q pos : Pos} {e : Expr} {es : List Expr} {t : TA} {a : Addr} {oe : Obj} {cls : Value} {d : Option Addr}
def tCallE (sp : Sp) (t : TA) : TE := fun σ H Q => t σ H fun vs H1 => sp vs H1 Q fun _ _ _ => False
theorem calE (O : OkE X.prog X.w X.K X.mg X.base CX k x ps sp) (hr : L2H.RoomH k X.A) (hx : Passes CX X fun _ _ _ => False) (hz : Zc cls d oe) (hf : ∃ vs, oe.data = .fields vs) (hm : (a, oe) ∈ X.pn) (ha : PA X (e :: es) t) (hg : Gl X x := by rfl)
    (hdb : (x == ("__debug__" : Str)) = false := by decide) (he : starEach (e :: es) X.env = (false, eval e X.env) :: starEach es X.env := by rfl) (hpl : (backTo pos (starEach es X.env)).any (·.1) = false := by rfl) :
    PE X (.Call (.Name x q) (e :: es) [] pos) (tCallE (sp a cls d) t) := by
  obtain ⟨fd, F, b, kp, m⟩ := O
  refine ⟨fun pins s σ H Q I h => ?_⟩
  refine wpAny_Call_Name_kw (ld_glob I hg m ?_ hdb)
  refine PySem.W.callWith_K (h₀ := X.base) I.ok.mod.kin kp (thn (ha.run pos pins s σ H _ I h) fun us s1 ⟨vs, H1, I1, r, q1⟩ => ⟨I1.kIn, ?_⟩) he hpl
  have hl : us.length = ps.length := by rw [← r.length]; exact F.len _ _ _ _ _ _ _ q1
  have b1 := b s1 us I1.kIn (by rw [List.append_nil]; exact hl)
  rw [List.append_nil] at b1
  obtain ⟨p1, p2, p3, p4, p5⟩ := I1.pin (a, oe) (List.mem_append_left _ hm)
  have hpin : L2H.PinOk X.stack H1 s1 (a, oe) := ⟨p1, p2, fun hm => (List.mem_cons.mp (I1.stkSub a hm)).elim p3 p4, p5⟩
  refine wpAny_call (codeAny_mono (F.run (a, oe) cls d ⟨hz, hf⟩ X.A X.stack s1 H1 hr hpin I1.env0 ⟨us, []⟩ us vs Q _ b1 r q1) fun r s' hq => ?_)
  cases r with
  | error e => exact hx pins σ H1 s1 e s' I1 hq
  | ok fl =>
    cases fl with
    | ret u => exact I1.after hq
    | next => exact False.elim hq
    | brk => exact False.elim hq
    | cont => exact False.elim hq
end
/-! ### isinstance of an error that the context pins -/
section
variable {X : Cx} {a : Addr} {oe : Obj} {cls : Value} {d : Option Addr}
theorem inst_of3 {pins : List (Addr × Obj)} {σ : L2.St} {H : Hp} {s : Shared} (hz : ErrO cls d oe) (hm : (a, oe) ∈ X.pn) (I : Inv X pins σ H s) {D : Addr}
    (ec : cls = .ref D) (hd : HasD H d) : ∃ od, PySem.W.InstAt s.heap a oe D od := by
  obtain ⟨ha, _⟩ := I.pin (a, oe) (List.mem_append_left _ hm)
  obtain ⟨hz, vs, hv⟩ := hz
  have hn : PySem.W.notCls oe = true := by
    unfold PySem.W.notCls
    rw [hv] <;> rfl
  rcases hd with ed | ⟨dd, fs, ed, hd⟩
  · exact ⟨none, ha, hz.1.trans ec, hn, by rw [hz.2, ed]; trivial⟩
  · obtain ⟨mA, hns, _⟩ := (show ObjOk X.prog X.w H s.heap dd (.xd fs) from I.hok dd _ hd)
    obtain ⟨od, ho, _⟩ := lookIn_ns hns
    exact ⟨some od, ha, hz.1.trans ec, hn, by rw [hz.2, ed]; exact ho⟩
theorem call_isT3 (hz : ErrO cls d oe) (hm : (a, oe) ∈ X.pn) : CallR X (.builtin "isinstance") (rIsT2 X.K cls d a) := by
  intro pins s σ H xs us0 Q I r h
  obtain ⟨D, tp, cs, us, b, rfl, ec, cE, hd, ht, pr, ek, q⟩ := h
  obtain ⟨u1, u2, rfl, r1, r2⟩ := vals2 r
  obtain ⟨od, J⟩ := inst_of3 hz hm I ec hd
  cases (show u1 = Value.ref a from r1)
  cases (show u2 = Value.ref tp from r2)
  obtain ⟨_, its, rv, o, h1, h2, n, h3⟩ := (show ObjOk X.prog X.w H s.heap tp (.tup cs) from I.hok tp _ ht)
  have e3 := ClsV.all pr rv
  subst e3
  obtain ⟨oc, od2, dt, sl⟩ := o
  simp only at h2 h3
  subst h2 h3
  exact PySem.W.kia_tup (kit_exc cE) I.kIn J h1 ek (fun z => nomatch z) fun tk => ⟨.bl b, H, I.tok tk, rfl, q⟩
theorem call_isO3 (hz : ErrO cls d oe) (hm : (a, oe) ∈ X.pn) : CallR X (.builtin "isinstance") (rIsO2 X.K cls d a) := by
  intro pins s σ H xs us0 Q I r h
  obtain ⟨D, c, u, b, rfl, ec, cE, hd, cv, ek, q⟩ := h
  obtain ⟨u1, u2, rfl, r1, r2⟩ := vals2 r
  obtain ⟨od, J⟩ := inst_of3 hz hm I ec hd
  cases (show u1 = Value.ref a from r1)
  have e2 := cv.eq r2
  subst e2
  exact PySem.W.kia_one (kit_exc cE) I.kIn J ek (fun z => nomatch z) fun tk => ⟨.bl b, H, I.tok tk, rfl, q⟩
end
end My

namespace My
open PySem PySem.Spec PyProof.Rows L2
/-! ### trees compared by == -/
mutual
theorem TrAt.dp {K : PySem.W.Frag} {H : Hp} : ∀ {v : V} {t : Tr}, TrAt K H v t → Dp K H v t.dat
  | _, _, .nd h1 h2 => .tup h1 (TrsAt.dp h2)
theorem TrsAt.dp {K : PySem.W.Frag} {H : Hp} : ∀ {vs : List V} {ts : List Tr}, TrsAt K H vs ts → DpAll K H vs (Tr.datL ts)
  | _, _, .nil => .nil
  | _, _, .cons h1 h2 => .cons (TrAt.dp h1) (TrsAt.dp h2)
end
end My

namespace My
open PySem PySem.Spec PyProof.Rows L2
/-! ### try with several clauses 'except x as n', n the same name in each -/
abbrev Cls3 := List (Value × (Addr → Value → Option Addr → TS))
inductive HdsAs (X : Cx) (n : Str) : List ExceptHandler → Cls3 → Prop
  | nil : HdsAs X n [] []
  | cons {x : Str} {c : Value} {ts : Addr → Value → Option Addr → TS} {b1 : Stmt} {bs : List Stmt} {p1 p2 : Pos} {hs : List ExceptHandler} {l : Cls3} (hc : Names X x c)
      (hb : ∀ (a : Addr) (oe : Obj) (cls : Value) (d : Option Addr) (pn : List (Addr × Obj)), Zc cls d oe → (∃ vs, oe.data = .fields vs) → PSs (X.suite a ((a, oe) :: pn)) (b1 :: bs) (ts a cls d)) (r : HdsAs X n hs l) :
      HdsAs X n (.ExceptHandler (some (.Name x p1)) (some n) (b1 :: bs) p2 :: hs) ((c, ts) :: l)
section
variable {X : Cx} {body : List Stmt} {h1 : ExceptHandler} {hs : List ExceptHandler} {l : Cls3} {pos : Pos} {tb : WX → TS} {Wout : WX} {n : Str} {i : Nat}
end
end My

namespace My
open PySem PySem.Spec PyProof.Rows L2
/-! ### the text of data is data, too -/
def LoL (l : List Nat) : Prop := ∀ c ∈ l, c < 16 ^ 8
def Lo (x : Str) : Prop := LoL x.cps.toList
theorem LoL.app {a b : List Nat} (h : LoL a) (g : LoL b) : LoL (a ++ b) := fun c hc => (List.mem_append.mp hc).elim (h c) (g c)
theorem Lo.app {a b : Str} (h : Lo a) (g : Lo b) : Lo (a ++ b) := fun c hc => (mem_cps_append.mp hc).elim (h c) (g c)
end My

namespace My
open PySem PySem.Spec PyProof.Rows L2
/-! ### a def that shows values: called where nothing is being shown -/
structure FnG (P : Program) (w : World) (K : PySem.W.Frag) (mg : Str → Option Value) (base : Heap) (k : Nat) (f : Addr) (fd : FuncData) (ps : List Str) (sp : Sp) : Prop where
  len : ∀ vs H Q E, sp vs H Q E → vs.length = ps.length
  run : ∀ (Ar : Around) (fr : List Env) (z : Shared) (hp : Hp) (args : Args) (vals : List Value) (vs : List V) (Q : VK) (E : XK), Ar.guards = some [] → Room k Ar →
    Env0 P w K mg base Ar fr z hp → BindsTo z fd args (ps.zip vals) → Vals vs vals → sp vs hp Q E → codeAny (model P w) Ar (.call (.ref f) args) (CR CX0 fr P w hp z Q E) z
def OkG (P : Program) (w : World) (K : PySem.W.Frag) (mg : Str → Option Value) (base : Heap) (k : Nat) (x : Str) (ps : List Str) (sp : Sp) : Prop :=
  ∃ fd : FuncData, FnG P w K mg base k (He.ga K x) fd ps sp ∧ Binds K fd ps [] ∧ PySem.W.keepIn K (.ref (He.ga K x)) = true ∧ mg x = some (.ref (He.ga K x))
theorem okG_of {P : Program} {w : World} {K : PySem.W.Frag} {mg : Str → Option Value} {base : Heap} {k : Nat} {x qual : Str} {pa : Arguments} {body : List Stmt} {sc : Scope} {N ps : List Str} {sp : Sp}
    (F : ∃ fd, FunD K x qual pa body sc [] [] (He.ga K x) fd) (g : mg x = some (.ref (He.ga K x))) (S : FnScope N ps sc)
    (hb : ∀ (kV doc pm : Value) (an : Option Addr) (cdv ct : Value) (us : List Value), us.length = ps.length →
      bindArgs (PySem.W.fnOf x qual pa body sc .none kV doc pm an cdv ct) ⟨us, []⟩ = pure (ps.zip us))
    (len : ∀ vs H Q E, sp vs H Q E → vs.length = ps.length)
    (hbody : ∀ (cdv : Value) (A : Around) (fr : List Env) (z : Shared) (H : Hp) (vs : List V) (Q : VK) (E : XK), A.guards = some [] →
      Room k (A.deeper (envOfC qual sc z.heap.objs.size (He.ga K x) cdv)) → sp vs H Q E →
      ∃ t, PSs (cxOf CX0 P w K mg base N qual sc (He.ga K x) cdv A fr z H E).nox body t ∧ t { nx := fun _ H' => Q .non H', rt := Q } (start N vs) H) :
    OkG P w K mg base (k + 1) x ps sp := by
  obtain ⟨fd, F⟩ := F
  refine ⟨fd, ⟨len, ?_⟩, F.bindsN hb, F.kp, g⟩
  intro Ar fr z hp args vals vs Q E hgd room env0 bnd rel hsp
  obtain ⟨c1, c2, c3, c4, c5, c6, c7, code, c9, c10, rfl, found, coded, _, _⟩ := F.ex
  have same := len _ _ _ _ hsp
  have stands : ∀ b o, base.get? b = some o → z.heap.get? b = some o := fun b o e => (env0.bs b o e).1
  have kin := env0.mod.kin.keeps stands
  have free := env0.mod.nolimit.keeps stands
  refine codeAny_call_function room.depth (kin _ _ found) rfl S.co S.gen rfl
    (PySem.W.codeRec_of kin coded) (bnd _ _ _ _ ?_)
  refine wpAny_newFunctionEnv_cells S.kind (fun y hy => ?_) fun env isEnv st1 made => ?_
  · obtain ⟨n, v⟩ := y
    rcases S.par n (List.of_mem_zip hy).1 with q | q
    · exact Or.inl q
    · exact Or.inr ⟨q, PySem.W.cellsFrom_some _ _ _ (Or.inl q)⟩
  subst isEnv
  refine ⟨free.keeps made.toInCall.keep, codeAny_func ?_⟩
  obtain ⟨t, der, rd⟩ := hbody code Ar fr z hp vs Q E hgd (room.deeper _) hsp
  have start0 := inv_start (CX := CX0) (E := E) S room.hd env0 same rel made
  refine wpAny_mono (der.nox.run [] st1 (start N vs) hp _ start0 rd) (fun fl st2 post => ?_) fun e st2 post => post
  cases fl with
  | ret u =>
    obtain ⟨v, σ2, H2, J, rv, q⟩ := post
    exact ⟨v, H2, J.os, J.bare, J.base, J.hok, rv, q⟩
  | next =>
    obtain ⟨σ2, H2, J, q⟩ := post
    exact ⟨V.non, H2, J.os, J.bare, J.base, J.hok, rfl, q⟩
  | brk =>
    obtain ⟨_, _, _, q⟩ := post
    exact q.elim
  | cont =>
    obtain ⟨_, _, _, q⟩ := post
    exact q.elim
section
variable {X : Cx} {k : Nat} {ps : List Str} {sp : Sp} {x : Str} {q pos : Pos} {e : Expr} {es : List Expr} {t : TA}
theorem calG (O : OkG X.prog X.w X.K X.mg X.base k x ps sp) (hgd : X.A.guards = some []) (hr : Room k X.A) (ha : PA X (e :: es) t) (hg : Gl X x := by rfl)
    (hdb : (x == ("__debug__" : Str)) = false := by decide) (he : starEach (e :: es) X.env = (false, eval e X.env) :: starEach es X.env := by rfl) (hpl : (backTo pos (starEach es X.env)).any (·.1) = false := by rfl) :
    PE X (.Call (.Name x q) (e :: es) [] pos) (tCallE sp t) := by
  obtain ⟨fd, F, b, kp, m⟩ := O
  refine ⟨fun pins s σ H Q I h => ?_⟩
  refine wpAny_Call_Name_kw (ld_glob I hg m ?_ hdb)
  refine PySem.W.callWith_K (h₀ := X.base) I.ok.mod.kin kp (thn (ha.run pos pins s σ H _ I h) fun us s1 ⟨vs, H1, I1, r, q1⟩ => ⟨I1.kIn, ?_⟩) he hpl
  have hl : us.length = ps.length := by rw [← r.length]; exact F.len _ _ _ _ q1
  have b1 := b s1 us I1.kIn (by rw [List.append_nil]; exact hl)
  rw [List.append_nil] at b1
  refine wpAny_call (codeAny_mono (F.run X.A X.stack s1 H1 ⟨us, []⟩ us vs Q _ hgd hr I1.env0 b1 r q1) fun r s' hq => ?_)
  cases r with
  | error e => exact False.elim hq
  | ok fl =>
    cases fl with
    | ret u => exact I1.after hq
    | next => exact False.elim hq
    | brk => exact False.elim hq
    | cont => exact False.elim hq
end
end My

namespace My
open PySem PySem.Spec PyProof.Rows L2
/-! ### values by their data -/
mutual
/-- whole numbers up to 10 ^ 29 and m more, signs of texts in bounds -/
def okD (m : Nat) : PyData → Bool
  | .none | .bool _ => true
  | .int i => decide (i.natAbs ≤ 10 ^ 29 + m)
  | .str x => x.cps.toList.all fun c => decide (c < 16 ^ 8)
  | .list xs | .tuple xs => okDs m xs
  | .dict kvs => okKs m kvs
def okDs (m : Nat) : List PyData → Bool
  | [] => true
  | x :: xs => okD m x && okDs m xs
def okKs (m : Nat) : List (PyData × PyData) → Bool
  | [] => true
  | (k, v) :: r => okD m k && (okD m v && okKs m r)
end
mutual
theorem okD_fit {m : Nat} (hm : m ≤ 1000) : ∀ d : PyData, okD m d = true → d.showable = true ∧ d.leavesShort 40 = true
  | .none, _ => ⟨rfl, rfl⟩
  | .bool _, _ => ⟨rfl, rfl⟩
  | .int i, h => by
    have h : i.natAbs ≤ 10 ^ 29 + m := of_decide_eq_true h
    have f := fit_int 0 0 (i := i) (by omega)
    exact ⟨f.sh, f.lv⟩
  | .str x, h => ⟨rfl, h⟩
  | .list xs, h => okDs_fit hm xs h
  | .tuple xs, h => okDs_fit hm xs h
  | .dict kvs, h => okKs_fit hm kvs h
theorem okDs_fit {m : Nat} (hm : m ≤ 1000) : ∀ xs : List PyData, okDs m xs = true → PyData.showableAll xs = true ∧ PyData.leavesShortAll 40 xs = true
  | [], _ => ⟨rfl, rfl⟩
  | x :: xs, h => by
    have h : (okD m x && okDs m xs) = true := h
    rw [Bool.and_eq_true] at h
    have a := okD_fit hm x h.1
    have b := okDs_fit hm xs h.2
    exact ⟨by show (_ && _) = true; rw [a.1, b.1]; rfl, by show (_ && _) = true; rw [a.2, b.2]; rfl⟩
theorem okKs_fit {m : Nat} (hm : m ≤ 1000) : ∀ kvs : List (PyData × PyData), okKs m kvs = true → PyData.showableKv kvs = true ∧ PyData.leavesShortKv 40 kvs = true
  | [], _ => ⟨rfl, rfl⟩
  | (k, v) :: r, h => by
    have h : (okD m k && (okD m v && okKs m r)) = true := h
    rw [Bool.and_eq_true, Bool.and_eq_true] at h
    have a := okD_fit hm k h.1
    have b := okD_fit hm v h.2.1
    have c := okKs_fit hm r h.2.2
    exact ⟨by show (_ && _ && _) = true; rw [a.1, b.1, c.1]; rfl, by show (_ && _ && _) = true; rw [a.2, b.2, c.2]; rfl⟩
end
mutual
theorem okD_mono {m n : Nat} (h : m ≤ n) : ∀ d : PyData, okD m d = true → okD n d = true
  | .none, _ => rfl
  | .bool _, _ => rfl
  | .int i, e => decide_eq_true (by have : i.natAbs ≤ 10 ^ 29 + m := of_decide_eq_true e; omega)
  | .str _, e => e
  | .list xs, e => okDs_mono h xs e
  | .tuple xs, e => okDs_mono h xs e
  | .dict kvs, e => okKs_mono h kvs e
theorem okDs_mono {m n : Nat} (h : m ≤ n) : ∀ xs : List PyData, okDs m xs = true → okDs n xs = true
  | [], _ => rfl
  | x :: xs, e => by
    have e : (okD m x && okDs m xs) = true := e
    rw [Bool.and_eq_true] at e
    show (okD n x && okDs n xs) = true
    rw [okD_mono h x e.1, okDs_mono h xs e.2]
    rfl
theorem okKs_mono {m n : Nat} (h : m ≤ n) : ∀ kvs : List (PyData × PyData), okKs m kvs = true → okKs n kvs = true
  | [], _ => rfl
  | (k, v) :: r, e => by
    have e : (okD m k && (okD m v && okKs m r)) = true := e
    rw [Bool.and_eq_true, Bool.and_eq_true] at e
    show (okD n k && (okD n v && okKs n r)) = true
    rw [okD_mono h k e.1, okD_mono h v e.2.1, okKs_mono h r e.2.2]
    rfl
end
theorem okDs_iff {m : Nat} : ∀ {xs : List PyData}, okDs m xs = true ↔ ∀ x ∈ xs, okD m x = true
  | [] => ⟨fun _ _ z => (nomatch z), fun _ => rfl⟩
  | x :: xs => by
    show (okD m x && okDs m xs) = true ↔ _
    rw [Bool.and_eq_true, okDs_iff]
    exact ⟨fun h y hy => (List.mem_cons.mp hy).elim (fun e => by rw [e]; exact h.1) (h.2 y), fun h => ⟨h x List.mem_cons_self, fun y hy => h y (List.mem_cons_of_mem _ hy)⟩⟩
theorem bulkAll_app : ∀ xs ys : List PyData, PyData.bulkAll (xs ++ ys) = PyData.bulkAll xs + PyData.bulkAll ys
  | [], ys => (Nat.zero_add _).symm
  | x :: xs, ys => by
    show x.bulk + 1 + PyData.bulkAll (xs ++ ys) = x.bulk + 1 + PyData.bulkAll xs + PyData.bulkAll ys
    rw [bulkAll_app xs ys]
    omega
theorem depthAll_le {k : Nat} : ∀ {xs : List PyData}, PyData.depthAll xs ≤ k ↔ ∀ x ∈ xs, x.depth ≤ k
  | [] => ⟨fun _ _ z => (nomatch z), fun _ => Nat.zero_le _⟩
  | x :: xs => by
    show max x.depth (PyData.depthAll xs) ≤ k ↔ _
    rw [Nat.max_le, depthAll_le]
    exact ⟨fun h y hy => (List.mem_cons.mp hy).elim (fun e => by rw [e]; exact h.1) (h.2 y), fun h => ⟨h x List.mem_cons_self, fun y hy => h y (List.mem_cons_of_mem _ hy)⟩⟩
structure Bd3 (m n k : Nat) (d : PyData) : Prop where
  ok : okD m d = true
  bk : d.bulk ≤ n
  dp : d.depth ≤ k
structure Bd3s (m n k : Nat) (ds : List PyData) : Prop where
  ok : okDs m ds = true
  bk : PyData.bulkAll ds ≤ n
  dp : PyData.depthAll ds ≤ k
section
variable {m n k m' n' k' : Nat} {d : PyData} {ds es : List PyData}
theorem Bd3.mono (h : Bd3 m n k d) (a : m ≤ m') (b : n ≤ n') (c : k ≤ k') : Bd3 m' n' k' d := ⟨okD_mono a d h.ok, Nat.le_trans h.bk b, Nat.le_trans h.dp c⟩
theorem Bd3s.mono (h : Bd3s m n k ds) (a : m ≤ m') (b : n ≤ n') (c : k ≤ k') : Bd3s m' n' k' ds := ⟨okDs_mono a ds h.ok, Nat.le_trans h.bk b, Nat.le_trans h.dp c⟩
theorem Bd3.fit (h : Bd3 m n k d) (a : m ≤ 1000) : Fit n k d := ⟨(okD_fit a d h.ok).1, (okD_fit a d h.ok).2, h.bk, h.dp⟩
theorem Bd3s.tup (h : Bd3s m n k ds) : Bd3 m n (k + 1) (.tuple ds) := ⟨h.ok, h.bk, Nat.succ_le_succ h.dp⟩
theorem Bd3s.lst (h : Bd3s m n k ds) : Bd3 m n (k + 1) (.list ds) := ⟨h.ok, h.bk, Nat.succ_le_succ h.dp⟩
theorem Bd3.all (h : Bd3 m n (k + 1) (.tuple ds)) : Bd3s m n k ds := ⟨h.ok, h.bk, Nat.le_of_succ_le_succ h.dp⟩
theorem Bd3.one (h : Bd3 m n k d) : Bd3s m (n + 1) k [d] := ⟨by show (okD m d && true) = true; rw [h.ok]; rfl, by show d.bulk + 1 + 0 ≤ _; have := h.bk; omega, by show max d.depth 0 ≤ _; have := h.dp; omega⟩
theorem Bd3s.app (h : Bd3s m n k ds) (g : Bd3s m n' k es) : Bd3s m (n + n') k (ds ++ es) := by
  refine ⟨okDs_iff.mpr fun x hx => ?_, by rw [bulkAll_app]; have := h.bk; have := g.bk; omega, depthAll_le.mpr fun x hx => ?_⟩
  · exact (List.mem_append.mp hx).elim (okDs_iff.mp h.ok x) (okDs_iff.mp g.ok x)
  · exact (List.mem_append.mp hx).elim (depthAll_le.mp h.dp x) (depthAll_le.mp g.dp x)
theorem bulkAll_take (i : Nat) : PyData.bulkAll (ds.take i) + PyData.bulkAll (ds.drop i) = PyData.bulkAll ds := by
  rw [← bulkAll_app, List.take_append_drop]
theorem Bd3s.take (h : Bd3s m n k ds) (i : Nat) : Bd3s m n k (ds.take i) :=
  ⟨okDs_iff.mpr fun x hx => okDs_iff.mp h.ok x (List.mem_of_mem_take hx), by have := bulkAll_take (ds := ds) i; have := h.bk; omega, depthAll_le.mpr fun x hx => depthAll_le.mp h.dp x (List.mem_of_mem_take hx)⟩
theorem Bd3s.drop (h : Bd3s m n k ds) (i : Nat) : Bd3s m n k (ds.drop i) :=
  ⟨okDs_iff.mpr fun x hx => okDs_iff.mp h.ok x (List.mem_of_mem_drop hx), by have := bulkAll_take (ds := ds) i; have := h.bk; omega, depthAll_le.mpr fun x hx => depthAll_le.mp h.dp x (List.mem_of_mem_drop hx)⟩
theorem Bd3s.get (h : Bd3s m n k ds) {i : Nat} (e : ds[i]? = some d) : Bd3 m d.bulk k d := ⟨okDs_iff.mp h.ok d (List.mem_of_getElem? e), Nat.le_refl _, depthAll_le.mp h.dp d (List.mem_of_getElem? e)⟩
end
/-! ### lists of values by their data -/
section
variable {b : Bool} {K : PySem.W.Frag} {H H' : Hp} {xs ys : List V} {ds es : List PyData}
end
/-! ### building values whose data is in bounds -/
/-- apart from the stream -/
def DvP (K : PySem.W.Frag) (S A : Addr) (m n k : Nat) : Hp → V → Prop := fun H v => ∃ d, Dq true K (hid S A H) v d ∧ Bd3 m n k d
def DvT (K : PySem.W.Frag) (S A : Addr) (m n k : Nat) : Hp → V → Prop := fun H v => ∃ a xs ds, v = .ref a ∧ SqT K (hid S A H) a xs ∧ DqAll true K (hid S A H) xs ds ∧ Bd3s m n k ds
section
variable {K : PySem.W.Frag} {S A B : Addr} {H0 H : Hp} {σ : L2.St} {n m k n' m' k' c j i : Nat} {t u : TE} {ta : TA} {v : V}
instance moDvP : MoV S A (DvP K S A m n k) := ⟨fun h e => by
  obtain ⟨d, h1, h2⟩ := h
  exact ⟨d, Dq.same e.hid h1, h2⟩⟩
instance moDvT : MoV S A (DvT K S A m n k) := ⟨fun h e => by
  obtain ⟨a, xs, ds, h1, h2, h3, h4⟩ := h
  exact ⟨a, xs, ds, h1, same_seqT e.hid h2, DqAll.same e.hid h3, h4⟩⟩
theorem DvP.mono (h : DvP K S A m n k H v) (a : m ≤ m') (b : n ≤ n') (c : k ≤ k') : DvP K S A m' n' k' H v := by
  obtain ⟨d, h1, h2⟩ := h
  exact ⟨d, h1, h2.mono a b c⟩
theorem DvT.p (h : DvT K S A m n k H v) : DvP K S A m n (k + 1) H v := by
  obtain ⟨a, xs, ds, rfl, h2, h3, h4⟩ := h
  exact ⟨_, .tup h2 h3, h4.tup⟩
theorem DvT.mono (h : DvT K S A m n k H v) (a : m ≤ m') (b : n ≤ n') (c : k ≤ k') : DvT K S A m' n' k' H v := by
  obtain ⟨p, xs, ds, h1, h2, h3, h4⟩ := h
  exact ⟨p, xs, ds, h1, h2, h3, h4.mono a b c⟩
theorem DvP.data (h : DvP K S A m n k H v) : ∃ d, Dq true K H v d ∧ Bd3 m n k d := by
  obtain ⟨d, h1, h2⟩ := h
  exact ⟨d, Dq.same (hid_same S A H) h1, h2⟩
/-- a kind of value in place of another, in a display -/
theorem GvA.imp {P R : Hp → V → Prop} (r : GvA S A B H0 σ j ta (AllV P c)) (h : ∀ H v, P H v → R H v) : GvA S A B H0 σ j ta (AllV R c) := fun H N Q sx st hN q => r H N Q sx st hN fun H' vs s' st' p => q H' vs s' st' ⟨p.1, fun v hv => h H' v (p.2 v hv)⟩
theorem Lof.imp {P R : Hp → V → Prop} (g : Gv S A B H0 σ j t (Lof S A P c)) (h : ∀ H v, P H v → R H v) : Gv S A B H0 σ j t (Lof S A R c) := g.imp fun H v p => by
  obtain ⟨l, xs, e1, e2, e3, e4, e5, e6⟩ := p
  exact ⟨l, xs, e1, e2, e3, e4, e5, fun x hx => h H x (e6 x hx)⟩
end
/-! ### odd values by their data -/
def Od3 (K : PySem.W.Frag) (S A : Addr) (H : Hp) (v : V) : Prop := Od2 K S A H v ∧ DvP K S A 0 100 10 H v
section
variable {K : PySem.W.Frag} {S A B : Addr} {n m t : Nat} {H H' : Hp} {v : V}
theorem Od3.x (h : Od3 K S A H v) (e : SameX S A H H') : Od3 K S A H' v := ⟨h.1.x e, MoV.x (S := S) (A := A) (P := DvP K S A 0 100 10) h.2 e⟩
theorem Od3.same (h : Od3 K S A H v) (e : Same H H') : Od3 K S A H' v := h.x (Same.x e)
end
end My

namespace My
open PySem PySem.Spec PyProof.Rows L2
section
variable {K : PySem.W.Frag} {S A B : Addr} {H H' : Hp} {t : Nat}
end
theorem cut_get {ds : List PyData} {i : Nat} {d : PyData} (h : ds[i]? = some d) : i < ds.length := (List.getElem?_eq_some_iff.mp h).1
end My

namespace My
open PySem PySem.Spec PyProof.Rows L2
/-! ### a call that does not see a list of the caller's -/
section
variable {P : Program} {w : World} {K : PySem.W.Frag} {mg : Str → Option Value} {base : Heap} {A : Around} {fr : List Env} {z z' : Shared} {H : Hp} {l : Addr} {xs : List V}
end
section
variable {X : Cx} {k : Nat} {ps : List Str} {sp : Sp} {x : Str} {q pos : Pos} {e : Expr} {es : List Expr} {t : TA}
end
/-! ### values apart from the stream and a list -/
def DvL (K : PySem.W.Frag) (S A l : Addr) (m n k : Nat) : Hp → V → Prop := fun H v => DvP K S A m n k (delH H l) v
section
variable {K : PySem.W.Frag} {S A B l : Addr} {H H' : Hp} {m n k t : Nat} {v : V}
theorem delH_same' : Same (delH H l) H := fun b o e => by
  by_cases h : b = l
  · rw [h, delH_same] at e
    cases e
  · rw [delH_ne h] at e
    exact e
theorem delH_x (e : SameX S A H H') : SameX S A (delH H l) (delH H' l) := fun b o q n1 n2 => by
  have h : b ≠ l := fun h => by
    rw [h, delH_same] at q
    cases q
  rw [delH_ne h] at q ⊢
  exact e b o q n1 n2
theorem delH_upd {o : HO} : delH (upd H l o) l = delH H l := by
  funext b
  by_cases h : b = l
  · rw [h, delH_same, delH_same]
  · rw [delH_ne h, delH_ne h, upd_ne h]
theorem DvL.x (h : DvL K S A l m n k H v) (e : SameX S A H H') : DvL K S A l m n k H' v := MoV.x (S := S) (A := A) (P := DvP K S A m n k) h (delH_x e)
theorem DvL.upd {o : HO} (h : DvL K S A l m n k H v) : DvL K S A l m n k (L2.upd H l o) v := by
  unfold DvL
  rw [delH_upd]
  exact h
theorem DvL.data (h : DvL K S A l m n k H v) : ∃ d, Dq true K H v d ∧ Bd3 m n k d := by
  obtain ⟨d, h1, h2⟩ := DvP.data h
  exact ⟨d, Dq.same delH_same' h1, h2⟩
end
end My

namespace My
open PySem PySem.Spec PyProof.Rows L2
/-! ### a truth value as a whole number -/
section
variable {X : Cx}
end
/-! ### the size of a value that is nested like a tree -/
end My

namespace My
open PySem PySem.Spec PyProof.Rows L2
/-! ### the text of a tuple of places tells the tuple -/
end My

namespace My
open PySem PySem.Spec PyProof.Rows L2
/-! ### takers as values -/
section
variable {K : PySem.W.Frag} {S A B : Addr} {n m j t k : Nat} {H H' H0 : Hp} {l : Addr} {xs : List V} {σ : L2.St} {ta : TA}
instance moDvL : MoV S A (DvL K S A l m n k) := ⟨fun h e => DvL.x h e⟩
theorem DvL.p {v : V} (h : DvL K S A l m n k H v) : DvP K S A m n k H v := by
  obtain ⟨d, h1, h2⟩ := h
  exact ⟨d, Dq.same (Same.x (S := S) (A := A) delH_same').hid h1, h2⟩
end
/-! ### a tuple, so many times, from once on -/
end My

namespace My
open PySem PySem.Spec PyProof.Rows L2
/-! ### one value, so many times -/
section
variable {K : PySem.W.Frag} {S A B : Addr} {n m j t k c : Nat} {H H' H0 : Hp} {σ : L2.St} {t0 : TE}
end
end My

namespace My
open PySem PySem.Spec PyProof.Rows L2
end My

namespace My
open PySem PySem.Spec PyProof.Rows L2
/-! ### rows of integers as values, apart from the stream; one of some values, drawn -/
def TiP (K : PySem.W.Frag) (S A : Addr) (P : List Int → Prop) (H : Hp) (v : V) : Prop := ∃ a ns, v = .ref a ∧ TupI K (hid S A H) a ns ∧ P ns
theorem atI_in {α : Type} {xs : List α} {z : Int} (h0 : 0 ≤ z) (h1 : z < (xs.length : Int)) : ∃ u, atI xs z = some u ∧ u ∈ xs := by
  obtain ⟨j, rfl⟩ := Int.eq_ofNat_of_zero_le h0
  have hj : j < xs.length := by omega
  exact ⟨xs[j], atI_nat (List.getElem?_eq_getElem hj), List.getElem_mem hj⟩
section
variable {K : PySem.W.Frag} {S A B : Addr} {n m j k c : Nat} {H H' H0 : Hp} {σ : L2.St} {t u : TE} {ta : TA} {P R : List Int → Prop}
instance moTiP : MoV S A (TiP K S A P) := ⟨fun h e => by
  obtain ⟨a, ns, e1, h1, h2⟩ := h
  exact ⟨a, ns, e1, same_seqT (SameX.hid e) h1, h2⟩⟩
theorem TiP.imp {v : V} (h : TiP K S A P H v) (i : ∀ ns, P ns → R ns) : TiP K S A R H v := by
  obtain ⟨a, ns, e1, h1, h2⟩ := h
  exact ⟨a, ns, e1, h1, i ns h2⟩
theorem TiP.get {v : V} (h : TiP K S A P H v) : ∃ a ns, v = .ref a ∧ TupI K H a ns ∧ P ns := by
  obtain ⟨a, ns, e1, h1, h2⟩ := h
  exact ⟨a, ns, e1, same_seqT (hid_same S A H) h1, h2⟩
end
end My

namespace My
open PySem PySem.Spec PyProof.Rows L2
/-! ### == and != of data of any texts -/
def PlainD (d : PyData) : Prop := d.plain = true ∧ d.depth ≤ 64
theorem PlainD.self {d : PyData} (h : PlainD d) : PyData.eqv d d = true := SeqAt.eqv_refl_plain d h.1
end My

namespace My
open PySem PySem.Spec PyProof.Rows L2
/-! ### x != i, x a value of any kind, i an int -/
end My

namespace My
open PySem PySem.Spec PyProof.Rows L2
/-! ### rows of tokens as values, made of one another -/
def Tok (n : Nat) (ns : List Int) : Prop := ns.length ≤ n ∧ ∀ x ∈ ns, 0 ≤ x ∧ x ≤ 5
theorem Tok.sub {n m : Nat} {ns ms : List Int} (h : Tok n ns) (hl : ms.length ≤ m) (hs : ∀ y ∈ ms, y ∈ ns) : Tok m ms := ⟨hl, fun y hy => h.2 y (hs y hy)⟩
theorem Tok.mono {n m : Nat} {ns : List Int} (h : Tok n ns) (e : n ≤ m) : Tok m ns := ⟨Nat.le_trans h.1 e, h.2⟩
theorem Tok.app {n m : Nat} {ns ms : List Int} (h : Tok n ns) (g : Tok m ms) : Tok (n + m) (ns ++ ms) :=
  ⟨by rw [List.length_append]; have := h.1; have := g.1; omega, fun y hy => (List.mem_append.mp hy).elim (h.2 y) (g.2 y)⟩
theorem Ring.tok {ns : List Int} (h : Ring ns) : Tok 24 ns := ⟨h.2.1, h.2.2⟩
theorem Tok.ring {ns : List Int} (h : Tok 24 ns) (h1 : ns ≠ []) : Ring ns := ⟨by cases ns with | nil => exact absurd rfl h1 | cons _ _ => exact Nat.succ_le_succ (Nat.zero_le _), h.1, h.2⟩
def TokV (H : Hp) (v : V) : Prop := ∃ i : Int, v = .int i ∧ 0 ≤ i ∧ i ≤ 5
section
variable {K : PySem.W.Frag} {S A B : Addr} {n m j k c : Nat} {H H' H0 : Hp} {σ : L2.St} {t u : TE} {ta : TA}
instance moTokV : MoV S A TokV := ⟨fun h _ => h⟩
end
/-- a statement whose end is told -/
theorem cut_st {s : TS} {D : Ends} {σ : L2.St} {H : Hp} (R : L2.St → Hp → Prop) (h : ∀ D' : Ends, (∀ σ H, R σ H → D'.nx σ H) → s D' σ H) (hR : ∀ σ H, R σ H → D.nx σ H) : s D σ H := h D hR
end My

/-! ### the block of the guide's own-error skeleton, for any class over any built-in base whose __init__ stores the field effect -/
namespace PySem
namespace Xf_effect
open PySem.W PySem.Calls PyProof.Rows PySem.HandSPX
def iA (p1 p2 : Pos) : Arguments := { posonlyargs := [], args := [{ arg := "self", annotation := none, pos := p1 }, { arg := "effect", annotation := none, pos := p2 }], vararg := none, kwonlyargs := [], kw_defaults := [], kwarg := none, defaults := [] }
def iB (q1 q2 q3 q4 : Pos) : List Stmt := [.Assign [.Attribute (.Name "self" q1) "effect" q2] (.Name "effect" q3) q4]
def iS : Scope := { kind := .function, names := [(PySem.Str.ofString "self", .local), (PySem.Str.ofString "effect", .local)], isGenerator := false, isCoroutine := false, more := [] }
/-- what the written part says of the class x at C and of its __init__ at fI -/
structure Txt (K : Frag) (mg : Str → Option Value) (x q : Str) (C fI : Addr) (newId : String) (bmB : List Value) : Prop where
  gC : mg x = some (.ref C)
  mkr : excInitIn K C bmB newId = true
  ov : excOver K C bmB = true
  tk : takerIn K C "effect" = some none
  sa : findIn K (.ref C) "__setattr__" = some (some (.builtin "object.__setattr__"))
  ga : findIn K (.ref C) "__getattribute__" = some (some (.builtin "BaseException.__getattribute__"))
  gg : findIn K (.ref C) "__getattr__" = some none
  noN : findIn K (.ref C) "effect" = some none
  iC : findIn K (.ref C) "__init__" = some (some (.ref fI))
  tC : typeIn K (.ref fI) = some (.type "function")
  kC : keepIn K (.ref C) = true
  exC : subIn K (.ref C) (.type "BaseException") = some true
  tyC : typeIn K (.ref C) = some (.type "type")
  hdC : hasDictIn K C = true
  te : exmOne K (.ref C) (.ref C) = some true
  fn : ∃ (p1 p2 q1 q2 q3 q4 : Pos) (fd : FuncData), L2.FunD K "__init__" q (iA p1 p2) (iB q1 q2 q3 q4) iS [] [] fI fd
theorem one_size (v : Value) : [v].length ≤ sizeLine := by
  rw [sizeLine_eq]
  exact (by decide : 1 ≤ 16777216)
theorem ldC {M : Model} {s : Shared} {name : Str} {scope : Scope} {L a : Addr} {cd : Value} {m : Str → Option Value} {x : Str} {pos : Pos} {v : Value} {Q : Value → Shared → Prop} {A : Around} {E : Value → Shared → Prop} (hn : s.heap.Ns L m) (hv : m x = some v) (h : Q v s)
    (hk : scope.kind = .function := by rfl) (hl : (envOfC name scope L a cd).kindOf x = some .local := by rfl) (hd : (x == ("__debug__" : Str)) = false := by decide) :
    wpAny M A (eval (.Name x pos) (envOfC name scope L a cd)) Q E s := wpAny_Name (wpAny_loadName_local hk hl hn hv h) hd
/-- what __init__ leaves of a fresh error at x -/
structure InitEnd (h h' : Heap) (x C dx t1 : Addr) (v : Value) : Prop where
  keep : ∀ b o, b ≠ x → h.get? b = some o → h'.get? b = some o
  obj : h'.get? x = some { cls := .ref C, dict := some dx, data := .fields #[.ref t1, .none, .none, .none, .bool false, .none] }
  dbig : h.objs.size ≤ dx
  dne : dx ≠ x
  ns : h'.Ns1 dx (fun y => if y = "effect" then some v else none)
/-- a made error -/
structure OwnMade (h h' : Heap) (e C d : Addr) (v : Value) : Prop where
  keep : ∀ b o, h.get? b = some o → h'.get? b = some o
  new : h.objs.size ≤ e
  obj : ∃ oe vs, h'.get? e = some oe ∧ oe.cls = .ref C ∧ oe.dict = some d ∧ oe.data = .fields vs ∧ vs[1]? = some .none
  dbig : h.objs.size ≤ d
  dne : d ≠ e
  ns : h'.Ns1 d (fun y => if y = "effect" then some v else none)
section
variable {prog : Program} {w : World} {A : Around} {E : Value → Shared → Prop} {R : Result → Shared → Prop} {s : Shared} {K : Frag} {mg : Str → Option Value} {C fI : Addr} {x0 q0 : Str} {B newId initId : String} {bmB : List Value}
theorem init_end (SF : StoreFacts B bmB "object.__setattr__" "object") (T : Txt K mg x0 q0 C fI newId bmB) {x t0 : Addr} {v : Value} (X : K.In s.heap) (hlim : s.heap.NoLimit) (hx : s.heap.get? x = some (excO C t0)) (hroom : A.depth < recursionLimit)
    (hq : ∀ h' tk dx, InitEnd s.heap h' x C dx t0 v → R (.ok (.ret .none)) { s with heap := h', toks := tk }) :
    codeAny (model prog w) A (.call (.ref fI) ⟨[.ref x, v], []⟩) R s := by
  obtain ⟨p1, p2, q1, q2, q3, q4, fd, F⟩ := T.fn
  obtain ⟨oc, od, dV, kV, doc, pm, an, cdv, ct, osl, rfl, ho, hcd, hdv, _⟩ := F.ex
  have e0 : dV = .none := by
    rcases hdv with ⟨_, e⟩ | ⟨e, _⟩
    · exact e
    · exact absurd rfl e
  subst e0
  refine Att.call_fn (binds := [("self", .ref x), ("effect", v)]) X hlim ho hcd hroom (BindsTo.of_eq (by first | rfl | with_unfolding_all rfl)) (by first | rfl | decide | with_unfolding_all rfl) (fun s₁ IC => ?_) rfl rfl rfl
  obtain ⟨h₁, tk₁, rfl⟩ := IC.toInCall.same
  have k : ∀ b o, s.heap.get? b = some o → h₁.get? b = some o := IC.toInCall.keep
  have hn := IC.toInCall.ns
  have X₁ : K.In h₁ := X.keeps k
  have hx₁ := k _ _ hx
  show wpAny _ _ (execs _ _) _ _ _
  refine wpAny_execs_cons (plainObj_wpAny_Assign_Attribute ?_)
  refine ldC (v := v) hn (by first | rfl | with_unfolding_all rfl | kernel_rfl) (ldC (v := .ref x) hn (by first | rfl | with_unfolding_all rfl | kernel_rfl) ?_)
  refine set_plain X₁ (ox := excO C t0) (od := none) ⟨hx₁, rfl, rfl, trivial⟩ T.sa ?_
  refine PySem.NX.osaB SF X₁ hx₁ T.ov T.tk T.hdC (fun h₃ tk₃ dx k₃ dn dne hx₃ hn₃ => ?_)
  show wpAny _ _ (execs _ _) _ _ _
  have z : s.heap.objs.size < h₁.objs.size := hn.lt
  exact wpAny_execs_nil (hq h₃ tk₃ dx ⟨fun b o hb e => k₃ b o hb (k b o e), hx₃, Nat.le_of_lt (Nat.lt_of_lt_of_le z dn), dne, hn₃⟩)
theorem made (FB : ExcBaseFacts B newId initId bmB) (SF : StoreFacts B bmB "object.__setattr__" "object") (T : Txt K mg x0 q0 C fI newId bmB) {v : Value} (X : K.In s.heap) (hlim : s.heap.NoLimit) (hroom : A.depth + 1 < recursionLimit)
    (hq : ∀ h' tk e d, OwnMade s.heap h' e C d v → R (.ok (.ret (.ref e))) { s with heap := h', toks := tk }) :
    codeAny (model prog w) A (.call (.ref C) ⟨[v], []⟩) R s := by
  obtain ⟨nm, N, q, bs, bm, hdct, sn, sub, ab, col, dd, k0, k1, k2, k3, k5, hC, hbm⟩ := excInit_of X T.mkr
  obtain ⟨hp, g, dr, tk, os⟩ := s
  have k : ∀ b o, hp.get? b = some o → ((hp.push (kdv_tup [v])).push (excO C hp.objs.size)).get? b = some o := fun b o e => Heap.get?_push_of_some _ (Heap.get?_push_of_some _ e)
  have hget : ((hp.push (kdv_tup [v])).push (excO C hp.objs.size)).get? (hp.objs.size + 1) = some (excO C hp.objs.size) := by heap_get
  refine call_own FB hbm hC (looks_findIn X T.iC) (fun self => bind_fn X self T.tC) (one_size v) ?_
  refine init_end (s := ⟨(hp.push (kdv_tup [v])).push (excO C hp.objs.size), g, dr, tk, os⟩) SF T (X.keeps k) (hlim.keeps k) hget ?_ fun h' tk' dx ⟨k', hx, dn, dne, hns⟩ => ?_
  · show A.depth + 1 < recursionLimit
    exact hroom
  · have old : ∀ b o, hp.get? b = some o → h'.get? b = some o := fun b o e => k' b o (Nat.ne_of_lt (Nat.lt_succ_of_lt (Heap.lt_size e))) (k b o e)
    have z : hp.objs.size + 1 + 1 ≤ dx := by
      first
        | (simpa only [Heap.size_push] using dn)
        | exact dn
        | (have q := dn; rw [Heap.size_push, Heap.size_push] at q; exact q)
    exact ⟨rfl, hq h' tk' (hp.objs.size + 1) dx ⟨old, Nat.le_succ _, ⟨_, _, hx, rfl, rfl, rfl, rfl⟩, Nat.le_trans (Nat.le_trans (Nat.le_succ _) (Nat.le_succ _)) z, dne, hns⟩⟩
end
end Xf_effect
end PySem
namespace L2
open PySem PySem.Spec PyProof.Rows
section
variable {X : Cx} {C fI : Addr} {x0 q0 : Str} {B newId initId : String} {bmB : List Value}
end
end L2
namespace My
open PySem PySem.Spec PyProof.Rows L2
end My

namespace My
open PySem PySem.Spec PyProof.Rows L2
/-! ### a walk over a list or a tuple -/
/-- a list or a tuple -/
def SqA (K : PySem.W.Frag) (H : Hp) (a : Addr) (xs : List V) : Prop := SqL K H a xs ∨ SqT K H a xs
theorem SqA.same {K : PySem.W.Frag} {H H' : Hp} {a : Addr} {xs : List V} (h : SqA K H a xs) (e : Same H H') : SqA K H' a xs := h.elim (fun z => .inl (e.seq z)) (fun z => .inr (same_seqT e z))
/-! ### rings in runs -/
def RunOk (e : Int × Int) : Prop := 0 ≤ e.1 ∧ e.1 ≤ 5 ∧ 1 ≤ e.2 ∧ e.2 ≤ 1000000000000
def RunsOk (es : List (Int × Int)) : Prop := ∀ e ∈ es, RunOk e
theorem Effs.insert {K : PySem.W.Frag} {H : Hp} {as : List Addr} {es : List (Int × Int)} (h : Effs K H as es) {a : Addr} {e : Int × Int} (ha : TupI K H a [e.1, e.2]) (k : Nat) : Effs K H (as.take k ++ [a] ++ as.drop k) (es.take k ++ [e] ++ es.drop k) := by
  have hl := h.1
  refine ⟨by simp only [List.length_append, List.length_take, List.length_drop, List.length_singleton]; omega, fun j b f h1 h2 => ?_⟩
  have lt : (as.take k).length = (es.take k).length := by rw [List.length_take, List.length_take, hl]
  rw [List.append_assoc] at h1 h2
  by_cases c1 : j < (as.take k).length
  · rw [List.getElem?_append_left c1] at h1
    rw [List.getElem?_append_left (by omega)] at h2
    exact (h.take k).2 j b f h1 h2
  · rw [List.getElem?_append_right (by omega)] at h1
    rw [List.getElem?_append_right (by omega), ← lt] at h2
    cases hj : j - (as.take k).length with
    | zero =>
      rw [hj] at h1 h2
      cases h1
      cases h2
      exact ha
    | succ i =>
      rw [hj] at h1 h2
      exact (h.drop k).2 i b f h1 h2
end My

namespace My
open PySem PySem.Spec PyProof.Rows L2
/-! ### runs that may be empty, a ring in runs read from a position -/
def RunOk0 (e : Int × Int) : Prop := 0 ≤ e.1 ∧ e.1 ≤ 5 ∧ 0 ≤ e.2 ∧ e.2 ≤ 1000000000000
def RunsOk0 (es : List (Int × Int)) : Prop := ∀ e ∈ es, RunOk0 e
theorem RunsOk.z {es : List (Int × Int)} (h : RunsOk es) : RunsOk0 es := fun e he => by
  obtain ⟨h1, h2, h3, h4⟩ := h e he
  exact ⟨h1, h2, by omega, h4⟩
theorem RunsOk0.app {es fs : List (Int × Int)} (h : RunsOk0 es) (g : RunsOk0 fs) : RunsOk0 (es ++ fs) := fun x hx => (List.mem_append.mp hx).elim (h x) (g x)
theorem RunsOk0.take {es : List (Int × Int)} (h : RunsOk0 es) (k : Nat) : RunsOk0 (es.take k) := fun x hx => h x (List.mem_of_mem_take hx)
theorem RunsOk0.drop {es : List (Int × Int)} (h : RunsOk0 es) (k : Nat) : RunsOk0 (es.drop k) := fun x hx => h x (List.mem_of_mem_drop hx)
theorem RunsOk.take {es : List (Int × Int)} (h : RunsOk es) (k : Nat) : RunsOk (es.take k) := fun x hx => h x (List.mem_of_mem_take hx)
theorem RunsOk.drop {es : List (Int × Int)} (h : RunsOk es) (k : Nat) : RunsOk (es.drop k) := fun x hx => h x (List.mem_of_mem_drop hx)
theorem Effs.app {K : PySem.W.Frag} {H : Hp} {as bs : List Addr} {es fs : List (Int × Int)} (h : Effs K H as es) (g : Effs K H bs fs) : Effs K H (as ++ bs) (es ++ fs) := by
  refine ⟨by rw [List.length_append, List.length_append, h.1, g.1], fun k a e h1 h2 => ?_⟩
  by_cases c : k < as.length
  · rw [List.getElem?_append_left c] at h1
    rw [List.getElem?_append_left (by have := h.1; omega)] at h2
    exact h.2 k a e h1 h2
  · rw [List.getElem?_append_right (by omega)] at h1
    rw [List.getElem?_append_right (by have := h.1; omega), ← h.1] at h2
    exact g.2 _ a e h1 h2
/-- whole numbers within bounds -/
def whB (v : V) (lo hi : Int) : Bool := match v with
  | .int i => decide (lo ≤ i) && decide (i ≤ hi)
  | _ => false
end My

namespace My
open PySem PySem.Spec PyProof.Rows L2
/-! ### ranges of positions, put together -/
abbrev Rg := Int × Int
theorem snoc_cases {α : Type} (l : List α) : l = [] ∨ ∃ i x, l = i ++ [x] := by
  rcases List.eq_nil_or_concat l with h | ⟨i, x, h⟩
  · exact .inl h
  · exact .inr ⟨i, x, by rw [h, List.concat_eq_append]⟩
def upTo (s : Int) (m : Nat) : List Int := (List.range m).map fun j : Nat => s + (j : Int)
/-- the positions of a range -/
def expR (r : Rg) : List Int := upTo r.1 (r.2 - r.1 + 1).toNat
structure ROk (L : List Int) (rs : List Rg) : Prop where
  le : ∀ r ∈ rs, r.1 ≤ r.2
  exp : (rs.map expR).flatten = L
/-- ranges apart from each other -/
def Apart (rs : List Rg) : Prop := rs.Pairwise fun r q => r.2 + 2 ≤ q.1
/-! ### the beginnings of a ring in runs -/
theorem Effs.x {K : PySem.W.Frag} {S A B : Addr} {t : Nat} {H H' : Hp} {as : List Addr} {es : List (Int × Int)} (h : Effs K H as es) (st : Strm H S A B t) (e : SameX S A H H') : Effs K H' as es := ⟨h.1, fun k a f h1 h2 => sqT_x st e (h.2 k a f h1 h2)⟩
theorem Apart.two : ∀ {rs : List Rg}, Apart rs → ∀ {r q : Rg}, r ∈ rs → q ∈ rs → r = q ∨ r.2 + 2 ≤ q.1 ∨ q.2 + 2 ≤ r.1
  | [], _, _, _, h, _ => nomatch h
  | x :: rs, h, r, q, hr, hq => by
    obtain ⟨h1, h2⟩ := List.pairwise_cons.mp h
    rcases List.mem_cons.mp hr with rfl | hr2
    · rcases List.mem_cons.mp hq with rfl | hq2
      · exact .inl rfl
      · exact .inr (.inl (h1 q hq2))
    · rcases List.mem_cons.mp hq with rfl | hq2
      · exact .inr (.inr (h1 r hr2))
      · exact Apart.two h2 hr2 hq2
theorem Apart.at_ {rs : List Rg} (h : Apart rs) {k j : Nat} {r q : Rg} (hk : rs[k]? = some r) (hj : rs[j]? = some q) (lt : k < j) : r.2 + 2 ≤ q.1 := by
  have h1 := (List.getElem?_eq_some_iff.mp hk)
  have h2 := (List.getElem?_eq_some_iff.mp hj)
  obtain ⟨a1, rfl⟩ := h1
  obtain ⟨a2, rfl⟩ := h2
  exact List.pairwise_iff_getElem.mp h k j a1 a2 lt
end My

namespace My
open PySem PySem.Spec PyProof.Rows L2
/-! ### the first token that takes the value at a depth -/
end My

namespace My
open PySem PySem.Spec PyProof.Rows L2
/-! ### a tuple so many times, the empty one too -/
/-! ### bounds that grow by 10 ^ 12 -/
/-! ### the judgement of runs -/
section
variable {K : PySem.W.Frag} {S A B : Addr} {n m j k : Nat} {H0 : Hp} {σ : L2.St} {t u : TE} {P : Hp → V → Prop}
end
end My

namespace My
open PySem PySem.Spec PyProof.Rows L2
/-! ### texts that are joined -/
theorem joinL_mem {S : List Nat} : ∀ {ps : List (List Nat)} {c : Nat}, c ∈ TL.joinL S ps → c ∈ S ∨ ∃ p ∈ ps, c ∈ p
  | [], c, h => nomatch h
  | [p], c, h => .inr ⟨p, List.mem_cons_self, h⟩
  | p :: q :: r, c, h => by
    have h : c ∈ p ++ (S ++ TL.joinL S (q :: r)) := h
    rcases List.mem_append.mp h with z | z
    · exact .inr ⟨p, List.mem_cons_self, z⟩
    rcases List.mem_append.mp z with z | z
    · exact .inl z
    rcases joinL_mem z with w | ⟨p', hp, hc⟩
    · exact .inl w
    · exact .inr ⟨p', List.mem_cons_of_mem _ hp, hc⟩
theorem str_len_tl (x : Str) : x.length = (TL.tl x).length := rfl
/-- the text of a whole number -/
abbrev txI (i : Int) : Str := Str.ofString (toString i)
theorem txI_len {i : Int} (h : i.natAbs < 10 ^ 30) : (txI i).length ≤ 31 := by
  rw [PySem.ofString_length]
  exact int_text_length_le10 (by decide) h
theorem tl_sp : TL.tl (" " : Str) = [32] := by decide +kernel
/-! ### a dict comprehension over a range -/
/-! ### the dict of the texts of the arities -/
/-! ### a loop over enumerate of a list -/
end My
namespace L2
open PySem PySem.Spec PyProof.Rows
section
variable {X : Cx}
end
end L2

/-! ### the block of the guide's own-error skeleton, for any class over any built-in base whose __init__ stores the field index -/
namespace PySem
namespace Xf_index
open PySem.W PySem.Calls PyProof.Rows PySem.HandSPX
def iA (p1 p2 : Pos) : Arguments := { posonlyargs := [], args := [{ arg := "self", annotation := none, pos := p1 }, { arg := "index", annotation := none, pos := p2 }], vararg := none, kwonlyargs := [], kw_defaults := [], kwarg := none, defaults := [] }
def iB (q1 q2 q3 q4 : Pos) : List Stmt := [.Assign [.Attribute (.Name "self" q1) "index" q2] (.Name "index" q3) q4]
def iS : Scope := { kind := .function, names := [(PySem.Str.ofString "self", .local), (PySem.Str.ofString "index", .local)], isGenerator := false, isCoroutine := false, more := [] }
/-- what the written part says of the class x at C and of its __init__ at fI -/
structure Txt (K : Frag) (mg : Str → Option Value) (x q : Str) (C fI : Addr) (newId : String) (bmB : List Value) : Prop where
  gC : mg x = some (.ref C)
  mkr : excInitIn K C bmB newId = true
  ov : excOver K C bmB = true
  tk : takerIn K C "index" = some none
  sa : findIn K (.ref C) "__setattr__" = some (some (.builtin "object.__setattr__"))
  ga : findIn K (.ref C) "__getattribute__" = some (some (.builtin "BaseException.__getattribute__"))
  gg : findIn K (.ref C) "__getattr__" = some none
  noN : findIn K (.ref C) "index" = some none
  iC : findIn K (.ref C) "__init__" = some (some (.ref fI))
  tC : typeIn K (.ref fI) = some (.type "function")
  kC : keepIn K (.ref C) = true
  exC : subIn K (.ref C) (.type "BaseException") = some true
  tyC : typeIn K (.ref C) = some (.type "type")
  hdC : hasDictIn K C = true
  te : exmOne K (.ref C) (.ref C) = some true
  fn : ∃ (p1 p2 q1 q2 q3 q4 : Pos) (fd : FuncData), L2.FunD K "__init__" q (iA p1 p2) (iB q1 q2 q3 q4) iS [] [] fI fd
theorem one_size (v : Value) : [v].length ≤ sizeLine := by
  rw [sizeLine_eq]
  exact (by decide : 1 ≤ 16777216)
theorem ldC {M : Model} {s : Shared} {name : Str} {scope : Scope} {L a : Addr} {cd : Value} {m : Str → Option Value} {x : Str} {pos : Pos} {v : Value} {Q : Value → Shared → Prop} {A : Around} {E : Value → Shared → Prop} (hn : s.heap.Ns L m) (hv : m x = some v) (h : Q v s)
    (hk : scope.kind = .function := by rfl) (hl : (envOfC name scope L a cd).kindOf x = some .local := by rfl) (hd : (x == ("__debug__" : Str)) = false := by decide) :
    wpAny M A (eval (.Name x pos) (envOfC name scope L a cd)) Q E s := wpAny_Name (wpAny_loadName_local hk hl hn hv h) hd
/-- what __init__ leaves of a fresh error at x -/
structure InitEnd (h h' : Heap) (x C dx t1 : Addr) (v : Value) : Prop where
  keep : ∀ b o, b ≠ x → h.get? b = some o → h'.get? b = some o
  obj : h'.get? x = some { cls := .ref C, dict := some dx, data := .fields #[.ref t1, .none, .none, .none, .bool false, .none] }
  dbig : h.objs.size ≤ dx
  dne : dx ≠ x
  ns : h'.Ns1 dx (fun y => if y = "index" then some v else none)
/-- a made error -/
structure OwnMade (h h' : Heap) (e C d : Addr) (v : Value) : Prop where
  keep : ∀ b o, h.get? b = some o → h'.get? b = some o
  new : h.objs.size ≤ e
  obj : ∃ oe vs, h'.get? e = some oe ∧ oe.cls = .ref C ∧ oe.dict = some d ∧ oe.data = .fields vs ∧ vs[1]? = some .none
  dbig : h.objs.size ≤ d
  dne : d ≠ e
  ns : h'.Ns1 d (fun y => if y = "index" then some v else none)
section
variable {prog : Program} {w : World} {A : Around} {E : Value → Shared → Prop} {R : Result → Shared → Prop} {s : Shared} {K : Frag} {mg : Str → Option Value} {C fI : Addr} {x0 q0 : Str} {B newId initId : String} {bmB : List Value}
theorem init_end (SF : StoreFacts B bmB "object.__setattr__" "object") (T : Txt K mg x0 q0 C fI newId bmB) {x t0 : Addr} {v : Value} (X : K.In s.heap) (hlim : s.heap.NoLimit) (hx : s.heap.get? x = some (excO C t0)) (hroom : A.depth < recursionLimit)
    (hq : ∀ h' tk dx, InitEnd s.heap h' x C dx t0 v → R (.ok (.ret .none)) { s with heap := h', toks := tk }) :
    codeAny (model prog w) A (.call (.ref fI) ⟨[.ref x, v], []⟩) R s := by
  obtain ⟨p1, p2, q1, q2, q3, q4, fd, F⟩ := T.fn
  obtain ⟨oc, od, dV, kV, doc, pm, an, cdv, ct, osl, rfl, ho, hcd, hdv, _⟩ := F.ex
  have e0 : dV = .none := by
    rcases hdv with ⟨_, e⟩ | ⟨e, _⟩
    · exact e
    · exact absurd rfl e
  subst e0
  refine Att.call_fn (binds := [("self", .ref x), ("index", v)]) X hlim ho hcd hroom (BindsTo.of_eq (by first | rfl | with_unfolding_all rfl)) (by first | rfl | decide | with_unfolding_all rfl) (fun s₁ IC => ?_) rfl rfl rfl
  obtain ⟨h₁, tk₁, rfl⟩ := IC.toInCall.same
  have k : ∀ b o, s.heap.get? b = some o → h₁.get? b = some o := IC.toInCall.keep
  have hn := IC.toInCall.ns
  have X₁ : K.In h₁ := X.keeps k
  have hx₁ := k _ _ hx
  show wpAny _ _ (execs _ _) _ _ _
  refine wpAny_execs_cons (plainObj_wpAny_Assign_Attribute ?_)
  refine ldC (v := v) hn (by first | rfl | with_unfolding_all rfl | kernel_rfl) (ldC (v := .ref x) hn (by first | rfl | with_unfolding_all rfl | kernel_rfl) ?_)
  refine set_plain X₁ (ox := excO C t0) (od := none) ⟨hx₁, rfl, rfl, trivial⟩ T.sa ?_
  refine PySem.NX.osaB SF X₁ hx₁ T.ov T.tk T.hdC (fun h₃ tk₃ dx k₃ dn dne hx₃ hn₃ => ?_)
  show wpAny _ _ (execs _ _) _ _ _
  have z : s.heap.objs.size < h₁.objs.size := hn.lt
  exact wpAny_execs_nil (hq h₃ tk₃ dx ⟨fun b o hb e => k₃ b o hb (k b o e), hx₃, Nat.le_of_lt (Nat.lt_of_lt_of_le z dn), dne, hn₃⟩)
theorem made (FB : ExcBaseFacts B newId initId bmB) (SF : StoreFacts B bmB "object.__setattr__" "object") (T : Txt K mg x0 q0 C fI newId bmB) {v : Value} (X : K.In s.heap) (hlim : s.heap.NoLimit) (hroom : A.depth + 1 < recursionLimit)
    (hq : ∀ h' tk e d, OwnMade s.heap h' e C d v → R (.ok (.ret (.ref e))) { s with heap := h', toks := tk }) :
    codeAny (model prog w) A (.call (.ref C) ⟨[v], []⟩) R s := by
  obtain ⟨nm, N, q, bs, bm, hdct, sn, sub, ab, col, dd, k0, k1, k2, k3, k5, hC, hbm⟩ := excInit_of X T.mkr
  obtain ⟨hp, g, dr, tk, os⟩ := s
  have k : ∀ b o, hp.get? b = some o → ((hp.push (kdv_tup [v])).push (excO C hp.objs.size)).get? b = some o := fun b o e => Heap.get?_push_of_some _ (Heap.get?_push_of_some _ e)
  have hget : ((hp.push (kdv_tup [v])).push (excO C hp.objs.size)).get? (hp.objs.size + 1) = some (excO C hp.objs.size) := by heap_get
  refine call_own FB hbm hC (looks_findIn X T.iC) (fun self => bind_fn X self T.tC) (one_size v) ?_
  refine init_end (s := ⟨(hp.push (kdv_tup [v])).push (excO C hp.objs.size), g, dr, tk, os⟩) SF T (X.keeps k) (hlim.keeps k) hget ?_ fun h' tk' dx ⟨k', hx, dn, dne, hns⟩ => ?_
  · show A.depth + 1 < recursionLimit
    exact hroom
  · have old : ∀ b o, hp.get? b = some o → h'.get? b = some o := fun b o e => k' b o (Nat.ne_of_lt (Nat.lt_succ_of_lt (Heap.lt_size e))) (k b o e)
    have z : hp.objs.size + 1 + 1 ≤ dx := by
      first
        | (simpa only [Heap.size_push] using dn)
        | exact dn
        | (have q := dn; rw [Heap.size_push, Heap.size_push] at q; exact q)
    exact ⟨rfl, hq h' tk' (hp.objs.size + 1) dx ⟨old, Nat.le_succ _, ⟨_, _, hx, rfl, rfl, rfl, rfl⟩, Nat.le_trans (Nat.le_trans (Nat.le_succ _) (Nat.le_succ _)) z, dne, hns⟩⟩
end
end Xf_index
end PySem
namespace L2
open PySem PySem.Spec PyProof.Rows
theorem relO_index {v : V} {v' : Value} (r : RelV v v') (f : Str) : RelO (List.lookup f [(("index" : Str), v)]) (if f = "index" then some v' else none) := by
  by_cases hw : f = "index"
  · subst hw
    rw [if_pos rfl]
    have q : List.lookup ("index" : Str) [(("index" : Str), v)] = some v := by simp [List.lookup]
    rw [q]
    exact r
  · rw [if_neg hw]
    have qw : (f == ("index" : Str)) = false := by simpa using hw
    have q2 : List.lookup f [(("index" : Str), v)] = none := by simp [List.lookup, qw]
    rw [q2]
    trivial
section
variable {X : Cx} {C fI : Addr} {x0 q0 : Str} {B newId initId : String} {bmB : List Value}
/-- x(e) -/
def tMk_index (C : Addr) (ta : TA) : L2.St → Hp → XK → Prop := fun σ H Q => ta σ H fun vs H1 => ∃ v, vs = [v] ∧ ∀ d, H1 d = none → Q (.ref C) (some d) (upd H1 d (.xd [(("index" : Str), v)]))
theorem pmk_index {a : Expr} {ta : TA} {p pos : Pos} {k : Nat} (FB : ExcBaseFacts B newId initId bmB) (SF : StoreFacts B bmB "object.__setattr__" "object") (T : PySem.Xf_index.Txt X.K X.mg x0 q0 C fI newId bmB) (hr : Room k X.A) (ha : PA X [a] ta) (hg : Gl X x0 := by rfl) (hdb : (x0 == ("__debug__" : Str)) = false := by decide)
    (he : starEach (a :: []) X.env = (false, eval a X.env) :: starEach [] X.env := by rfl) (hpl : (backTo pos (starEach [] X.env)).any (·.1) = false := by rfl) :
    PMk X (.Call (.Name x0 p) [a] [] pos) (tMk_index C ta) := by
  intro pins s σ H Q I h
  refine wpAny_Call_Name_kw (ld_glob I hg T.gC ?_ hdb)
  refine PySem.W.callWith_K (h₀ := X.base) I.ok.mod.kin T.kC (thn (ha.run pos pins s σ H _ I h) fun us s1 hh => ?_) he hpl
  obtain ⟨vs, H1, I1, r1, v, ev, q1⟩ := hh
  subst ev
  refine ⟨I1.kIn, ?_⟩
  cases r1 with
  | cons rv rn =>
    rename_i v' us'
    cases rn
    show wpAny _ _ (call (.ref C) [v']) _ _ _
    have hlim := I1.nolimit
    obtain ⟨hp, g, dr, tk, os⟩ := s1
    refine wpAny_call (PySem.Xf_index.made FB SF T I1.kIn hlim (by have := hr.dp; omega) fun h' tk' e d M => ?_)
    show MkP X pins σ Q (.ref e) ⟨h', g, dr, tk', os⟩
    obtain ⟨oe, fv, hoe, hc, hd, hdat, h1⟩ := M.obj
    have hns := M.ns
    obtain ⟨G', g1, g2⟩ := restrict h' fun b => decide (b ≠ e)
    have gk : ∀ b, b ≠ e → G'.get? b = h'.get? b := fun b hb => g1 b (decide_eq_true hb)
    have ge : G'.get? e = none := g2 e (by simp)
    have old : ∀ b o, hp.get? b = some o → G'.get? b = some o := fun b o q => (gk b (Nat.ne_of_lt (Nat.lt_of_lt_of_le (Heap.lt_size q) M.new))).trans (M.keep b o q)
    have ob : ObjOk X.prog X.w (upd H1 d (.xd [(("index" : Str), v)])) G' d (.xd [(("index" : Str), v)]) :=
      ⟨_, hns.at (fun o q => (gk d M.dne).trans q), fun f => relO_index rv f⟩
    have J : Inv X pins σ (upd H1 d (.xd [(("index" : Str), v)])) ⟨G', g, dr, tk', os⟩ := I1.laid (t' := tk') old M.dbig ob
    refine ⟨e, oe, fv, ⟨G', g, dr, tk', os⟩, _, .ref C, some d, rfl, J, fun b o q => ?_, ge, hoe, ⟨hc, hd⟩, hdat, h1, ?_, rfl, I1.bare, raises_own T.exC T.tyC, q1 d (I1.hok.fresh M.dbig)⟩
    · by_cases hb : b = e
      · have q' : G'.get? b = some o := q
        rw [hb, ge] at q'; cases q'
      · exact (gk b hb).symm.trans q
    · rw [upd_ne (Ne.symm M.dne)]
      exact I1.hok.fresh M.new
/-- raise x(e) -/
def tRaise_index (C : Addr) (W : WX) (ta : TA) : TS := fun _ σ H => tMk_index C ta σ H fun cls d H' => W cls d σ H'
theorem ps_raise_index {a : Expr} {ta : TA} {W : WX} {p pos pos2 : Pos} {k : Nat} (hc : X.calm = true) (FB : ExcBaseFacts B newId initId bmB) (SF : StoreFacts B bmB "object.__setattr__" "object") (T : PySem.Xf_index.Txt X.K X.mg x0 q0 C fI newId bmB) (hr : Room k X.A) (tk : Takes X W) (ha : PA X [a] ta) (hg : Gl X x0 := by rfl) (hdb : (x0 == ("__debug__" : Str)) = false := by decide)
    (he : starEach (a :: []) X.env = (false, eval a X.env) :: starEach [] X.env := by rfl) (hpl : (backTo pos (starEach [] X.env)).any (·.1) = false := by rfl) :
    PS X (.Raise (some (.Call (.Name x0 p) [a] [] pos)) none pos2) (tRaise_index C W ta) := ps_raise hc tk (pmk_index FB SF T hr ha hg hdb he hpl)
end
end L2
namespace My
open PySem PySem.Spec PyProof.Rows L2
theorem excB_index {K : PySem.W.Frag} {mg : Str → Option Value} {x q : Str} {newId : String} {bmB : List Value} (glo : mg x = some (.ref (He.ga K x))) (c : excB K x "index" newId bmB = true)
    (fn : ∃ (p1 p2 q1 q2 q3 q4 : Pos) (fd : FuncData), FunD K "__init__" q (PySem.Xf_index.iA p1 p2) (PySem.Xf_index.iB q1 q2 q3 q4) PySem.Xf_index.iS [] [] (He.ma K (He.ga K x) "__init__") fd) :
    PySem.Xf_index.Txt K mg x q (He.ga K x) (He.ma K (He.ga K x) "__init__") newId bmB := by
  unfold excB at c
  simp only [Bool.and_eq_true, decide_eq_true_eq] at c
  obtain ⟨c1, c2, c3, c4, c5, c6, c7, c8, c9, c10, c11, c12, c13, c14⟩ := c
  exact ⟨glo, c1, c2, c3, He.eqO_ok c4, He.eqO_ok c5, He.eqO_ok c6, He.eqO_ok c7, He.eqO_ok c8, c9, c10, c11, c12, c13, c14, fn⟩
end My

/-! ### the block of the guide's own-error skeleton, for any class over any built-in base whose __init__ stores the field error -/
namespace PySem
namespace Xf_error
open PySem.W PySem.Calls PyProof.Rows PySem.HandSPX
def iA (p1 p2 : Pos) : Arguments := { posonlyargs := [], args := [{ arg := "self", annotation := none, pos := p1 }, { arg := "error", annotation := none, pos := p2 }], vararg := none, kwonlyargs := [], kw_defaults := [], kwarg := none, defaults := [] }
def iB (q1 q2 q3 q4 : Pos) : List Stmt := [.Assign [.Attribute (.Name "self" q1) "error" q2] (.Name "error" q3) q4]
def iS : Scope := { kind := .function, names := [(PySem.Str.ofString "self", .local), (PySem.Str.ofString "error", .local)], isGenerator := false, isCoroutine := false, more := [] }
/-- what the written part says of the class x at C and of its __init__ at fI -/
structure Txt (K : Frag) (mg : Str → Option Value) (x q : Str) (C fI : Addr) (newId : String) (bmB : List Value) : Prop where
  gC : mg x = some (.ref C)
  mkr : excInitIn K C bmB newId = true
  ov : excOver K C bmB = true
  tk : takerIn K C "error" = some none
  sa : findIn K (.ref C) "__setattr__" = some (some (.builtin "object.__setattr__"))
  ga : findIn K (.ref C) "__getattribute__" = some (some (.builtin "BaseException.__getattribute__"))
  gg : findIn K (.ref C) "__getattr__" = some none
  noN : findIn K (.ref C) "error" = some none
  iC : findIn K (.ref C) "__init__" = some (some (.ref fI))
  tC : typeIn K (.ref fI) = some (.type "function")
  kC : keepIn K (.ref C) = true
  exC : subIn K (.ref C) (.type "BaseException") = some true
  tyC : typeIn K (.ref C) = some (.type "type")
  hdC : hasDictIn K C = true
  te : exmOne K (.ref C) (.ref C) = some true
  fn : ∃ (p1 p2 q1 q2 q3 q4 : Pos) (fd : FuncData), L2.FunD K "__init__" q (iA p1 p2) (iB q1 q2 q3 q4) iS [] [] fI fd
theorem one_size (v : Value) : [v].length ≤ sizeLine := by
  rw [sizeLine_eq]
  exact (by decide : 1 ≤ 16777216)
theorem ldC {M : Model} {s : Shared} {name : Str} {scope : Scope} {L a : Addr} {cd : Value} {m : Str → Option Value} {x : Str} {pos : Pos} {v : Value} {Q : Value → Shared → Prop} {A : Around} {E : Value → Shared → Prop} (hn : s.heap.Ns L m) (hv : m x = some v) (h : Q v s)
    (hk : scope.kind = .function := by rfl) (hl : (envOfC name scope L a cd).kindOf x = some .local := by rfl) (hd : (x == ("__debug__" : Str)) = false := by decide) :
    wpAny M A (eval (.Name x pos) (envOfC name scope L a cd)) Q E s := wpAny_Name (wpAny_loadName_local hk hl hn hv h) hd
/-- what __init__ leaves of a fresh error at x -/
structure InitEnd (h h' : Heap) (x C dx t1 : Addr) (v : Value) : Prop where
  keep : ∀ b o, b ≠ x → h.get? b = some o → h'.get? b = some o
  obj : h'.get? x = some { cls := .ref C, dict := some dx, data := .fields #[.ref t1, .none, .none, .none, .bool false, .none] }
  dbig : h.objs.size ≤ dx
  dne : dx ≠ x
  ns : h'.Ns1 dx (fun y => if y = "error" then some v else none)
/-- a made error -/
structure OwnMade (h h' : Heap) (e C d : Addr) (v : Value) : Prop where
  keep : ∀ b o, h.get? b = some o → h'.get? b = some o
  new : h.objs.size ≤ e
  obj : ∃ oe vs, h'.get? e = some oe ∧ oe.cls = .ref C ∧ oe.dict = some d ∧ oe.data = .fields vs ∧ vs[1]? = some .none
  dbig : h.objs.size ≤ d
  dne : d ≠ e
  ns : h'.Ns1 d (fun y => if y = "error" then some v else none)
section
variable {prog : Program} {w : World} {A : Around} {E : Value → Shared → Prop} {R : Result → Shared → Prop} {s : Shared} {K : Frag} {mg : Str → Option Value} {C fI : Addr} {x0 q0 : Str} {B newId initId : String} {bmB : List Value}
theorem init_end (SF : StoreFacts B bmB "object.__setattr__" "object") (T : Txt K mg x0 q0 C fI newId bmB) {x t0 : Addr} {v : Value} (X : K.In s.heap) (hlim : s.heap.NoLimit) (hx : s.heap.get? x = some (excO C t0)) (hroom : A.depth < recursionLimit)
    (hq : ∀ h' tk dx, InitEnd s.heap h' x C dx t0 v → R (.ok (.ret .none)) { s with heap := h', toks := tk }) :
    codeAny (model prog w) A (.call (.ref fI) ⟨[.ref x, v], []⟩) R s := by
  obtain ⟨p1, p2, q1, q2, q3, q4, fd, F⟩ := T.fn
  obtain ⟨oc, od, dV, kV, doc, pm, an, cdv, ct, osl, rfl, ho, hcd, hdv, _⟩ := F.ex
  have e0 : dV = .none := by
    rcases hdv with ⟨_, e⟩ | ⟨e, _⟩
    · exact e
    · exact absurd rfl e
  subst e0
  refine Att.call_fn (binds := [("self", .ref x), ("error", v)]) X hlim ho hcd hroom (BindsTo.of_eq (by first | rfl | with_unfolding_all rfl)) (by first | rfl | decide | with_unfolding_all rfl) (fun s₁ IC => ?_) rfl rfl rfl
  obtain ⟨h₁, tk₁, rfl⟩ := IC.toInCall.same
  have k : ∀ b o, s.heap.get? b = some o → h₁.get? b = some o := IC.toInCall.keep
  have hn := IC.toInCall.ns
  have X₁ : K.In h₁ := X.keeps k
  have hx₁ := k _ _ hx
  show wpAny _ _ (execs _ _) _ _ _
  refine wpAny_execs_cons (plainObj_wpAny_Assign_Attribute ?_)
  refine ldC (v := v) hn (by first | rfl | with_unfolding_all rfl | kernel_rfl) (ldC (v := .ref x) hn (by first | rfl | with_unfolding_all rfl | kernel_rfl) ?_)
  refine set_plain X₁ (ox := excO C t0) (od := none) ⟨hx₁, rfl, rfl, trivial⟩ T.sa ?_
  refine PySem.NX.osaB SF X₁ hx₁ T.ov T.tk T.hdC (fun h₃ tk₃ dx k₃ dn dne hx₃ hn₃ => ?_)
  show wpAny _ _ (execs _ _) _ _ _
  have z : s.heap.objs.size < h₁.objs.size := hn.lt
  exact wpAny_execs_nil (hq h₃ tk₃ dx ⟨fun b o hb e => k₃ b o hb (k b o e), hx₃, Nat.le_of_lt (Nat.lt_of_lt_of_le z dn), dne, hn₃⟩)
theorem made (FB : ExcBaseFacts B newId initId bmB) (SF : StoreFacts B bmB "object.__setattr__" "object") (T : Txt K mg x0 q0 C fI newId bmB) {v : Value} (X : K.In s.heap) (hlim : s.heap.NoLimit) (hroom : A.depth + 1 < recursionLimit)
    (hq : ∀ h' tk e d, OwnMade s.heap h' e C d v → R (.ok (.ret (.ref e))) { s with heap := h', toks := tk }) :
    codeAny (model prog w) A (.call (.ref C) ⟨[v], []⟩) R s := by
  obtain ⟨nm, N, q, bs, bm, hdct, sn, sub, ab, col, dd, k0, k1, k2, k3, k5, hC, hbm⟩ := excInit_of X T.mkr
  obtain ⟨hp, g, dr, tk, os⟩ := s
  have k : ∀ b o, hp.get? b = some o → ((hp.push (kdv_tup [v])).push (excO C hp.objs.size)).get? b = some o := fun b o e => Heap.get?_push_of_some _ (Heap.get?_push_of_some _ e)
  have hget : ((hp.push (kdv_tup [v])).push (excO C hp.objs.size)).get? (hp.objs.size + 1) = some (excO C hp.objs.size) := by heap_get
  refine call_own FB hbm hC (looks_findIn X T.iC) (fun self => bind_fn X self T.tC) (one_size v) ?_
  refine init_end (s := ⟨(hp.push (kdv_tup [v])).push (excO C hp.objs.size), g, dr, tk, os⟩) SF T (X.keeps k) (hlim.keeps k) hget ?_ fun h' tk' dx ⟨k', hx, dn, dne, hns⟩ => ?_
  · show A.depth + 1 < recursionLimit
    exact hroom
  · have old : ∀ b o, hp.get? b = some o → h'.get? b = some o := fun b o e => k' b o (Nat.ne_of_lt (Nat.lt_succ_of_lt (Heap.lt_size e))) (k b o e)
    have z : hp.objs.size + 1 + 1 ≤ dx := by
      first
        | (simpa only [Heap.size_push] using dn)
        | exact dn
        | (have q := dn; rw [Heap.size_push, Heap.size_push] at q; exact q)
    exact ⟨rfl, hq h' tk' (hp.objs.size + 1) dx ⟨old, Nat.le_succ _, ⟨_, _, hx, rfl, rfl, rfl, rfl⟩, Nat.le_trans (Nat.le_trans (Nat.le_succ _) (Nat.le_succ _)) z, dne, hns⟩⟩
end
end Xf_error
end PySem
namespace L2
open PySem PySem.Spec PyProof.Rows
theorem relO_error {v : V} {v' : Value} (r : RelV v v') (f : Str) : RelO (List.lookup f [(("error" : Str), v)]) (if f = "error" then some v' else none) := by
  by_cases hw : f = "error"
  · subst hw
    rw [if_pos rfl]
    have q : List.lookup ("error" : Str) [(("error" : Str), v)] = some v := by simp [List.lookup]
    rw [q]
    exact r
  · rw [if_neg hw]
    have qw : (f == ("error" : Str)) = false := by simpa using hw
    have q2 : List.lookup f [(("error" : Str), v)] = none := by simp [List.lookup, qw]
    rw [q2]
    trivial
section
variable {X : Cx} {C fI : Addr} {x0 q0 : Str} {B newId initId : String} {bmB : List Value}
/-- x(e) -/
def tMk_error (C : Addr) (ta : TA) : L2.St → Hp → XK → Prop := fun σ H Q => ta σ H fun vs H1 => ∃ v, vs = [v] ∧ ∀ d, H1 d = none → Q (.ref C) (some d) (upd H1 d (.xd [(("error" : Str), v)]))
theorem pmk_error {a : Expr} {ta : TA} {p pos : Pos} {k : Nat} (FB : ExcBaseFacts B newId initId bmB) (SF : StoreFacts B bmB "object.__setattr__" "object") (T : PySem.Xf_error.Txt X.K X.mg x0 q0 C fI newId bmB) (hr : Room k X.A) (ha : PA X [a] ta) (hg : Gl X x0 := by rfl) (hdb : (x0 == ("__debug__" : Str)) = false := by decide)
    (he : starEach (a :: []) X.env = (false, eval a X.env) :: starEach [] X.env := by rfl) (hpl : (backTo pos (starEach [] X.env)).any (·.1) = false := by rfl) :
    PMk X (.Call (.Name x0 p) [a] [] pos) (tMk_error C ta) := by
  intro pins s σ H Q I h
  refine wpAny_Call_Name_kw (ld_glob I hg T.gC ?_ hdb)
  refine PySem.W.callWith_K (h₀ := X.base) I.ok.mod.kin T.kC (thn (ha.run pos pins s σ H _ I h) fun us s1 hh => ?_) he hpl
  obtain ⟨vs, H1, I1, r1, v, ev, q1⟩ := hh
  subst ev
  refine ⟨I1.kIn, ?_⟩
  cases r1 with
  | cons rv rn =>
    rename_i v' us'
    cases rn
    show wpAny _ _ (call (.ref C) [v']) _ _ _
    have hlim := I1.nolimit
    obtain ⟨hp, g, dr, tk, os⟩ := s1
    refine wpAny_call (PySem.Xf_error.made FB SF T I1.kIn hlim (by have := hr.dp; omega) fun h' tk' e d M => ?_)
    show MkP X pins σ Q (.ref e) ⟨h', g, dr, tk', os⟩
    obtain ⟨oe, fv, hoe, hc, hd, hdat, h1⟩ := M.obj
    have hns := M.ns
    obtain ⟨G', g1, g2⟩ := restrict h' fun b => decide (b ≠ e)
    have gk : ∀ b, b ≠ e → G'.get? b = h'.get? b := fun b hb => g1 b (decide_eq_true hb)
    have ge : G'.get? e = none := g2 e (by simp)
    have old : ∀ b o, hp.get? b = some o → G'.get? b = some o := fun b o q => (gk b (Nat.ne_of_lt (Nat.lt_of_lt_of_le (Heap.lt_size q) M.new))).trans (M.keep b o q)
    have ob : ObjOk X.prog X.w (upd H1 d (.xd [(("error" : Str), v)])) G' d (.xd [(("error" : Str), v)]) :=
      ⟨_, hns.at (fun o q => (gk d M.dne).trans q), fun f => relO_error rv f⟩
    have J : Inv X pins σ (upd H1 d (.xd [(("error" : Str), v)])) ⟨G', g, dr, tk', os⟩ := I1.laid (t' := tk') old M.dbig ob
    refine ⟨e, oe, fv, ⟨G', g, dr, tk', os⟩, _, .ref C, some d, rfl, J, fun b o q => ?_, ge, hoe, ⟨hc, hd⟩, hdat, h1, ?_, rfl, I1.bare, raises_own T.exC T.tyC, q1 d (I1.hok.fresh M.dbig)⟩
    · by_cases hb : b = e
      · have q' : G'.get? b = some o := q
        rw [hb, ge] at q'; cases q'
      · exact (gk b hb).symm.trans q
    · rw [upd_ne (Ne.symm M.dne)]
      exact I1.hok.fresh M.new
/-- raise x(e) -/
def tRaise_error (C : Addr) (W : WX) (ta : TA) : TS := fun _ σ H => tMk_error C ta σ H fun cls d H' => W cls d σ H'
theorem ps_raise_error {a : Expr} {ta : TA} {W : WX} {p pos pos2 : Pos} {k : Nat} (hc : X.calm = true) (FB : ExcBaseFacts B newId initId bmB) (SF : StoreFacts B bmB "object.__setattr__" "object") (T : PySem.Xf_error.Txt X.K X.mg x0 q0 C fI newId bmB) (hr : Room k X.A) (tk : Takes X W) (ha : PA X [a] ta) (hg : Gl X x0 := by rfl) (hdb : (x0 == ("__debug__" : Str)) = false := by decide)
    (he : starEach (a :: []) X.env = (false, eval a X.env) :: starEach [] X.env := by rfl) (hpl : (backTo pos (starEach [] X.env)).any (·.1) = false := by rfl) :
    PS X (.Raise (some (.Call (.Name x0 p) [a] [] pos)) none pos2) (tRaise_error C W ta) := ps_raise hc tk (pmk_error FB SF T hr ha hg hdb he hpl)
end
end L2
namespace My
open PySem PySem.Spec PyProof.Rows L2
theorem excB_error {K : PySem.W.Frag} {mg : Str → Option Value} {x q : Str} {newId : String} {bmB : List Value} (glo : mg x = some (.ref (He.ga K x))) (c : excB K x "error" newId bmB = true)
    (fn : ∃ (p1 p2 q1 q2 q3 q4 : Pos) (fd : FuncData), FunD K "__init__" q (PySem.Xf_error.iA p1 p2) (PySem.Xf_error.iB q1 q2 q3 q4) PySem.Xf_error.iS [] [] (He.ma K (He.ga K x) "__init__") fd) :
    PySem.Xf_error.Txt K mg x q (He.ga K x) (He.ma K (He.ga K x) "__init__") newId bmB := by
  unfold excB at c
  simp only [Bool.and_eq_true, decide_eq_true_eq] at c
  obtain ⟨c1, c2, c3, c4, c5, c6, c7, c8, c9, c10, c11, c12, c13, c14⟩ := c
  exact ⟨glo, c1, c2, c3, He.eqO_ok c4, He.eqO_ok c5, He.eqO_ok c6, He.eqO_ok c7, He.eqO_ok c8, c9, c10, c11, c12, c13, c14, fn⟩
end My

namespace My
open PySem PySem.Spec PyProof.Rows L2
/-! ### words that are arities -/
/-! ### texts in bounds -/
def Cok (x : Str) : Prop := ∀ c ∈ TL.tl x, c < 16 ^ 8
def Sok (n : Nat) (x : Str) : Prop := x.length ≤ n ∧ Cok x
def wsz (ws : List Str) : Nat := (ws.map (·.length)).sum + ws.length
def Wok (n : Nat) (ws : List Str) : Prop := wsz ws ≤ n ∧ ∀ w ∈ ws, Cok w
theorem Sok.mono {n m : Nat} {x : Str} (h : Sok n x) (g : n ≤ m) : Sok m x := ⟨Nat.le_trans h.1 g, h.2⟩
theorem str_app_len (x y : Str) : (x ++ y).length = x.length + y.length := by
  rw [str_len_tl, TL.tl_append, List.length_append]
  rfl
theorem Sok.app {n m : Nat} {x y : Str} (h : Sok n x) (g : Sok m y) : Sok (n + m) (x ++ y) := by
  refine ⟨by rw [str_app_len]; have := h.1; have := g.1; omega, fun c hc => ?_⟩
  rw [TL.tl_append] at hc
  exact (List.mem_append.mp hc).elim (h.2 c) (g.2 c)
theorem wsz_app (a b : List Str) : wsz (a ++ b) = wsz a + wsz b := by
  unfold wsz
  rw [List.map_append, List.sum_append, List.length_append]
  omega
theorem Wok.app {n m : Nat} {a b : List Str} (h : Wok n a) (g : Wok m b) : Wok (n + m) (a ++ b) :=
  ⟨by rw [wsz_app]; have := h.1; have := g.1; omega, fun w hw => (List.mem_append.mp hw).elim (h.2 w) (g.2 w)⟩
theorem wsz_split (a : List Str) (i : Nat) : wsz (a.take i) + wsz (a.drop i) = wsz a := by
  rw [← wsz_app, List.take_append_drop]
theorem Wok.take {n : Nat} {a : List Str} (h : Wok n a) (i : Nat) : Wok n (a.take i) := ⟨by have := wsz_split a i; have := h.1; omega, fun w hw => h.2 w (List.mem_of_mem_take hw)⟩
theorem Wok.drop {n : Nat} {a : List Str} (h : Wok n a) (i : Nat) : Wok n (a.drop i) := ⟨by have := wsz_split a i; have := h.1; omega, fun w hw => h.2 w (List.mem_of_mem_drop hw)⟩
theorem Wok.one {n : Nat} {x : Str} (h : Sok n x) : Wok (n + 1) [x] := ⟨by show x.length + 0 + 1 ≤ _; have := h.1; omega, fun w hw => by rw [List.mem_singleton.mp hw]; exact h.2⟩
theorem joinL_len2 : ∀ ps : List (List Nat), (TL.joinL [32] ps).length ≤ (ps.map (·.length)).sum + ps.length
  | [] => Nat.zero_le _
  | [p] => by
    show p.length ≤ p.length + 0 + 1
    omega
  | p :: q :: r => by
    have h2 := joinL_len2 (q :: r)
    show (p ++ ([32] ++ TL.joinL [32] (q :: r))).length ≤ p.length + ((q :: r).map (·.length)).sum + ((q :: r).length + 1)
    rw [List.length_append, List.length_append]
    show p.length + (1 + _) ≤ _
    omega
theorem Wok.join {n : Nat} {a : List Str} (h : Wok n a) : Sok n (Txt.join " " a) := by
  have e : TL.tl (Txt.join " " a) = TL.joinL [32] (a.map TL.tl) := by rw [TL.join_eq, TL.tl_join, tl_sp]
  refine ⟨?_, fun c hc => ?_⟩
  · rw [str_len_tl, e]
    have h1 := joinL_len2 (a.map TL.tl)
    rw [List.map_map, List.length_map] at h1
    have h2 := h.1
    have h3 : ((a.map ((fun x : List Nat => x.length) ∘ TL.tl)).sum) = (a.map (·.length)).sum := rfl
    unfold wsz at h2
    omega
  · rw [e] at hc
    rcases joinL_mem hc with z | ⟨p, hp, hc⟩
    · rw [List.mem_singleton.mp z]
      decide
    · obtain ⟨w, hw, rfl⟩ := List.mem_map.mp hp
      exact h.2 w hw c hc
theorem spl_sum : ∀ (l acc : List Nat), ((TL.spl [32] 0 acc l).map (·.length)).sum + (TL.spl [32] 0 acc l).length = acc.length + l.length + 1
  | [], acc => by
    rw [TL.spl_nil]
    show acc.length + 0 + 1 = acc.length + 0 + 1
    rfl
  | c :: r, acc => by
    cases h : TL.pre [32] (c :: r) with
    | true =>
      rw [TL.spl_hit h]
      have ih := spl_sum r []
      show acc.length + ((TL.spl [32] 0 [] r).map (·.length)).sum + ((TL.spl [32] 0 [] r).length + 1) = acc.length + (r.length + 1) + 1
      have : ([] : List Nat).length = 0 := rfl
      omega
    | false =>
      rw [TL.spl_miss h]
      have ih := spl_sum r (acc ++ [c])
      rw [List.length_append] at ih
      have : [c].length = 1 := rfl
      show _ = acc.length + (r.length + 1) + 1
      omega
theorem spl_mem : ∀ (l acc : List Nat) {w : List Nat} {c : Nat}, w ∈ TL.spl [32] 0 acc l → c ∈ w → c ∈ acc ∨ c ∈ l
  | [], acc, w, c, hw, hc => by
    rw [TL.spl_nil] at hw
    rw [List.mem_singleton.mp hw] at hc
    exact .inl hc
  | d :: r, acc, w, c, hw, hc => by
    cases h : TL.pre [32] (d :: r) with
    | true =>
      rw [TL.spl_hit h] at hw
      rcases List.mem_cons.mp hw with z | z
      · rw [z] at hc
        exact .inl hc
      · rcases spl_mem r [] z hc with y | y
        · cases y
        · exact .inr (List.mem_cons_of_mem _ y)
    | false =>
      rw [TL.spl_miss h] at hw
      rcases spl_mem r (acc ++ [d]) hw hc with y | y
      · rcases List.mem_append.mp y with y | y
        · exact .inl y
        · rw [List.mem_singleton.mp y]
          exact .inr List.mem_cons_self
      · exact .inr (List.mem_cons_of_mem _ y)
theorem split_tl (x : Str) : (Txt.split x " ").map TL.tl = TL.spl [32] 0 [] (TL.tl x) := by
  have := TL.split_spl x " " (by rw [tl_sp]; simp) (TL.kind_ok (by decide +kernel))
  rw [tl_sp] at this
  exact this
theorem Sok.split {n : Nat} {x : Str} (h : Sok n x) : Wok (n + 1) (Txt.split x " ") := by
  have e := split_tl x
  refine ⟨?_, fun w hw c hc => ?_⟩
  · have h1 := spl_sum (TL.tl x) []
    rw [← e, List.map_map, List.length_map] at h1
    have h2 := h.1
    rw [str_len_tl] at h2
    have h3 : ((Txt.split x " ").map ((fun x : List Nat => x.length) ∘ TL.tl)).sum = ((Txt.split x " ").map (·.length)).sum := rfl
    have h4 : ([] : List Nat).length = 0 := rfl
    unfold wsz
    omega
  · have hm : TL.tl w ∈ (Txt.split x " ").map TL.tl := List.mem_map.mpr ⟨w, hw, rfl⟩
    rw [e] at hm
    rcases spl_mem _ _ hm hc with y | y
    · cases y
    · exact h.2 c y
/-! ### '9' * 30 -/
end My

namespace My
open PySem PySem.Spec PyProof.Rows L2
/-! ### lists of texts in bounds -/
def WL (S A : Addr) (n : Nat) (H : Hp) (v : V) : Prop := ∃ (l : Addr) (ws : List Str), v = .ref l ∧ H l = some (.lst (ws.map V.str)) ∧ l ≠ S ∧ l ≠ A ∧ Wok n ws
section
variable {K : PySem.W.Frag} {S A B : Addr} {n m j i : Nat} {H0 : Hp} {σ : L2.St} {t u : TE}
instance moWL : MoV S A (WL S A n) := ⟨fun h e => by
  obtain ⟨l, ws, e1, h1, n1, n2, w⟩ := h
  exact ⟨l, ws, e1, e _ _ h1 n1 n2, n1, n2, w⟩⟩
theorem WL.mono {H : Hp} {v : V} (h : WL S A n H v) (g : n ≤ m) : WL S A m H v := by
  obtain ⟨l, ws, e1, h1, n1, n2, w⟩ := h
  exact ⟨l, ws, e1, h1, n1, n2, Nat.le_trans w.1 g, w.2⟩
end
def sokB (n : Nat) (x : Str) : Bool := decide (x.length ≤ n) && (TL.tl x).all fun c => decide (c < 16 ^ 8)
theorem sok_of {n : Nat} {x : Str} (h : sokB n x = true) : Sok n x := by
  unfold sokB at h
  rw [Bool.and_eq_true, List.all_eq_true] at h
  exact ⟨of_decide_eq_true h.1, fun c hc => of_decide_eq_true (h.2 c hc)⟩
end My

namespace My
open PySem PySem.Spec PyProof.Rows L2
/-! ### the text of a tree, its names in a list from a place on -/
/-! ### bounds of such texts -/
/-! ### a text, once or not at all -/
end My

namespace My
open PySem PySem.Spec PyProof.Rows L2
/-! ### how a text of a term is read -/
def mkS (l : List Nat) : Str := ⟨l.toArray⟩
def isL (c : Nat) : Bool := decide (97 ≤ c) && decide (c ≤ 122)
def nmL (r : List Nat) : List Nat := r.takeWhile isL
def reL (r : List Nat) : List Nat := r.dropWhile isL
def gdL (r : List Nat) : Prop := 1 ≤ (nmL r).length ∧ (nmL r).length ≤ 8
mutual
inductive Prs : List Nat → List (Str × Nat) → List (Nat × Str) → Option (List (Nat × Str)) → Prop
  | bad {r U T} : ¬ gdL r → Prs r U T none
  | opn {r r2 U T res} : gdL r → reL r = 40 :: r2 → Prs r2 ((mkS (nmL r), 1) :: U) T res → Prs r U T res
  | tok {r U T res} : gdL r → (∀ r2, reL r ≠ 40 :: r2) → Aft (reL r) U (T ++ [(0, mkS (nmL r))]) res → Prs r U T res
inductive Aft : List Nat → List (Str × Nat) → List (Nat × Str) → Option (List (Nat × Str)) → Prop
  | close {r n p U T res} : Aft r U (T ++ [(p, n)]) res → Aft (41 :: r) ((n, p) :: U) T res
  | done {T} : Aft [] [] T (some T)
  | fail {r U T} : ¬ (r = [] ∧ U = []) → ¬ (U ≠ [] ∧ ∃ r2, r = 41 :: r2) → (U = [] ∨ ∀ r2, r ≠ 44 :: 32 :: r2) → Aft r U T none
  | next {r n p U T res} : Prs r ((n, p + 1) :: U) T res → Aft (44 :: 32 :: r) ((n, p) :: U) T res
end
/-! ### the text of a tree is read back -/
def Lok (x : Str) : Prop := ∀ c ∈ TL.tl x, isL c = true
/-! ### pieces of a text -/
theorem All2.pop {α : Type} {R : V → α → Prop} {xs : List V} {fs : List α} {f : α} (h : All2 R xs (fs ++ [f])) : ∃ x xs', xs = xs' ++ [x] ∧ R x f ∧ All2 R xs' fs := by
  have hl := h.1
  rw [List.length_append] at hl
  have hl : xs.length = fs.length + 1 := hl
  obtain ⟨x, g, e1, e2, r, h2⟩ := h.back (by omega)
  have e3 : (fs ++ [f]).dropLast = fs := List.dropLast_concat
  rw [e3] at h2 e2
  have e4 : f = g := by
    have := List.append_cancel_left e2
    injection this
  rw [e4]
  exact ⟨x, xs.dropLast, e1, r, h2⟩
def PrT (K : PySem.W.Frag) (H : Hp) (v : V) (x : Nat × Str) : Prop := ∃ a, v = .ref a ∧ SqT K H a [.int (x.1 : Int), .str x.2]
def PrU (K : PySem.W.Frag) (H : Hp) (v : V) (x : Str × Nat) : Prop := ∃ a, v = .ref a ∧ SqT K H a [.str x.1, .int (x.2 : Int)]
theorem PrT.tr {K : PySem.W.Frag} {H H' : Hp} {v : V} {x : Nat × Str} (e : ∀ a xs, SqT K H a xs → SqT K H' a xs) (h : PrT K H v x) : PrT K H' v x := by
  obtain ⟨a, h1, h2⟩ := h
  exact ⟨a, h1, e _ _ h2⟩
theorem PrU.tr {K : PySem.W.Frag} {H H' : Hp} {v : V} {x : Str × Nat} (e : ∀ a xs, SqT K H a xs → SqT K H' a xs) (h : PrU K H v x) : PrU K H' v x := by
  obtain ⟨a, h1, h2⟩ := h
  exact ⟨a, h1, e _ _ h2⟩
/-! ### max of a tuple -/
section
variable {X : Cx}
end
/-! ### one part of each token -/
/-! ### letters -/
theorem Lok.app {x y : Str} (h : Lok x) (g : Lok y) : Lok (x ++ y) := fun c hc => by
  rw [TL.tl_append] at hc
  exact (List.mem_append.mp hc).elim (h c) (g c)
end My

namespace My
open PySem PySem.Spec PyProof.Rows L2
/-! ### texts of trees with the names from another place on -/
end My

namespace My
open PySem PySem.Spec PyProof.Rows L2
/-! ### a term read by recursion -/
mutual
inductive Rd : List Nat → Option (List (Nat × Str) × List Nat) → Prop
  | bad {r} : ¬ gdL r → Rd r none
  | leaf {r} : gdL r → (∀ r2, reL r ≠ 40 :: r2) → Rd r (some ([(0, mkS (nmL r))], reL r))
  | node0 {r r2} : gdL r → reL r = 40 :: r2 → Rl r2 0 [] none → Rd r none
  | node1 {r r2 r3 T m} : gdL r → reL r = 40 :: r2 → Rl r2 0 [] (some (T, m, 41 :: r3)) → Rd r (some (T ++ [(m, mkS (nmL r))], r3))
  | node2 {r r2 r3 T m} : gdL r → reL r = 40 :: r2 → Rl r2 0 [] (some (T, m, r3)) → (∀ r4, r3 ≠ 41 :: r4) → Rd r none
inductive Rl : List Nat → Nat → List (Nat × Str) → Option (List (Nat × Str) × Nat × List Nat) → Prop
  | stop {r m T} : Rd r none → Rl r m T none
  | more {r r2 m T T1 o} : Rd r (some (T1, 44 :: 32 :: r2)) → Rl r2 (m + 1) (T ++ T1) o → Rl r m T o
  | last {r r2 m T T1} : Rd r (some (T1, r2)) → (∀ r3, r2 ≠ 44 :: 32 :: r3) → Rl r m T (some (T ++ T1, m + 1, r2))
end
open Classical in
/-! ### how many parentheses are open at most -/
/-! ### deep texts -/
/-! ### a text, many times -/
end My

namespace My
open PySem PySem.Spec PyProof.Rows L2
/-! ### a head with the getters of properties -/
/-- the property's object, its getter -/
def prA (K : PySem.W.Frag) (C : Addr) (f : Str) : Addr := match PySem.W.findIn K (.ref C) f with
  | some (some (.ref p)) => p
  | _ => 0
def gtA (K : PySem.W.Frag) (C : Addr) (f : Str) : Addr := match PySem.W.recIn K (prA K C f) "property" with
  | some (.ref g :: _) => g
  | _ => 0
def propB (K : PySem.W.Frag) (x f : Str) : Bool := He.eqO (PySem.W.findIn K (.ref (He.ga K x)) f) (some (some (.ref (prA K (He.ga K x) f)))) &&
  (decide (PySem.W.specialIn K (.ref (prA K (He.ga K x) f)) "__get__" = some (some (.builtin "property.__get__"))) && (decide (PySem.W.takesIn K (.ref (prA K (He.ga K x) f)) = some true) &&
  (match PySem.W.recIn K (prA K (He.ga K x) f) "property" with
  | some (.ref _ :: _) => true
  | _ => false)))
theorem prop_ok {K : PySem.W.Frag} {x f : Str} (h : propB K x f = true) : PropOf K (He.ga K x) f (prA K (He.ga K x) f) (gtA K (He.ga K x) f) := by
  obtain ⟨h1, h⟩ := He.ba h
  obtain ⟨h2, h⟩ := He.ba h
  obtain ⟨h3, h4⟩ := He.ba h
  refine ⟨He.eqO_ok h1, of_decide_eq_true h2, of_decide_eq_true h3, ?_⟩
  unfold gtA
  cases e : PySem.W.recIn K (prA K (He.ga K x) f) "property" with
  | none =>
    rw [e] at h4
    cases h4
  | some l =>
    rw [e] at h4
    cases l with
    | nil => cases h4
    | cons v rest =>
      cases v with
      | ref g => exact ⟨rest, rfl⟩
      | _ => cases h4
def fnA (K : PySem.W.Frag) (a : Addr) : He.FnW := match K.lookup a with
  | some ⟨_, _, .func fd, _⟩ => some (fd.name, fd.qualname, fd.params, fd.body, fd.scope, fd.globals, fd.closure, fd.builtins)
  | _ => none
def okA (K : PySem.W.Frag) (a : Addr) (d : He.DefD) : Bool := PySem.W.keepIn K (.ref a) && (match K.lookup a with
  | some ⟨_, _, .func fd, _⟩ => PySem.W.codeIn K fd.code d.qual && (He.dflB K fd.defaults (d.dvs K) && He.kwdB K fd.kwdefaults (d.kws K))
  | _ => false)
theorem funD_at {K : PySem.W.Frag} {d : He.DefD} {a : Addr} (e : fnA K a = d.val) (c : okA K a d = true) : ∃ fd, FunD K d.name d.qual d.params d.body d.scope (d.dvs K) (d.kws K) a fd := by
  obtain ⟨kp, c2⟩ := He.ba c
  unfold fnA at e
  cases q : K.lookup a with
  | none =>
    rw [q] at c2
    cases c2
  | some o =>
    obtain ⟨oc, od, dt, osl⟩ := o
    rw [q] at c2 e
    cases dt with
    | func fd =>
      obtain ⟨n1, n2, n3, n4, n5, n6, n7, n8, n9, n10, n11, n12, n13, n14, n15⟩ := fd
      have e2 : (some (n1, n2, n3, n4, n5, n6, n7, n15) : He.FnW) = some (d.name, d.qual, d.params, .stmts d.body, d.scope, mainGlobals, [], builtinsNs) := e
      simp only [Option.some.injEq, Prod.mk.injEq] at e2
      obtain ⟨h1, h2, h3, h4, h5, h6, h7, h8⟩ := e2
      subst h1 h2 h3 h4 h5 h6 h7 h8
      have c3 : (PySem.W.codeIn K n13 d.qual && (He.dflB K n8 (d.dvs K) && He.kwdB K n9 (d.kws K))) = true := c2
      obtain ⟨k1, k2⟩ := He.ba c3
      obtain ⟨k3, k4⟩ := He.ba k2
      exact ⟨_, ⟨oc, od, n8, n9, n10, n11, n12, n13, n14, osl, rfl, q, k1, He.dflB_ok k3, He.kwdB_ok k4⟩, kp⟩
    | _ => cases c2
/-- the getters: the class, the property's name, the def -/
abbrev Gs : Type := List (Str × (Str × Nat) × He.DefD)
def stA (K : PySem.W.Frag) (C : Addr) (f : Str) : Addr := match PySem.W.recIn K (prA K C f) "property" with
  | some (_ :: .ref g :: _) => g
  | _ => 0
def cmA (K : PySem.W.Frag) (C : Addr) (f : Str) : Addr := match PySem.W.recIn K (prA K C f) "classmethod" with
  | some (.ref g :: _) => g
  | _ => 0
def smA (K : PySem.W.Frag) (C : Addr) (f : Str) : Addr := match PySem.W.recIn K (prA K C f) "staticmethod" with
  | some (.ref g :: _) => g
  | _ => 0
def gAt (K : PySem.W.Frag) (q : Str × (Str × Nat) × He.DefD) : Addr := match q.2.1.2 with
  | 0 => gtA K (He.ga K q.1) q.2.1.1
  | 1 => stA K (He.ga K q.1) q.2.1.1
  | 2 => cmA K (He.ga K q.1) q.2.1.1
  | _ => smA K (He.ga K q.1) q.2.1.1
/-- a property that can be stored: its setter at g -/
structure PropSet (K : PySem.W.Frag) (C : Addr) (f : Str) (p g : Addr) : Prop where
  tk : PySem.W.takerIn K C f = some (some (.ref p))
  ty : PySem.W.typeIn K (.ref p) = some (.type "property")
  rc : ∃ a rest, PySem.W.recIn K p "property" = some (a :: .ref g :: rest)
def setB (K : PySem.W.Frag) (x f : Str) : Bool := decide (PySem.W.takerIn K (He.ga K x) f = some (some (.ref (prA K (He.ga K x) f)))) && (decide (PySem.W.typeIn K (.ref (prA K (He.ga K x) f)) = some (.type "property")) &&
  (match PySem.W.recIn K (prA K (He.ga K x) f) "property" with
  | some (_ :: .ref _ :: _) => true
  | _ => false))
/-- a classmethod, reached through an instance -/
def cmiB (K : PySem.W.Frag) (x m : Str) : Bool := PySem.W.plainGet K (He.ga K x) Str.empty && (PySem.W.isClsIn K (He.ga K x) && (He.eqO (PySem.W.findIn K (.ref (He.ga K x)) m) (some (some (.ref (prA K (He.ga K x) m)))) &&
  (decide (PySem.W.typeIn K (.ref (prA K (He.ga K x) m)) = some (.type "classmethod")) && (decide (PySem.W.specialIn K (.ref (prA K (He.ga K x) m)) "__get__" = some (some (.builtin "classmethod.__get__"))) &&
  (decide (PySem.W.takesIn K (.ref (prA K (He.ga K x) m)) = some false) && (!PySem.W.copiedNames.contains m && ((match PySem.W.recIn K (prA K (He.ga K x) m) "classmethod" with
  | some (.ref _ :: _) => true
  | _ => false) && PySem.W.fnIn K (cmA K (He.ga K x) m))))))))
abbrev AlP : Type := He.AlX × List He.FnW
def gB (K : PySem.W.Frag) (gs : Gs) : Bool := gs.all fun q => okA K (gAt K q) q.2.2
structure SaysP (fa : List He.Fa) (fn : List He.DefD) (ex : PySem.W.Frag → Bool) (gs : Gs) (w : World) (h : Heap) (K : PySem.W.Frag) : Prop where
  x : He.SaysX fa fn [] [] (fun K => ex K && gB K gs) w h K
  g : gs.map (fun q => fnA K (gAt K q)) = gs.map fun q => q.2.2.val
def valP (fn : List He.DefD) (gs : Gs) (w : World) : AlP := (He.valX fn [] w, gs.map fun q => q.2.2.val)
theorem getter_ok {K : PySem.W.Frag} {gs : Gs} (h1 : gB K gs = true) (h2 : gs.map (fun q => fnA K (gAt K q)) = gs.map fun q => q.2.2.val) (i : Nat) {q : Str × (Str × Nat) × He.DefD} (h : gs[i]? = some q := by rfl) :
    ∃ fd, FunD K q.2.2.name q.2.2.qual q.2.2.params q.2.2.body q.2.2.scope (q.2.2.dvs K) (q.2.2.kws K) (gAt K q) fd := by
  have e2 : (gs.map (fun q => fnA K (gAt K q)))[i]? = (gs.map fun q => q.2.2.val)[i]? := by rw [h2]
  rw [List.getElem?_map, List.getElem?_map, h] at e2
  exact funD_at (Option.some.inj e2) (List.all_eq_true.mp h1 q (List.mem_of_getElem? h))
end My

namespace My
open PySem PySem.Spec PyProof.Rows L2
/-! ### methods, getters, instances -/
/-- the def at the address keeps the promise -/
def OkA (P : Program) (w : World) (K : PySem.W.Frag) (mg : Str → Option Value) (base : Heap) (CX : CXT) (k : Nat) (f : Addr) (ps : List Str) (sp : Sp) : Prop :=
  ∃ fd : FuncData, FnOk P w K mg base CX k f fd ps sp ∧ Binds K fd ps []
theorem okA_of {P : Program} {w : World} {K : PySem.W.Frag} {mg : Str → Option Value} {base : Heap} {CX : CXT} {k : Nat} {x qual : Str} {params : Arguments} {body : List Stmt} {scope : Scope} {N ps : List Str} {sp : Sp} {f : Addr}
    (F : ∃ fd, FunD K x qual params body scope [] [] f fd) (S : FnScope N ps scope)
    (hb : ∀ (kV doc pm : Value) (an : Option Addr) (cdv ct : Value) (us : List Value), us.length = ps.length →
      bindArgs (PySem.W.fnOf x qual params body scope .none kV doc pm an cdv ct) ⟨us, []⟩ = pure (ps.zip us))
    (len : ∀ vs H Q E, sp vs H Q E → vs.length = ps.length)
    (hbody : ∀ (cdv : Value) (A : Around) (outer : List Env) (s : Shared) (H : Hp) (vs : List V) (Q : VK) (E : XK),
      Room k (A.deeper (envOfC qual scope s.heap.objs.size f cdv)) → sp vs H Q E →
      ∃ t, PSs (cxOf CX P w K mg base N qual scope f cdv A outer s H E).nox body t ∧ t { nx := fun _ H' => Q .non H', rt := Q } (start N vs) H) :
    OkA P w K mg base CX (k + 1) f ps sp := by
  obtain ⟨fd, F⟩ := F
  exact ⟨fd, fnok_of F S len hbody, F.bindsN hb⟩
theorem okA_ofX {P : Program} {w : World} {K : PySem.W.Frag} {mg : Str → Option Value} {base : Heap} {CX : CXT} {k : Nat} {x qual : Str} {params : Arguments} {body : List Stmt} {scope : Scope} {N ps : List Str} {sp : Sp} {f : Addr}
    (F : ∃ fd, FunD K x qual params body scope [] [] f fd) (S : FnScope N ps scope)
    (hb : ∀ (kV doc pm : Value) (an : Option Addr) (cdv ct : Value) (us : List Value), us.length = ps.length →
      bindArgs (PySem.W.fnOf x qual params body scope .none kV doc pm an cdv ct) ⟨us, []⟩ = pure (ps.zip us))
    (len : ∀ vs H Q E, sp vs H Q E → vs.length = ps.length)
    (hbody : ∀ (cdv : Value) (A : Around) (outer : List Env) (s : Shared) (H : Hp) (vs : List V) (Q : VK) (E : XK),
      Room k (A.deeper (envOfC qual scope s.heap.objs.size f cdv)) → sp vs H Q E →
      ∃ t, PSs (cxOf CX P w K mg base N qual scope f cdv A outer s H E) body t ∧ t { nx := fun _ H' => Q .non H', rt := Q } (start N vs) H) :
    OkA P w K mg base CX (k + 1) f ps sp := by
  obtain ⟨fd, F⟩ := F
  exact ⟨fd, F.ok S len hbody, F.bindsN hb⟩
section
variable {X : Cx} {CX : CXT} {k : Nat} {f C : Addr} {ps : List Str} {sp : Sp} {E : XK} {x m : Str} {p pos apos : Pos} {e o : Expr} {es : List Expr} {ta : TE} {t : TA}
/-- o.m(e, ..) -/
theorem calM {pl : Sem Bool} (O : OkA X.prog X.w X.K X.mg X.base CX k f ps sp) (hr : Room k X.A) (hx : Passes CX X E) (c : Cls X.K C) (hm : Meth X.K C m f) (he : PE X o ta) (ha : PA X (e :: es) t)
    (hst : starEach (e :: es) X.env = (false, eval e X.env) :: starEach es X.env := by rfl) (hpl : (backTo pos (starEach es X.env)).any (·.1) = false := by rfl)
    (ht : eval (.Call (.Attribute o m apos) (e :: es) [] pos) X.env = (do
      let ov ← eval o X.env
      standAt apos.atName
      let (f, first) ← holding [ov] (getMethod ov m pl)
      callWith pos f first (backTo pos (starEach (e :: es) X.env)) (backToKw pos (keywordEach [] X.env))) := by rfl) :
    PE X (.Call (.Attribute o m apos) (e :: es) [] pos) (tMeth C m sp [] E ta t) := by
  obtain ⟨fd, F, b⟩ := O
  exact pe_meth he c hm F hr b .nil hx ha hst hpl ht
/-- o.m() -/
theorem calM0 {pl : Sem Bool} (O : OkA X.prog X.w X.K X.mg X.base CX k f ps sp) (hr : Room k X.A) (hx : Passes CX X E) (c : Cls X.K C) (hm : Meth X.K C m f) (he : PE X o ta)
    (ht : eval (.Call (.Attribute o m apos) [] [] pos) X.env = (do
      let ov ← eval o X.env
      standAt apos.atName
      let (f, first) ← holding [ov] (getMethod ov m pl)
      callWith pos f first (backTo pos (starEach [] X.env)) (backToKw pos (keywordEach [] X.env))) := by rfl) :
    PE X (.Call (.Attribute o m apos) [] [] pos) (tMeth C m sp [] E ta tNil) := by
  obtain ⟨fd, F, b⟩ := O
  exact pe_meth0 he c hm F hr b .nil hx ht
/-- o.f, a property -/
theorem calP {q : Addr} (O : OkA X.prog X.w X.K X.mg X.base CX k f ps sp) (hr : Room (k + 1) X.A) (hx : Passes CX X.nox E) (c : Cls X.K C) (hp : PropOf X.K C m q f) (he : PE X o ta)
    (hab : attributeBase o m X.env (eval o X.env) = eval o X.env := by rfl) : PE X (.Attribute o m pos) (tProp C sp [] E ta) := by
  obtain ⟨fd, F, b⟩ := O
  exact pe_prop he c hp F hr b .nil hx hab
/-- C(e, ..) -/
theorem calI (O : OkA X.prog X.w X.K X.mg X.base CX k f ps sp) (hr : Room (k + 1) X.A) (hx : Passes CX X E) (M : Mk X.K C f) (hm : X.mg x = some (.ref C)) (ha : PA X (e :: es) t) (hg : Gl X x := by rfl)
    (hdb : (x == ("__debug__" : Str)) = false := by decide) (he : starEach (e :: es) X.env = (false, eval e X.env) :: starEach es X.env := by rfl) (hpl : (backTo pos (starEach es X.env)).any (·.1) = false := by rfl) :
    PE X (.Call (.Name x p) (e :: es) [] pos) (tMake C sp [] E t) := by
  obtain ⟨fd, F, b⟩ := O
  exact pe_make M F hr hg hm b .nil hx ha hdb he hpl
end
/-- y(e, ..), y another name of the def x -/
theorem calAs {X : Cx} {CX : CXT} {k : Nat} {ps : List Str} {sp : Sp} {E : XK} {x y : Str} {p pos : Pos} {e : Expr} {es : List Expr} {t : TA} (O : Ok X.prog X.w X.K X.mg X.base CX k x ps sp) (hm : X.mg y = some (.ref (He.ga X.K y))) (ha : He.ga X.K y = He.ga X.K x) (hr : Room k X.A) (hx : Passes CX X E) (hp : PA X (e :: es) t) (hg : Gl X y := by rfl)
    (hdb : (y == ("__debug__" : Str)) = false := by decide)
    (he : starEach (e :: es) X.env = (false, eval e X.env) :: starEach es X.env := by rfl) (hpl : (backTo pos (starEach es X.env)).any (·.1) = false := by rfl) :
    PE X (.Call (.Name y p) (e :: es) [] pos) (tCall sp [] E t) := by
  obtain ⟨fd, F, b, kp, _⟩ := O
  rw [ha] at hm
  exact pe_call F hr hg hm kp b .nil hx hp hdb he hpl
/-- a number that the class has -/
def conB (K : PySem.W.Frag) (x f : Str) (i : Int) : Bool := (match PySem.W.findIn K (.ref (He.ga K x)) f with
  | some (some (.int j t)) => decide (j = i) && decide (PySem.W.specialIn K (.int j t) "__get__" = some none)
  | _ => false) && !PySem.W.copiedNames.contains f
theorem con_ok {K : PySem.W.Frag} {x f : Str} {i : Int} (h : conB K x f i = true) : ∃ u, Con K (He.ga K x) f (.int i) u := by
  obtain ⟨h, h2⟩ := He.ba h
  cases e : PySem.W.findIn K (.ref (He.ga K x)) f with
  | none =>
    rw [e] at h
    cases h
  | some o =>
    rw [e] at h
    cases o with
    | none => cases h
    | some v =>
      cases v with
      | int j t =>
        obtain ⟨h3, h4⟩ := He.ba h
        obtain rfl := of_decide_eq_true h3
        exact ⟨_, e, ⟨t, rfl⟩, of_decide_eq_true h4, by rw [Bool.not_eq_true'] at h2; exact h2⟩
      | _ => cases h
/-! ### len(o), str(o) by own methods -/
structure OwnM (K : PySem.W.Frag) (C : Addr) (m : Str) (f : Addr) : Prop where
  at_ : PySem.W.findIn K (.ref C) m = some (some (.ref f))
  fn : PySem.W.isFn K (.ref f) = true
theorem ownM_of {K : PySem.W.Frag} {C f : Addr} {m : Str} (h : Meth K C m f) : OwnM K C m f := ⟨h.at_, h.fn⟩
section
variable {X : Cx} {CX : CXT} {k : Nat} {f C : Addr} {ps : List Str} {sp : Sp} {E : XK}
theorem run_own {pins : List (Addr × Obj)} {σ : L2.St} {H : Hp} {s : Shared} {Q : VK} {E' : Value → Shared → Prop} {a : Addr} {A : Around} (hA : A.frames = X.A.frames) (hr : Room k A) (he : Env0 X.prog X.w X.K X.mg X.base A X.stack s H) (O : OkA X.prog X.w X.K X.mg X.base CX k f ps sp)
    (hx : Passes CX X.nox E) (I : Inv X pins σ H s) (h : sp [.ref a] H Q E) : wpAny (model X.prog X.w) A (call (.ref f) [.ref a]) (EP X pins σ Q) E' s := by
  obtain ⟨fd, F, hb⟩ := O
  have hl : ([Value.ref a] ++ ([] : List Value)).length = ps.length := by
    rw [← F.len _ _ _ _ h]
    rfl
  refine wpAny_call (codeAny_mono (F.run A X.stack s H ⟨[.ref a], []⟩ [.ref a] [.ref a] Q E hr he (hb _ [.ref a] I.kIn hl) (.cons rfl .nil) h) fun r s' hq => ?_)
  cases r with
  | error er => exact False.elim (hx pins σ H s er s' (I.wish _) hq)
  | ok fl =>
    cases fl with
    | ret u => exact I.after hq
    | next => exact False.elim hq
    | brk => exact False.elim hq
    | cont => exact False.elim hq
open PySem.Calls Builtin in
/-- len(o) -/
theorem call_lenO (O : OkA X.prog X.w X.K X.mg X.base CX k f ps sp) (hr : Room (k + 2) X.A) (hx : Passes CX X.nox E) (M : OwnM X.K C "__len__" f) : CallR X (.builtin "len") (fun xs H Q => ∃ a dx fs, xs = [.ref a] ∧ H a = some (.ins C dx fs) ∧ sp [.ref a] H (fun v H' => ∃ n : Nat, v = .int (n : Int) ∧ n < 2 ^ 60 ∧ Q (.int (n : Int)) H') E) := by
  intro pins s σ H xs us Q I r h
  obtain ⟨a, dx, fs, rfl, ea, h⟩ := h
  rw [Vals.ref1 r]
  obtain ⟨mA, O1, _, _, _, _⟩ := ins_get I.hok ea
  obtain ⟨od, J, _⟩ := O1.look
  refine Calls.call_function_entry kind_len plain_len entry_len (args_len1 _) ?_
  unfold Builtin.«len»
  refine wpAny_bind (m := oneArg "len" _) (wpAny_pure ?_)
  refine wpAny_bind (m := callSpecial? (.ref a) (Str.ofString "__len__")) (PySem.W.special_fn I.kIn J M.at_ (beq_iff_eq.mp M.fn) (wpAny_mono (run_own (A := X.A.in1) rfl (hr.in1.mono (Nat.le_succ k)) I.env0.in1 O hx I h) (fun v s1 hv => ?_) fun _ _ y => y))
  obtain ⟨v', H1, I1, rv, n, rfl, hn, q⟩ := hv
  obtain ⟨t, rfl⟩ := rv
  refine wpAny_bind (wpAny_holding (wpAny_pure ?_))
  refine wpAny_bind (wpAny_letGo ?_)
  show wpAny _ _ (if ((n : Nat) : Int) < 0 then _ else _) _ _ _
  rw [if_neg (by omega)]
  show wpAny _ _ (if ((n : Nat) : Int) ≥ 2 ^ 63 then _ else _) _ _ _
  rw [if_neg (by omega)]
  exact wpAny_bind (wpAny_mkInt (wpAny_pure ⟨_, rfl, ⟨.int (n : Int), H1, I1.tok _, ⟨_, rfl⟩, q⟩⟩))
/-- str(o) -/
theorem call_strOwn (O : OkA X.prog X.w X.K X.mg X.base CX k f ps sp) (hr : Room (k + 2) X.A) (hx : Passes CX X.nox E) (M : OwnM X.K C "__str__" f) : CallR X (.type "str") (fun xs H Q => ∃ a dx fs, xs = [.ref a] ∧ H a = some (.ins C dx fs) ∧ sp [.ref a] H (fun v H' => ∃ z, v = .str z ∧ Q (.str z) H') E) := by
  intro pins s σ H xs us Q I r h
  obtain ⟨a, dx, fs, rfl, ea, h⟩ := h
  rw [Vals.ref1 r]
  obtain ⟨mA, O1, _, _, _, _⟩ := ins_get I.hok ea
  obtain ⟨od, J, _⟩ := O1.look
  have hr2 := hr.in1.in1
  refine PySem.W.kso_call hr2.units0 I.kIn J M.at_ M.fn (wpAny_mono (run_own (A := X.A.in1.in1) rfl hr2 I.env0.in1.in1 O hx I h) (fun v s1 hv => ?_) fun _ _ y => y)
  obtain ⟨v', H1, I1, rv, z, rfl, q⟩ := hv
  obtain ⟨t, rfl⟩ := rv
  exact ⟨.str z, H1, I1, ⟨_, rfl⟩, q⟩
end
end My

namespace My
open PySem PySem.Spec PyProof.Rows L2
/-! ### a field of an error that the context pins, whatever its class -/
/-- instances of the error class C hold the field f in their dict -/
structure FldE (K : PySem.W.Frag) (C : Addr) (f : Str) : Prop where
  ga : PySem.W.findIn K (.ref C) "__getattribute__" = some (some (.builtin "BaseException.__getattribute__"))
  gg : PySem.W.findIn K (.ref C) "__getattr__" = some none
  exC : PySem.W.subIn K (.ref C) (.type "BaseException") = some true
  hdC : PySem.W.hasDictIn K C = true
  noN : PySem.W.findIn K (.ref C) f = some none
def fldB (K : PySem.W.Frag) (x f : Str) : Bool :=
  He.eqO (PySem.W.findIn K (.ref (He.ga K x)) "__getattribute__") (some (some (.builtin "BaseException.__getattribute__"))) &&
  (He.eqO (PySem.W.findIn K (.ref (He.ga K x)) "__getattr__") (some none) && (decide (PySem.W.subIn K (.ref (He.ga K x)) (.type "BaseException") = some true) &&
  (PySem.W.hasDictIn K (He.ga K x) && He.eqO (PySem.W.findIn K (.ref (He.ga K x)) f) (some none))))
theorem fldB_ok {K : PySem.W.Frag} {x f : Str} (c : fldB K x f = true) : FldE K (He.ga K x) f := by
  unfold fldB at c
  simp only [Bool.and_eq_true, decide_eq_true_eq] at c
  obtain ⟨c1, c2, c3, c4, c5⟩ := c
  exact ⟨He.eqO_ok c1, He.eqO_ok c2, c3, c4, He.eqO_ok c5⟩
section
variable {X : Cx} {a : Addr} {oe : Obj} {cls : Value} {d : Option Addr} {e : Expr} {te : TE} {pos : Pos} {f : Str}
def tByN (K : PySem.W.Frag) (f : Str) (a : Addr) (cls : Value) (d : Option Addr) (te : TE) : TE := fun σ H Q => te σ H fun x H1 => ∃ C dd v, x = .ref a ∧ cls = .ref C ∧ FldE K C f ∧ d = some dd ∧ H1 dd = some (.xd [(f, v)]) ∧ Q v H1
theorem pe_byN (hz : ErrO cls d oe) (hm : (a, oe) ∈ X.pn) (he : PE X e te) (hb : attributeBase e f X.env (eval e X.env) = eval e X.env := by rfl) :
    PE X (.Attribute e f pos) (tByN X.K f a cls d te) := by
  refine ⟨fun pins s σ H Q I h => ?_⟩
  refine attr_of hb (thn (he.run pins s σ H _ I h) fun u s1 hh => ?_)
  obtain ⟨x, H1, I1, rx, C, dd, v, ex, ec, T, ed, ea, q⟩ := hh
  subst ex
  obtain rfl : u = Value.ref a := rx
  subst ec
  subst ed
  obtain ⟨ha, _⟩ := I1.pin (a, oe) (List.mem_append_left _ hm)
  obtain ⟨hz, vs, hd⟩ := hz
  have hx : ObjOk X.prog X.w H1 s1.heap dd (.xd [(f, v)]) := I1.hok dd _ ea
  obtain ⟨mA, hns, hr⟩ := hx
  obtain ⟨od, ho, hl⟩ := lookIn_ns hns
  have l : List.lookup f [(f, v)] = some v := by simp [List.lookup]
  obtain ⟨u, hu, ru⟩ := RelO.some_of (v := v) (o := mA f) (by rw [← l]; exact hr f)
  have J : PySem.W.InstAt s1.heap a oe C (some od) := ⟨ha, hz.1, by unfold PySem.W.notCls; rw [hd] <;> rfl, by rw [hz.2]; exact ho⟩
  exact HandSPX.exc_get I1.kIn J T.ga T.gg T.exC (PySem.W.findObj_own T.hdC T.noN rfl (by rw [hl, hu])) (handed_of ru) ⟨v, H1, I1.tok _, ru, q⟩
end
/-! ### try with one clause 'except (x, y) as n' -/
theorem flyingZ_keeps {h h' B : Heap} {l : List Env} {a : Addr} {Z : Obj → Prop} (k : ∀ b o, h.get? b = some o → h'.get? b = some o) (x : HandSPX.FlyingZ B l a Z h) : HandSPX.FlyingZ B l a Z h' := by
  obtain ⟨x1, x2, x3, oe, vs, T, oT, ts, he, hz, hd, h1, hn, ne, hT, hdT, h3⟩ := x
  exact ⟨fun b o e => k b o (x1 b o e), x2, x3.of_keeps fun b o e _ => ⟨o, k b o e, rfl⟩, oe, vs, T, oT, ts, k _ _ he, hz, hd, h1, hn, ne, k _ _ hT, hdT, h3⟩
def wAs2 (K : PySem.W.Frag) (c1 c2 : Value) (i : Nat) (ts : Addr → Value → Option Addr → TS) (Wout : WX) (D : Ends) : WX := fun cls d σ H =>
  ∃ b, PySem.W.exmAny K cls [c1, c2] = some b ∧ (b = true → ∀ a, H a = none → ts a cls d { nx := fun σ' H' => D.nx (σ'.set i none) H', rt := D.rt, bk := fun σ' H' => D.bk (σ'.set i none) H', ct := fun σ' H' => D.ct (σ'.set i none) H' } (σ.set i (some (.ref a))) H) ∧
    (b = false → Wout cls d σ H)
section
variable {X : Cx} {body : List Stmt} {pos : Pos} {tb : WX → TS} {Wout : WX} {n : Str} {i : Nat} {x1 x2 : Str} {c1 c2 : Value} {ts : Addr → Value → Option Addr → TS} {b1 : Stmt} {bs : List Stmt} {p1 p2 p3 p4 : Pos} {kk : Nat}
theorem ps_try_as2 (hst : X.stack = X.env :: X.outer) (hfr : X.env.frame = some X.env.locals) (hnd : X.N.Nodup) (hix : X.N[i]? = some n) (hlo : X.env.kindOf n = some .local) (hc1 : Names X x1 c1) (hc2 : Names X x2 c2) (tk : Takes X Wout)
    (hbo : ∀ (W : WX) (pn : List (Addr × Obj)) (xe : Value → Shared → Prop), Takes (X.tr pn xe) W → PassesOwn (model X.prog X.w) X.A X.env xe → PSs (X.tr pn xe) body (tb W))
    (hb : ∀ (a : Addr) (oe : Obj) (cls : Value) (d : Option Addr) (pn : List (Addr × Obj)), Zc cls d oe → (∃ vs, oe.data = .fields vs) → PSs (X.suite a ((a, oe) :: pn)) (b1 :: bs) (ts a cls d)) :
    PS X (.Try body [.ExceptHandler (some (.Tuple [.Name x1 p1, .Name x2 p2] kk p3)) (some n) (b1 :: bs) p4] [] [] pos) (fun D σ H => tb (wAs2 X.K c1 c2 i ts Wout D) D σ H) := by
  constructor
  intro pins s σ H D I hq
  have oky := I.ok
  have hA : X.A.frames = some (X.env :: X.outer) := oky.frames.trans (congrArg some hst)
  have hL : Loc X.env.scope n := Or.inl hlo
  apply wpAny_Try_except
  have hrun := (hbo (wAs2 X.K c1 c2 i ts Wout D) (X.pn ++ pins) (fun e z1 => wpAny (model X.prog X.w) X.A (noteFrame e X.env) (fun _ z2 => wpAny (model X.prog X.w) X.A (setFlight e none) (fun _ z3 => wpAny (model X.prog X.w) X.A (handleBy e X.env [.ExceptHandler (some (.Tuple [.Name x1 p1, .Name x2 p2] kk p3)) (some n) (b1 :: bs) p4]) (SP X pins D) X.xe z3) X.xe z2) X.xe z1) ?_ PassesOwn.looking).run [] s σ H D (I.toTry _) hq
  · refine wpAny_mono hrun (fun fl z hz => ?_) (fun e z he => he)
    cases fl with
    | next => exact hz.elim fun σ1 h => h.elim fun H1 h => wpAny_execs_nil ⟨σ1, H1, h.1.ofTry oky, h.2⟩
    | brk => exact hz.elim fun σ1 h => h.elim fun H1 h => ⟨σ1, H1, h.1.ofTry oky, h.2⟩
    | cont => exact hz.elim fun σ1 h => h.elim fun H1 h => ⟨σ1, H1, h.1.ofTry oky, h.2⟩
    | ret u => exact hz.elim fun v h => h.elim fun σ1 h => h.elim fun H1 h => ⟨v, σ1, H1, h.1.ofTry oky, h.2⟩
  intro u z hx
  obtain ⟨a, B, sI, pins', τ, G, cls, d, rfl, J0, nb, up, sky, na, os, ag, w⟩ := hx
  have J : Inv X pins τ G sI := J0.ofTry oky
  rw [hst] at sky
  show wpAny (model X.prog X.w) X.A (noteFrame (.ref a) X.env) _ _ _
  refine Sky.land Zc.steady hA hfr sky fun g3 fl3 up3 => ?_
  have J3 : Inv X pins τ G { z with heap := g3 } := J.landed nb fl3.1 (up.trans up3) os ag
  obtain ⟨o3, v3, e3, y3, d3⟩ := fl3.there
  have off : a ∉ frs (X.env :: X.outer) := by
    intro hm
    obtain ⟨_, o', e', hn⟩ := fl3.2.2.1.mem hm
    rw [e3] at e'
    cases e'
    exact hn _ d3
  have nL : a ≠ X.env.locals := fun q => off (List.mem_filterMap.mpr ⟨X.env, List.mem_cons_self, by rw [hfr, q]⟩)
  have nF : a ∉ X.fs := fun hm => (List.mem_filterMap.mp hm).elim fun e he => off (List.mem_filterMap.mpr ⟨e, List.mem_cons_of_mem _ he.1, he.2⟩)
  have S3 := J3.suite e3 d3 na nL nF
  obtain ⟨b, eb, yes, no⟩ := w
  refine wpAny_handleBy_cons (codeAny_handlers_test ?_) (by intro q; cases q)
  have named : ∀ {x : Str} {c : Value} {p : Pos}, Names X x c → ∀ {Q E : Value → Shared → Prop}, Q c { z with heap := g3 } → wpAny (model X.prog X.w) (X.A.mark (some (.ref a))) (eval (.Name x p) X.env) Q E { z with heap := g3 } := by
    intro x c p hc Q E q
    obtain ⟨k1, k2, k3 | ⟨k3, k4, k5⟩⟩ := hc
    · exact ld_glob (X := X.suite a ((a, o3) :: (X.pn ++ pins))) S3 k1 k3 q k2
    · exact ld_blt (X := X.suite a ((a, o3) :: (X.pn ++ pins))) S3 k1 k3 k4 q k5 k2
  refine wpAny_Tuple ?_
  refine wpAny_items_cons (named hc1 ?_)
  refine wpAny_items_cons (named hc2 ?_)
  refine wpAny_items_nil ⟨by size_fits, ?_⟩
  have kp : ∀ q o, g3.get? q = some o → (g3.push { cls := .type "tuple", data := .seq [c1, c2].toArray }).get? q = some o := fun _ _ z => Heap.get?_push_of_some _ z
  have fl5 := flyingZ_keeps kp fl3
  have up5 := up3.trans (Heap.UpToSlots.of_keeps kp)
  have J5 : Inv X pins τ G { z with heap := g3.push { cls := .type "tuple", data := .seq [c1, c2].toArray } } := J.landed nb fl5.1 (up.trans up5) os ag
  have lk : PySem.W.Looks (model X.prog X.w) (g3.push { cls := .type "tuple", data := .seq [c1, c2].toArray }) (typeOf (.ref a)) cls := fun A Q E s k q => wpAny_typeOf_ref (k _ _ (kp _ _ e3)) (by rw [y3.1]; exact q)
  have lm := PySem.W.exm_tup2 (M := model X.prog X.w) (J5.kIn) lk (Heap.get?_push_size g3 rfl) eb
  refine lm.here ?_
  cases b with
  | false =>
    show wpAny _ X.A (handleBy (.ref a) X.env []) _ _ _
    apply wpAny_handleBy_nil
    obtain ⟨_, _, _, oe, vs, T0, _, _, q1, _, q2, q3, _⟩ := id fl5
    have last : wpAny (model X.prog X.w) X.A (setFlight (.ref a) X.env.frame) (fun _ z4 => wpAny (model X.prog X.w) X.A (throw (.ref a) : Sem Flow) (SP X pins D) X.xe z4) X.xe { z with heap := g3.push { cls := .type "tuple", data := .seq [c1, c2].toArray } } := by
      rw [hfr]
      refine HandSPX.setFlight_upZ fl5 fun g4 hg4 up4 => wpAny_throw (tk _ _ ⟨a, B, sI, pins, τ, G, cls, d, rfl, J, nb, (up.trans up5).trans up4, .inr (.inr ?_), na, os, ag, no rfl⟩)
      rw [hst]
      exact hg4
    unfold PySem.passOn
    refine wpAny_bind (wpAny_field q1 q2 q3 ?_)
    have ne : ¬ ((Value.ref T0 == Value.none) = true) := by simp
    rw [if_neg ne]
    first | exact wpAny_bind (wpAny_pure (wpAny_bind last)) | exact wpAny_bind last
  | true =>
    apply codeAny_handlers_suite_as
    refine HandSPX.lands_againZ fl5 fun g4 fl4 up4 => ?_
    have J4 : Inv X pins τ G { z with heap := g4 } := J.landed nb fl4.1 ((up.trans up5).trans up4) os ag
    obtain ⟨o4, v4, e4, y4, d4⟩ := fl4.there
    have S4 := J4.suite e4 d4 na nL nF
    refine store_ok (X := X.suite a ((a, o4) :: (X.pn ++ pins))) (v := .ref a) S4 hnd hix hL rfl (fun z5 S5 => ?_) (.inr hlo)
    refine wpAny_mono ((hb a o4 cls d (X.pn ++ pins) y4 ⟨_, d4⟩).run [] z5 _ G _ S5 (yes rfl a na)) (fun fl z6 h6 => ?_) (fun _ _ q => False.elim q)
    have away : ∀ {σ6 : L2.St} {H6 : Hp} {Q : Shared → Prop}, Inv (X.suite a ((a, o4) :: (X.pn ++ pins))) [] σ6 H6 z6 → (∀ z7, Inv X pins (σ6.set i none) H6 z7 → Q z7) → wpAny (model X.prog X.w) X.A (do bindName X.env n .none; unbindBehindTheSuite X.env n p4) (fun _ z7 => Q z7) X.xe z6 := by
      intro σ6 H6 Q S6 q
      exact gone_ok (S6.unsuite oky) hnd hix hlo q
    cases fl with
    | ret u => exact h6.elim fun v h => h.elim fun σ6 h => h.elim fun H6 h => away h.1 fun z7 J7 => ⟨v, _, _, J7, h.2⟩
    | next => exact h6.elim fun σ6 h => h.elim fun H6 h => away h.1 fun z7 J7 => ⟨_, _, J7, h.2⟩
    | brk => exact h6.elim fun σ6 h => h.elim fun H6 h => away h.1 fun z7 J7 => ⟨_, _, J7, h.2⟩
    | cont => exact h6.elim fun σ6 h => h.elim fun H6 h => away h.1 fun z7 J7 => ⟨_, _, J7, h.2⟩
end
/-! ### the names of the laws' errors -/
def names15 : List String := ["BadEdit", "BadEdits", "BadRing", "BadText", "Busy", "LastToken", "NoArity", "NoBalance", "NoBeginning", "NothingToUndo", "Rejected", "TooLong", "TooManyEdits", "NoPlace", "NoVersion"]
def kisB (K : PySem.W.Frag) (D : Addr) (u : Value) (b : Bool) : Bool := decide (PySem.W.kitOne K (.ref D) u = some b)
/-- what isinstance tells _law_name of the class D: the one with number j -/
def nameB (K : PySem.W.Frag) (D : Addr) (j : Nat) : Bool :=
  (List.range 15).all (fun i => kisB K D (.ref (He.ga K (names15.getD i ""))) (decide (i = j))) && (kisB K D (.ref (He.ga K "RingError")) (decide (j ≤ 12)) && (kisB K D (.type "ValueError") (decide (j ≤ 12)) && kisB K D (.type "LookupError") (decide (12 < j))))
structure NameE (K : PySem.W.Frag) (D : Addr) (j : Nat) : Prop where
  c : ClsE K D
  lt : j < 15
  k : ∀ i, i < 15 → PySem.W.kitOne K (.ref D) (.ref (He.ga K (names15.getD i ""))) = some (decide (i = j))
  r : PySem.W.kitOne K (.ref D) (.ref (He.ga K "RingError")) = some (decide (j ≤ 12))
  v : PySem.W.kitOne K (.ref D) (.type "ValueError") = some (decide (j ≤ 12))
  l : PySem.W.kitOne K (.ref D) (.type "LookupError") = some (decide (12 < j))
theorem nameB_ok {K : PySem.W.Frag} {D : Addr} {j : Nat} (c : ClsE K D) (lt : j < 15) (h : nameB K D j = true) : NameE K D j := by
  unfold nameB at h
  simp only [Bool.and_eq_true] at h
  obtain ⟨h1, h2, h3, h4⟩ := h
  exact ⟨c, lt, fun i hi => of_decide_eq_true (List.all_eq_true.mp h1 i (List.mem_range.mpr hi)), of_decide_eq_true h2, of_decide_eq_true h3, of_decide_eq_true h4⟩
/-- what isinstance tells _law_field of the class D: the kind k of its field -/
def kindB (K : PySem.W.Frag) (D : Addr) (k : Nat) : Bool :=
  decide (PySem.W.kitAny K (.ref D) [.ref (He.ga K "NoPlace"), .ref (He.ga K "NoVersion"), .ref (He.ga K "NoArity"), .ref (He.ga K "NoBeginning")] = some (decide (k = 0))) &&
  (decide (PySem.W.kitAny K (.ref D) [.ref (He.ga K "BadEdit"), .ref (He.ga K "Rejected"), .ref (He.ga K "BadText")] = some (decide (k = 1))) &&
  (kisB K D (.ref (He.ga K "TooLong")) (decide (k = 2)) && (kisB K D (.ref (He.ga K "NoBalance")) (decide (k = 3)) && kisB K D (.ref (He.ga K "BadRing")) (decide (k = 4)))))
structure KindE (K : PySem.W.Frag) (D : Addr) (k : Nat) : Prop where
  c : ClsE K D
  k0 : PySem.W.kitAny K (.ref D) [.ref (He.ga K "NoPlace"), .ref (He.ga K "NoVersion"), .ref (He.ga K "NoArity"), .ref (He.ga K "NoBeginning")] = some (decide (k = 0))
  k1 : PySem.W.kitAny K (.ref D) [.ref (He.ga K "BadEdit"), .ref (He.ga K "Rejected"), .ref (He.ga K "BadText")] = some (decide (k = 1))
  k2 : PySem.W.kitOne K (.ref D) (.ref (He.ga K "TooLong")) = some (decide (k = 2))
  k3 : PySem.W.kitOne K (.ref D) (.ref (He.ga K "NoBalance")) = some (decide (k = 3))
  k4 : PySem.W.kitOne K (.ref D) (.ref (He.ga K "BadRing")) = some (decide (k = 4))
theorem kindB_ok {K : PySem.W.Frag} {D : Addr} {k : Nat} (c : ClsE K D) (h : kindB K D k = true) : KindE K D k := by
  unfold kindB at h
  simp only [Bool.and_eq_true, decide_eq_true_eq] at h
  obtain ⟨h1, h2, h3, h4, h5⟩ := h
  exact ⟨c, h1, h2, of_decide_eq_true h3, of_decide_eq_true h4, of_decide_eq_true h5⟩
def exmB (K : PySem.W.Frag) (D : Addr) : Bool := decide (PySem.W.exmAny K (.ref D) [.ref (He.ga K "RingError"), .ref (He.ga K "NoPlace")] = some true)
end My

namespace My
open PySem PySem.Spec PyProof.Rows L2
/-! ### reels: objects that change, tuples that stay -/
/-- all tuples stay -/
def KT (H H' : Hp) : Prop := ∀ b xs, (H b = some (.tup xs) → H' b = some (.tup xs)) ∧ ∀ o, H b = some (.frz o (.tup xs)) → H' b = some (.frz o (.tup xs))
/-- all but the object at a stays -/
def KX (a : Addr) (H H' : Hp) : Prop := ∀ b o, b ≠ a → H b = some o → H' b = some o
theorem KT.refl (H : Hp) : KT H H := fun _ _ => ⟨fun e => e, fun _ e => e⟩
theorem KT.trans {H H1 H2 : Hp} (h : KT H H1) (k : KT H1 H2) : KT H H2 := fun b xs => ⟨fun e => (k b xs).1 ((h b xs).1 e), fun o e => (k b xs).2 o ((h b xs).2 o e)⟩
theorem KX.refl (a : Addr) (H : Hp) : KX a H H := fun _ _ _ e => e
theorem KX.trans {a : Addr} {H H1 H2 : Hp} (h : KX a H H1) (k : KX a H1 H2) : KX a H H2 := fun b o n e => k b o n (h b o n e)
end My
namespace L2
theorem Same.kt {H H' : Hp} (h : Same H H') : My.KT H H' := fun b xs => ⟨fun e => h _ _ e, fun o e => h _ _ e⟩
theorem Same.kx {H H' : Hp} (a : PySem.Addr) (h : Same H H') : My.KX a H H' := fun b o _ e => h b o e
end L2
namespace My
open PySem PySem.Spec PyProof.Rows L2
theorem KX.kt {a C dx : Addr} {fs : List (Str × V)} {H H' : Hp} (h : KX a H H') (e : H a = some (.ins C dx fs)) : KT H H' := fun b xs =>
  ⟨fun q => h b _ (fun z => by rw [z, e] at q; cases q) q, fun o q => h b _ (fun z => by rw [z, e] at q; cases q) q⟩
theorem KX.kt_lst {a : Addr} {ys : List V} {H H' : Hp} (h : KX a H H') (e : H a = some (.lst ys)) : KT H H' := fun b xs =>
  ⟨fun q => h b _ (fun z => by rw [z, e] at q; cases q) q, fun o q => h b _ (fun z => by rw [z, e] at q; cases q) q⟩
theorem kx_upd {a : Addr} {H : Hp} {o : HO} : KX a H (upd H a o) := fun b u n e => by
  rw [upd_ne n]
  exact e
theorem SqT.kt {K : PySem.W.Frag} {H H' : Hp} (k : KT H H') {t : Addr} {xs : List V} (h : SqT K H t xs) : SqT K H' t xs := by
  rcases h with (h | ⟨o, h⟩) | h
  · exact .inl (.inl ((k _ _).1 h))
  · exact .inl (.inr ⟨o, (k _ _).2 o h⟩)
  · exact .inr h
mutual
/-- data of tuples alone -/
inductive Dt (K : PySem.W.Frag) (H : Hp) : V → PyData → Prop
  | non : Dt K H .non .none
  | bl (x : Bool) : Dt K H (.bl x) (.bool x)
  | int (i : Int) : Dt K H (.int i) (.int i)
  | str (x : Str) : Dt K H (.str x) (.str x)
  | tup {a : Addr} {xs : List V} {ds : List PyData} : SqT K H a xs → DtAll K H xs ds → Dt K H (.ref a) (.tuple ds)
inductive DtAll (K : PySem.W.Frag) (H : Hp) : List V → List PyData → Prop
  | nil : DtAll K H [] []
  | cons {v : V} {vs : List V} {d : PyData} {ds : List PyData} : Dt K H v d → DtAll K H vs ds → DtAll K H (v :: vs) (d :: ds)
end
mutual
theorem Dt.kt {K : PySem.W.Frag} {H H' : Hp} (e : KT H H') : ∀ {v : V} {d : PyData}, Dt K H v d → Dt K H' v d
  | _, _, .non => .non
  | _, _, .bl x => .bl x
  | _, _, .int i => .int i
  | _, _, .str x => .str x
  | _, _, .tup h a => .tup (SqT.kt e h) (DtAll.kt e a)
theorem DtAll.kt {K : PySem.W.Frag} {H H' : Hp} (e : KT H H') : ∀ {vs : List V} {ds : List PyData}, DtAll K H vs ds → DtAll K H' vs ds
  | _, _, .nil => .nil
  | _, _, .cons h a => .cons (Dt.kt e h) (DtAll.kt e a)
end
mutual
theorem Dt.dq {K : PySem.W.Frag} {H : Hp} {b : Bool} : ∀ {v : V} {d : PyData}, Dt K H v d → Dq b K H v d
  | _, _, .non => .non
  | _, _, .bl x => .bl x
  | _, _, .int i => .int i
  | _, _, .str x => .str x
  | _, _, .tup h a => .tup h (DtAll.dq a)
theorem DtAll.dq {K : PySem.W.Frag} {H : Hp} {b : Bool} : ∀ {vs : List V} {ds : List PyData}, DtAll K H vs ds → DqAll b K H vs ds
  | _, _, .nil => .nil
  | _, _, .cons h a => .cons (Dt.dq h) (DtAll.dq a)
end
section
variable {K : PySem.W.Frag} {H H' : Hp}
theorem DtAll.len : ∀ {xs : List V} {ds : List PyData}, DtAll K H xs ds → xs.length = ds.length
  | _, _, .nil => rfl
  | _, _, .cons _ a => congrArg (· + 1) a.len
theorem DtAll.snoc : ∀ {xs : List V} {ds : List PyData} {v : V} {d : PyData}, DtAll K H xs ds → Dt K H v d → DtAll K H (xs ++ [v]) (ds ++ [d])
  | _, _, _, _, .nil, h => .cons h .nil
  | _, _, _, _, .cons g a, h => .cons g (a.snoc h)
theorem DtAll.snoc_of : ∀ {xs : List V} {ds : List PyData} {d : PyData}, DtAll K H xs (ds ++ [d]) → ∃ ys v, xs = ys ++ [v] ∧ DtAll K H ys ds ∧ Dt K H v d
  | _, [], _, .cons h .nil => ⟨[], _, rfl, .nil, h⟩
  | _, _ :: ds, _, .cons h a => by
    obtain ⟨ys, v, rfl, h1, h2⟩ := a.snoc_of
    exact ⟨_ :: ys, v, rfl, .cons h h1, h2⟩
theorem DtAll.get : ∀ {xs : List V} {ds : List PyData} {i : Nat} {d : PyData}, DtAll K H xs ds → ds[i]? = some d → ∃ v, xs[i]? = some v ∧ Dt K H v d
  | _, _, 0, _, .cons h _, e => ⟨_, rfl, by cases e; exact h⟩
  | _, _, i + 1, _, .cons _ a, e => a.get (i := i) e
  | _, _, 0, _, .nil, e => nomatch e
  | _, _, _ + 1, _, .nil, e => nomatch e
/-- a tuple's data: its items -/
theorem Dt.tuple_of {v : V} {ds : List PyData} (h : Dt K H v (.tuple ds)) : ∃ t xs, v = .ref t ∧ SqT K H t xs ∧ DtAll K H xs ds := by
  cases h with
  | tup h a => exact ⟨_, _, rfl, h, a⟩
def rgD (ns : List Int) : PyData := .tuple (ns.map PyData.int)
theorem dtAll_ints : ∀ ns : List Int, DtAll K H (ns.map V.int) (ns.map PyData.int)
  | [] => .nil
  | n :: ns => .cons (.int n) (dtAll_ints ns)
theorem dtAll_ints_of : ∀ {ns : List Int} {xs : List V}, DtAll K H xs (ns.map PyData.int) → xs = ns.map V.int
  | [], _, .nil => rfl
  | n :: ns, _, .cons h a => by
    cases h
    rw [dtAll_ints_of a]
    rfl
theorem dt_rg {t : Addr} {ns : List Int} (h : TupI K H t ns) : Dt K H (.ref t) (rgD ns) := .tup h (dtAll_ints ns)
theorem dt_rg_of {v : V} {ns : List Int} (h : Dt K H v (rgD ns)) : ∃ t, v = .ref t ∧ TupI K H t ns := by
  obtain ⟨t, xs, rfl, h1, h2⟩ := h.tuple_of
  rw [dtAll_ints_of h2] at h1
  exact ⟨t, rfl, h1⟩
/-- t[:-1] -/
theorem slT_init {a : Addr} {xs : List V} {x : V} {Q : VK} (hT : SqT K H a (xs ++ [x])) (h : ∀ H' d, Same H H' → SqT K H' d xs → Q (.ref d) H') : rSlA K (.ref a) none (some (-1)) H Q := by
  have ex : HT.sIx (xs ++ [x]).length (xs ++ [x]).length (some (-1)) = xs.length := by
    show (if (-1 : Int) < 0 then ((-1 : Int) + ((xs ++ [x]).length : Int)).toNat else min (-1 : Int).toNat (xs ++ [x]).length) = xs.length
    rw [if_pos (by omega), List.length_append]
    show ((-1 : Int) + ((xs.length + 1 : Nat) : Int)).toNat = xs.length
    omega
  refine ⟨a, _, rfl, hT, fun e => ?_, fun e d nd => ?_⟩
  · exfalso
    have := e.2
    rw [ex, List.length_append] at this
    have : xs.length = xs.length + 1 := this
    omega
  · refine h _ d (same_upd nd) (.inl (.inl ?_))
    rw [upd_same]
    have : cutV (xs ++ [x]) none (some (-1)) = xs := by
      unfold cutV
      rw [ex, HT.sIx_none]
      simp
    rw [this]
end
/-- what a reel shows -/
structure RS where
  rs : List (List Int)
  es : List PyData
  ss : List Int
  ch : Option Nat
  b : Bool
/-- the reel of the class C at a -/
def RO (K : PySem.W.Frag) (H : Hp) (a C : Addr) (r : RS) : Prop := ∃ (dx : Addr) (vr vd vs : V), H a = some (.ins C dx [("rings", vr), ("done", vd), ("starts", vs), ("chosen", optV r.ch), ("busy", .bl r.b)]) ∧
  Dt K H vr (.tuple (r.rs.map rgD)) ∧ Dt K H vd (.tuple r.es) ∧ Dt K H vs (rgD r.ss)
theorem RO.kt {K : PySem.W.Frag} {H H' : Hp} {a C : Addr} {r : RS} (h : RO K H a C r) (k : KT H H') (e : ∀ C dx fs, H a = some (.ins C dx fs) → H' a = some (.ins C dx fs)) : RO K H' a C r := by
  obtain ⟨dx, vr, vd, vs, h1, h2, h3, h4⟩ := h
  exact ⟨dx, vr, vd, vs, e _ _ _ h1, h2.kt k, h3.kt k, h4.kt k⟩
theorem RO.same {K : PySem.W.Frag} {H H' : Hp} {a C : Addr} {r : RS} (h : RO K H a C r) (k : Same H H') : RO K H' a C r := h.kt k.kt fun _ _ _ => k _ _
/-! ### an edit's outcome -/
inductive EdR
  | bad (c : Str) (f : Option (Str × V))
  | ok (ms : List Int)
def vNat : V → Nat
  | .int i => i.toNat
  | _ => 0
def vInt : V → Int
  | .int i => i
  | _ => 0
def insL (ns : List Int) (p : Nat) (x : Int) : List Int := ns.take p ++ [x] ++ ns.drop p
def remL (ns : List Int) (p : Nat) : List Int := ns.take p ++ ns.drop (p + 1)
def edPut (ns : List Int) (p x : V) : EdR := if ixB p (ns.length : Int) = false then .bad "NoPlace" (some ("value", p)) else if arB x = false then .bad "NoArity" (some ("value", x)) else .ok (ns.set (vNat p) (vInt x))
def edIns (ns : List Int) (p x : V) : EdR := if ixB p ((ns.length + 1 : Nat) : Int) = false then .bad "NoPlace" (some ("value", p)) else if arB x = false then .bad "NoArity" (some ("value", x)) else
  if ns.length = 24 then .bad "TooLong" (some ("limit", .int 24)) else .ok (insL ns (vNat p) (vInt x))
def edRem (ns : List Int) (p : V) : EdR := if ixB p (ns.length : Int) = false then .bad "NoPlace" (some ("value", p)) else if ns.length = 1 then .bad "LastToken" none else .ok (remL ns (vNat p))
/-- an edit's word and arguments -/
def edA (ns : List Int) (w : Str) : List V → Option EdR
  | [p, x] => if w = "put" then some (edPut ns p x) else if w = "insert" then some (edIns ns p x) else none
  | [p] => if w = "remove" then some (edRem ns p) else none
  | _ => none
/-- the error that is told -/
def FldAt (H : Hp) (d : Option Addr) : Option (Str × V) → Prop
  | none => d = none
  | some q => ∃ dd, d = some dd ∧ H dd = some (.xd [q])
/-- what is promised of an edit's outcome -/
def EdTo (K : PySem.W.Frag) (H : Hp) (o : EdR) (Q : VK) (E : XK) : Prop := match o with
  | .bad c f => ∀ H' d, Same H H' → FldAt H' d f → E (.ref (He.ga K c)) d H'
  | .ok ms => ∀ H' t, Same H H' → TupI K H' t ms → Q (.ref t) H'
end My
namespace My
open PySem PySem.Spec PyProof.Rows L2
theorem ix_int {n m : Nat} (h : n < m) : ixB (.int (n : Int)) (m : Int) = true := by
  show (decide ((0 : Int) ≤ (n : Int)) && decide ((n : Int) < (m : Int))) = true
  rw [decide_eq_true (by omega), decide_eq_true (by omega)]
  rfl
theorem ix_of {v : V} {n : Nat} (h : ixB v (n : Int) = true) : ∃ p : Nat, v = .int (p : Int) ∧ p < n := by
  rcases ix_cases (v := v) (n := n) with z | z
  · exact z
  · rw [z] at h
    cases h
theorem ar_of {v : V} (h : arB v = true) : ∃ i : Int, v = .int i := by
  cases v with
  | int i => exact ⟨i, rfl⟩
  | _ => cases h
end My
namespace My
open PySem PySem.Spec PyProof.Rows L2
theorem edA2 (ns : List Int) (u : Str) (p x : V) : edA ns u [p, x] = if u = "put" then some (edPut ns p x) else if u = "insert" then some (edIns ns p x) else none := rfl
theorem edA1 (ns : List Int) (u : Str) (p : V) : edA ns u [p] = if u = "remove" then some (edRem ns p) else none := rfl
end My
namespace My
open PySem PySem.Spec PyProof.Rows L2
/-- what a call of a reel does -/
inductive Rz
  | bad (c : Str) (f : Option (Str × V))
  | ok (r : RS)
def doR (r : RS) (o : EdR) (ed : PyData) : Rz := if 60 ≤ r.es.length then .bad "TooManyEdits" none else match o with
  | .bad c f => .bad c f
  | .ok ms => .ok ⟨r.rs ++ [ms], r.es ++ [ed], ofN (bgn ms), none, r.b⟩
def idR (r : RS) (z : Rz) : Rz := if r.b = true then .bad "Busy" none else z
def undoR (r : RS) : Rz := if r.es.length = 0 then .bad "NothingToUndo" none else .ok ⟨r.rs.dropLast, r.es.dropLast, ofN (bgn (r.rs.dropLast.getLastD [])), none, r.b⟩
def RzTo (K : PySem.W.Frag) (H : Hp) (x C : Addr) (z : Rz) (Q : VK) (E : XK) : Prop := match z with
  | .bad c f => ∀ H' d, Same H H' → FldAt H' d f → E (.ref (He.ga K c)) d H'
  | .ok r => ∀ H', KX x H H' → RO K H' x C r → Q (.int (r.es.length : Int)) H'
/-- what holds of every reel -/
structure RsOk (r : RS) : Prop where
  len : r.rs.length = r.es.length + 1
  rg : ∀ ns ∈ r.rs, Ring ns
  le : r.es.length ≤ 60
theorem RsOk.last {r : RS} (h : RsOk r) : ∃ rs ns, r.rs = rs ++ [ns] ∧ Ring ns := by
  have := h.len
  have hn : r.rs ≠ [] := by
    intro z
    rw [z] at this
    cases this
  exact ⟨_, _, (List.dropLast_concat_getLast hn).symm, h.rg _ (List.getLast_mem hn)⟩
theorem tok_ar {x : V} (h : arB x = true) : ∃ i : Int, x = .int i ∧ 0 ≤ i ∧ i ≤ 5 := by
  rcases ix_cases (v := x) (n := 6) with ⟨p, rfl, hp⟩ | z
  · exact ⟨p, rfl, by omega, by omega⟩
  · have : arB x = false := z
    rw [this] at h
    cases h
theorem edA_ring {ns ms : List Int} {u : Str} {xs : List V} (rg : Ring ns) (h : edA ns u xs = some (.ok ms)) : Ring ms := by
  obtain ⟨r1, r2, r3⟩ := rg
  match xs, h with
  | [p, x], h =>
    rw [edA2] at h
    by_cases c1 : u = "put"
    · rw [if_pos c1] at h
      have h : edPut ns p x = .ok ms := Option.some.inj h
      unfold edPut at h
      split at h
      · cases h
      · split at h
        · cases h
        · rename_i c2 c3
          obtain ⟨i, rfl, i0, i5⟩ := tok_ar (Bool.of_not_eq_false c3)
          cases h
          refine ⟨by rw [List.length_set]; exact r1, by rw [List.length_set]; exact r2, fun y hy => ?_⟩
          rcases List.mem_or_eq_of_mem_set hy with z | z
          · exact r3 y z
          · rw [z]
            exact ⟨i0, i5⟩
    · rw [if_neg c1] at h
      by_cases c2 : u = "insert"
      · rw [if_pos c2] at h
        have h : edIns ns p x = .ok ms := Option.some.inj h
        unfold edIns at h
        split at h
        · cases h
        · split at h
          · cases h
          · split at h
            · cases h
            · rename_i c3 c4 c5
              obtain ⟨i, rfl, i0, i5⟩ := tok_ar (Bool.of_not_eq_false c4)
              cases h
              unfold insL
              refine ⟨by simp; omega, ?_, fun y hy => ?_⟩
              · simp only [List.length_append, List.length_take, List.length_drop, List.length_cons, List.length_nil]
                omega
              · rcases List.mem_append.mp hy with hy | hy
                · rcases List.mem_append.mp hy with hy | hy
                  · exact r3 y (List.mem_of_mem_take hy)
                  · rw [List.mem_singleton.mp hy]
                    exact ⟨i0, i5⟩
                · exact r3 y (List.mem_of_mem_drop hy)
      · rw [if_neg c2] at h
        cases h
  | [p], h =>
    rw [edA1] at h
    by_cases c1 : u = "remove"
    · rw [if_pos c1] at h
      have h : edRem ns p = .ok ms := Option.some.inj h
      unfold edRem at h
      split at h
      · cases h
      · split at h
        · cases h
        · rename_i c2 c3
          obtain ⟨n, rfl, hn⟩ := ix_of (Bool.of_not_eq_false c2)
          cases h
          unfold remL
          have e : vNat (.int (n : Int)) = n := rfl
          rw [e]
          refine ⟨?_, ?_, fun y hy => ?_⟩
          · simp only [List.length_append, List.length_take, List.length_drop]
            omega
          · simp only [List.length_append, List.length_take, List.length_drop]
            omega
          · rcases List.mem_append.mp hy with hy | hy
            · exact r3 y (List.mem_of_mem_take hy)
            · exact r3 y (List.mem_of_mem_drop hy)
    · rw [if_neg c1] at h
      cases h
  | [], h => cases h
  | _ :: _ :: _ :: _, h => cases h
end My
namespace My
open PySem PySem.Spec PyProof.Rows L2
theorem new_fld {x C dx : Addr} {fs fs' : List (Str × V)} {H : Hp} (hx : H x = some (.ins C dx fs)) (f : Str) (v : V) (e : putF f v fs = fs') : ∃ H', upd H x (.ins C dx (putF f v fs)) = H' ∧ KX x H H' ∧ KT H H' ∧ H' x = some (.ins C dx fs') :=
  ⟨_, rfl, kx_upd, kx_upd.kt hx, by rw [e]; exact upd_same⟩
theorem new_tup {H : Hp} {p : Addr} (np : H p = none) (xs : List V) : ∃ H', upd H p (.tup xs) = H' ∧ Same H H' ∧ H' p = some (.tup xs) := ⟨_, rfl, same_upd np, upd_same⟩
theorem new_lst {H : Hp} {p : Addr} (np : H p = none) (xs : List V) : ∃ H', upd H p (.lst xs) = H' ∧ Same H H' ∧ H' p = some (.lst xs) := ⟨_, rfl, same_upd np, upd_same⟩
end My
namespace My
open PySem PySem.Spec PyProof.Rows L2
theorem RzTo.same {K : PySem.W.Frag} {H H1 : Hp} {x C : Addr} {z : Rz} {Q : VK} {E : XK} (h : RzTo K H x C z Q E) (s : Same H H1) : RzTo K H1 x C z Q E := by
  cases z with
  | bad c f => exact fun H' d s1 => h H' d (s.trans s1)
  | ok r => exact fun H' k => h H' ((s.kx x).trans k)
theorem last_of {α : Type} {xs : List α} {x : α} (h : xs.getLast? = some x) : ∃ ys, xs = ys ++ [x] := by
  have hn : xs ≠ [] := by
    intro z
    rw [z] at h
    cases h
  rw [List.getLast?_eq_some_getLast hn] at h
  cases h
  exact ⟨_, (List.dropLast_concat_getLast hn).symm⟩
end My
namespace My
open PySem PySem.Spec PyProof.Rows L2
theorem sok_fit {n : Nat} {x : Str} (h : Sok n x) : Fit n 0 (.str x) := by
  refine ⟨rfl, ?_, h.1, Nat.zero_le _⟩
  show List.all (TL.tl x) _ = true
  rw [List.all_eq_true]
  exact fun c hc => decide_eq_true (h.2 c hc)
theorem sok_txI {i : Int} (h : i.natAbs < 10 ^ 30) : Sok 31 (txI i) := ⟨txI_len h, fun c hc => by
  have := (fit_itext h).lv
  have : List.all (TL.tl (txI i)) _ = true := this
  exact of_decide_eq_true (List.all_eq_true.mp this c hc)⟩
theorem empty_app (x : Str) : Str.empty ++ x = x := by
  refine TL.ext_tl ?_
  rw [TL.tl_append]
  rfl
/-- a reel's text -/
def strR (ns : List Int) (n : Nat) : Str := txI (ns.length : Int) ++ " tokens, balance " ++ txI (bal ns) ++ ", " ++ txI (n : Int) ++ " edits"
theorem bal_small {ns : List Int} (h : Ring ns) : (bal ns).natAbs < 10 ^ 30 := by
  have h1 : ∀ (ms : List Int), (∀ x ∈ ms, 0 ≤ x ∧ x ≤ 5) → 0 ≤ ms.sum ∧ ms.sum ≤ 5 * ms.length := by
    intro ms
    induction ms with
    | nil => exact fun _ => ⟨Int.le_refl _, Int.le_refl _⟩
    | cons x ms ih =>
      intro hx
      obtain ⟨a, b⟩ := ih fun y hy => hx y (List.mem_cons_of_mem _ hy)
      obtain ⟨c, d⟩ := hx x List.mem_cons_self
      rw [List.sum_cons, List.length_cons]
      omega
  obtain ⟨a, b⟩ := h1 ns h.2.2
  have := h.2.1
  unfold bal
  have e : (10 : Nat) ^ 30 = 1000000000000000000000000000000 := by decide
  rw [e]
  omega
theorem sok_s1 : Sok 17 " tokens, balance " := sok_of (by decide +kernel)
theorem sok_s2 : Sok 2 ", " := sok_of (by decide +kernel)
theorem sok_s3 : Sok 6 " edits" := sok_of (by decide +kernel)
theorem small_nat {n : Nat} (h : n ≤ 1000) : ((n : Nat) : Int).natAbs < 10 ^ 30 := by
  rw [Int.natAbs_natCast]
  exact Nat.lt_of_le_of_lt h (by decide)
theorem sok_strR {ns : List Int} {n : Nat} (h : Ring ns) (hn : n ≤ 60) : Sok 118 (strR ns n) :=
  (((((sok_txI (small_nat (by have := h.2.1; omega))).app sok_s1).app (sok_txI (bal_small h))).app sok_s2).app (sok_txI (small_nat (by omega)))).app sok_s3
end My
namespace My
open PySem PySem.Spec PyProof.Rows L2
theorem roomH_units {k : Nat} {A : Around} (r : L2H.RoomH k A) : A.units + 64 < cLine := by
  have := r.un
  omega
end My
namespace My
open PySem PySem.Spec PyProof.Rows L2
theorem KX.free {x l : Addr} {H H' : Hp} {o : HO} (k : KX x H H') (e : H' x = some o) (n : H' l = none) : H l = none := by
  cases c : H l with
  | none => rfl
  | some u =>
    have hl : l ≠ x := fun z => by
      rw [z, e] at n
      cases n
    rw [k l u hl c] at n
    cases n
end My
namespace My
open PySem PySem.Spec PyProof.Rows L2
theorem wh_ix (v : V) (n : Nat) (b : Int) (h : b = (n : Int) - 1) : whB v 0 b = ixB v (n : Int) := by
  subst h
  cases v with
  | int i =>
    show (decide ((0 : Int) ≤ i) && decide (i ≤ (n : Int) - 1)) = (decide ((0 : Int) ≤ i) && decide (i < (n : Int)))
    congr 1
    by_cases c : i < (n : Int)
    · rw [decide_eq_true c, decide_eq_true (by omega)]
    · rw [decide_eq_false c, decide_eq_false (by omega)]
  | _ => rfl
theorem wh_ar (v : V) : whB v 0 5 = arB v := wh_ix v 6 5 rfl
theorem mset_int' (ns : List Int) (p : Nat) (x : Int) (hp : p < ns.length) : (ns.map V.int).take p ++ [V.int x] ++ (ns.map V.int).drop (p + 1) = (ns.set p x).map V.int := by
  rw [List.set_eq_take_append_cons_drop, if_pos hp, List.map_append, List.map_cons, List.map_take, List.map_drop, List.append_assoc]
  rfl
theorem insL_int (ns : List Int) (p : Nat) (x : Int) : (ns.map V.int).take p ++ [V.int x] ++ (ns.map V.int).drop p = (insL ns p x).map V.int := by
  unfold insL
  rw [List.map_append, List.map_append, List.map_take, List.map_drop]
  rfl
theorem remL_int (ns : List Int) (p : Nat) : (ns.map V.int).take p ++ [] ++ (ns.map V.int).drop (p + 1) = (remL ns p).map V.int := by
  unfold remL
  rw [List.append_nil, List.map_append, List.map_take, List.map_drop]
end My
namespace My
open PySem PySem.Spec PyProof.Rows L2
theorem sx_kt {S A B : Addr} {t : Nat} {H H' : Hp} (st : Strm H S A B t) (sx : SameX S A H H') : KT H H' := fun b xs => by
  obtain ⟨as, ha, _⟩ := st.a
  have hs := st.s
  refine ⟨fun e => sx _ _ e (fun z => ?_) (fun z => ?_), fun o e => sx _ _ e (fun z => ?_) (fun z => ?_)⟩ <;> subst z
  · rw [e] at hs
    cases hs
  · rw [e] at ha
    cases ha
  · rw [e] at hs
    cases hs
  · rw [e] at ha
    cases ha
end My
namespace My
open PySem PySem.Spec PyProof.Rows L2
theorem edA_bad {ns : List Int} {u : Str} {xs : List V} {c : Str} {f : Option (Str × V)} (h : edA ns u xs = some (.bad c f)) :
    (c = "NoPlace" ∧ ∃ y ∈ xs, f = some (("value" : Str), y)) ∨ (c = "NoArity" ∧ ∃ y ∈ xs, f = some (("value" : Str), y)) ∨ (c = "TooLong" ∧ f = some (("limit" : Str), V.int 24)) ∨ (c = "LastToken" ∧ f = none) := by
  match xs, h with
  | [p, x], h =>
    rw [edA2] at h
    by_cases c1 : u = "put"
    · rw [if_pos c1] at h
      have h : edPut ns p x = .bad c f := Option.some.inj h
      unfold edPut at h
      split at h
      · cases h
        exact .inl ⟨rfl, p, List.mem_cons_self, rfl⟩
      · split at h
        · cases h
          exact .inr (.inl ⟨rfl, x, List.mem_cons_of_mem _ List.mem_cons_self, rfl⟩)
        · cases h
    · rw [if_neg c1] at h
      by_cases c2 : u = "insert"
      · rw [if_pos c2] at h
        have h : edIns ns p x = .bad c f := Option.some.inj h
        unfold edIns at h
        split at h
        · cases h
          exact .inl ⟨rfl, p, List.mem_cons_self, rfl⟩
        · split at h
          · cases h
            exact .inr (.inl ⟨rfl, x, List.mem_cons_of_mem _ List.mem_cons_self, rfl⟩)
          · split at h
            · cases h
              exact .inr (.inr (.inl ⟨rfl, rfl⟩))
            · cases h
      · rw [if_neg c2] at h
        cases h
  | [p], h =>
    rw [edA1] at h
    by_cases c1 : u = "remove"
    · rw [if_pos c1] at h
      have h : edRem ns p = .bad c f := Option.some.inj h
      unfold edRem at h
      split at h
      · cases h
        exact .inl ⟨rfl, p, List.mem_cons_self, rfl⟩
      · split at h
        · cases h
          exact .inr (.inr (.inr ⟨rfl, rfl⟩))
        · cases h
    · rw [if_neg c1] at h
      cases h
  | [], h => cases h
  | _ :: _ :: _ :: _, h => cases h
theorem rs_do {r : RS} (ok : RsOk r) {ms : List Int} {ed : PyData} (g : Ring ms) (c : ¬ 60 ≤ r.es.length) (b : Bool) (ch : Option Nat) (ss : List Int) : RsOk ⟨r.rs ++ [ms], r.es ++ [ed], ss, ch, b⟩ := by
  refine ⟨?_, fun ns hn => ?_, ?_⟩
  · show (r.rs ++ [ms]).length = (r.es ++ [ed]).length + 1
    rw [List.length_append, List.length_append, ok.len]
    rfl
  · rcases List.mem_append.mp hn with z | z
    · exact ok.rg ns z
    · rw [List.mem_singleton.mp z]
      exact g
  · show (r.es ++ [ed]).length ≤ 60
    rw [List.length_append]
    show r.es.length + 1 ≤ 60
    omega
theorem getLast?_snoc {α : Type} (xs : List α) (x : α) : (xs ++ [x]).getLast? = some x := by simp
end My
namespace My
open PySem PySem.Spec PyProof.Rows L2
theorem small_of {i : Int} (h0 : 0 ≤ i) (h1 : i ≤ 1000) : i.natAbs < 10 ^ 30 := by
  have e : (10 : Nat) ^ 30 = 1000000000000000000000000000000 := by decide
  rw [e]
  omega
theorem fit_rg {ns : List Int} (h : ns.length ≤ 24) (h2 : ∀ x ∈ ns, 0 ≤ x ∧ x ≤ 1000) : Fit 24 5 (rgD ns) :=
  (fit_tuple (fitAll_ints ns 4 fun x hx => small_of (h2 x hx).1 (h2 x hx).2)).mono h (Nat.le_refl _)
theorem begs_small {ns : List Int} (h : ns.length ≤ 24) : (ofN (bgn ns)).length ≤ 24 ∧ ∀ x ∈ ofN (bgn ns), 0 ≤ x ∧ x ≤ 1000 := by
  refine ⟨?_, fun x hx => ?_⟩
  · rw [ofN_len]
    exact Nat.le_trans (bgU_len ns ns.length) h
  · obtain ⟨p, hp, rfl⟩ := mem_ofN.mp hx
    have := (mem_bgn.mp hp).1
    omega
theorem fitAll_of {n k : Nat} : ∀ {ds : List PyData}, (∀ d ∈ ds, Fit n k d) → FitAll ((n + 1) * ds.length) k ds
  | [], _ => fitAll_nil _ _
  | d :: ds, h => by
    refine (fitAll_cons (h d List.mem_cons_self) (fitAll_of fun e he => h e (List.mem_cons_of_mem _ he))).mono ?_ (Nat.le_refl _)
    rw [List.length_cons, Nat.mul_add]
    omega
end My
namespace My
open PySem PySem.Spec PyProof.Rows L2
/-- all but two lists stays -/
def KL (p q : Addr) (H H' : Hp) : Prop := ∀ b o, b ≠ p → b ≠ q → H b = some o → H' b = some o
theorem KL.refl (p q : Addr) (H : Hp) : KL p q H H := fun _ _ _ _ e => e
theorem KL.trans {p q : Addr} {H H1 H2 : Hp} (h : KL p q H H1) (k : KL p q H1 H2) : KL p q H H2 := fun b o n m e => k b o n m (h b o n m e)
theorem KL.kt {p q : Addr} {xs ys : List V} {H H' : Hp} (h : KL p q H H') (e1 : H p = some (.lst xs)) (e2 : H q = some (.lst ys)) : KT H H' := fun b zs =>
  ⟨fun e => h b _ (fun z => by rw [z, e1] at e; cases e) (fun z => by rw [z, e2] at e; cases e) e, fun o e => h b _ (fun z => by rw [z, e1] at e; cases e) (fun z => by rw [z, e2] at e; cases e) e⟩
theorem new_put {H : Hp} {l : Addr} (xs : List V) : ∃ H', upd H l (.lst xs) = H' ∧ KX l H H' ∧ H' l = some (.lst xs) := ⟨_, rfl, kx_upd, upd_same⟩
end My

namespace My
open PySem PySem.Spec PyProof.Rows L2
/-! ### a property that is stored; a class that a local holds; a classmethod through an instance -/
section
variable {X : Cx} {CX : CXT} {k i : Nat} {C p g f a dx : Addr} {fs : List (Str × V)} {n m x : Str} {ps : List Str} {sp : Sp} {E : XK} {pins : List (Addr × Obj)} {σ : L2.St} {H : Hp} {s : Shared} {o e value : Expr} {es : List Expr} {pos pos' apos px : Pos} {ta tv : TE} {t : TA}
end
end My
namespace My
open PySem PySem.Spec PyProof.Rows L2
theorem doR_bad {r : RS} {o : EdR} {ed : PyData} {c : Str} {f : Option (Str × V)} (h : doR r o ed = .bad c f) : (c = "TooManyEdits" ∧ f = none) ∨ o = .bad c f := by
  unfold doR at h
  split at h
  · cases h
    exact .inl ⟨rfl, rfl⟩
  · cases o with
    | bad c2 f2 =>
      cases h
      exact .inr rfl
    | ok ms => cases h
theorem doR_ok {r r2 : RS} {o : EdR} {ed : PyData} (h : doR r o ed = .ok r2) : ¬ 60 ≤ r.es.length ∧ ∃ ms, o = .ok ms ∧ r2 = ⟨r.rs ++ [ms], r.es ++ [ed], ofN (bgn ms), none, r.b⟩ := by
  unfold doR at h
  split at h
  · cases h
  · rename_i c
    cases o with
    | bad c2 f2 => cases h
    | ok ms =>
      cases h
      exact ⟨c, ms, rfl, rfl⟩
/-- what the row (.str u :: xs) does to the reel r, whose ring is ns -/
def ZOf (K : PySem.W.Frag) (H : Hp) (r : RS) (ns : List Int) (u : Str) (xs : List V) (z : Rz) : Prop := (u = "undo" ∧ z = undoR r) ∨ ∃ o ds, (u = "put" ∨ u = "insert" ∨ u = "remove") ∧
  (∀ ms, o = .ok ms → DtAll K H xs ds ∧ Fit 50 5 (.tuple (.str u :: ds))) ∧ (∀ y ∈ xs, Kd K H y ∧ ∃ d, Dq true K H y d ∧ Fit 100 10 d) ∧ edA ns u xs = some o ∧ z = doR r o (.tuple (.str u :: ds))
theorem edA_ints {ns ms : List Int} {u : Str} {xs : List V} (hn : ns.length ≤ 24) (h : edA ns u xs = some (.ok ms)) : ∃ is : List Int, xs = is.map V.int ∧ is.length ≤ 2 ∧ ∀ i ∈ is, 0 ≤ i ∧ i ≤ 100 := by
  match xs, h with
  | [p, x], h =>
    rw [edA2] at h
    by_cases c1 : u = "put"
    · rw [if_pos c1] at h
      have h : edPut ns p x = .ok ms := Option.some.inj h
      unfold edPut at h
      split at h
      · cases h
      · split at h
        · cases h
        · rename_i c2 c3
          obtain ⟨i, rfl, i0, i5⟩ := tok_ar (Bool.of_not_eq_false c3)
          obtain ⟨n, rfl, hn2⟩ := ix_of (Bool.of_not_eq_false c2)
          refine ⟨[(n : Int), i], rfl, by show 2 ≤ 2; decide, fun j hj => ?_⟩
          simp only [List.mem_cons, List.not_mem_nil, or_false] at hj
          rcases hj with rfl | rfl <;> omega
    · rw [if_neg c1] at h
      by_cases c2 : u = "insert"
      · rw [if_pos c2] at h
        have h : edIns ns p x = .ok ms := Option.some.inj h
        unfold edIns at h
        split at h
        · cases h
        · split at h
          · cases h
          · split at h
            · cases h
            · rename_i c3 c4 c5
              obtain ⟨i, rfl, i0, i5⟩ := tok_ar (Bool.of_not_eq_false c4)
              obtain ⟨n, rfl, hn2⟩ := ix_of (Bool.of_not_eq_false c3)
              refine ⟨[(n : Int), i], rfl, by show 2 ≤ 2; decide, fun j hj => ?_⟩
              simp only [List.mem_cons, List.not_mem_nil, or_false] at hj
              rcases hj with rfl | rfl <;> omega
      · rw [if_neg c2] at h
        cases h
  | [p], h =>
    rw [edA1] at h
    by_cases c1 : u = "remove"
    · rw [if_pos c1] at h
      have h : edRem ns p = .ok ms := Option.some.inj h
      unfold edRem at h
      split at h
      · cases h
      · split at h
        · cases h
        · rename_i c2 c3
          obtain ⟨n, rfl, hn2⟩ := ix_of (Bool.of_not_eq_false c2)
          refine ⟨[(n : Int)], rfl, by show 1 ≤ 2; decide, fun j hj => ?_⟩
          rw [List.mem_singleton.mp hj]
          omega
    · rw [if_neg c1] at h
      cases h
  | [], h => cases h
  | _ :: _ :: _ :: _, h => cases h
/-- an edit's word, and how many arguments it has -/
def EdS (u : Str) (xs : List V) : Prop := (xs.length = 2 ∧ (u = "put" ∨ u = "insert")) ∨ (xs.length = 1 ∧ u = "remove")
theorem EdS.word {u : Str} {xs : List V} (h : EdS u xs) : u = "put" ∨ u = "insert" ∨ u = "remove" := by
  rcases h with ⟨_, h | h⟩ | ⟨_, h⟩
  · exact .inl h
  · exact .inr (.inl h)
  · exact .inr (.inr h)
theorem EdS.ed {u : Str} {xs : List V} (h : EdS u xs) (ns : List Int) : ∃ o, edA ns u xs = some o := by
  rcases h with ⟨hl, h⟩ | ⟨hl, rfl⟩
  · match xs, hl with
    | [p, x], _ =>
      rw [edA2]
      rcases h with rfl | rfl
      · exact ⟨_, if_pos rfl⟩
      · exact ⟨_, by rw [if_neg (by decide), if_pos rfl]⟩
  · match xs, hl with
    | [p], _ =>
      rw [edA1]
      exact ⟨_, if_pos rfl⟩
theorem zof_ed {K : PySem.W.Frag} {H : Hp} {r : RS} {ns : List Int} {u : Str} {xs : List V} (rg : Ring ns) (hu : EdS u xs) (kx : ∀ y ∈ xs, Kd K H y ∧ ∃ d, Dq true K H y d ∧ Fit 100 10 d) : ∃ z, ZOf K H r ns u xs z := by
  obtain ⟨o, ho⟩ := hu.ed ns
  have fu : Fit 10 0 (.str u) := by
    rcases hu.word with rfl | rfl | rfl <;> exact sok_fit (sok_of (by decide +kernel))
  cases o with
  | bad c f => exact ⟨_, .inr ⟨.bad c f, [], hu.word, (fun ms e => (nomatch e)), kx, ho, rfl⟩⟩
  | ok ms =>
    obtain ⟨is, rfl, hl, hi⟩ := edA_ints rg.2.1 ho
    have fi := fitAll_ints is 4 fun x hx => small_of (hi x hx).1 (by have := (hi x hx).2; omega)
    exact ⟨_, .inr ⟨_, is.map PyData.int, hu.word, fun _ _ => ⟨dtAll_ints is, (fit_tuple (fitAll_cons (fu.mono (Nat.le_refl _) (show 0 ≤ 4 by decide)) fi)).mono (by omega) (Nat.le_refl _)⟩, kx, ho, rfl⟩⟩
/-- the stream lies apart from what is new -/
theorem strm_ne {S A B : Addr} {t : Nat} {H : Hp} (st : Strm H S A B t) {p : Addr} (h : H p = none) : ∀ b, (b = S ∨ b = A ∨ b = B) → b ≠ p := by
  obtain ⟨s, ⟨as, a1, _⟩, ⟨bs, b1, _⟩, _⟩ := st
  rintro b (rfl | rfl | rfl)
  · exact ne_of_none s h
  · exact ne_of_none a1 h
  · exact ne_of_none b1 h
theorem KX.strm {S A B : Addr} {t : Nat} {H H' : Hp} {x : Addr} (k : KX x H H') (st : Strm H S A B t) (n : ∀ b, (b = S ∨ b = A ∨ b = B) → b ≠ x) : Strm H' S A B t := by
  obtain ⟨s, ⟨as, a1, a2⟩, ⟨bs, b1, b2, b3⟩, n1, n2, n3⟩ := st
  exact ⟨k _ _ (n _ (.inl rfl)) s, ⟨as, k _ _ (n _ (.inr (.inl rfl))) a1, a2⟩, ⟨bs, k _ _ (n _ (.inr (.inr rfl))) b1, b2, b3⟩, n1, n2, n3⟩
/-- a drawn edit -/
def EdG (H : Hp) (t : Addr) : Prop := ∃ (u : Str) (is : List Int), H t = some (.tup (.str u :: is.map V.int)) ∧ EdS u (is.map V.int) ∧ ∀ i ∈ is, 0 ≤ i ∧ i ≤ 100
theorem EdG.data {K : PySem.W.Frag} {H : Hp} {t : Addr} {u : Str} {is : List Int} (hH : H t = some (.tup (.str u :: is.map V.int))) : Dt K H (.ref t) (.tuple (.str u :: is.map PyData.int)) := .tup (.inl (.inl hH)) (.cons (.str _) (dtAll_ints is))
theorem EdS.fit {u : Str} {is : List Int} (h : EdS u (is.map V.int)) (hi : ∀ i ∈ is, 0 ≤ i ∧ i ≤ 100) : Fit 50 5 (.tuple (.str u :: is.map PyData.int)) := by
  have fu : Fit 10 0 (.str u) := by
    rcases h.word with rfl | rfl | rfl <;> exact sok_fit (sok_of (by decide +kernel))
  have fi := fitAll_ints is 4 fun x hx => small_of (hi x hx).1 (by have := (hi x hx).2; omega)
  have hl : is.length ≤ 2 := by
    rcases h with ⟨hl, _⟩ | ⟨hl, _⟩ <;> rw [List.length_map] at hl <;> omega
  exact (fit_tuple (fitAll_cons (fu.mono (Nat.le_refl _) (show 0 ≤ 4 by decide)) fi)).mono (by omega) (Nat.le_refl _)
end My
namespace My
open PySem PySem.Spec PyProof.Rows L2
end My

namespace My
open PySem PySem.Spec PyProof.Rows L2
end My
namespace My
open PySem PySem.Spec PyProof.Rows L2
def EdY (H : Hp) (y : V) : Prop := ∃ te, y = .ref te ∧ EdG H te
theorem EdG.kt {H H' : Hp} {t : Addr} (h : EdG H t) (k : KT H H') : EdG H' t := by
  obtain ⟨u, is, h1, h2, h3⟩ := h
  exact ⟨u, is, (k _ _).1 h1, h2, h3⟩
theorem EdY.kt {H H' : Hp} {y : V} (h : EdY H y) (k : KT H H') : EdY H' y := by
  obtain ⟨te, h1, h2⟩ := h
  exact ⟨te, h1, h2.kt k⟩
end My

namespace My
open PySem PySem.Spec PyProof.Rows L2
/-! ### all but instances stays -/
def NotIns : HO → Prop
  | .ins _ _ _ => False
  | _ => True
def KN (H H' : Hp) : Prop := ∀ b o, NotIns o → H b = some o → H' b = some o
theorem KX.kn {x C dx : Addr} {fs : List (Str × V)} {H H' : Hp} (k : KX x H H') (e : H x = some (.ins C dx fs)) : KN H H' := fun b o n h => k b o (fun z => by rw [z, e] at h; cases h; exact n) h
theorem Same.kn {H H' : Hp} (s : Same H H') : KN H H' := fun b o _ h => s b o h
theorem KN.hid {S A : Addr} {H H' : Hp} (k : KN H H') : KN (hid S A H) (hid S A H') := fun b o n q => by
  unfold My.hid at q ⊢
  by_cases h : b = S ∨ b = A
  · rw [if_pos h] at q
    cases q
  · rw [if_neg h] at q ⊢
    exact k b o n q
theorem SqL.kn {K : PySem.W.Frag} {H H' : Hp} (k : KN H H') {t : Addr} {xs : List V} (h : SqL K H t xs) : SqL K H' t xs := by
  rcases h with (h | ⟨o, h⟩) | h
  · exact .inl (.inl (k _ _ trivial h))
  · exact .inl (.inr ⟨o, k _ _ trivial h⟩)
  · exact .inr h
theorem SqT.kn {K : PySem.W.Frag} {H H' : Hp} (k : KN H H') {t : Addr} {xs : List V} (h : SqT K H t xs) : SqT K H' t xs := by
  rcases h with (h | ⟨o, h⟩) | h
  · exact .inl (.inl (k _ _ trivial h))
  · exact .inl (.inr ⟨o, k _ _ trivial h⟩)
  · exact .inr h
mutual
theorem Dq.kn {b : Bool} {K : PySem.W.Frag} {H H' : Hp} (e : KN H H') : ∀ {v : V} {d : PyData}, Dq b K H v d → Dq b K H' v d
  | _, _, .non => .non
  | _, _, .bl x => .bl x
  | _, _, .int i => .int i
  | _, _, .str x => .str x
  | _, _, .lst h n a => .lst (SqL.kn e h) n (DqAll.kn e a)
  | _, _, .tup h a => .tup (SqT.kn e h) (DqAll.kn e a)
  | _, _, .dic h1 h2 => .dic h1 (e _ _ trivial h2)
theorem DqAll.kn {b : Bool} {K : PySem.W.Frag} {H H' : Hp} (e : KN H H') : ∀ {vs : List V} {ds : List PyData}, DqAll b K H vs ds → DqAll b K H' vs ds
  | _, _, .nil => .nil
  | _, _, .cons h a => .cons (Dq.kn e h) (DqAll.kn e a)
end
theorem tyX_kn {K : PySem.W.Frag} {H H' : Hp} (k : KN H H') {a : Addr} {t : String} (h : TyX K H (.ref a) (.type t)) : TyX K H' (.ref a) (.type t) := by
  cases h with
  | base h =>
    cases h with
    | lst e => exact .base (.lst (k _ _ trivial e))
    | frz e => exact .base (.frz (k _ _ trivial e))
    | tup e => exact .base (.tup (k _ _ trivial e))
    | dK e => exact .base (.dK (k _ _ trivial e))
    | dT e => exact .base (.dT (k _ _ trivial e))
  | set e => exact .set (k _ _ trivial e)
  | kList e c => exact .kList e c
  | kTuple e c => exact .kTuple e c
  | kDict e c => exact .kDict e c
  | fTuple e => exact .fTuple (k _ _ trivial e)
  | fDict e => exact .fDict (k _ _ trivial e)
theorem Kd.kn {K : PySem.W.Frag} {H H' : Hp} (e : KN H H') {v : V} (h : Kd K H v) : Kd K H' v := by
  cases h with
  | non => exact .non
  | bl b => exact .bl b
  | int i => exact .int i
  | str x => exact .str x
  | ref h ht => exact .ref (tyX_kn e h) ht
theorem Odd.kn {K : PySem.W.Frag} {S A : Addr} {H H' : Hp} {v : V} (o : Odd K S A H v) (e : KN H H') : Odd K S A H' v := by
  obtain ⟨⟨d, h1, h2⟩, h3⟩ := o
  exact ⟨⟨d, Dq.kn e.hid h1, h2⟩, h3.kn e.hid⟩
end My
namespace My
open PySem PySem.Spec PyProof.Rows L2
/-! ### a method's call in a try: what it raises is wished for at the caller's slots -/
def tMethS (C : Addr) (m : Str) (sp : Sp) (E : L2.St → XK) (ta : TE) (t : TA) : TE := fun σ H Q => ta σ H fun x H1 => ∃ a dx fs, x = .ref a ∧ H1 a = some (.ins C dx fs) ∧ fs.lookup m = none ∧ t σ H1 fun vs H2 => sp (x :: (vs ++ [])) H2 Q (E σ)
section
variable {X : Cx} {CX : CXT} {k : Nat} {f C : Addr} {ps : List Str} {sp : Sp} {E : L2.St → XK} {m : Str} {pos apos : Pos} {e o : Expr} {es : List Expr} {ta : TE} {t : TA}
theorem calMS {pl : Sem Bool} (O : OkA X.prog X.w X.K X.mg X.base CX k f ps sp) (hr : Room k X.A) (hx : ∀ σ, PassesAt CX X σ (E σ)) (c : Cls X.K C) (hm : Meth X.K C m f) (he : PE X o ta) (ha : PA X (e :: es) t)
    (hst : starEach (e :: es) X.env = (false, eval e X.env) :: starEach es X.env := by rfl) (hpl : (backTo pos (starEach es X.env)).any (·.1) = false := by rfl)
    (ht : eval (.Call (.Attribute o m apos) (e :: es) [] pos) X.env = (do
      let ov ← eval o X.env
      standAt apos.atName
      let (f, first) ← holding [ov] (getMethod ov m pl)
      callWith pos f first (backTo pos (starEach (e :: es) X.env)) (backToKw pos (keywordEach [] X.env))) := by rfl) :
    PE X (.Call (.Attribute o m apos) (e :: es) [] pos) (tMethS C m sp E ta t) := by
  obtain ⟨fd, F, hb⟩ := O
  refine ⟨fun pins s σ H Q I h => ?_⟩
  refine PySem.W.methodCall_KW (pl := pl) (thn (he.run pins s σ H _ I h) fun u s1 ⟨x, H1, I1, rx, a, dx, fs, ex, ea, l, q⟩ => ?_) ht
  subst ex
  obtain rfl : u = Value.ref a := rx
  refine getmeth_ok I1 ea c hm l ?_
  refine PySem.W.callWith_K (first := [.ref a]) (h₀ := X.base) I.ok.mod.kin hm.kp (thn (ha.run pos pins s1 σ H1 _ I1 q) fun us s2 ⟨vs, H2, I2, r, q2⟩ => ⟨I2.kIn, ?_⟩) hst hpl
  exact run_fnSD (us := .ref a :: us) (vs := .ref a :: vs) F hr hb .nil (hx σ) I2 (.cons rfl r) q2
end
end My

namespace My
open PySem PySem.Spec PyProof.Rows L2
/-! ### what the head reaches, each address once (a mask of bits), read for the kernel -/
def visA : List Addr → Nat → List Addr → (Nat → List Addr → List Addr) → List Addr
  | [], seen, acc, k => k seen acc
  | a :: r, seen, acc, k => HandSHeadRun.frNat a fun a => match Nat.land (Nat.shiftRight seen a) 1 with
    | 0 => HandSHeadRun.frNat (Nat.lor seen (Nat.shiftLeft 1 a)) fun seen => visA r seen (a :: acc) k
    | _ + 1 => visA r seen acc k
def levA (g : Addr → Option Obj) : Nat → List Addr → Nat → List Addr → List Addr
  | 0, front, _, all => all ++ front
  | n + 1, front, seen, all => visA (front.flatMap fun a => match g a with
    | some o => He.refsD o
    | none => []) seen [] fun seen new => levA g n new seen (all ++ front)
def asP (g : Addr → Option Obj) (n : Nat) : List Addr := levA g n [mainGlobals] (Nat.shiftLeft 1 mainGlobals) []
end My
namespace My
open PySem PySem.Spec PyProof.Rows L2
end My

namespace My
open PySem PySem.Spec PyProof.Rows L2
/-! ### orders of tokens, counted -/
def ch : Nat → Nat → Nat
  | _, 0 => 1
  | 0, _ + 1 => 0
  | n + 1, k + 1 => ch n k + ch n (k + 1)
def fct : Nat → Nat
  | 0 => 1
  | n + 1 => fct n * (n + 1)
def rowsF : Nat → Nat → List Nat → Nat
  | R, _, [] => R
  | R, P, m :: cs => rowsF (R * ch (P + m) m) (P + m) cs
def pf : List Nat → Nat
  | [] => 1
  | c :: cs => fct c * pf cs
/-- the rows of so many tokens of each arity -/
def mn (cs : List Nat) : Nat := rowsF 1 0 cs
def dec (p : List Nat) (t : Nat) : List Nat := p.set t (p.getD t 0 - 1)
/-- the arities summed -/
def ws : Nat → List Nat → Nat
  | _, [] => 0
  | i, c :: cs => i * c + ws (i + 1) cs
def Sp6 (p : List Nat) : Int := (p.sum : Int) - (ws 0 p : Int)
/-- the ready orders of so many tokens -/
def T6 : Nat → List Nat → Nat
  | 0, _ => 1
  | k + 1, p => ((List.range 6).map fun t => if 0 < p.getD t 0 ∧ (t : Int) ≤ Sp6 (dec p t) then T6 k (dec p t) else 0).sum
end My

namespace My
open PySem PySem.Spec PyProof.Rows L2
/-! ### a display of one pair whose key is a tuple; a dict of counts by rests -/
abbrev Wl := List (List Nat × Nat)
def gt : Wl → List Nat → Nat
  | [], _ => 0
  | (q, y) :: l, r => if q = r then y else gt l r
def add : Wl → List Nat → Nat → Wl
  | [], r, z => [(r, z)]
  | (q, y) :: l, r, z => if q = r then (q, y + z) :: l else (q, y) :: add l r z
def Nd : Wl → Prop
  | [] => True
  | (q, _) :: l => (∀ e ∈ l, e.1 ≠ q) ∧ Nd l
def ky (r : List Nat) : List Key := r.map fun (n : Nat) => (Sum.inl (n : Int) : Key)
theorem ky_inj : ∀ {a b : List Nat}, ky a = ky b → a = b
  | [], [], _ => rfl
  | [], _ :: _, h => nomatch h
  | _ :: _, [], h => nomatch h
  | x :: a, y :: b, h => by
    have h : (Sum.inl (x : Int) : Key) :: ky a = Sum.inl (y : Int) :: ky b := h
    injection h with h1 h2
    injection h1 with h1
    have h3 : x = y := by exact_mod_cast h1
    rw [h3, ky_inj h2]
def kvL (l : Wl) : List (List Key × V) := l.map fun e => (ky e.1, V.int (e.2 : Int))
theorem val_mem {r : List Nat} {z : Nat} : ∀ {l : Wl}, Nd l → (r, z) ∈ l → valV (kvL l) (ky r) = some (V.int (z : Int))
  | (q, y) :: l, h, m => by
    show valV ((ky q, V.int (y : Int)) :: kvL l) (ky r) = _
    rcases List.mem_cons.mp m with e | e
    · injection e with e1 e2
      rw [valV_pos (p := (ky q, V.int (y : Int))) (by rw [e1]), e2]
    · have n := h.1 _ e
      rw [valV_neg (p := (ky q, V.int (y : Int))) (fun z => n (ky_inj z).symm)]
      exact val_mem h.2 e
def sub (c r : List Nat) : List Nat := List.zipWith (fun a b => a - b) c r
structure Rk (c r : List Nat) (k : Nat) : Prop where
  l : r.length = 6
  le : ∀ t, t < 6 → r.getD t 0 ≤ c.getD t 0
  s : r.sum + k = c.sum
theorem six {t : Nat} (h : t < 6) : t = 0 ∨ t = 1 ∨ t = 2 ∨ t = 3 ∨ t = 4 ∨ t = 5 := by omega
/-- the tokens of a rest, in turn -/
def ads (dep : Int) (r : List Nat) (z : Nat) : Nat → Wl → Wl
  | 0, l => l
  | t + 1, l => if 0 < r.getD t 0 ∧ (t : Int) ≤ dep then add (ads dep r z t l) (dec r t) z else ads dep r z t l
/-- the next dict, when i rests are walked -/
def stp (c : List Nat) (L : Wl) (i : Nat) : Wl := (L.take i).foldl (fun l e => ads (Sp6 (sub c e.1)) e.1 e.2 6 l) []
structure Wy (c : List Nat) (k : Nat) (L : Wl) : Prop where
  nd : Nd L
  ke : ∀ e ∈ L, Rk c e.1 k
  v : ∀ o, Rk c o k → gt L o = T6 k (sub c o)
  sz : L.length * fct (c.sum - k) ≤ fct c.sum
abbrev nI (cs : List Nat) : List Int := cs.map fun n : Nat => (n : Int)
end My

namespace My
open PySem PySem.Spec PyProof.Rows L2
/-! ### the ready orders, first token first -/
def nx (i : Nat) (h : Int) (r : List Nat) : List Nat := (List.range i).filter fun a => decide (0 < r.getD a 0 ∧ (a : Int) ≤ h)
def cmp : Nat → Int → List Nat → List (List Nat)
  | 0, _, _ => [[]]
  | n + 1, h, r => (nx r.length h r).flatMap fun (a : Nat) => (cmp n (h + 1 - (a : Int)) (dec r a)).map (a :: ·)
def balN (row : List Nat) : Int := (row.length : Int) - (row.sum : Int)
/-- how many, told by the rest alone -/
def cntF (h0 : Int) (r : List Nat) : Nat := (cmp r.sum (h0 - Sp6 r) r).length
/-! ### what is known -/
def code : List Nat → Nat
  | [] => 0
  | x :: r => code r * 11 + x
theorem code_lt : ∀ {r : List Nat}, (∀ x ∈ r, x ≤ 10) → code r < 11 ^ r.length
  | [], _ => Nat.one_pos
  | x :: r, h => by
    have ih := code_lt fun y hy => h y (List.mem_cons_of_mem _ hy)
    have hx := h x List.mem_cons_self
    show code r * 11 + x < 11 ^ (r.length + 1)
    rw [Nat.pow_succ]
    omega
theorem code_inj : ∀ {r s : List Nat}, (∀ x ∈ r, x ≤ 10) → (∀ x ∈ s, x ≤ 10) → r.length = s.length → code r = code s → r = s
  | [], [], _, _, _, _ => rfl
  | [], _ :: _, _, _, h, _ => nomatch h
  | _ :: _, [], _, _, h, _ => nomatch h
  | x :: r, y :: s, hr, hs, hl, hc => by
    have hx := hr x List.mem_cons_self
    have hy := hs y List.mem_cons_self
    have hc : code r * 11 + x = code s * 11 + y := hc
    have e1 : x = y := by omega
    have e2 := code_inj (r := r) (s := s) (fun z hz => hr z (List.mem_cons_of_mem _ hz)) (fun z hz => hs z (List.mem_cons_of_mem _ hz)) (Nat.succ.inj hl) (by omega)
    rw [e1, e2]
theorem nodup_lt : ∀ (N : Nat) (l : List Nat), l.Nodup → (∀ x ∈ l, x < N) → l.length ≤ N
  | 0, [], _, _ => Nat.le_refl _
  | 0, x :: _, _, h => absurd (h x List.mem_cons_self) (Nat.not_lt_zero _)
  | N + 1, l, hn, h => by
    by_cases m : N ∈ l
    · have h1 := nodup_lt N (l.erase N) (hn.erase N) fun x hx => by
        have h2 := (List.Nodup.mem_erase_iff hn).mp hx
        have h3 := h x h2.2
        have h4 : x ≠ N := h2.1
        omega
      rw [List.length_erase_of_mem m] at h1
      omega
    · have h1 := nodup_lt N l hn fun x hx => by
        have h3 := h x hx
        have h4 : x ≠ N := fun z => m (by rw [← z]; exact hx)
        omega
      omega
structure Kn (h0 : Int) (m : Nat) (W : Wl) : Prop where
  nd : Nd W
  ok : ∀ e ∈ W, e.2 = cntF h0 e.1 ∧ e.1.length = m ∧ ∀ x ∈ e.1, x ≤ 10
theorem nd_codes : ∀ {W : Wl} {m : Nat}, Nd W → (∀ e ∈ W, e.1.length = m ∧ ∀ x ∈ e.1, x ≤ 10) → (W.map fun e => code e.1).Nodup
  | [], _, _, _ => List.nodup_nil
  | (q, y) :: W, m, h, hk => by
    rw [List.map_cons]
    refine List.nodup_cons.mpr ⟨fun z => ?_, nd_codes h.2 fun e he => hk e (List.mem_cons_of_mem _ he)⟩
    obtain ⟨e, he, hc⟩ := List.mem_map.mp z
    have k1 := hk e (List.mem_cons_of_mem _ he)
    have k2 := hk (q, y) List.mem_cons_self
    exact h.1 e he (code_inj k1.2 k2.2 (k1.1.trans k2.1.symm) hc)
theorem Kn.room {h0 : Int} {m : Nat} {W : Wl} (h : Kn h0 m W) (hm : m ≤ 6) : W.length < sizeLine := by
  have h1 := nodup_lt (11 ^ m) _ (nd_codes h.nd fun e he => (h.ok e he).2) fun x hx => by
    obtain ⟨e, he, rfl⟩ := List.mem_map.mp hx
    have h2 := (h.ok e he).2
    rw [← h2.1]
    exact code_lt h2.2
  rw [List.length_map] at h1
  have h3 : 11 ^ m ≤ 11 ^ 6 := Nat.pow_le_pow_right (by decide) hm
  have h4 : (11 : Nat) ^ 6 = 1771561 := by decide
  rw [sizeLine_eq]
  omega
theorem val_none {r : List Nat} : ∀ {W : Wl}, (∀ e ∈ W, e.1 ≠ r) → valV (kvL W) (ky r) = none
  | [], _ => rfl
  | (q, y) :: W, h => by
    show valV ((ky q, V.int (y : Int)) :: kvL W) (ky r) = none
    rw [valV_neg (p := (ky q, V.int (y : Int))) (fun z => h _ List.mem_cons_self (ky_inj z))]
    exact val_none fun e he => h e (List.mem_cons_of_mem _ he)
theorem Kn.get {h0 : Int} {m : Nat} {W : Wl} (h : Kn h0 m W) (r : List Nat) : valV (kvL W) (ky r) = none ∧ (∀ e ∈ W, e.1 ≠ r) ∨ valV (kvL W) (ky r) = some (.int (cntF h0 r : Int)) ∧ (r, cntF h0 r) ∈ W := by
  by_cases c : ∃ e ∈ W, e.1 = r
  · obtain ⟨⟨q, y⟩, he, rfl⟩ := c
    have hy : y = cntF h0 q := (h.ok _ he).1
    subst hy
    exact .inr ⟨val_mem h.nd he, he⟩
  · have c : ∀ e ∈ W, e.1 ≠ r := fun e he z => c ⟨e, he, z⟩
    exact .inl ⟨val_none c, c⟩
theorem nd_snoc {r : List Nat} {z : Nat} : ∀ {W : Wl}, Nd W → (∀ e ∈ W, e.1 ≠ r) → Nd (W ++ [(r, z)])
  | [], _, _ => ⟨fun _ h => (List.not_mem_nil h).elim, trivial⟩
  | (q, y) :: W, h, hk => by
    refine ⟨fun e he => ?_, nd_snoc h.2 fun e he => hk e (List.mem_cons_of_mem _ he)⟩
    rcases List.mem_append.mp he with c | c
    · exact h.1 e c
    · rw [List.mem_singleton.mp c]
      exact fun y => hk _ List.mem_cons_self y.symm
theorem Kn.put {h0 : Int} {m : Nat} {W : Wl} (h : Kn h0 m W) {r : List Nat} (hl : r.length = m) (hx : ∀ x ∈ r, x ≤ 10) : ∃ W', putK (kvL W) (ky r) (.int (cntF h0 r : Int)) = kvL W' ∧ Kn h0 m W' ∧ (r, cntF h0 r) ∈ W' := by
  rcases h.get r with ⟨e, c⟩ | ⟨e, c⟩
  · refine ⟨W ++ [(r, cntF h0 r)], ?_, ⟨nd_snoc h.nd c, fun e he => ?_⟩, List.mem_append_right _ (List.mem_singleton.mpr rfl)⟩
    · rw [putK_new _ e]
      unfold kvL
      rw [List.map_append]
      rfl
    · rcases List.mem_append.mp he with z | z
      · exact h.ok e z
      · rw [List.mem_singleton.mp z]
        exact ⟨rfl, hl, hx⟩
  · refine ⟨W, ?_, h, c⟩
    unfold putK
    rw [if_pos (by rw [valV_any, e]; rfl)]
    refine (List.map_congr_left fun kv hkv => ?_).trans (List.map_id _)
    obtain ⟨⟨q, y⟩, he, rfl⟩ := List.mem_map.mp hkv
    show (if ky q = ky r then (ky q, V.int (cntF h0 r : Int)) else (ky q, V.int (y : Int))) = (ky q, V.int (y : Int))
    by_cases c2 : ky q = ky r
    · have hy : y = cntF h0 q := (h.ok _ he).1
      rw [if_pos c2, hy, ky_inj c2]
    · rw [if_neg c2]
end My

namespace My
open PySem PySem.Spec PyProof.Rows L2
/-! ### how often each token stands in a row -/
/-! ### where a row stands -/
/-! ### arities that do not occur -/
/-! ### the number of ready rows, from either end -/
/-! ### how long the lists grow -/
def bnd : Nat → Nat
  | 0 => 1
  | n + 1 => 1 + (n + 1) * bnd n
/-! ### the rows that wait -/
structure Se (h0 : Int) (m n : Nat) (e : List Nat × List Nat) : Prop where
  l : e.2.length = m
  b : balN e.1 = h0 - Sp6 e.2
  s : e.1.length + e.2.sum = n
  x : ∀ x ∈ e.1, x < m
/-! ### tuples that are known to be plain: their methods can be called -/
def Pl (H : Hp) (a : Addr) (xs : List V) : Prop := ∃ ob : Obj, H a = some (.frz ob (.tup xs)) ∧ ob.cls = .type "tuple" ∧ ob.dict = none
theorem Pl.same {H H' : Hp} {a : Addr} {xs : List V} (h : Pl H a xs) (e : Same H H') : Pl H' a xs := by
  obtain ⟨ob, h1, h2⟩ := h
  exact ⟨ob, e _ _ h1, h2⟩
theorem Pl.seq {K : PySem.W.Frag} {H : Hp} {a : Addr} {xs : List V} (h : Pl H a xs) : SqT K H a xs := by
  obtain ⟨ob, h1, h2⟩ := h
  exact .inl (.inr ⟨ob, h1⟩)
theorem Pl.new {H : Hp} {a : Addr} {xs : List V} {ob : Obj} (h1 : ob.cls = .type "tuple") (h2 : ob.dict = none) : Pl (upd H a (.frz ob (.tup xs))) a xs := ⟨ob, upd_same, h1, h2⟩
section
variable {X : Cx}
end
/-! ### a pair of a row and what is left -/
def EltP (H : Hp) (v : V) (e : List Nat × List Nat) : Prop := ∃ p q1 q2 : Addr, v = .ref p ∧ H p = some (.tup [.ref q1, .ref q2]) ∧ Pl H q1 ((nI e.1).map V.int) ∧ H q2 = some (.tup ((nI e.2).map V.int))
/-- all tuples stay -/
def TpO : HO → Prop
  | .tup _ => True
  | .frz _ (.tup _) => True
  | _ => False
def SameT (H H' : Hp) : Prop := ∀ b o, TpO o → H b = some o → H' b = some o
theorem SameT.trans {H H' H'' : Hp} (a : SameT H H') (b : SameT H' H'') : SameT H H'' := fun c o t h => b c o t (a c o t h)
theorem SameT.tup {H H' : Hp} (a : SameT H H') {b : Addr} {xs : List V} (h : H b = some (.tup xs)) : H' b = some (.tup xs) := a b (.tup xs) trivial h
theorem SameT.pl {H H' : Hp} (a : SameT H H') {b : Addr} {xs : List V} (h : Pl H b xs) : Pl H' b xs := by
  obtain ⟨ob, h1, h2⟩ := h
  exact ⟨ob, a b (.frz ob (.tup xs)) trivial h1, h2⟩
theorem _root_.L2.Same.t {H H' : Hp} (a : Same H H') : SameT H H' := fun b o _ h => a _ _ h
theorem SameT.upd {H : Hp} {a : Addr} {o o' : HO} (h : H a = some o) (hn : ¬ TpO o) : SameT H (upd H a o') := fun b o1 t hb => by
  have e : b ≠ a := fun z => by
    rw [z, h] at hb
    injection hb with hb
    rw [hb] at hn
    exact hn t
  rw [upd_ne e]
  exact hb
theorem EltP.t {H H' : Hp} {v : V} {e : List Nat × List Nat} (s : SameT H H') (h : EltP H v e) : EltP H' v e := by
  obtain ⟨p, q1, q2, rfl, h1, h2, h3⟩ := h
  exact ⟨p, q1, q2, rfl, s.tup h1, s.pl h2, s.tup h3⟩
/-- a row as a value -/
def RowP (H : Hp) (v : V) (R : List Nat) : Prop := ∃ p : Addr, v = .ref p ∧ Pl H p ((nI R).map V.int)
theorem RowP.t {H H' : Hp} {v : V} {R : List Nat} (s : SameT H H') (h : RowP H v R) : RowP H' v R := by
  obtain ⟨p, rfl, h1⟩ := h
  exact ⟨p, rfl, s.pl h1⟩
/-- all but one object stay -/
def SameD (d : Addr) (H H' : Hp) : Prop := ∀ b o, H b = some o → b ≠ d → H' b = some o
theorem SameD.refl (d : Addr) (H : Hp) : SameD d H H := fun _ _ h _ => h
theorem SameD.trans {d : Addr} {H H' H'' : Hp} (a : SameD d H H') (b : SameD d H' H'') : SameD d H H'' := fun c o h n => b c o (a c o h n) n
theorem _root_.L2.Same.d {d : Addr} {H H' : Hp} (a : Same H H') : SameD d H H' := fun b o h _ => a b o h
theorem SameD.upd {d : Addr} {H H' : Hp} {o : HO} (a : SameD d H H') : SameD d H (upd H' d o) := fun b o' h n => by
  rw [upd_ne n]
  exact a b o' h n
theorem SameD.t {d : Addr} {H H' : Hp} {o : HO} (a : SameD d H H') (h : H d = some o) (hn : ¬ TpO o) : SameT H H' := fun b o1 t hb => a b _ hb fun z => by
  rw [z, h] at hb
  injection hb with hb
  rw [hb] at hn
  exact hn t
theorem SameD.same {d : Addr} {H H1 H' : Hp} (s : Same H H1) (a : SameD d H1 H') (n : H d = none) : Same H H' := fun b o h => a b o (s b o h) (ne_of_none h n)
theorem All2.app {α : Type} {R : V → α → Prop} {xs : List V} {fs : List α} {ys : List V} {gs : List α} (h : All2 R xs fs) (h' : All2 R ys gs) : All2 R (xs ++ ys) (fs ++ gs) := by
  refine ⟨by rw [List.length_append, List.length_append, h.1, h'.1], fun k x f h1 h2 => ?_⟩
  by_cases c : k < xs.length
  · rw [List.getElem?_append_left c] at h1
    rw [List.getElem?_append_left (by rw [← h.1]; exact c)] at h2
    exact h.2 k x f h1 h2
  · rw [List.getElem?_append_right (by omega)] at h1
    rw [List.getElem?_append_right (by rw [← h.1]; omega), ← h.1] at h2
    exact h'.2 _ x f h1 h2
end My

namespace My
open PySem PySem.Spec PyProof.Rows L2
/-! ### more plain tuples: ten times one, one backwards -/
section
variable {X : Cx}
end
/-! ### rows turned -/
end My

namespace My
open PySem PySem.Spec PyProof.Rows L2
/-! ### a set of the ints of a list -/
section
variable {P : Program} {w : World} {A : Around} {E : Value → Shared → Prop} {s : Shared}
end
section
variable {X : Cx}
end
/-! ### rows in order -/
open TS HT
end My

namespace My
open PySem PySem.Spec PyProof.Rows L2
/-! ### a call with keywords of a def that takes them as a dict -/
section
variable {P : Program} {w : World} {A : Around} {E : Value → Shared → Prop} {h0 : Heap}
end
section
variable {X : Cx} {CX : CXT} {k : Nat} {f : Addr} {sp : Sp} {E : XK} {x : Str} {e : Expr} {es : List Expr} {kws : List Keyword} {t tk : TA} {ns : List Str} {p pos : Pos}
end
/-! ### a tuple of texts that stands behind the top -/
def eqSs : List Value → List Str → Bool
  | [], [] => true
  | .str x _ :: vs, y :: ys => decide (x = y) && eqSs vs ys
  | _, _ => false
theorem eqSs_ok : ∀ {vs : List Value} {ys : List Str}, eqSs vs ys = true → Vals (ys.map V.str) vs
  | [], [], _ => .nil
  | [], _ :: _, h => nomatch h
  | v :: vs, ys, h => by
    cases v with
    | str x t =>
      cases ys with
      | nil => exact nomatch h
      | cons y ys =>
        have h : (decide (x = y) && eqSs vs ys) = true := h
        rw [Bool.and_eq_true, decide_eq_true_iff] at h
        obtain ⟨rfl, h2⟩ := h
        exact .cons ⟨t, rfl⟩ (eqSs_ok h2)
    | _ => cases ys <;> exact nomatch h
def kvs (ws : List (Str × V)) : List (Key × V) := ws.map fun x => ((Sum.inr x.1 : Key), x.2)
end My

/-! ### the block of the guide's own-error skeleton, for any class over any built-in base whose __init__ stores the field name -/
namespace PySem
namespace Xf_name
open PySem.W PySem.Calls PyProof.Rows PySem.HandSPX
def iA (p1 p2 : Pos) : Arguments := { posonlyargs := [], args := [{ arg := "self", annotation := none, pos := p1 }, { arg := "name", annotation := none, pos := p2 }], vararg := none, kwonlyargs := [], kw_defaults := [], kwarg := none, defaults := [] }
def iB (q1 q2 q3 q4 : Pos) : List Stmt := [.Assign [.Attribute (.Name "self" q1) "name" q2] (.Name "name" q3) q4]
def iS : Scope := { kind := .function, names := [(PySem.Str.ofString "self", .local), (PySem.Str.ofString "name", .local)], isGenerator := false, isCoroutine := false, more := [] }
/-- what the written part says of the class x at C and of its __init__ at fI -/
structure Txt (K : Frag) (mg : Str → Option Value) (x q : Str) (C fI : Addr) (newId : String) (bmB : List Value) : Prop where
  gC : mg x = some (.ref C)
  mkr : excInitIn K C bmB newId = true
  ov : excOver K C bmB = true
  tk : takerIn K C "name" = some none
  sa : findIn K (.ref C) "__setattr__" = some (some (.builtin "object.__setattr__"))
  ga : findIn K (.ref C) "__getattribute__" = some (some (.builtin "BaseException.__getattribute__"))
  gg : findIn K (.ref C) "__getattr__" = some none
  noN : findIn K (.ref C) "name" = some none
  iC : findIn K (.ref C) "__init__" = some (some (.ref fI))
  tC : typeIn K (.ref fI) = some (.type "function")
  kC : keepIn K (.ref C) = true
  exC : subIn K (.ref C) (.type "BaseException") = some true
  tyC : typeIn K (.ref C) = some (.type "type")
  hdC : hasDictIn K C = true
  te : exmOne K (.ref C) (.ref C) = some true
  fn : ∃ (p1 p2 q1 q2 q3 q4 : Pos) (fd : FuncData), L2.FunD K "__init__" q (iA p1 p2) (iB q1 q2 q3 q4) iS [] [] fI fd
theorem one_size (v : Value) : [v].length ≤ sizeLine := by
  rw [sizeLine_eq]
  exact (by decide : 1 ≤ 16777216)
theorem ldC {M : Model} {s : Shared} {name : Str} {scope : Scope} {L a : Addr} {cd : Value} {m : Str → Option Value} {x : Str} {pos : Pos} {v : Value} {Q : Value → Shared → Prop} {A : Around} {E : Value → Shared → Prop} (hn : s.heap.Ns L m) (hv : m x = some v) (h : Q v s)
    (hk : scope.kind = .function := by rfl) (hl : (envOfC name scope L a cd).kindOf x = some .local := by rfl) (hd : (x == ("__debug__" : Str)) = false := by decide) :
    wpAny M A (eval (.Name x pos) (envOfC name scope L a cd)) Q E s := wpAny_Name (wpAny_loadName_local hk hl hn hv h) hd
/-- what __init__ leaves of a fresh error at x -/
structure InitEnd (h h' : Heap) (x C dx t1 : Addr) (v : Value) : Prop where
  keep : ∀ b o, b ≠ x → h.get? b = some o → h'.get? b = some o
  obj : h'.get? x = some { cls := .ref C, dict := some dx, data := .fields #[.ref t1, .none, .none, .none, .bool false, .none] }
  dbig : h.objs.size ≤ dx
  dne : dx ≠ x
  ns : h'.Ns1 dx (fun y => if y = "name" then some v else none)
/-- a made error -/
structure OwnMade (h h' : Heap) (e C d : Addr) (v : Value) : Prop where
  keep : ∀ b o, h.get? b = some o → h'.get? b = some o
  new : h.objs.size ≤ e
  obj : ∃ oe vs, h'.get? e = some oe ∧ oe.cls = .ref C ∧ oe.dict = some d ∧ oe.data = .fields vs ∧ vs[1]? = some .none
  dbig : h.objs.size ≤ d
  dne : d ≠ e
  ns : h'.Ns1 d (fun y => if y = "name" then some v else none)
section
variable {prog : Program} {w : World} {A : Around} {E : Value → Shared → Prop} {R : Result → Shared → Prop} {s : Shared} {K : Frag} {mg : Str → Option Value} {C fI : Addr} {x0 q0 : Str} {B newId initId : String} {bmB : List Value}
theorem init_end (SF : StoreFacts B bmB "object.__setattr__" "object") (T : Txt K mg x0 q0 C fI newId bmB) {x t0 : Addr} {v : Value} (X : K.In s.heap) (hlim : s.heap.NoLimit) (hx : s.heap.get? x = some (excO C t0)) (hroom : A.depth < recursionLimit)
    (hq : ∀ h' tk dx, InitEnd s.heap h' x C dx t0 v → R (.ok (.ret .none)) { s with heap := h', toks := tk }) :
    codeAny (model prog w) A (.call (.ref fI) ⟨[.ref x, v], []⟩) R s := by
  obtain ⟨p1, p2, q1, q2, q3, q4, fd, F⟩ := T.fn
  obtain ⟨oc, od, dV, kV, doc, pm, an, cdv, ct, osl, rfl, ho, hcd, hdv, _⟩ := F.ex
  have e0 : dV = .none := by
    rcases hdv with ⟨_, e⟩ | ⟨e, _⟩
    · exact e
    · exact absurd rfl e
  subst e0
  refine Att.call_fn (binds := [("self", .ref x), ("name", v)]) X hlim ho hcd hroom (BindsTo.of_eq (by first | rfl | with_unfolding_all rfl)) (by first | rfl | decide | with_unfolding_all rfl) (fun s₁ IC => ?_) rfl rfl rfl
  obtain ⟨h₁, tk₁, rfl⟩ := IC.toInCall.same
  have k : ∀ b o, s.heap.get? b = some o → h₁.get? b = some o := IC.toInCall.keep
  have hn := IC.toInCall.ns
  have X₁ : K.In h₁ := X.keeps k
  have hx₁ := k _ _ hx
  show wpAny _ _ (execs _ _) _ _ _
  refine wpAny_execs_cons (plainObj_wpAny_Assign_Attribute ?_)
  refine ldC (v := v) hn (by first | rfl | with_unfolding_all rfl | kernel_rfl) (ldC (v := .ref x) hn (by first | rfl | with_unfolding_all rfl | kernel_rfl) ?_)
  refine set_plain X₁ (ox := excO C t0) (od := none) ⟨hx₁, rfl, rfl, trivial⟩ T.sa ?_
  refine PySem.NX.osaB SF X₁ hx₁ T.ov T.tk T.hdC (fun h₃ tk₃ dx k₃ dn dne hx₃ hn₃ => ?_)
  show wpAny _ _ (execs _ _) _ _ _
  have z : s.heap.objs.size < h₁.objs.size := hn.lt
  exact wpAny_execs_nil (hq h₃ tk₃ dx ⟨fun b o hb e => k₃ b o hb (k b o e), hx₃, Nat.le_of_lt (Nat.lt_of_lt_of_le z dn), dne, hn₃⟩)
theorem made (FB : ExcBaseFacts B newId initId bmB) (SF : StoreFacts B bmB "object.__setattr__" "object") (T : Txt K mg x0 q0 C fI newId bmB) {v : Value} (X : K.In s.heap) (hlim : s.heap.NoLimit) (hroom : A.depth + 1 < recursionLimit)
    (hq : ∀ h' tk e d, OwnMade s.heap h' e C d v → R (.ok (.ret (.ref e))) { s with heap := h', toks := tk }) :
    codeAny (model prog w) A (.call (.ref C) ⟨[v], []⟩) R s := by
  obtain ⟨nm, N, q, bs, bm, hdct, sn, sub, ab, col, dd, k0, k1, k2, k3, k5, hC, hbm⟩ := excInit_of X T.mkr
  obtain ⟨hp, g, dr, tk, os⟩ := s
  have k : ∀ b o, hp.get? b = some o → ((hp.push (kdv_tup [v])).push (excO C hp.objs.size)).get? b = some o := fun b o e => Heap.get?_push_of_some _ (Heap.get?_push_of_some _ e)
  have hget : ((hp.push (kdv_tup [v])).push (excO C hp.objs.size)).get? (hp.objs.size + 1) = some (excO C hp.objs.size) := by heap_get
  refine call_own FB hbm hC (looks_findIn X T.iC) (fun self => bind_fn X self T.tC) (one_size v) ?_
  refine init_end (s := ⟨(hp.push (kdv_tup [v])).push (excO C hp.objs.size), g, dr, tk, os⟩) SF T (X.keeps k) (hlim.keeps k) hget ?_ fun h' tk' dx ⟨k', hx, dn, dne, hns⟩ => ?_
  · show A.depth + 1 < recursionLimit
    exact hroom
  · have old : ∀ b o, hp.get? b = some o → h'.get? b = some o := fun b o e => k' b o (Nat.ne_of_lt (Nat.lt_succ_of_lt (Heap.lt_size e))) (k b o e)
    have z : hp.objs.size + 1 + 1 ≤ dx := by
      first
        | (simpa only [Heap.size_push] using dn)
        | exact dn
        | (have q := dn; rw [Heap.size_push, Heap.size_push] at q; exact q)
    exact ⟨rfl, hq h' tk' (hp.objs.size + 1) dx ⟨old, Nat.le_succ _, ⟨_, _, hx, rfl, rfl, rfl, rfl⟩, Nat.le_trans (Nat.le_trans (Nat.le_succ _) (Nat.le_succ _)) z, dne, hns⟩⟩
end
end Xf_name
end PySem
namespace L2
open PySem PySem.Spec PyProof.Rows
section
variable {X : Cx} {C fI : Addr} {x0 q0 : Str} {B newId initId : String} {bmB : List Value}
end
end L2
namespace My
open PySem PySem.Spec PyProof.Rows L2
end My

namespace My
open PySem PySem.Spec PyProof.Rows L2
/-! ### try: suite / finally: suite; the first suite only falls through or raises -/
def tFinX (tb : WX → TS) (tf tfs : TS) (Wout : WX) : TS := fun D σ H => tb (wFin tfs Wout) { nx := fun σ1 H1 => tf D σ1 H1, rt := fun _ _ => False, bk := fun _ _ => False, ct := fun _ _ => False } σ H
section
variable {X : Cx} {body : List Stmt} {f₀ : Stmt} {fs : List Stmt} {pos : Pos} {tb : WX → TS} {tf tfs : TS} {Wout : WX}
end
end My

/-! ### the block of the guide's own-error skeleton, for any class over any built-in base whose __init__ stores the field balance -/
namespace PySem
namespace Xf_balance
open PySem.W PySem.Calls PyProof.Rows PySem.HandSPX
def iA (p1 p2 : Pos) : Arguments := { posonlyargs := [], args := [{ arg := "self", annotation := none, pos := p1 }, { arg := "balance", annotation := none, pos := p2 }], vararg := none, kwonlyargs := [], kw_defaults := [], kwarg := none, defaults := [] }
def iB (q1 q2 q3 q4 : Pos) : List Stmt := [.Assign [.Attribute (.Name "self" q1) "balance" q2] (.Name "balance" q3) q4]
def iS : Scope := { kind := .function, names := [(PySem.Str.ofString "self", .local), (PySem.Str.ofString "balance", .local)], isGenerator := false, isCoroutine := false, more := [] }
/-- what the written part says of the class x at C and of its __init__ at fI -/
structure Txt (K : Frag) (mg : Str → Option Value) (x q : Str) (C fI : Addr) (newId : String) (bmB : List Value) : Prop where
  gC : mg x = some (.ref C)
  mkr : excInitIn K C bmB newId = true
  ov : excOver K C bmB = true
  tk : takerIn K C "balance" = some none
  sa : findIn K (.ref C) "__setattr__" = some (some (.builtin "object.__setattr__"))
  ga : findIn K (.ref C) "__getattribute__" = some (some (.builtin "BaseException.__getattribute__"))
  gg : findIn K (.ref C) "__getattr__" = some none
  noN : findIn K (.ref C) "balance" = some none
  iC : findIn K (.ref C) "__init__" = some (some (.ref fI))
  tC : typeIn K (.ref fI) = some (.type "function")
  kC : keepIn K (.ref C) = true
  exC : subIn K (.ref C) (.type "BaseException") = some true
  tyC : typeIn K (.ref C) = some (.type "type")
  hdC : hasDictIn K C = true
  te : exmOne K (.ref C) (.ref C) = some true
  fn : ∃ (p1 p2 q1 q2 q3 q4 : Pos) (fd : FuncData), L2.FunD K "__init__" q (iA p1 p2) (iB q1 q2 q3 q4) iS [] [] fI fd
theorem one_size (v : Value) : [v].length ≤ sizeLine := by
  rw [sizeLine_eq]
  exact (by decide : 1 ≤ 16777216)
theorem ldC {M : Model} {s : Shared} {name : Str} {scope : Scope} {L a : Addr} {cd : Value} {m : Str → Option Value} {x : Str} {pos : Pos} {v : Value} {Q : Value → Shared → Prop} {A : Around} {E : Value → Shared → Prop} (hn : s.heap.Ns L m) (hv : m x = some v) (h : Q v s)
    (hk : scope.kind = .function := by rfl) (hl : (envOfC name scope L a cd).kindOf x = some .local := by rfl) (hd : (x == ("__debug__" : Str)) = false := by decide) :
    wpAny M A (eval (.Name x pos) (envOfC name scope L a cd)) Q E s := wpAny_Name (wpAny_loadName_local hk hl hn hv h) hd
/-- what __init__ leaves of a fresh error at x -/
structure InitEnd (h h' : Heap) (x C dx t1 : Addr) (v : Value) : Prop where
  keep : ∀ b o, b ≠ x → h.get? b = some o → h'.get? b = some o
  obj : h'.get? x = some { cls := .ref C, dict := some dx, data := .fields #[.ref t1, .none, .none, .none, .bool false, .none] }
  dbig : h.objs.size ≤ dx
  dne : dx ≠ x
  ns : h'.Ns1 dx (fun y => if y = "balance" then some v else none)
/-- a made error -/
structure OwnMade (h h' : Heap) (e C d : Addr) (v : Value) : Prop where
  keep : ∀ b o, h.get? b = some o → h'.get? b = some o
  new : h.objs.size ≤ e
  obj : ∃ oe vs, h'.get? e = some oe ∧ oe.cls = .ref C ∧ oe.dict = some d ∧ oe.data = .fields vs ∧ vs[1]? = some .none
  dbig : h.objs.size ≤ d
  dne : d ≠ e
  ns : h'.Ns1 d (fun y => if y = "balance" then some v else none)
section
variable {prog : Program} {w : World} {A : Around} {E : Value → Shared → Prop} {R : Result → Shared → Prop} {s : Shared} {K : Frag} {mg : Str → Option Value} {C fI : Addr} {x0 q0 : Str} {B newId initId : String} {bmB : List Value}
theorem init_end (SF : StoreFacts B bmB "object.__setattr__" "object") (T : Txt K mg x0 q0 C fI newId bmB) {x t0 : Addr} {v : Value} (X : K.In s.heap) (hlim : s.heap.NoLimit) (hx : s.heap.get? x = some (excO C t0)) (hroom : A.depth < recursionLimit)
    (hq : ∀ h' tk dx, InitEnd s.heap h' x C dx t0 v → R (.ok (.ret .none)) { s with heap := h', toks := tk }) :
    codeAny (model prog w) A (.call (.ref fI) ⟨[.ref x, v], []⟩) R s := by
  obtain ⟨p1, p2, q1, q2, q3, q4, fd, F⟩ := T.fn
  obtain ⟨oc, od, dV, kV, doc, pm, an, cdv, ct, osl, rfl, ho, hcd, hdv, _⟩ := F.ex
  have e0 : dV = .none := by
    rcases hdv with ⟨_, e⟩ | ⟨e, _⟩
    · exact e
    · exact absurd rfl e
  subst e0
  refine Att.call_fn (binds := [("self", .ref x), ("balance", v)]) X hlim ho hcd hroom (BindsTo.of_eq (by first | rfl | with_unfolding_all rfl)) (by first | rfl | decide | with_unfolding_all rfl) (fun s₁ IC => ?_) rfl rfl rfl
  obtain ⟨h₁, tk₁, rfl⟩ := IC.toInCall.same
  have k : ∀ b o, s.heap.get? b = some o → h₁.get? b = some o := IC.toInCall.keep
  have hn := IC.toInCall.ns
  have X₁ : K.In h₁ := X.keeps k
  have hx₁ := k _ _ hx
  show wpAny _ _ (execs _ _) _ _ _
  refine wpAny_execs_cons (plainObj_wpAny_Assign_Attribute ?_)
  refine ldC (v := v) hn (by first | rfl | with_unfolding_all rfl | kernel_rfl) (ldC (v := .ref x) hn (by first | rfl | with_unfolding_all rfl | kernel_rfl) ?_)
  refine set_plain X₁ (ox := excO C t0) (od := none) ⟨hx₁, rfl, rfl, trivial⟩ T.sa ?_
  refine PySem.NX.osaB SF X₁ hx₁ T.ov T.tk T.hdC (fun h₃ tk₃ dx k₃ dn dne hx₃ hn₃ => ?_)
  show wpAny _ _ (execs _ _) _ _ _
  have z : s.heap.objs.size < h₁.objs.size := hn.lt
  exact wpAny_execs_nil (hq h₃ tk₃ dx ⟨fun b o hb e => k₃ b o hb (k b o e), hx₃, Nat.le_of_lt (Nat.lt_of_lt_of_le z dn), dne, hn₃⟩)
theorem made (FB : ExcBaseFacts B newId initId bmB) (SF : StoreFacts B bmB "object.__setattr__" "object") (T : Txt K mg x0 q0 C fI newId bmB) {v : Value} (X : K.In s.heap) (hlim : s.heap.NoLimit) (hroom : A.depth + 1 < recursionLimit)
    (hq : ∀ h' tk e d, OwnMade s.heap h' e C d v → R (.ok (.ret (.ref e))) { s with heap := h', toks := tk }) :
    codeAny (model prog w) A (.call (.ref C) ⟨[v], []⟩) R s := by
  obtain ⟨nm, N, q, bs, bm, hdct, sn, sub, ab, col, dd, k0, k1, k2, k3, k5, hC, hbm⟩ := excInit_of X T.mkr
  obtain ⟨hp, g, dr, tk, os⟩ := s
  have k : ∀ b o, hp.get? b = some o → ((hp.push (kdv_tup [v])).push (excO C hp.objs.size)).get? b = some o := fun b o e => Heap.get?_push_of_some _ (Heap.get?_push_of_some _ e)
  have hget : ((hp.push (kdv_tup [v])).push (excO C hp.objs.size)).get? (hp.objs.size + 1) = some (excO C hp.objs.size) := by heap_get
  refine call_own FB hbm hC (looks_findIn X T.iC) (fun self => bind_fn X self T.tC) (one_size v) ?_
  refine init_end (s := ⟨(hp.push (kdv_tup [v])).push (excO C hp.objs.size), g, dr, tk, os⟩) SF T (X.keeps k) (hlim.keeps k) hget ?_ fun h' tk' dx ⟨k', hx, dn, dne, hns⟩ => ?_
  · show A.depth + 1 < recursionLimit
    exact hroom
  · have old : ∀ b o, hp.get? b = some o → h'.get? b = some o := fun b o e => k' b o (Nat.ne_of_lt (Nat.lt_succ_of_lt (Heap.lt_size e))) (k b o e)
    have z : hp.objs.size + 1 + 1 ≤ dx := by
      first
        | (simpa only [Heap.size_push] using dn)
        | exact dn
        | (have q := dn; rw [Heap.size_push, Heap.size_push] at q; exact q)
    exact ⟨rfl, hq h' tk' (hp.objs.size + 1) dx ⟨old, Nat.le_succ _, ⟨_, _, hx, rfl, rfl, rfl, rfl⟩, Nat.le_trans (Nat.le_trans (Nat.le_succ _) (Nat.le_succ _)) z, dne, hns⟩⟩
end
end Xf_balance
end PySem
namespace L2
open PySem PySem.Spec PyProof.Rows
section
variable {X : Cx} {C fI : Addr} {x0 q0 : Str} {B newId initId : String} {bmB : List Value}
end
end L2
namespace My
open PySem PySem.Spec PyProof.Rows L2
end My

namespace My
open PySem PySem.Spec PyProof.Rows L2
/-! ### an error as a value: its class and its dict are known -/
def ErV (cls : Value) (d : Option Addr) (a : Addr) : HO := .ext fun h => ∃ (oe : Obj) (vs : Array Value), h.get? a = some oe ∧ Zc cls d oe ∧ oe.data = .fields vs
/-- its dict stands -/
def DictE (H : Hp) (d : Option Addr) : Prop := d = none ∨ ∃ dd fs, d = some dd ∧ H dd = some (.xd fs)
/-- which class lies under which: the errors among themselves, and their bases -/
def kitTab (K : PySem.W.Frag) (vs ls : List Str) : Bool :=
  (vs ++ ls).all (fun c => (vs ++ ls).all fun d => decide (PySem.W.kitOne K (.ref (He.ga K c)) (.ref (He.ga K d)) = some (decide (c = d)))) &&
  (vs.all (fun c => decide (PySem.W.kitOne K (.ref (He.ga K c)) (.ref (He.ga K "RingError")) = some true) && (decide (PySem.W.kitOne K (.ref (He.ga K c)) (.type "ValueError") = some true) && decide (PySem.W.kitOne K (.ref (He.ga K c)) (.type "LookupError") = some false))) &&
  ls.all fun c => decide (PySem.W.kitOne K (.ref (He.ga K c)) (.ref (He.ga K "RingError")) = some false) && (decide (PySem.W.kitOne K (.ref (He.ga K c)) (.type "ValueError") = some false) && decide (PySem.W.kitOne K (.ref (He.ga K c)) (.type "LookupError") = some true)))
section
variable {K : PySem.W.Frag} {vs ls : List Str} {c d : Str}
theorem kitTab.one (h : kitTab K vs ls = true) (hc : c ∈ vs ++ ls) (hd : d ∈ vs ++ ls) : PySem.W.kitOne K (.ref (He.ga K c)) (.ref (He.ga K d)) = some (decide (c = d)) := by
  unfold kitTab at h
  rw [Bool.and_eq_true] at h
  exact of_decide_eq_true (List.all_eq_true.mp (List.all_eq_true.mp h.1 c hc) d hd)
theorem kitTab.val (h : kitTab K vs ls = true) (hc : c ∈ vs) : PySem.W.kitOne K (.ref (He.ga K c)) (.ref (He.ga K "RingError")) = some true ∧ PySem.W.kitOne K (.ref (He.ga K c)) (.type "ValueError") = some true ∧ PySem.W.kitOne K (.ref (He.ga K c)) (.type "LookupError") = some false := by
  unfold kitTab at h
  rw [Bool.and_eq_true, Bool.and_eq_true] at h
  have z := List.all_eq_true.mp h.2.1 c hc
  rw [Bool.and_eq_true, Bool.and_eq_true, decide_eq_true_iff, decide_eq_true_iff, decide_eq_true_iff] at z
  exact z
theorem kitTab.look (h : kitTab K vs ls = true) (hc : c ∈ ls) : PySem.W.kitOne K (.ref (He.ga K c)) (.ref (He.ga K "RingError")) = some false ∧ PySem.W.kitOne K (.ref (He.ga K c)) (.type "ValueError") = some false ∧ PySem.W.kitOne K (.ref (He.ga K c)) (.type "LookupError") = some true := by
  unfold kitTab at h
  rw [Bool.and_eq_true, Bool.and_eq_true] at h
  have z := List.all_eq_true.mp h.2.2 c hc
  rw [Bool.and_eq_true, Bool.and_eq_true, decide_eq_true_iff, decide_eq_true_iff, decide_eq_true_iff] at z
  exact z
end
/-! ### new lists lie beyond the system's modules -/
section
variable {X : Cx}
end
/-! ### errors in lists -/
def ErP (K : PySem.W.Frag) (H : Hp) (v : V) (c : Str) : Prop := ∃ (a : Addr) (d : Option Addr), v = .ref a ∧ H a = some (ErV (.ref (He.ga K c)) d a) ∧ DictE H d
theorem DictE.same {H H' : Hp} {d : Option Addr} (s : Same H H') (h : DictE H d) : DictE H' d := by
  rcases h with h | ⟨dd, fs, h1, h2⟩
  · exact .inl h
  · exact .inr ⟨dd, fs, h1, s _ _ h2⟩
theorem ErP.same {K : PySem.W.Frag} {H H' : Hp} {v : V} {c : Str} (s : Same H H') (h : ErP K H v c) : ErP K H' v c := by
  obtain ⟨a, d, e, h1, h2⟩ := h
  exact ⟨a, d, e, s _ _ h1, h2.same s⟩
end My

namespace My
open PySem PySem.Spec PyProof.Rows L2
/-! ### static methods, called on an instance -/
structure SInst (K : PySem.W.Frag) (C : Addr) (m : Str) (p g : Addr) : Prop where
  pg : PySem.W.plainGet K C Str.empty = true
  ic : PySem.W.isClsIn K C = true
  at_ : PySem.W.findIn K (.ref C) m = some (some (.ref p))
  ty : PySem.W.typeIn K (.ref p) = some (.type "staticmethod")
  get : PySem.W.specialIn K (.ref p) "__get__" = some (some (.builtin "staticmethod.__get__"))
  tk : PySem.W.takesIn K (.ref p) = some false
  cp : PySem.W.copiedNames.contains m = false
  rc : ∃ rest, PySem.W.recIn K p "staticmethod" = some (.ref g :: rest)
  kp : PySem.W.keepIn K (.ref g) = true
theorem SInst.get' {K : PySem.W.Frag} {C : Addr} {m : Str} {p g : Addr} (k : SInst K C m p g) : PySem.W.plainGet K C m = true := k.pg
def smiB (K : PySem.W.Frag) (x m : Str) : Bool := PySem.W.plainGet K (He.ga K x) Str.empty && (PySem.W.isClsIn K (He.ga K x) && (He.eqO (PySem.W.findIn K (.ref (He.ga K x)) m) (some (some (.ref (prA K (He.ga K x) m)))) &&
  (decide (PySem.W.typeIn K (.ref (prA K (He.ga K x) m)) = some (.type "staticmethod")) && (decide (PySem.W.specialIn K (.ref (prA K (He.ga K x) m)) "__get__" = some (some (.builtin "staticmethod.__get__"))) &&
  (decide (PySem.W.takesIn K (.ref (prA K (He.ga K x) m)) = some false) && (!PySem.W.copiedNames.contains m && ((match PySem.W.recIn K (prA K (He.ga K x) m) "staticmethod" with
  | some (.ref _ :: _) => true
  | _ => false) && PySem.W.keepIn K (.ref (smA K (He.ga K x) m)))))))))
theorem smi_ok {K : PySem.W.Frag} {x m : Str} (h : smiB K x m = true) : SInst K (He.ga K x) m (prA K (He.ga K x) m) (smA K (He.ga K x) m) := by
  obtain ⟨h1, h⟩ := He.ba h
  obtain ⟨h2, h⟩ := He.ba h
  obtain ⟨h3, h⟩ := He.ba h
  obtain ⟨h4, h⟩ := He.ba h
  obtain ⟨h5, h⟩ := He.ba h
  obtain ⟨h6, h⟩ := He.ba h
  obtain ⟨h7, h⟩ := He.ba h
  obtain ⟨h8, h9⟩ := He.ba h
  refine ⟨h1, h2, He.eqO_ok h3, of_decide_eq_true h4, of_decide_eq_true h5, of_decide_eq_true h6, by rw [Bool.not_eq_true'] at h7; exact h7, ?_, h9⟩
  unfold smA
  split at h8
  · rename_i a b e
    exact ⟨_, by rw [e]⟩
  · cases h8
section
variable {X : Cx} {CX : CXT} {k : Nat} {C p g : Addr} {ps : List Str} {sp : Sp} {E : XK} {o e : Expr} {es : List Expr} {m : Str} {pos apos : Pos} {ta : TE} {t : TA}
def tSMeth (C : Addr) (m : Str) (sp : Sp) (E : XK) (ta : TE) (t : TA) : TE := fun σ H Q => ta σ H fun x H1 => ∃ a dx fs, x = .ref a ∧ H1 a = some (.ins C dx fs) ∧ fs.lookup m = none ∧ t σ H1 fun ws H2 => sp ws H2 Q E
theorem calSM {pl : Sem Bool} (O : OkA X.prog X.w X.K X.mg X.base CX k g ps sp) (hr : Room k X.A) (hx : Passes CX X E) (c : SInst X.K C m p g) (he : PE X o ta) (ha : PA X (e :: es) t)
    (hst : starEach (e :: es) X.env = (false, eval e X.env) :: starEach es X.env := by rfl) (hpl : (backTo pos (starEach es X.env)).any (·.1) = false := by rfl)
    (ht : eval (.Call (.Attribute o m apos) (e :: es) [] pos) X.env = (do
      let ov ← eval o X.env
      standAt apos.atName
      let (f, first) ← holding [ov] (getMethod ov m pl)
      callWith pos f first (backTo pos (starEach (e :: es) X.env)) (backToKw pos (keywordEach [] X.env))) := by rfl) :
    PE X (.Call (.Attribute o m apos) (e :: es) [] pos) (tSMeth C m sp E ta t) := by
  obtain ⟨fd, F, b⟩ := O
  refine ⟨fun pins s σ H Q I h => ?_⟩
  refine PySem.W.methodCall_KW (pl := pl) (thn (he.run pins s σ H _ I h) fun u s1 ⟨x, H1, I1, rx, a, dx, fs, ex, ea, l, q⟩ => ?_) ht
  subst ex
  obtain rfl : u = Value.ref a := rx
  obtain ⟨mA, O, rr, _, _, _⟩ := ins_get I1.hok ea
  have hn : mA m = none := RelO.none_of (by rw [← l]; exact rr m)
  obtain ⟨od, J, hl⟩ := O.look
  obtain ⟨rest, hp⟩ := c.rc
  refine PySem.W.method_usual (r := some (.ref p)) I1.kIn J (PySem.W.plainGet_of c.get').1 (PySem.W.plainGet_of c.get').2 c.at_ ?_ ?_
  · show ((PySem.W.typeIn X.K (.ref p)).any fun t => t != .type "function" && t != .type "method_descriptor" && t != .type "wrapper_descriptor") = true
    rw [c.ty]
    decide +kernel
  refine PySem.W.get_bind I1.kIn J (PySem.W.plainGet_of c.get').1 (ClX.find_cm c.ic c.at_ c.get c.tk c.cp (by rw [hl m, hn])) (PySem.W.plainGet_of c.get').2 ?_
  refine wpAny_call (PySem.W.sm_get (s := { s1 with toks := s1.toks + 1 }) I1.kIn hp (PySem.W.handed_on rfl ?_))
  have I2 := I1.tok (s1.toks + 1)
  refine PySem.W.callWith_K (h₀ := X.base) I2.ok.mod.kin c.kp (thn (ha.run pos pins _ σ H1 _ I2 q) fun us s2 ⟨vs, H2, I3, rv, q2⟩ => ?_) hst hpl
  refine ⟨I3.kIn, ?_⟩
  exact run_fn (ds := []) (dvs := []) F hr b .nil hx I3 rv (by rw [List.append_nil]; exact q2)
end
/-! ### a class's own constant, read by the class's name: a tuple of texts -/
def crdB (K : PySem.W.Frag) (x : Str) : Bool := PySem.W.readsIn K (He.ga K x) (.type "type") && decide (PySem.W.specialIn K (.ref (He.ga K x)) "__getattribute__" = some (some (.builtin "type.__getattribute__")))
theorem crd_ok {K : PySem.W.Frag} {x : Str} (h : crdB K x = true) : ClX.CRead K (He.ga K x) (.type "type") := by
  obtain ⟨h1, h2⟩ := He.ba h
  exact ⟨h1, of_decide_eq_true h2⟩
def tupA (K : PySem.W.Frag) (a : Addr) (ys : List Str) : Bool :=
  match K.lookup a with
  | some o => decide (o.cls = .type "tuple") && (match o.data with | .seq its _ => decide (its.size ≤ 1000) && eqSs its.toList ys | _ => false)
  | none => false
theorem tupA_ok {K : PySem.W.Frag} {a : Addr} {ys : List Str} (h : tupA K a ys = true) (H : Hp) : SqT K H a (ys.map V.str) := by
  unfold tupA at h
  split at h
  · rename_i o ho
    rw [Bool.and_eq_true, decide_eq_true_iff] at h
    obtain ⟨h1, h2⟩ := h
    split at h2
    · rename_i its n hd
      rw [Bool.and_eq_true, decide_eq_true_iff] at h2
      exact .inr ⟨o, its, n, ho, h1, hd, sz (by omega), eqSs_ok h2.2⟩
    · cases h2
  · cases h
def cvtB (K : PySem.W.Frag) (x f : Str) (ys : List Str) : Bool :=
  match PySem.W.findCls K (.ref (He.ga K x)) (.type "type") f with
  | some (.val (.ref a)) => tupA K a ys
  | _ => false
theorem cvt_ok {K : PySem.W.Frag} {x f : Str} {ys : List Str} (h : cvtB K x f ys = true) : ∃ a : Addr, ClX.CVal K (He.ga K x) (.type "type") f (.ref a) (.ref a) ∧ ∀ H : Hp, SqT K H a (ys.map V.str) := by
  unfold cvtB at h
  split at h
  · rename_i a e
    exact ⟨a, ⟨e, rfl⟩, fun H => tupA_ok h H⟩
  · cases h
end My

/-! ### raising with the context known to be None (L2N): for errors that are caught and answered by another error -/
namespace PySem
namespace Xf_value
open PySem.W PySem.Calls PyProof.Rows PySem.HandSPX
/-- a made error, its record in full -/
structure OwnMadeN (h h' : Heap) (e C d : Addr) (v : Value) : Prop where
  keep : ∀ b o, h.get? b = some o → h'.get? b = some o
  new : h.objs.size ≤ e
  obj : ∃ t : Addr, h'.get? e = some { cls := .ref C, dict := some d, data := .fields #[.ref t, .none, .none, .none, .bool false, .none] }
  dbig : h.objs.size ≤ d
  dne : d ≠ e
  ns : h'.Ns1 d (fun y => if y = "value" then some v else none)
section
variable {prog : Program} {w : World} {A : Around} {E : Value → Shared → Prop} {R : Result → Shared → Prop} {s : Shared} {K : Frag} {mg : Str → Option Value} {C fI : Addr} {x0 q0 : Str} {B newId initId : String} {bmB : List Value}
theorem madeN (FB : ExcBaseFacts B newId initId bmB) (SF : StoreFacts B bmB "object.__setattr__" "object") (T : Txt K mg x0 q0 C fI newId bmB) {v : Value} (X : K.In s.heap) (hlim : s.heap.NoLimit) (hroom : A.depth + 1 < recursionLimit)
    (hq : ∀ h' tk e d, OwnMadeN s.heap h' e C d v → R (.ok (.ret (.ref e))) { s with heap := h', toks := tk }) :
    codeAny (model prog w) A (.call (.ref C) ⟨[v], []⟩) R s := by
  obtain ⟨nm, N, q, bs, bm, hdct, sn, sub, ab, col, dd, k0, k1, k2, k3, k5, hC, hbm⟩ := excInit_of X T.mkr
  obtain ⟨hp, g, dr, tk, os⟩ := s
  have k : ∀ b o, hp.get? b = some o → ((hp.push (kdv_tup [v])).push (excO C hp.objs.size)).get? b = some o := fun b o e => Heap.get?_push_of_some _ (Heap.get?_push_of_some _ e)
  have hget : ((hp.push (kdv_tup [v])).push (excO C hp.objs.size)).get? (hp.objs.size + 1) = some (excO C hp.objs.size) := by heap_get
  refine call_own FB hbm hC (looks_findIn X T.iC) (fun self => bind_fn X self T.tC) (one_size v) ?_
  refine init_end (s := ⟨(hp.push (kdv_tup [v])).push (excO C hp.objs.size), g, dr, tk, os⟩) SF T (X.keeps k) (hlim.keeps k) hget ?_ fun h' tk' dx ⟨k', hx, dn, dne, hns⟩ => ?_
  · show A.depth + 1 < recursionLimit
    exact hroom
  · have old : ∀ b o, hp.get? b = some o → h'.get? b = some o := fun b o e => k' b o (Nat.ne_of_lt (Nat.lt_succ_of_lt (Heap.lt_size e))) (k b o e)
    have z : hp.objs.size + 1 + 1 ≤ dx := by
      first
        | (simpa only [Heap.size_push] using dn)
        | exact dn
        | (have q := dn; rw [Heap.size_push, Heap.size_push] at q; exact q)
    exact ⟨rfl, hq h' tk' (hp.objs.size + 1) dx ⟨old, Nat.le_succ _, ⟨_, hx⟩, Nat.le_trans (Nat.le_trans (Nat.le_succ _) (Nat.le_succ _)) z, dne, hns⟩⟩
end
end Xf_value
end PySem
namespace My
open PySem PySem.Spec PyProof.Rows L2
section
variable {X : Cx} {C fI : Addr} {x0 q0 : Str} {B newId initId : String} {bmB : List Value}
/-- x(e), its context None, its record of six fields -/
theorem pmk5_value {a : Expr} {ta : TA} {p pos : Pos} (FB : ExcBaseFacts B newId initId bmB) (SF : StoreFacts B bmB "object.__setattr__" "object") (T : PySem.Xf_value.Txt X.K X.mg x0 q0 C fI newId bmB) (hr : X.A.depth + 1 < recursionLimit) (ha : PA X [a] ta) (hg : Gl X x0 := by rfl) (hdb : (x0 == ("__debug__" : Str)) = false := by decide)
    (he : starEach (a :: []) X.env = (false, eval a X.env) :: starEach [] X.env := by rfl) (hpl : (backTo pos (starEach [] X.env)).any (·.1) = false := by rfl) :
    L2H.PMk5 X (.Call (.Name x0 p) [a] [] pos) (tMk_value C ta) := by
  intro pins s σ H Q I h
  refine wpAny_Call_Name_kw (ld_glob I hg T.gC ?_ hdb)
  refine PySem.W.callWith_K (h₀ := X.base) I.ok.mod.kin T.kC (thn (ha.run pos pins s σ H _ I h) fun us s1 hh => ?_) he hpl
  obtain ⟨vs, H1, I1, r1, v, ev, q1⟩ := hh
  subst ev
  refine ⟨I1.kIn, ?_⟩
  cases r1 with
  | cons rv rn =>
    rename_i v' us'
    cases rn
    show wpAny _ _ (call (.ref C) [v']) _ _ _
    have hlim := I1.nolimit
    obtain ⟨hp, g, dr, tk, os⟩ := s1
    refine wpAny_call (PySem.Xf_value.madeN FB SF T I1.kIn hlim hr fun h' tk' e d M => ?_)
    show L2N.MkP X pins σ Q (.ref e) ⟨h', g, dr, tk', os⟩ ∧ L2H.Six (.ref e) ⟨h', g, dr, tk', os⟩
    obtain ⟨t0, hoe⟩ := M.obj
    have hns := M.ns
    obtain ⟨G', g1, g2⟩ := restrict h' fun b => decide (b ≠ e)
    have gk : ∀ b, b ≠ e → G'.get? b = h'.get? b := fun b hb => g1 b (decide_eq_true hb)
    have ge : G'.get? e = none := g2 e (by simp)
    have old : ∀ b o, hp.get? b = some o → G'.get? b = some o := fun b o q => (gk b (Nat.ne_of_lt (Nat.lt_of_lt_of_le (Heap.lt_size q) M.new))).trans (M.keep b o q)
    have ob : ObjOk X.prog X.w (upd H1 d (.xd [(("value" : Str), v)])) G' d (.xd [(("value" : Str), v)]) :=
      ⟨_, hns.at (fun o q => (gk d M.dne).trans q), fun f => relO_value rv f⟩
    have J : Inv X pins σ (upd H1 d (.xd [(("value" : Str), v)])) ⟨G', g, dr, tk', os⟩ := I1.laid (t' := tk') old M.dbig ob
    refine ⟨⟨e, _, _, ⟨G', g, dr, tk', os⟩, _, .ref C, some d, rfl, J, fun b o q => ?_, ge, hoe, ⟨rfl, rfl, fun vs hv => ?_⟩, rfl, rfl, ?_, rfl, I1.bare, raises_own T.exC T.tyC, q1 d (I1.hok.fresh M.dbig)⟩, fun a oe vs ea hg2 hd2 => ?_⟩
    · by_cases hb : b = e
      · have q' : G'.get? b = some o := q
        rw [hb, ge] at q'; cases q'
      · exact (gk b hb).symm.trans q
    · cases hv
      rfl
    · rw [upd_ne (Ne.symm M.dne)]
      exact I1.hok.fresh M.new
    · cases ea
      have hg3 : h'.get? e = some oe := hg2
      rw [hoe] at hg3
      cases hg3
      cases hd2
      show (4 : Nat) < 6
      decide
theorem ps_raiseN_value {a : Expr} {ta : TA} {W : WX} {p pos pos2 : Pos} {k : Nat} (hc : X.calm = true) (FB : ExcBaseFacts B newId initId bmB) (SF : StoreFacts B bmB "object.__setattr__" "object") (T : PySem.Xf_value.Txt X.K X.mg x0 q0 C fI newId bmB) (hr : Room k X.A) (tk : L2N.Takes X W) (ha : PA X [a] ta) (hg : Gl X x0 := by rfl) (hdb : (x0 == ("__debug__" : Str)) = false := by decide)
    (he : starEach (a :: []) X.env = (false, eval a X.env) :: starEach [] X.env := by rfl) (hpl : (backTo pos (starEach [] X.env)).any (·.1) = false := by rfl) :
    PS X (.Raise (some (.Call (.Name x0 p) [a] [] pos)) none pos2) (tRaise_value C W ta) := L2N.ps_raise hc tk (pmk5_value FB SF T (by have := hr.dp; omega) ha hg hdb he hpl).pmk
end
end My
namespace PySem
namespace Xf_limit
open PySem.W PySem.Calls PyProof.Rows PySem.HandSPX
/-- a made error, its record in full -/
structure OwnMadeN (h h' : Heap) (e C d : Addr) (v : Value) : Prop where
  keep : ∀ b o, h.get? b = some o → h'.get? b = some o
  new : h.objs.size ≤ e
  obj : ∃ t : Addr, h'.get? e = some { cls := .ref C, dict := some d, data := .fields #[.ref t, .none, .none, .none, .bool false, .none] }
  dbig : h.objs.size ≤ d
  dne : d ≠ e
  ns : h'.Ns1 d (fun y => if y = "limit" then some v else none)
section
variable {prog : Program} {w : World} {A : Around} {E : Value → Shared → Prop} {R : Result → Shared → Prop} {s : Shared} {K : Frag} {mg : Str → Option Value} {C fI : Addr} {x0 q0 : Str} {B newId initId : String} {bmB : List Value}
theorem madeN (FB : ExcBaseFacts B newId initId bmB) (SF : StoreFacts B bmB "object.__setattr__" "object") (T : Txt K mg x0 q0 C fI newId bmB) {v : Value} (X : K.In s.heap) (hlim : s.heap.NoLimit) (hroom : A.depth + 1 < recursionLimit)
    (hq : ∀ h' tk e d, OwnMadeN s.heap h' e C d v → R (.ok (.ret (.ref e))) { s with heap := h', toks := tk }) :
    codeAny (model prog w) A (.call (.ref C) ⟨[v], []⟩) R s := by
  obtain ⟨nm, N, q, bs, bm, hdct, sn, sub, ab, col, dd, k0, k1, k2, k3, k5, hC, hbm⟩ := excInit_of X T.mkr
  obtain ⟨hp, g, dr, tk, os⟩ := s
  have k : ∀ b o, hp.get? b = some o → ((hp.push (kdv_tup [v])).push (excO C hp.objs.size)).get? b = some o := fun b o e => Heap.get?_push_of_some _ (Heap.get?_push_of_some _ e)
  have hget : ((hp.push (kdv_tup [v])).push (excO C hp.objs.size)).get? (hp.objs.size + 1) = some (excO C hp.objs.size) := by heap_get
  refine call_own FB hbm hC (looks_findIn X T.iC) (fun self => bind_fn X self T.tC) (one_size v) ?_
  refine init_end (s := ⟨(hp.push (kdv_tup [v])).push (excO C hp.objs.size), g, dr, tk, os⟩) SF T (X.keeps k) (hlim.keeps k) hget ?_ fun h' tk' dx ⟨k', hx, dn, dne, hns⟩ => ?_
  · show A.depth + 1 < recursionLimit
    exact hroom
  · have old : ∀ b o, hp.get? b = some o → h'.get? b = some o := fun b o e => k' b o (Nat.ne_of_lt (Nat.lt_succ_of_lt (Heap.lt_size e))) (k b o e)
    have z : hp.objs.size + 1 + 1 ≤ dx := by
      first
        | (simpa only [Heap.size_push] using dn)
        | exact dn
        | (have q := dn; rw [Heap.size_push, Heap.size_push] at q; exact q)
    exact ⟨rfl, hq h' tk' (hp.objs.size + 1) dx ⟨old, Nat.le_succ _, ⟨_, hx⟩, Nat.le_trans (Nat.le_trans (Nat.le_succ _) (Nat.le_succ _)) z, dne, hns⟩⟩
end
end Xf_limit
end PySem
namespace My
open PySem PySem.Spec PyProof.Rows L2
section
variable {X : Cx} {C fI : Addr} {x0 q0 : Str} {B newId initId : String} {bmB : List Value}
/-- x(e), its context None, its record of six fields -/
theorem pmk5_limit {a : Expr} {ta : TA} {p pos : Pos} (FB : ExcBaseFacts B newId initId bmB) (SF : StoreFacts B bmB "object.__setattr__" "object") (T : PySem.Xf_limit.Txt X.K X.mg x0 q0 C fI newId bmB) (hr : X.A.depth + 1 < recursionLimit) (ha : PA X [a] ta) (hg : Gl X x0 := by rfl) (hdb : (x0 == ("__debug__" : Str)) = false := by decide)
    (he : starEach (a :: []) X.env = (false, eval a X.env) :: starEach [] X.env := by rfl) (hpl : (backTo pos (starEach [] X.env)).any (·.1) = false := by rfl) :
    L2H.PMk5 X (.Call (.Name x0 p) [a] [] pos) (tMk_limit C ta) := by
  intro pins s σ H Q I h
  refine wpAny_Call_Name_kw (ld_glob I hg T.gC ?_ hdb)
  refine PySem.W.callWith_K (h₀ := X.base) I.ok.mod.kin T.kC (thn (ha.run pos pins s σ H _ I h) fun us s1 hh => ?_) he hpl
  obtain ⟨vs, H1, I1, r1, v, ev, q1⟩ := hh
  subst ev
  refine ⟨I1.kIn, ?_⟩
  cases r1 with
  | cons rv rn =>
    rename_i v' us'
    cases rn
    show wpAny _ _ (call (.ref C) [v']) _ _ _
    have hlim := I1.nolimit
    obtain ⟨hp, g, dr, tk, os⟩ := s1
    refine wpAny_call (PySem.Xf_limit.madeN FB SF T I1.kIn hlim hr fun h' tk' e d M => ?_)
    show L2N.MkP X pins σ Q (.ref e) ⟨h', g, dr, tk', os⟩ ∧ L2H.Six (.ref e) ⟨h', g, dr, tk', os⟩
    obtain ⟨t0, hoe⟩ := M.obj
    have hns := M.ns
    obtain ⟨G', g1, g2⟩ := restrict h' fun b => decide (b ≠ e)
    have gk : ∀ b, b ≠ e → G'.get? b = h'.get? b := fun b hb => g1 b (decide_eq_true hb)
    have ge : G'.get? e = none := g2 e (by simp)
    have old : ∀ b o, hp.get? b = some o → G'.get? b = some o := fun b o q => (gk b (Nat.ne_of_lt (Nat.lt_of_lt_of_le (Heap.lt_size q) M.new))).trans (M.keep b o q)
    have ob : ObjOk X.prog X.w (upd H1 d (.xd [(("limit" : Str), v)])) G' d (.xd [(("limit" : Str), v)]) :=
      ⟨_, hns.at (fun o q => (gk d M.dne).trans q), fun f => relO_limit rv f⟩
    have J : Inv X pins σ (upd H1 d (.xd [(("limit" : Str), v)])) ⟨G', g, dr, tk', os⟩ := I1.laid (t' := tk') old M.dbig ob
    refine ⟨⟨e, _, _, ⟨G', g, dr, tk', os⟩, _, .ref C, some d, rfl, J, fun b o q => ?_, ge, hoe, ⟨rfl, rfl, fun vs hv => ?_⟩, rfl, rfl, ?_, rfl, I1.bare, raises_own T.exC T.tyC, q1 d (I1.hok.fresh M.dbig)⟩, fun a oe vs ea hg2 hd2 => ?_⟩
    · by_cases hb : b = e
      · have q' : G'.get? b = some o := q
        rw [hb, ge] at q'; cases q'
      · exact (gk b hb).symm.trans q
    · cases hv
      rfl
    · rw [upd_ne (Ne.symm M.dne)]
      exact I1.hok.fresh M.new
    · cases ea
      have hg3 : h'.get? e = some oe := hg2
      rw [hoe] at hg3
      cases hg3
      cases hd2
      show (4 : Nat) < 6
      decide
theorem ps_raiseN_limit {a : Expr} {ta : TA} {W : WX} {p pos pos2 : Pos} {k : Nat} (hc : X.calm = true) (FB : ExcBaseFacts B newId initId bmB) (SF : StoreFacts B bmB "object.__setattr__" "object") (T : PySem.Xf_limit.Txt X.K X.mg x0 q0 C fI newId bmB) (hr : Room k X.A) (tk : L2N.Takes X W) (ha : PA X [a] ta) (hg : Gl X x0 := by rfl) (hdb : (x0 == ("__debug__" : Str)) = false := by decide)
    (he : starEach (a :: []) X.env = (false, eval a X.env) :: starEach [] X.env := by rfl) (hpl : (backTo pos (starEach [] X.env)).any (·.1) = false := by rfl) :
    PS X (.Raise (some (.Call (.Name x0 p) [a] [] pos)) none pos2) (tRaise_limit C W ta) := L2N.ps_raise hc tk (pmk5_limit FB SF T (by have := hr.dp; omega) ha hg hdb he hpl).pmk
end
end My
namespace PySem
namespace Xf_index
open PySem.W PySem.Calls PyProof.Rows PySem.HandSPX
/-- a made error, its record in full -/
structure OwnMadeN (h h' : Heap) (e C d : Addr) (v : Value) : Prop where
  keep : ∀ b o, h.get? b = some o → h'.get? b = some o
  new : h.objs.size ≤ e
  obj : ∃ t : Addr, h'.get? e = some { cls := .ref C, dict := some d, data := .fields #[.ref t, .none, .none, .none, .bool false, .none] }
  dbig : h.objs.size ≤ d
  dne : d ≠ e
  ns : h'.Ns1 d (fun y => if y = "index" then some v else none)
section
variable {prog : Program} {w : World} {A : Around} {E : Value → Shared → Prop} {R : Result → Shared → Prop} {s : Shared} {K : Frag} {mg : Str → Option Value} {C fI : Addr} {x0 q0 : Str} {B newId initId : String} {bmB : List Value}
theorem madeN (FB : ExcBaseFacts B newId initId bmB) (SF : StoreFacts B bmB "object.__setattr__" "object") (T : Txt K mg x0 q0 C fI newId bmB) {v : Value} (X : K.In s.heap) (hlim : s.heap.NoLimit) (hroom : A.depth + 1 < recursionLimit)
    (hq : ∀ h' tk e d, OwnMadeN s.heap h' e C d v → R (.ok (.ret (.ref e))) { s with heap := h', toks := tk }) :
    codeAny (model prog w) A (.call (.ref C) ⟨[v], []⟩) R s := by
  obtain ⟨nm, N, q, bs, bm, hdct, sn, sub, ab, col, dd, k0, k1, k2, k3, k5, hC, hbm⟩ := excInit_of X T.mkr
  obtain ⟨hp, g, dr, tk, os⟩ := s
  have k : ∀ b o, hp.get? b = some o → ((hp.push (kdv_tup [v])).push (excO C hp.objs.size)).get? b = some o := fun b o e => Heap.get?_push_of_some _ (Heap.get?_push_of_some _ e)
  have hget : ((hp.push (kdv_tup [v])).push (excO C hp.objs.size)).get? (hp.objs.size + 1) = some (excO C hp.objs.size) := by heap_get
  refine call_own FB hbm hC (looks_findIn X T.iC) (fun self => bind_fn X self T.tC) (one_size v) ?_
  refine init_end (s := ⟨(hp.push (kdv_tup [v])).push (excO C hp.objs.size), g, dr, tk, os⟩) SF T (X.keeps k) (hlim.keeps k) hget ?_ fun h' tk' dx ⟨k', hx, dn, dne, hns⟩ => ?_
  · show A.depth + 1 < recursionLimit
    exact hroom
  · have old : ∀ b o, hp.get? b = some o → h'.get? b = some o := fun b o e => k' b o (Nat.ne_of_lt (Nat.lt_succ_of_lt (Heap.lt_size e))) (k b o e)
    have z : hp.objs.size + 1 + 1 ≤ dx := by
      first
        | (simpa only [Heap.size_push] using dn)
        | exact dn
        | (have q := dn; rw [Heap.size_push, Heap.size_push] at q; exact q)
    exact ⟨rfl, hq h' tk' (hp.objs.size + 1) dx ⟨old, Nat.le_succ _, ⟨_, hx⟩, Nat.le_trans (Nat.le_trans (Nat.le_succ _) (Nat.le_succ _)) z, dne, hns⟩⟩
end
end Xf_index
end PySem
namespace My
open PySem PySem.Spec PyProof.Rows L2
section
variable {X : Cx} {C fI : Addr} {x0 q0 : Str} {B newId initId : String} {bmB : List Value}
/-- x(e), its context None, its record of six fields -/
theorem pmk5_index {a : Expr} {ta : TA} {p pos : Pos} (FB : ExcBaseFacts B newId initId bmB) (SF : StoreFacts B bmB "object.__setattr__" "object") (T : PySem.Xf_index.Txt X.K X.mg x0 q0 C fI newId bmB) (hr : X.A.depth + 1 < recursionLimit) (ha : PA X [a] ta) (hg : Gl X x0 := by rfl) (hdb : (x0 == ("__debug__" : Str)) = false := by decide)
    (he : starEach (a :: []) X.env = (false, eval a X.env) :: starEach [] X.env := by rfl) (hpl : (backTo pos (starEach [] X.env)).any (·.1) = false := by rfl) :
    L2H.PMk5 X (.Call (.Name x0 p) [a] [] pos) (tMk_index C ta) := by
  intro pins s σ H Q I h
  refine wpAny_Call_Name_kw (ld_glob I hg T.gC ?_ hdb)
  refine PySem.W.callWith_K (h₀ := X.base) I.ok.mod.kin T.kC (thn (ha.run pos pins s σ H _ I h) fun us s1 hh => ?_) he hpl
  obtain ⟨vs, H1, I1, r1, v, ev, q1⟩ := hh
  subst ev
  refine ⟨I1.kIn, ?_⟩
  cases r1 with
  | cons rv rn =>
    rename_i v' us'
    cases rn
    show wpAny _ _ (call (.ref C) [v']) _ _ _
    have hlim := I1.nolimit
    obtain ⟨hp, g, dr, tk, os⟩ := s1
    refine wpAny_call (PySem.Xf_index.madeN FB SF T I1.kIn hlim hr fun h' tk' e d M => ?_)
    show L2N.MkP X pins σ Q (.ref e) ⟨h', g, dr, tk', os⟩ ∧ L2H.Six (.ref e) ⟨h', g, dr, tk', os⟩
    obtain ⟨t0, hoe⟩ := M.obj
    have hns := M.ns
    obtain ⟨G', g1, g2⟩ := restrict h' fun b => decide (b ≠ e)
    have gk : ∀ b, b ≠ e → G'.get? b = h'.get? b := fun b hb => g1 b (decide_eq_true hb)
    have ge : G'.get? e = none := g2 e (by simp)
    have old : ∀ b o, hp.get? b = some o → G'.get? b = some o := fun b o q => (gk b (Nat.ne_of_lt (Nat.lt_of_lt_of_le (Heap.lt_size q) M.new))).trans (M.keep b o q)
    have ob : ObjOk X.prog X.w (upd H1 d (.xd [(("index" : Str), v)])) G' d (.xd [(("index" : Str), v)]) :=
      ⟨_, hns.at (fun o q => (gk d M.dne).trans q), fun f => relO_index rv f⟩
    have J : Inv X pins σ (upd H1 d (.xd [(("index" : Str), v)])) ⟨G', g, dr, tk', os⟩ := I1.laid (t' := tk') old M.dbig ob
    refine ⟨⟨e, _, _, ⟨G', g, dr, tk', os⟩, _, .ref C, some d, rfl, J, fun b o q => ?_, ge, hoe, ⟨rfl, rfl, fun vs hv => ?_⟩, rfl, rfl, ?_, rfl, I1.bare, raises_own T.exC T.tyC, q1 d (I1.hok.fresh M.dbig)⟩, fun a oe vs ea hg2 hd2 => ?_⟩
    · by_cases hb : b = e
      · have q' : G'.get? b = some o := q
        rw [hb, ge] at q'; cases q'
      · exact (gk b hb).symm.trans q
    · cases hv
      rfl
    · rw [upd_ne (Ne.symm M.dne)]
      exact I1.hok.fresh M.new
    · cases ea
      have hg3 : h'.get? e = some oe := hg2
      rw [hoe] at hg3
      cases hg3
      cases hd2
      show (4 : Nat) < 6
      decide
end
end My
namespace My
open PySem PySem.Spec PyProof.Rows L2
section
variable {X : Cx} {C : Addr} {bmB : List Value} {B newId initId : String}
theorem pmk5_own0 {x : Str} {p pos : Pos} (F : ExcBaseFacts B newId initId bmB) (T : Exc0 X.K X.mg x C newId bmB) (hg : Gl X x := by rfl)
    (hdb : (x == ("__debug__" : Str)) = false := by decide) : L2H.PMk5 X (.Call (.Name x p) [] [] pos) (fun _ H Q => Q (.ref C) none H) := by
  intro pins s σ H Q I h
  refine wpAny_Call_Name_kw (ld_glob I hg T.gC ?_ hdb)
  refine PySem.W.callWith_K0 I.kIn T.kC ?_
  obtain ⟨bm, N, nm, qn, bs, hdct, sn, sub, ab, col, dd, k0, k1, k2, k3, k5, mN, hC, hN, hni, TT⟩ := exc_obj I.kIn T.q
  refine wpAny_call_exc_subT F TT hC hN hni (fun h' e hm => ?_) (Nat.zero_le _)
  exact L2H.mk_of5 I hm (raises_own T.exC T.tyC) h (I.hok.gone hm.new)
theorem ps_raiseN0 {x : Str} {W : WX} {p pos pos2 : Pos} (hc : X.calm = true) (F : ExcBaseFacts B newId initId bmB) (T : Exc0 X.K X.mg x C newId bmB) (tk : L2N.Takes X W) (hg : Gl X x := by rfl) (hdb : (x == ("__debug__" : Str)) = false := by decide) :
    PS X (.Raise (some (.Call (.Name x p) [] [] pos)) none pos2) (tRaise0 C W) := L2N.ps_raise hc tk (pmk5_own0 F T hg hdb).pmk
end
theorem calXN {X : Cx} {k : Nat} {ps : List Str} {sp : Sp} {E : XK} {x : Str} {p pos : Pos} {e : Expr} {es : List Expr} {t : TA} (O : Ok X.prog X.w X.K X.mg X.base (L2N.CX X.prog X.w) k x ps sp) (hr : Room k X.A) (tk : L2N.Takes X (fun c d _ H => E c d H)) (ha : PA X (e :: es) t) (hg : Gl X x := by rfl)
    (hdb : (x == ("__debug__" : Str)) = false := by decide)
    (he : starEach (e :: es) X.env = (false, eval e X.env) :: starEach es X.env := by rfl) (hpl : (backTo pos (starEach es X.env)).any (·.1) = false := by rfl) :
    PE X (.Call (.Name x p) (e :: es) [] pos) (tCall sp [] E t) := by
  obtain ⟨fd, F, b, kp, m⟩ := O
  exact pe_call F hr hg m kp b .nil (L2N.passes_call tk fun _ _ _ _ h => h) ha hdb he hpl
/-- what L2N tells is more than what L2 tells -/
theorem cxN {P : Program} {w : World} {outer : List Env} {H : Hp} {s : Shared} {E : XK} {u : Value} {s' : Shared} (h : L2N.CX P w outer H s E u s') : L2.CX P w outer H s E u s' := by
  obtain ⟨a, B, H', cls, d, e, fl, r⟩ := h
  exact ⟨a, B, H', cls, d, e, L2H.flyingZ_imp (fun o z => z.zc) fl, r⟩
theorem fnN {P : Program} {w : World} {K : PySem.W.Frag} {mg : Str → Option Value} {base : Heap} {k : Nat} {f : Addr} {fd : FuncData} {ps : List Str} {sp : Sp} (F : FnOk P w K mg base (L2N.CX P w) k f fd ps sp) : FnOk P w K mg base (L2.CX P w) k f fd ps sp := by
  refine ⟨F.len, fun A outer s H args us vs Q E hr e0 hb r h => codeAny_mono (F.run A outer s H args us vs Q E hr e0 hb r h) fun res s' q => ?_⟩
  cases res with
  | error e => exact cxN q
  | ok fl => cases fl <;> exact q
theorem Ok.n {P : Program} {w : World} {K : PySem.W.Frag} {mg : Str → Option Value} {base : Heap} {k : Nat} {x : Str} {ps : List Str} {sp : Sp} (O : Ok P w K mg base (L2N.CX P w) k x ps sp) : Ok P w K mg base (L2.CX P w) k x ps sp := by
  obtain ⟨fd, F, b, kp, m⟩ := O
  exact ⟨fd, fnN F, b, kp, m⟩
theorem OkA.n {P : Program} {w : World} {K : PySem.W.Frag} {mg : Str → Option Value} {base : Heap} {k : Nat} {f : Addr} {ps : List Str} {sp : Sp} (O : OkA P w K mg base (L2N.CX P w) k f ps sp) : OkA P w K mg base (L2.CX P w) k f ps sp := by
  obtain ⟨fd, F, b⟩ := O
  exact ⟨fd, fnN F, b⟩
/-! ### try / except (x, y) without a name, whose suite raises; all that the body raises is named -/
def wNamed (K : PySem.W.Frag) (c1 c2 : Value) (ts : Addr → Value → Option Addr → TS) (D : Ends) : WX := fun cls d σ H => PySem.W.exmAny K cls [c1, c2] = some true ∧ ∀ a, H a = none → ts a cls d D σ H
section
variable {X : Cx} {body : List Stmt} {pos : Pos} {tb : WX → TS} {Wout : WX} {x1 x2 : Str} {c1 c2 : Value} {ts : Addr → Value → Option Addr → TS} {b1 : Stmt} {bs : List Stmt} {p1 p2 p3 p4 : Pos} {kk : Nat}
end
end My

namespace My
open PySem PySem.Spec PyProof.Rows L2
/-! ### a target that is an attribute -/
def gFld (K : PySem.W.Frag) (ta : TE) (f : Str) : TG := fun v σ H Q => ta σ H fun x H1 => ∃ a C dx fs, x = .ref a ∧ H1 a = some (.ins C dx fs) ∧ Cls K C ∧ NoAttr K C f ∧ fs.length < 1000 ∧ Q σ (upd H1 a (.ins C dx (putF f v fs)))
theorem pg_fld {X : Cx} {o : Expr} {f : Str} {pos : Pos} {ta : TE} (ha : PE X o ta)
    (hs : ∀ v, assign (.Attribute o f pos) X.env v = (do
      let ov ← holding [v] (eval o X.env)
      standAt pos.atName
      holding [v, ov] (setAttr ov f v)
      release [v, ov] []) := by intro _; rfl) : PG X (.Attribute o f pos) (gFld X.K ta f) := by
  refine ⟨fun pins s σ H v u Q I r h => ?_⟩
  rw [hs]
  refine wpAny_bind (wpAny_holding (thn (ha.run pins s σ H _ I h) fun ov s1 hh => ?_))
  obtain ⟨x, H1, I1, rx, a, C, dx, fs, ex, ea, c, n, l, q⟩ := hh
  subst ex
  obtain rfl : ov = Value.ref a := rx
  refine wpAny_bind (wpAny_standAt (wpAny_bind (wpAny_holding (setattr_ok I1 ea c n l r fun s3 I3 => ?_))))
  exact wpAny_release ⟨σ, _, I3, q⟩
/-! ### o.m(e, .., k = v, ..), the def having keyword-only parameters with defaults -/
section
variable {X : Cx} {CX : CXT} {k n : Nat} {f C : Addr} {fd : FuncData} {ps ks : List Str} {sp : Sp} {E : L2.St → XK} {o e : Expr} {es : List Expr} {kws : List Keyword} {m : Str} {pos apos : Pos} {ta : TE} {t tk : TA} {g : List Value → List Value → List Value} {gV : List V → List V → List V}
def tMethN (C : Addr) (m : Str) (n j : Nat) (sp : Sp) (gV : List V → List V → List V) (E : L2.St → XK) (ta : TE) (t tk : TA) : TE := fun σ H Q => ta σ H fun x H1 => ∃ a dx fs, x = .ref a ∧ H1 a = some (.ins C dx fs) ∧ fs.lookup m = none ∧
  t σ H1 fun vs H2 => tk σ H2 fun zs H3 => vs.length + 1 = n ∧ zs.length = j ∧ sp (gV (x :: vs) zs) H3 Q (E σ)
theorem calMN {pl : Sem Bool} (F : FnOk X.prog X.w X.K X.mg X.base CX k f fd ps sp) (hb : KBn X.K fd ps n ks g gV) (hr : Room k X.A) (hx : ∀ σ, PassesAt CX X σ (E σ)) (c : Cls X.K C) (hm : Meth X.K C m f) (he : PE X o ta) (ha : PA X (e :: es) t) (hkw : PK X kws tk)
    (hall : (backToKw pos (keywordEach kws X.env)).all (·.1.isSome) = true := by rfl) (hks : (backToKw pos (keywordEach kws X.env)).filterMap (·.1) = ks := by rfl)
    (hst : starEach (e :: es) X.env = (false, eval e X.env) :: starEach es X.env := by rfl)
    (hpl : ((backTo pos (starEach (e :: es) X.env)).any (·.1) || (backToKw pos (keywordEach kws X.env)).any (·.1.isNone)) = false := by rfl)
    (ht : eval (.Call (.Attribute o m apos) (e :: es) kws pos) X.env = (do
      let ov ← eval o X.env
      standAt apos.atName
      let (f, first) ← holding [ov] (getMethod ov m pl)
      callWith pos f first (backTo pos (starEach (e :: es) X.env)) (backToKw pos (keywordEach kws X.env))) := by rfl) :
    PE X (.Call (.Attribute o m apos) (e :: es) kws pos) (tMethN C m n ks.length sp gV E ta t tk) := by
  refine ⟨fun pins s σ H Q I h => ?_⟩
  refine PySem.W.methodCall_KW (pl := pl) (thn (he.run pins s σ H _ I h) fun u s1 hh => ?_) ht
  obtain ⟨x, H1, I1, rx, a, dx, fs, ex, ea, l, q⟩ := hh
  subst ex
  obtain rfl : u = Value.ref a := rx
  refine getmeth_ok I1 ea c hm l ?_
  refine PySem.W.callWith_KW (first := [.ref a]) (h₀ := X.base) I.ok.mod.kin hm.kp hall (thn (ha.run pos pins s1 σ H1 _ I1 q) fun us s2 got => ?_) hpl hst
  obtain ⟨vs, H2, I2, r, q2⟩ := got
  refine thn (hkw.run pos pins s2 σ H2 _ I2 q2) fun ws s3 got => ?_
  obtain ⟨zs, H3, I3, rz, l1, l2, q3⟩ := got
  refine ⟨I3.kIn, ?_⟩
  rw [hks]
  have rr : Vals (V.ref a :: vs) (Value.ref a :: us) := .cons rfl r
  have r2 := hb.rel rr rz
  refine wpAny_call (codeAny_mono (F.run X.A X.stack s3 H3 ⟨Value.ref a :: us, ks.zip ws⟩ (g (Value.ref a :: us) ws) (gV (V.ref a :: vs) zs) Q (E σ) hr I3.env0 (hb.to s3 (Value.ref a :: us) ws I3.kIn (rr.length.symm.trans l1) (rz.length.symm.trans l2)) r2 q3) fun res s' hq => ?_)
  cases res with
  | error e => exact hx σ pins H3 s3 e s' I3 hq
  | ok fl =>
    cases fl with
    | ret u => exact I3.after hq
    | next => exact False.elim hq
    | brk => exact False.elim hq
    | cont => exact False.elim hq
end
end My

namespace My
open PySem PySem.Spec PyProof.Rows L2
/-! ### raising and unpacking while an error is handled whose context is None or an error without a context -/
def WarmAt (A : Around) (h : Heap) : Prop :=
  ∃ (x : Addr) (o : Obj) (vs : Array Value), A.handled = some (.ref x) ∧ h.get? x = some o ∧ o.data = .fields vs ∧
    (vs[2]? = some .none ∨ ∃ (y : Addr) (oy : Obj) (ws : Array Value), vs[2]? = some (.ref y) ∧ y ≠ x ∧ h.get? y = some oy ∧ oy.data = .fields ws ∧ ws[2]? = some .none)
theorem WarmAt.keeps {A : Around} {h h' : Heap} (W : WarmAt A h) (k : ∀ b o, h.get? b = some o → h'.get? b = some o) : WarmAt A h' := by
  obtain ⟨x, o, vs, e1, e2, e3, c⟩ := W
  refine ⟨x, o, vs, e1, k _ _ e2, e3, ?_⟩
  rcases c with c | ⟨y, oy, ws, c1, c2, c3, c4, c5⟩
  · exact .inl c
  · exact .inr ⟨y, oy, ws, c1, c2, k _ _ c3, c4, c5⟩
section
variable {prog : Program} {w : World} {A : Around} {E : Value → Shared → Prop} {s : Shared}
theorem ref_beq_ne {a b : Addr} (h : a ≠ b) : (Value.ref a == Value.ref b) = false := by
  have z := HotX.ref_bne h
  simpa [bne] using z
theorem unchain_two {x y a : Addr} {o oy : Obj} {vs ws : Array Value} {Q : Value → Shared → Prop} (h1 : s.heap.get? x = some o) (d1 : o.data = .fields vs) (c1 : vs[2]? = some (.ref y)) (nx : y ≠ x) (na : y ≠ a)
    (h2 : s.heap.get? y = some oy) (d2 : oy.data = .fields ws) (c2 : ws[2]? = some .none) (q : Q .none s) :
    wpAny (model prog w) A (holding [Value.ref a] (runValue (.builtin "proto.unchain" ⟨[.ref a, .ref x, .ref x, .bool false], []⟩))) Q E s := by
  refine wpAny_holding (wpAny_runValue (codeAny_builtin HotX.entry_unchain ?_))
  show wpAny _ _ (field (.ref x) 2 >>= _) _ _ s
  refine wpAny_bind (wpAny_field h1 d1 c1 ?_)
  rw [if_neg (show ¬ ((Value.ref y == Value.none) = true) from by simp), ref_beq_ne na, ref_beq_ne nx]
  refine wpAny_bind (wpAny_pure (wpAny_bind (wpAny_pure (wpAny_bind (wpAny_pure (wpAny_bind (wpAny_pure (wpAny_pure ⟨by first | decide | kernel_rfl | (simp [Code.quiet]), ?_⟩))))))))
  refine codeAny_builtin HotX.entry_unchain ?_
  show wpAny _ _ (field (.ref y) 2 >>= _) _ _ s
  refine wpAny_bind (wpAny_field h2 d2 c2 ?_)
  rw [if_pos (show (Value.none == Value.none) = true from rfl)]
  exact wpAny_pure q

theorem raiseNew_warm {α : Type} {h0 : Heap} {a : Addr} {oe : Obj} {vs : Array Value} {Q : α → Shared → Prop} (warm : WarmAt A h0) (k : ∀ b o, h0.get? b = some o → s.heap.get? b = some o) (na : h0.get? a = none) (ha : s.heap.get? a = some oe) (da : oe.data = .fields vs) (hi : 2 < vs.size)
    (hE : ∀ x, x ≠ a → E (.ref a) { s with heap := s.heap.update a (Obj.mapFields (·.setIfInBounds 2 (.ref x))) }) : wpAny (model prog w) A (raiseNew (.ref a) : Sem α) Q E s := by
  obtain ⟨x, o, ws, hh, h1, d1, c⟩ := warm
  have nx : x ≠ a := fun z => by rw [z, na] at h1; cases h1
  rcases c with c | ⟨y, oy, us, c1, c2, c3, c4, c5⟩
  · exact HotX.raiseNew_hot ⟨hh, o, ws, k _ _ h1, d1, c⟩ nx ha da hi (hE x nx)
  · have ny : y ≠ a := fun z => by rw [z, na] at c3; cases c3
    unfold raiseNew
    refine wpAny_bind (wpAny_handled ?_)
    rw [hh]
    have go := fun (Q' : Value → Shared → Prop) (q : Q' .none s) => unchain_two (prog := prog) (w := w) (A := A) (E := E) (s := s) (k _ _ h1) d1 c1 c2 ny (k _ _ c3) c4 c5 q
    have hb : (Value.ref x != Value.ref a) = true := HotX.ref_bne nx
    first
      | (show wpAny _ _ (if (Value.ref x != Value.ref a) = true then _ else _) _ _ _
         rw [if_pos hb]
         first
           | exact wpAny_bind (go _ (wpAny_bind (HotX.chained ha da hi (wpAny_throw (hE x nx)))))
           | exact wpAny_bind (wpAny_bind (go _ (HotX.chained ha da hi (wpAny_throw (hE x nx))))))
      | (refine wpAny_bind ?_
         show wpAny _ _ (if (Value.ref x != Value.ref a) = true then _ else _) _ _ _
         rw [if_pos hb]
         exact wpAny_bind (go _ (HotX.chained ha da hi (wpAny_throw (hE x nx)))))
/-- the end of a tuple's iterator -/
theorem tupEnd_warm {h0 : Heap} {it t : Addr} {i : Nat} {items : Array Value} {Q : Option Value → Shared → Prop} (warm : WarmAt A h0) (k0 : ∀ b o, h0.get? b = some o → b ≠ it ∧ s.heap.get? b = some o) (li : IsTupIter s.heap it t i) (lt : IsTup s.heap t items) (hx : items[i]? = none)
    (go : ∀ h', Heap.ExtBut it s.heap h' → Q none { s with heap := h' }) : wpAny (model prog w) A (pyNext (.ref it)) Q E s := by
  have tI := li.typeIs
  obtain ⟨oi, gi, ci, di⟩ := id li
  obtain ⟨ot, gt, _, nt, dt⟩ := lt
  unfold pyNext
  have slot := slot_tupleiter_next
  refine wpAny_bind (wpAny_attempt (wpAny_callSpecial?_slot (name := Str.ofString "__next__") tI slot (wpAny_call_entry slot tI entry_tupleiter_next ?_ (args_tupleiter_next _))))
  show wpAny _ _ (field (.ref it) 0 >>= _) _ _ _
  refine wpAny_bind (wpAny_field gi di (x := Value.ref t) rfl ?_)
  rw [if_neg (show ¬ ((Value.ref t == Value.none) = true) from by simp)]
  show wpAny _ _ (field (.ref it) 1 >>= _) _ _ _
  refine wpAny_bind (wpAny_field gi di (x := Value.int i 0) rfl ?_)
  show wpAny _ _ (seqItems? (.ref t) >>= _) _ _ _
  refine wpAny_bind (wpAny_seqItems gt dt ?_)
  simp only [Int.toNat_natCast, hx]
  refine wpAny_bind (wpAny_rule (wpAny_bind (wpAny_setField gi di (by simp) (wpAny_bind ?_))))
  show wpAny _ _ (newExc (.type "StopIteration") [] >>= _) _ _ _
  refine wpAny_bind ?_
  simp only [newExc, newTuple]
  refine wpAny_bind (wpAny_newObj_type (wpAny_bind (m := firstArgMember _ _) (wpAny_of_eq (a := Value.none) (by first | rfl | (simp only [firstArgMember]; rfl)) (wpAny_newObj_type ?_ (by size_fits)))) (by size_fits))
  have kk : ∀ b o, h0.get? b = some o → ((s.heap.update it (Obj.mapFields (·.setIfInBounds 0 Value.none))).get? b = some o) := fun b o e => by
    obtain ⟨n, q⟩ := k0 b o e
    rw [Heap.get?_update_other _ _ (Ne.symm n)]
    exact q
  refine wpAny_pure ?_
  refine raiseNew_warm (h0 := h0) warm ?_ ?_ (Heap.get?_push_size _ rfl) rfl (by first | (simp; done) | (simp; omega) | (simp only [Array.size_append]; simp; omega)) fun x nx => ?_
  · exact fun b o e => Heap.get?_push_of_some _ (Heap.get?_push_of_some _ (kk b o e))
  · cases q : h0.get? _ with
    | none => rfl
    | some o =>
      have z := Heap.lt_size (Heap.get?_push_of_some { cls := .type "tuple", data := .seq #[] } (kk _ _ q))
      exact absurd z (Nat.lt_irrefl _)
  · refine wpAny_bind (wpAny_isInstance (T := "StopIteration") (b := true) ⟨_, Heap.get?_update_self _ (Heap.get?_push_size _ rfl) rfl, rfl⟩ isSubtype_stop (wpAny_pure (go _ fun b o nb e => ?_)))
    have e1 : (s.heap.update it (Obj.mapFields (·.setIfInBounds 0 Value.none))).get? b = some o := (Heap.get?_update_other _ _ (Ne.symm nb)).trans e
    rw [Heap.get?_update_other _ _ (Nat.ne_of_gt (Heap.lt_size (Heap.get?_push_of_some _ e1)))]
    exact Heap.get?_push_of_some _ (Heap.get?_push_of_some _ e1)
theorem assignTup_warm {env : Env} {elts : List Expr} {j : Nat} {pos : Pos} {t : Addr} {items : Array Value} {Q : Unit → Shared → Prop} (warm : WarmAt A s.heap) (lt : IsTup s.heap t items) (hn : (assignEach elts env).length = items.size) (hstar : (assignEach elts env).findIdx? (·.1) = none)
    (go : ∀ h', Heap.ExtBut s.heap.objs.size s.heap h' → wpAny (model prog w) A (assignInOrder ((assignEach elts env).map (·.2)) items.toList) Q E { s with heap := h' }) : wpAny (model prog w) A (assign (.Tuple elts j pos) env (.ref t)) Q E s := by
  have n1 : t ≠ s.heap.objs.size := lt.elim fun o z => Nat.ne_of_lt (Heap.lt_size z.1)
  rw [assign_Tuple]
  refine wpAny_bind (wpAny_standAt ?_)
  unfold unpack
  rw [hn, hstar]
  refine wpAny_bind (wpAny_holding ?_)
  unfold unpackItems
  refine wpAny_bind ?_
  unfold notIterableAtAll
  refine wpAny_bind (wpAny_specialOf lt.typeIs slot_tuple_iter.lookup (wpAny_pure ?_))
  simp only [Bool.false_eq_true, if_false]
  refine wpAny_bind (wpAny_holding (iter_tuple lt (wpAny_bind (wpAny_holding (draw_tuple n1 items.size 0 _ _ ⟨_, Heap.get?_push_size _ rfl, rfl, rfl⟩ (lt.push _) (by omega) fun h1 i1 s1 => ?_)))))
  have all : List.take items.size (List.drop 0 items.toList) = items.toList := List.take_of_length_le (by simp)
  rw [all, if_neg (by simp)]
  have l1 : IsTup h1 t items := (lt.push _).extBut s1.extBut n1
  have k1 : ∀ b o, s.heap.get? b = some o → b ≠ s.heap.objs.size ∧ h1.get? b = some o := fun b o e => by
    have n2 := Nat.ne_of_lt (Heap.lt_size e)
    exact ⟨n2, s1.extBut b o n2 (Heap.get?_push_of_some _ e)⟩
  refine wpAny_bind (wpAny_holding (tupEnd_warm (s := { s with heap := h1 }) warm k1 i1 l1 (by simp) fun h2 x2 => ?_))
  simp only [Option.isSome_none, Bool.false_eq_true, if_false]
  exact wpAny_pure (go h2 fun b o nb e => x2 b o nb (k1 b o e).2)
end
/-! ### errors in flight, by what is told of their object (the ground and what is tracked may be named) -/
abbrev ZF := Heap → Hp → Value → Option Addr → Obj → Prop
def XEz (Z : ZF) (X : Cx) (W : WX) (u : Value) (z : Shared) : Prop :=
  ∃ (e : Addr) (G : Heap) (s1 : Shared) (pp : List (Addr × Obj)) (τ : L2.St) (H : Hp) (c : Value) (d : Option Addr), u = .ref e ∧ Inv X pp τ H s1 ∧
    (∀ b o, s1.heap.get? b = some o → b ∉ frs X.stack → G.get? b = some o) ∧ s1.heap.UpToSlots z.heap ∧ Sky G X.stack e (Z G H c d) X.env.locals z.heap ∧ H e = none ∧ z.os = s1.os ∧ AllBare z.gens ∧ W c d τ H
def TakesZ (Z : ZF) (X : Cx) (W : WX) : Prop := ∀ u z, XEz Z X W u z → X.xe u z
def CXz (Z : ZF) (P : Program) (w : World) (outer : List Env) (H : Hp) (s : Shared) (E : XK) (u : Value) (z : Shared) : Prop :=
  ∃ (e : Addr) (G : Heap) (H1 : Hp) (c : Value) (d : Option Addr), u = .ref e ∧ HandSPX.FlyingZ G outer e (Z G H1 c d) z.heap ∧ HOk P w H1 G ∧ UB (frs outer) H H1 s.heap G z.heap ∧ H1 e = none ∧ z.os = s.os ∧ AllBare z.gens ∧ E c d H1
theorem CXz.imp {Z Z' : ZF} {P : Program} {w : World} {outer : List Env} {H : Hp} {s z : Shared} {E : XK} {u : Value} (i : ∀ G H c d o, Z G H c d o → Z' G H c d o) (h : CXz Z P w outer H s E u z) : CXz Z' P w outer H s E u z := by
  obtain ⟨e, G, H1, c, d, q, fl, r⟩ := h
  exact ⟨e, G, H1, c, d, q, L2H.flyingZ_imp (fun o x => i _ _ _ _ _ x) fl, r⟩
theorem sky_imp {G : Heap} {l : List Env} {e : Addr} {Z Z' : Obj → Prop} {L : Addr} {h : Heap} (i : ∀ o, Z o → Z' o) (x : Sky G l e Z L h) : Sky G l e Z' L h := by
  rcases x with ⟨h1, h2, h3, oe, vs, h4, h5, h6⟩ | fl | ⟨h1, h2, h3, oe, vs, T, oT, ts, h4, h5, h6⟩
  · exact .inl ⟨h1, h2, h3, oe, vs, h4, i _ h5, h6⟩
  · exact .inr (.inl (L2H.flyingZ_imp i fl))
  · exact .inr (.inr ⟨h1, h2, h3, oe, vs, T, oT, ts, h4, i _ h5, h6⟩)
theorem TakesZ.less {Z Z' : ZF} {X : Cx} {W : WX} (t : TakesZ Z' X W) (i : ∀ G H c d o, Z G H c d o → Z' G H c d o) : TakesZ Z X W := fun u z x => by
  obtain ⟨e, G, s1, pp, τ, H, c, d, q, I, nb, up, sky, r⟩ := x
  exact t u z ⟨e, G, s1, pp, τ, H, c, d, q, I, nb, up, sky_imp (i _ _ _ _) sky, r⟩
section
variable {Z : ZF} {X : Cx} {pins : List (Addr × Obj)} {σ : L2.St} {H : Hp} {s : Shared} {W : WX} {E : XK}
/-- a callee's error flies on in the caller -/
theorem xez_call {u : Value} {z : Shared} (I : Inv X pins σ H s) (hw : ∀ c d H1, E c d H1 → W c d σ H1) (x : CXz Z X.prog X.w X.stack H s E u z) : XEz Z X W u z := by
  obtain ⟨e, G, H1, c, d, rfl, fl, hk, ub, na, os, ag, q⟩ := x
  have sub : G.StaysIn z.heap := fl.1
  obtain ⟨F, f1, f2⟩ := restrict z.heap fun b => (G.get? b).isSome || decide (b ∈ frs X.stack)
  have inG : ∀ b o, G.get? b = some o → F.get? b = some o := fun b o y => (f1 b (by simp [y])).trans (sub b o y)
  have inS : ∀ b, b ∈ frs X.stack → F.get? b = z.heap.get? b := fun b y => f1 b (by simp [y])
  have back : ∀ b o, F.get? b = some o → z.heap.get? b = some o ∧ ((G.get? b).isSome = true ∨ b ∈ frs X.stack) := fun b o y => by
    by_cases t : ((G.get? b).isSome || decide (b ∈ frs X.stack)) = true
    · rw [f1 b t] at y
      exact ⟨y, by simpa [Bool.or_eq_true] using t⟩
    · rw [f2 b (by simpa using t)] at y
      cases y
  have J : Inv X pins σ H1 { s with heap := F, gens := z.gens, drawn := z.drawn, toks := z.toks } := by
    refine I.call (ch := []) ⟨?_, ?_, fun b o y n _ => ub.free b o y n, ?_, ub.tups, ub.frzs, ub.tbls⟩ (hk.kept inG) ag (fun _ y => nomatch y)
    · exact fun b o y n nf _ => inG b o (ub.keep b o y n nf)
    · intro b o y n nf _
      obtain ⟨sl, t⟩ := ub.slot b o y nf
      exact ⟨sl, (inS b nf).trans t⟩
    · intro b o y _
      by_cases nf : b ∈ frs X.stack
      · obtain ⟨sl, t⟩ := ub.slot b o y nf
        exact ⟨_, (inS b nf).trans t⟩
      · obtain ⟨o', t⟩ := ub.there b o y nf
        exact ⟨o', inG b o' t⟩
  refine ⟨e, G, _, pins, σ, H1, c, d, rfl, J, fun b o y nf => ?_, Heap.UpToSlots.of_keeps fun b o y => (back b o y).1, .inr (.inl fl), na, os, ag, hw _ _ _ q⟩
  obtain ⟨t, t2⟩ := back b o y
  rcases t2 with t2 | t2
  · obtain ⟨o', t3⟩ := Option.isSome_iff_exists.mp t2
    have t4 := sub b o' t3
    rw [t] at t4
    cases t4
    exact t3
  · exact absurd t2 nf
theorem passZ (tk : TakesZ Z X W) (σ : L2.St) : PassesAt (CXz Z X.prog X.w) X σ (WE W σ) := fun _ _ _ u z I x => tk u z (xez_call I (fun _ _ _ h => h) x)
/-- it leaves the def -/
theorem xez_leave (st : ∀ G H c d, PXN.Steady1 (Z G H c d)) (e1 : X.stack = X.env :: X.outer) (e2 : X.env.frame = some X.env.locals) (e3 : X.ex = []) {E1 : Value → Shared → Prop} {u : Value} {z : Shared} (x : XEz Z X (fun c d _ H => E c d H) u z) :
    wpAny (model X.prog X.w) X.A (leaving X.env u) (fun _ z2 => CXz Z X.prog X.w X.outer X.H_0 X.s_0 E u z2) E1 z := by
  obtain ⟨e, G, s1, pp, τ, H, c, d, rfl, I, nb, up, sky, na, os, ag, q⟩ := x
  have fr : X.A.frames = some (X.env :: X.outer) := I.ok.frames.trans (congrArg some e1)
  have noex : ∀ b, b ∉ X.ex := fun b y => by rw [e3] at y; cases y
  have nost : ∀ b o, X.s_0.heap.get? b = some o → b ∉ X.fs → b ∉ frs X.stack := fun b o y nf hm => by
    rcases List.mem_cons.mp (I.stkSub b hm) with t | t
    · have l1 := Heap.lt_size y
      rw [t] at l1
      exact Nat.lt_irrefl _ (Nat.lt_of_lt_of_le l1 I.ok.above)
    · exact nf t
  have out : ∀ h2, HandSPX.FlyingZ G X.outer e (Z G H c d) h2 → z.heap.UpToSlots h2 → CXz Z X.prog X.w X.outer X.H_0 X.s_0 E (.ref e) { z with heap := h2 } := fun h2 fl up2 => by
    refine ⟨e, G, H, c, d, rfl, fl, I.inGround nb, ⟨?_, ?_, fun b o y n => I.base.free b o y n (noex b), ?_, I.base.tups, I.base.frzs, I.base.tbls⟩, na, os.trans I.os, ag, q⟩
    · exact fun b o y n nf => nb b o (I.base.keep b o y n nf (noex b)) (nost b o y nf)
    · intro b o y nf
      obtain ⟨_, o0, y0, ho⟩ := I.ok.funs.mem nf
      rw [y] at y0
      cases y0
      obtain ⟨l1, t1⟩ := I.base.slot b o y (I.ok.frf b nf) nf (noex b)
      obtain ⟨l2, t2⟩ := up b _ t1 ho
      obtain ⟨l3, t3⟩ := up2 b _ t2 ho
      exact ⟨l3, t3⟩
    · intro b o y nf
      obtain ⟨o', t⟩ := I.base.there b o y (noex b)
      exact ⟨o', nb b o' t (nost b o y nf)⟩
  rw [e1] at sky
  rcases sky with ⟨hB, hn, hl, oe, vs, he, hz, hd, h1⟩ | fl | hh
  · exact PXN.leaving_firstZ (st _ _ _ _) fr hl e2 he hB hn hd h1 hz out
  · exact PXN.leaves_onZ (st _ _ _ _) fr e2 fl out
  · exact HandSPX.leaves_heldZ e2 hh out
theorem takesZ_of (st : ∀ G H c d, PXN.Steady1 (Z G H c d)) (e1 : X.stack = X.env :: X.outer) (e2 : X.env.frame = some X.env.locals) (e3 : X.ex = []) {E1 : Value → Shared → Prop}
    (hx : X.xe = fun u z => wpAny (model X.prog X.w) X.A (leaving X.env u) (fun _ z2 => CXz Z X.prog X.w X.outer X.H_0 X.s_0 E u z2) E1 z) : TakesZ Z X (fun c d _ H => E c d H) := fun u z x => by
  rw [hx]
  exact xez_leave st e1 e2 e3 x
end
/-! ### the kind: its context is None, or an error of the ground that has none -/
def CtxK (G : Heap) (H : Hp) (o : Obj) : Prop := ∀ vs : Array Value, o.data = .fields vs → vs[2]? = some .none ∨
  ∃ (y : Addr) (oy : Obj) (ws : Array Value), vs[2]? = some (.ref y) ∧ G.get? y = some oy ∧ oy.data = .fields ws ∧ ws[2]? = some .none ∧ H y = none
def Zk : ZF := fun G H c d o => o.cls = c ∧ o.dict = d ∧ CtxK G H o
theorem ctxK_steady {G : Heap} {H : Hp} : PXN.Steady1 (CtxK G H) := fun o v h => by
  obtain ⟨oc, od, dt, sl⟩ := o
  intro vs e
  cases dt with
  | fields v0 =>
    have e2 : v0.setIfInBounds 1 v = vs := Data.fields.inj e
    have e3 : (v0.setIfInBounds 1 v)[2]? = v0[2]? := by
      first
        | exact Array.getElem?_setIfInBounds_ne (by decide)
        | (simp [Array.getElem?_setIfInBounds]; done)
    have q := h v0 rfl
    rw [← e2, e3]
    exact q
  | _ => first | (exact Data.noConfusion e) | (cases e)
theorem Zk.steady {G : Heap} {H : Hp} {c : Value} {d : Option Addr} : PXN.Steady1 (Zk G H c d) := fun o v h => ⟨PXN.steady_cls o v h.1, PXN.steady_dict o v h.2.1, ctxK_steady o v h.2.2⟩
theorem Zk.of_n {G : Heap} {H : Hp} {c : Value} {d : Option Addr} {o : Obj} (h : L2N.Zn c d o) : Zk G H c d o := ⟨h.1, h.2.1, fun vs e => .inl (h.2.2 vs e)⟩
theorem Zk.zc {G : Heap} {H : Hp} {c : Value} {d : Option Addr} {o : Obj} (h : Zk G H c d o) : Zc c d o := ⟨h.1, h.2.1⟩
abbrev CXk (P : Program) (w : World) : CXT := CXz Zk P w
abbrev TakesK := TakesZ Zk
theorem TakesK.n {X : Cx} {W : WX} (t : TakesK X W) : L2N.Takes X W := TakesZ.less (Z := fun _ _ c d => L2N.Zn c d) t fun _ _ _ _ _ h => Zk.of_n h
/-! ### try / except (x, y) without a name, what the suite lets out being of any kind -/
section
variable {X : Cx} {body : List Stmt} {pos : Pos} {tb : WX → TS} {Wout : WX} {x1 x2 : Str} {c1 c2 : Value} {ts : Addr → Value → Option Addr → TS} {b1 : Stmt} {bs : List Stmt} {p1 p2 p3 p4 : Pos} {kk : Nat}
theorem ps_try_namedG {TK : Cx → Prop} (hst : X.stack = X.env :: X.outer) (hfr : X.env.frame = some X.env.locals) (hc1 : Names X x1 c1) (hc2 : Names X x2 c2) (hpa : ∀ hd : Option Value, PySem.PassesOwnAt (model X.prog X.w) (X.A.mark hd) X.A X.env X.xe) (tkS0 : ∀ (a : Addr) (o : Obj) (pins : List (Addr × Obj)), X.Ok → TK (L2H.suiteX X a ((a, o) :: (X.pn ++ pins))))
    (hbo : ∀ (W : WX) (pn : List (Addr × Obj)) (xe : Value → Shared → Prop), L2N.Takes (X.tr pn xe) W → PassesOwn (model X.prog X.w) X.A X.env xe → PSs (X.tr pn xe) body (tb W))
    (hsu : ∀ (a : Addr) (oe : Obj) (cls : Value) (d : Option Addr) (pn : List (Addr × Obj)), L2N.Zn cls d oe → (∃ vs, oe.data = .fields vs) → TK (L2H.suiteX X a ((a, oe) :: pn)) → L2H.HotC (L2H.suiteX X a ((a, oe) :: pn)) →
      PSs (L2H.suiteX X a ((a, oe) :: pn)) (b1 :: bs) (ts a cls d)) :
    PS X (.Try body [.ExceptHandler (some (.Tuple [.Name x1 p1, .Name x2 p2] kk p3)) none (b1 :: bs) p4] [] [] pos) (fun D σ H => tb (wNamed X.K c1 c2 ts D) D σ H) := by
  refine ⟨fun pins s σ H D I hq => ?_⟩
  have ok := I.ok
  have hA : X.A.frames = some (X.env :: X.outer) := ok.frames.trans (congrArg some hst)
  refine wpAny_Try_except ?_
  have hrun := (hbo (wNamed X.K c1 c2 ts D) (X.pn ++ pins) (fun e z1 => wpAny (model X.prog X.w) X.A (noteFrame e X.env) (fun _ z2 => wpAny (model X.prog X.w) X.A (setFlight e none) (fun _ z3 => wpAny (model X.prog X.w) X.A (handleBy e X.env [.ExceptHandler (some (.Tuple [.Name x1 p1, .Name x2 p2] kk p3)) none (b1 :: bs) p4]) (SP X pins D) X.xe z3) X.xe z2) X.xe z1) ?_ PassesOwn.looking).run [] s σ H D (I.toTry _) hq
  · refine wpAny_mono hrun (fun fl z hz => ?_) (fun e z he => he)
    cases fl with
    | next => exact hz.elim fun σ1 h => h.elim fun H1 h => wpAny_execs_nil ⟨σ1, H1, h.1.ofTry ok, h.2⟩
    | brk => exact hz.elim fun σ1 h => h.elim fun H1 h => ⟨σ1, H1, h.1.ofTry ok, h.2⟩
    | cont => exact hz.elim fun σ1 h => h.elim fun H1 h => ⟨σ1, H1, h.1.ofTry ok, h.2⟩
    | ret u => exact hz.elim fun v h => h.elim fun σ1 h => h.elim fun H1 h => ⟨v, σ1, H1, h.1.ofTry ok, h.2⟩
  intro u z hx
  obtain ⟨a, B, sI, pins', τ, G, cls, d, rfl, J0, nb, up, sky, na, os, ag, eb, yes⟩ := hx
  have J : Inv X pins τ G sI := J0.ofTry ok
  rw [hst] at sky
  show wpAny (model X.prog X.w) X.A (noteFrame (.ref a) X.env) _ _ _
  refine L2N.Sky.land L2N.Zn.steady hA hfr sky fun g3 fl3 up3 => ?_
  have J3 : Inv X pins τ G { z with heap := g3 } := J.landed nb fl3.1 (up.trans up3) os ag
  obtain ⟨o3, v3, e3, y3, d3⟩ := fl3.there
  have off : a ∉ frs (X.env :: X.outer) := by
    intro hm
    obtain ⟨_, o', e', hn⟩ := fl3.2.2.1.mem hm
    rw [e3] at e'
    cases e'
    exact hn _ d3
  have nL : a ≠ X.env.locals := fun q => off (List.mem_filterMap.mpr ⟨X.env, List.mem_cons_self, by rw [hfr, q]⟩)
  have nF : a ∉ X.fs := fun hm => (List.mem_filterMap.mp hm).elim fun e he => off (List.mem_filterMap.mpr ⟨e, List.mem_cons_of_mem _ he.1, he.2⟩)
  have S3 := J3.suite e3 d3 na nL nF
  refine wpAny_handleBy_cons (codeAny_handlers_test ?_) (by intro q; cases q)
  have named : ∀ {x : Str} {c : Value} {p : Pos}, Names X x c → ∀ {Q E : Value → Shared → Prop}, Q c { z with heap := g3 } → wpAny (model X.prog X.w) (X.A.mark (some (.ref a))) (eval (.Name x p) X.env) Q E { z with heap := g3 } := by
    intro x c p hc Q E q
    obtain ⟨k1, k2, k3 | ⟨k3, k4, k5⟩⟩ := hc
    · exact ld_glob (X := X.suite a ((a, o3) :: (X.pn ++ pins))) S3 k1 k3 q k2
    · exact ld_blt (X := X.suite a ((a, o3) :: (X.pn ++ pins))) S3 k1 k3 k4 q k5 k2
  refine wpAny_Tuple ?_
  refine wpAny_items_cons (named hc1 ?_)
  refine wpAny_items_cons (named hc2 ?_)
  refine wpAny_items_nil ⟨by size_fits, ?_⟩
  have kp : ∀ q o, g3.get? q = some o → (g3.push { cls := .type "tuple", data := .seq [c1, c2].toArray }).get? q = some o := fun _ _ z => Heap.get?_push_of_some _ z
  have fl5 := flyingZ_keeps kp fl3
  have up5 := up3.trans (Heap.UpToSlots.of_keeps kp)
  have J5 : Inv X pins τ G { z with heap := g3.push { cls := .type "tuple", data := .seq [c1, c2].toArray } } := J.landed nb fl5.1 (up.trans up5) os ag
  have lk : PySem.W.Looks (model X.prog X.w) (g3.push { cls := .type "tuple", data := .seq [c1, c2].toArray }) (typeOf (.ref a)) cls := fun A Q E s k q => wpAny_typeOf_ref (k _ _ (kp _ _ e3)) (by rw [y3.1]; exact q)
  have lm := PySem.W.exm_tup2 (M := model X.prog X.w) (J5.kIn) lk (Heap.get?_push_size g3 rfl) eb
  refine lm.here ?_
  refine codeAny_handlers_suite ?_
  refine HandSPX.lands_againZ fl5 fun g4 fl4 up4 => ?_
  have J4 : Inv X pins τ G { z with heap := g4 } := J.landed nb fl4.1 ((up.trans up5).trans up4) os ag
  obtain ⟨o4, v4, e4, y4, d4⟩ := fl4.there
  have S4 := J4.suite e4 d4 na nL nF
  have tkS := tkS0 a o4 pins ok
  have hot : L2H.HotC (L2H.suiteX X a ((a, o4) :: (X.pn ++ pins))) := ⟨(a, o4), ⟨rfl, v4, d4, y4.2.2 v4 d4⟩, List.mem_cons_self⟩
  refine wpAny_mono ((hsu a o4 cls d (X.pn ++ pins) y4 ⟨_, d4⟩ tkS hot).run [] _ _ G _ (L2H.suiteX_of S4) (yes a na)) (fun f s6 hsp => ?_) (fun e6 s6 q => hpa (some (.ref a)) e6 s6 q)
  cases f with
  | next => exact hsp.elim fun σ6 h => h.elim fun H6 h => ⟨_, _, L2H.unsuiteX h.1 ok, h.2⟩
  | brk => exact hsp.elim fun σ6 h => h.elim fun H6 h => ⟨_, _, L2H.unsuiteX h.1 ok, h.2⟩
  | cont => exact hsp.elim fun σ6 h => h.elim fun H6 h => ⟨_, _, L2H.unsuiteX h.1 ok, h.2⟩
  | ret u => exact hsp.elim fun v h => h.elim fun σ6 h => h.elim fun H6 h => ⟨_, _, _, L2H.unsuiteX h.1 ok, h.2⟩
theorem takesZ_suite {Z : ZF} (tk : TakesZ Z X Wout) (a : Addr) (o : Obj) (pins : List (Addr × Obj)) (ok : X.Ok) : TakesZ Z (L2H.suiteX X a ((a, o) :: (X.pn ++ pins))) Wout := fun u2 s2 x2 => by
  obtain ⟨a2, B, sI, pp, σ2, H2, c, d, e2, I2, nb, up, sky, na, os, ag, q⟩ := x2
  exact tk u2 s2 ⟨a2, B, sI, pins, σ2, H2, c, d, e2, L2H.unsuiteX I2 ok, nb, up, sky, na, os, ag, q⟩
end
/-! ### a new error in the air; raise .. from None in a suite -/
theorem xez_new {Z : ZF} {X : Cx} {pins : List (Addr × Obj)} {σ : L2.St} {H : Hp} {sI z : Shared} {W : WX} {a : Addr} {oe : Obj} {vs : Array Value} {c : Value} {d : Option Addr} (I : Inv X pins σ H sI) (k : ∀ b o, sI.heap.get? b = some o → z.heap.get? b = some o) (new : sI.heap.get? a = none)
    (he : z.heap.get? a = some oe) (hz : Z (PySem.W.hideAll sI.heap (frs X.stack)) H c d oe) (hd : oe.data = .fields vs) (h1 : vs[1]? = some .none) (na : H a = none) (os : z.os = sI.os) (ag : AllBare z.gens) (q : W c d σ H) : XEz Z X W (.ref a) z := by
  refine ⟨a, _, sI, pins, σ, H, c, d, rfl, I, fun b o y nf => PySem.W.hideAll_get _ y nf, Heap.UpToSlots.of_keeps k, .inl ⟨fun b o y => k b o (PySem.W.of_hideAll _ y), ?_, ?_, oe, vs, he, hz, hd, h1⟩, na, os, ag, q⟩
  · cases t : (PySem.W.hideAll sI.heap (frs X.stack)).get? a with
    | none => rfl
    | some o => exact absurd (PySem.W.of_hideAll _ t) (by rw [new]; intro y; cases y)
  · exact Heap.FunFrames.of_keeps (fun b o y _ => ⟨o, k b o y, rfl⟩) (funFrames_none I.stack fun b nf => PySem.W.hideAll_none _ nf)
theorem ps_raiseK {X : Cx} {W : WX} {e : Expr} {t : L2.St → Hp → XK → Prop} {j : Nat} {cpos pos : Pos} (hc : L2H.HotC X) (tk : TakesK X W) (he : L2H.PMk5 X e t) : PS X (.Raise (some e) (some (.Constant .none j cpos)) pos) (fun _ σ H => t σ H fun c d H1 => W c d σ H1) := by
  refine ⟨fun pins s σ H D I h => ?_⟩
  obtain ⟨p, ⟨hh, ws, pd, pc⟩, hp⟩ := hc
  have none_ : ∀ (s2 : Shared) (Q2 : Value → Shared → Prop), Q2 .none s2 → wpAny (model X.prog X.w) X.A (do let v ← eval (.Constant .none j cpos) X.env; standAt pos; pure v) Q2 X.xe s2 := fun s2 Q2 q2 => wpAny_bind (Constant_none (wpAny_bind (wpAny_standAt (wpAny_pure q2))))
  show wpAny _ _ (do standAt pos; raiseStmt X.env (some (do let v ← eval e X.env; standAt pos; pure v)) (some (do let v ← eval (.Constant .none j cpos) X.env; standAt pos; pure v))) _ _ _
  refine wpAny_bind (wpAny_standAt (HotX.raise_made_hotN (x1 := p.1) none_ (wpAny_bind (wpAny_mono (he pins s σ H _ I h) (fun u s1 got => wpAny_bind (wpAny_standAt (wpAny_pure ?_))) fun _ _ y => y))))
  obtain ⟨⟨a, oe, vs, sI, H1, c, d, rfl, J, k, new, ha, hz, hd, h1, na, os, ag, r, q⟩, six⟩ := got
  have h5 : 4 < vs.size := six a oe vs rfl ha hd
  obtain ⟨pg, pn, pl, pf, _⟩ := J.pin p (List.mem_append_left _ hp)
  have npa : p.1 ≠ a := fun y => by rw [y, new] at pg; cases pg
  have off : ∀ b u, sI.heap.get? b = some u → a ≠ b := fun b u y t => by rw [← t, new] at y; cases y
  have kN : ∀ b u, sI.heap.get? b = some u → (HotX.noneFrom s1.heap a).get? b = some u := fun b u y => by
    rw [HotX.noneFrom_other (off b u y)]
    exact k b u y
  have r1 := (r (model X.prog X.w) s1.heap (J.kIn.keeps k)).1
  have r2 := (r (model X.prog X.w) _ (J.kIn.keeps kN)).2
  obtain ⟨ha4, hd4⟩ := HotX.noneFrom_at ha hd
  have f1 : (((vs.setIfInBounds 3 Value.none).setIfInBounds 4 (Value.bool true)).setIfInBounds 2 (Value.ref p.1))[1]? = some Value.none := HotX.set_other (by decide) (HotX.set_other (by decide) (HotX.set_other (by decide) h1))
  have f2 : (((vs.setIfInBounds 3 Value.none).setIfInBounds 4 (Value.bool true)).setIfInBounds 2 (Value.ref p.1))[2]? = some (Value.ref p.1) := Array.getElem?_setIfInBounds_self_of_lt (by simp; omega)
  refine ⟨a, oe, vs, c, rfl, ha, hz.1, hd, h1, h5, npa, ⟨hh, p.2, ws, k _ _ pg, pd, pc⟩, r1, r2, tk _ _ (xez_new J (fun b u y => ?_) new (Heap.get?_update_self _ ha4 (Obj.isFreed_of_fields (Obj.data_mapFields hd4 _))) ?_ (Obj.data_mapFields hd4 _) f1 na os ag q)⟩
  · show ((HotX.noneFrom s1.heap a).update a (Obj.mapFields (·.setIfInBounds 2 (.ref p.1)))).get? b = some u
    rw [Heap.get?_update_other _ _ (off b u y)]
    exact kN b u y
  · refine ⟨?_, ?_, fun xs y => .inr ⟨p.1, p.2, ws, ?_, PySem.W.hideAll_get _ pg (fun nf => (List.mem_cons.mp (J.stkSub _ nf)).elim pl pf), pd, pc, pn⟩⟩
    · rw [Obj.cls_mapFields, Obj.cls_mapFields, Obj.cls_mapFields]
      exact hz.1
    · rw [HandSPX.dict_mapFields, HandSPX.dict_mapFields, HandSPX.dict_mapFields]
      exact hz.2.1
    · rw [Obj.data_mapFields hd4 _] at y
      cases y
      exact f2
/-! ### a finally suite behind such an error; there a tuple is unpacked -/
def HotK (X : Cx) : Prop := ∃ (p : Addr × Obj) (vs : Array Value), p ∈ X.pn ∧ X.A.handled = some (.ref p.1) ∧ p.2.data = .fields vs ∧
  (vs[2]? = some .none ∨ ∃ (q : Addr × Obj) (ws : Array Value), q ∈ X.pn ∧ vs[2]? = some (.ref q.1) ∧ q.1 ≠ p.1 ∧ q.2.data = .fields ws ∧ ws[2]? = some .none)
theorem HotK.warm {X : Cx} {pins : List (Addr × Obj)} {σ : L2.St} {H : Hp} {s : Shared} (h : HotK X) (I : Inv X pins σ H s) : WarmAt X.A s.heap := by
  obtain ⟨p, vs, hp, hh, d, c⟩ := h
  refine ⟨p.1, p.2, vs, hh, (I.pin p (List.mem_append_left _ hp)).1, d, ?_⟩
  rcases c with c | ⟨q, ws, c1, c2, c3, c4, c5⟩
  · exact .inl c
  · exact .inr ⟨q.1, q.2, ws, c2, c3, (I.pin q (List.mem_append_left _ c1)).1, c4, c5⟩
theorem pg_tupK {X : Cx} {es : List Expr} {k n : Nat} {pos : Pos} {t : TGs} (hc : HotK X) (h : PGs X es t) (hn : (assignEach es X.env).length = n := by rfl) (hst : (assignEach es X.env).findIdx? (·.1) = none := by rfl) : PG X (.Tuple es k pos) (gTup X.K n t) := by
  refine ⟨fun pins s σ H v u Q I r hw => ?_⟩
  obtain ⟨a, xs, rfl, hq, hl, q⟩ := hw
  cases r
  obtain ⟨its, rv, ht, _⟩ := I.tuple hq
  refine assignTup_warm (hc.warm I) ht (by simp [hn, ← hl, rv.length]) hst fun h2 x2 => ?_
  have J : Inv X pins σ H { s with heap := h2 } := I.kept (t' := s.toks) fun b o y => x2 b o (Nat.ne_of_lt (Heap.lt_size y)) y
  exact h.run pins _ σ H xs _ Q J (by simpa using rv) q
section
variable {X : Cx} {body : List Stmt} {f0 : Stmt} {fs : List Stmt} {pos : Pos} {tb : WX → TS} {tf tfs : TS} {Wout : WX}
theorem finK {pins : List (Addr × Obj)} {D : Ends} {u : Value} {z : Shared} {xe2 : Value → Shared → Prop} (e1 : X.stack = X.env :: X.outer) (e2 : X.env.frame = some X.env.locals) (e3 : X.ex = []) (ok : X.Ok) (tk : L2.Takes X Wout)
    (hsu : ∀ (a : Addr) (pn : List (Addr × Obj)), HotK (X.suite a pn) → PSs (X.suite a pn) (f0 :: fs) tfs) (x : XEz Zk (X.tr (X.pn ++ pins) xe2) (wFin tfs Wout) u z) :
    wpAny (model X.prog X.w) X.A (noteFrame u X.env) (fun _ z2 => FinallyRaised X.prog X.w X.A X.xe X.env (f0 :: fs) (SP X pins D) u z2) (FinallyRaised X.prog X.w X.A X.xe X.env (f0 :: fs) (SP X pins D)) z := by
  obtain ⟨e, B, sI, pp, τ, H, c, d, rfl, J0, nb, up, sky, na, os, ag, q⟩ := x
  have fr : X.A.frames = some (X.env :: X.outer) := ok.frames.trans (congrArg some e1)
  have J : Inv X pins τ H sI := J0.ofTry ok
  have sky1 : Sky B (X.env :: X.outer) e (Zk B H c d) X.env.locals z.heap := e1 ▸ sky
  have main : ∀ h1, HandSPX.HeldZ B (X.env :: X.outer) e (Zk B H c d) X.env.locals h1 → z.heap.UpToSlots h1 → FinallyRaised X.prog X.w X.A X.xe X.env (f0 :: fs) (SP X pins D) (.ref e) { z with heap := h1 } := fun h1 held up1 => by
    refine ⟨ref_ne_byPass e, HandSPX.againZ e2 held.2.2.2 (HandSPX.landsZ held fun h3 fl3 up3 => ?_)⟩
    have J3 : Inv X pins τ H { z with heap := h3 } := J.landed nb fl3.1 ((up.trans up1).trans up3) os ag
    obtain ⟨k1, k2, k3, oe, vs, T, oT, ts, he3, hz, hd, hv1, hnT, hTe, hT, hdT, ht3⟩ := id fl3
    have nT : H T = none := (J.inGround nb).gone hnT
    have off : ∀ (b : Addr) (o : Obj) (ws : Array Value), h3.get? b = some o → o.data = .fields ws → b ∉ frs (X.env :: X.outer) := fun b o ws y t hm => by
      obtain ⟨_, o2, y2, n2⟩ := k3.mem hm
      cases y.symm.trans y2
      exact n2 _ t
    have locIn : X.env.locals ∈ frs (X.env :: X.outer) := List.mem_filterMap.mpr ⟨X.env, List.mem_cons_self, e2⟩
    have fsIn : ∀ b, b ∈ X.fs → b ∈ frs (X.env :: X.outer) := fun b hm => by
      obtain ⟨en, h5, h6⟩ := List.mem_filterMap.mp hm
      exact List.mem_filterMap.mpr ⟨en, List.mem_cons_of_mem _ h5, h6⟩
    have pinned : ∀ (b : Addr) (o : Obj) (ws : Array Value), h3.get? b = some o → H b = none → o.data = .fields ws → h3.get? b = some o ∧ H b = none ∧ b ≠ X.env.locals ∧ b ∉ X.fs ∧ ∀ v, o.data ≠ .cell v := fun b o ws y n t =>
      ⟨y, n, fun y2 => off b o ws y t (y2 ▸ locIn), fun y2 => off b o ws y t (fsIn b y2), fun v y2 => by rw [t] at y2; cases y2⟩
    -- what is known of the context
    have more : ∃ ctx : List (Addr × Obj), (∀ p ∈ ctx, h3.get? p.1 = some p.2 ∧ H p.1 = none ∧ p.1 ≠ X.env.locals ∧ p.1 ∉ X.fs ∧ ∀ v, p.2.data ≠ .cell v) ∧ HotK (X.suite e ((e, oe) :: (T, oT) :: (ctx ++ (X.pn ++ pins)))) := by
      rcases hz.2.2 vs hd with c0 | ⟨y, oy, ws, c1, c2, c3, c4, c5⟩
      · exact ⟨[], (fun p y => absurd y (by simp)), (e, oe), vs, List.mem_cons_self, rfl, hd, .inl c0⟩
      · refine ⟨[(y, oy)], fun p t => ?_, (e, oe), vs, List.mem_cons_self, rfl, hd, .inr ⟨(y, oy), ws, ?_, c1, fun t => ?_, c3, c4⟩⟩
        · obtain rfl : p = (y, oy) := by simpa using t
          exact pinned y oy ws (k1 _ _ c2) c5 c3
        · exact List.mem_cons_of_mem _ (List.mem_cons_of_mem _ (List.mem_append_left _ List.mem_cons_self))
        · have t2 : y = e := t
          rw [t2, k2] at c2
          cases c2
    obtain ⟨ctx, hctx, hot⟩ := more
    have S3 : Inv (X.suite e ((e, oe) :: (T, oT) :: (ctx ++ (X.pn ++ pins)))) [] τ H { z with heap := h3 } := by
      refine ⟨J3.ok.suite _ _, J3.os, J3.bare, J3.base, J3.loc, J3.cell, J3.free, J3.freeC, fun p hp => ?_, J3.hok, J3.len⟩
      rw [List.append_nil] at hp
      rcases List.mem_cons.mp hp with rfl | hp
      · exact pinned _ _ _ he3 na hd
      rcases List.mem_cons.mp hp with rfl | hp
      · exact pinned _ _ _ hT nT hdT
      rcases List.mem_append.mp hp with hp | hp
      · exact hctx p hp
      · exact J3.pin p hp
    refine wpAny_mono ((hsu e _ hot).run [] { z with heap := h3 } τ H { nx := fun σ2 H2 => Wout c d σ2 H2, rt := fun _ _ => False } S3 q) (fun g s6 got => ?_) fun _ _ y => False.elim y
    cases g with
    | ret u =>
      obtain ⟨_, _, _, _, _, no⟩ := got
      exact False.elim no
    | brk =>
      obtain ⟨_, _, _, no⟩ := got
      exact False.elim no
    | cont =>
      obtain ⟨_, _, _, no⟩ := got
      exact False.elim no
    | next =>
      obtain ⟨σ6, H6, S6, q6⟩ := got
      obtain ⟨ge, ne6, _⟩ := S6.pin (e, oe) (List.mem_append_left _ List.mem_cons_self)
      obtain ⟨gT, nT6, _⟩ := S6.pin (T, oT) (List.mem_append_left _ (List.mem_cons_of_mem _ List.mem_cons_self))
      have J6 : Inv X pins σ6 H6 s6 := ⟨ok, S6.os, S6.bare, S6.base, S6.loc, S6.cell, S6.free, S6.freeC, fun p hp => S6.pin p (List.mem_append_left _ (List.mem_cons_of_mem _ (List.mem_cons_of_mem _ (List.mem_append_right _ hp)))), S6.hok, S6.len⟩
      have offe := off e oe vs he3 hd
      have offT := off T oT ts hT hdT
      have far : ∀ b o, sI.heap.get? b = some o → b ≠ e ∧ b ≠ T := fun b o y => by
        by_cases hb : b ∈ frs X.stack
        · have hb2 : b ∈ frs (X.env :: X.outer) := e1 ▸ hb
          exact ⟨fun t => offe (t ▸ hb2), fun t => offT (t ▸ hb2)⟩
        · have t := nb b o y hb
          refine ⟨fun t2 => ?_, fun t2 => ?_⟩
          · rw [t2, k2] at t
            exact nomatch t
          · rw [t2, hnT] at t
            exact nomatch t
      have farS : ∀ b o, X.s_0.heap.get? b = some o → b ≠ e ∧ b ≠ T := fun b o y => (J.base.there b o y (by rw [e3]; simp)).elim fun o2 t => far b o2 t
      obtain ⟨G, g1, g2⟩ := restrict s6.heap fun b => decide (b ≠ e ∧ b ≠ T)
      have gIn : ∀ b o, G.get? b = some o → s6.heap.get? b = some o ∧ b ≠ e ∧ b ≠ T := fun b o y => by
        by_cases t : b ≠ e ∧ b ≠ T
        · rw [g1 b (decide_eq_true t)] at y
          exact ⟨y, t⟩
        · rw [g2 b (decide_eq_false t)] at y
          cases y
      have gOf : ∀ b o, b ≠ e → b ≠ T → s6.heap.get? b = some o → G.get? b = some o := fun b o n1 n2 y => (g1 b (decide_eq_true ⟨n1, n2⟩)).trans y
      have I6 : Inv X pins σ6 H6 { s6 with heap := G } := J6.less (fun b o y => (gIn b o y).1) gOf ⟨oe, vs, ge, hd⟩ ⟨oT, ts, gT, hdT⟩ ne6 nT6 farS fun p hp => far p.1 p.2 (J.pin p hp).1
      have noB : ∀ b, (b = e ∨ b = T) → (PySem.W.hideAll G (frs X.stack)).get? b = none := fun b hb => by
        cases t : (PySem.W.hideAll G (frs X.stack)).get? b with
        | none => rfl
        | some o => exact absurd hb (by obtain ⟨_, n1, n2⟩ := gIn b o (PySem.W.of_hideAll _ t); simp [n1, n2])
      have fl6 : HandSPX.FlyingZ (PySem.W.hideAll G (frs X.stack)) (X.env :: X.outer) e (Zc c d) s6.heap := by
        have ff := funFrames_none (B := PySem.W.hideAll G (frs X.stack)) J6.stack fun b hb => PySem.W.hideAll_none _ hb
        rw [e1] at ff ⊢
        exact ⟨fun b o y => (gIn b o (PySem.W.of_hideAll _ y)).1, by rw [← e1]; exact noB e (.inl rfl), ff, oe, vs, T, oT, ts, ge, hz.zc, hd, hv1, by rw [← e1]; exact noB T (.inr rfl), hTe, gT, hdT, ht3⟩
      show wpAny (model X.prog X.w) X.A (PySem.passOn "try.finally" (.ref e) X.env) (SP X pins D) X.xe s6
      unfold PySem.passOn
      refine wpAny_bind (wpAny_field ge hd hv1 ?_)
      rw [if_neg (show ¬ ((Value.ref T == Value.none) = true) from by simp)]
      have on : wpAny (model X.prog X.w) X.A (setFlight (.ref e) X.env.frame) (fun _ s7 => wpAny (model X.prog X.w) X.A (throw (.ref e) : Sem Flow) (SP X pins D) X.xe s7) X.xe s6 := by
        rw [e2]
        refine HandSPX.setFlight_upZ fl6 fun h7 hh7 up7 => wpAny_throw (tk _ _ ?_)
        refine ⟨e, _, { s6 with heap := G }, pins, σ6, H6, c, d, rfl, I6, fun b o y hb => PySem.W.hideAll_get _ y hb, ?_, .inr (.inr ?_), ne6, rfl, J6.bare, q6⟩
        · exact (Heap.UpToSlots.of_keeps fun b o y => (gIn b o y).1).trans up7
        · rw [← e1] at hh7
          exact hh7
      first
        | exact wpAny_bind (wpAny_pure (wpAny_bind on))
        | exact wpAny_bind on
  show wpAny (model X.prog X.w) X.A (noteFrame (.ref e) X.env) _ _ _
  rcases sky1 with ⟨hB, hn, hl, oe, vs, he0, hz, hd, hv1⟩ | fl | hh
  · exact PXN.look_newZ Zk.steady fr hl e2 he0 hB hn hd hv1 hz main
  · exact PXN.looks_onZ Zk.steady fr e2 fl main
  · exact HandSPX.againZ e2 hh.2.2.2 (main z.heap hh (Heap.UpToSlots.refl _))
theorem ps_finK (e1 : X.stack = X.env :: X.outer) (e2 : X.env.frame = some X.env.locals) (e3 : X.ex = []) (tk : L2.Takes X Wout)
    (hb : ∀ (W : WX) (pn : List (Addr × Obj)) (xe : Value → Shared → Prop), TakesK (X.tr pn xe) W → PassesOwn (model X.prog X.w) X.A X.env xe → PSs (X.tr pn xe) body (tb W))
    (hfin : PSs X.nox (f0 :: fs) tf) (hsu : ∀ (a : Addr) (pn : List (Addr × Obj)), HotK (X.suite a pn) → PSs (X.suite a pn) (f0 :: fs) tfs) : PS X (.Try body [] [] (f0 :: fs) pos) (tFinX tb tf tfs Wout) := by
  refine ⟨fun pins s σ H D I h => ?_⟩
  have ok := I.ok
  refine wpAny_Try_finally ?_
  refine wpAny_mono ((hb (wFin tfs Wout) (X.pn ++ pins) (fun x s₁ => wpAny (model X.prog X.w) X.A (noteFrame x X.env) (fun _ s₂ => FinallyRaised X.prog X.w X.A X.xe X.env (f0 :: fs) (SP X pins D) x s₂) (FinallyRaised X.prog X.w X.A X.xe X.env (f0 :: fs) (SP X pins D)) s₁)
    (fun u s' xx => finK e1 e2 e3 ok tk hsu xx) PassesOwn.looking).run [] s σ H _ (I.toTry _) h) (fun g s1 z => ?_) (fun x s1 hx => hx)
  cases g with
  | next =>
    obtain ⟨σ1, H1, I1, q1⟩ := z
    refine wpAny_execs_nil (wpAny_mono (hfin.run pins s1 σ1 H1 D ((I1.ofTry ok).wish _) q1) (fun g s2 q => ?_) fun _ _ z => False.elim z)
    have q' : SP X pins D g s2 := q.unwish
    cases g <;> exact q'
  | ret u => exact z.elim fun _ z => z.elim fun _ z => z.elim fun _ z => False.elim z.2.2
  | brk => exact z.elim fun _ z => z.elim fun _ z => False.elim z.2
  | cont => exact z.elim fun _ z => z.elim fun _ z => False.elim z.2
end
/-! ### rules that name the frame of the system by an equation (for the inner blocks of try) -/
section
variable {X : Cx} {K : PySem.W.Frag}
theorem ps_fldK {o value : Expr} {f : Str} {pos pos' : Pos} {ta tv : TE} (hK : X.K = K) (ha : PE X o ta) (hv : PE X value tv) (hs : swapsWith value (some (.Attribute o f pos')) pos.line X.env = pure false) : PS X (.Assign [.Attribute o f pos'] value pos) (sFld K ta tv f) := by
  subst hK
  exact ps_fld ha hv hs
theorem pe_fldK {e : Expr} {f : Str} {pos : Pos} {ta : TE} (hK : X.K = K) (he : PE X e ta) (hb : attributeBase e f X.env (eval e X.env) = eval e X.env) : PE X (.Attribute e f pos) (tFld K ta f) := by
  subst hK
  exact pe_fld he hb
theorem pg_tupI {es : List Expr} {k n : Nat} {pos : Pos} {t : TGs} (hK : X.K = K) (hc : X.calm = true) (h : PGs X es t) (hn : (assignEach es X.env).length = n := by rfl) (hst : (assignEach es X.env).findIdx? (·.1) = none := by rfl) : PG X (.Tuple es k pos) (gTup K n t) := by
  subst hK
  exact pg_tup hc h hn hst
theorem pg_tupKI {es : List Expr} {k n : Nat} {pos : Pos} {t : TGs} (hK : X.K = K) (hc : HotK X) (h : PGs X es t) (hn : (assignEach es X.env).length = n := by rfl) (hst : (assignEach es X.env).findIdx? (·.1) = none := by rfl) : PG X (.Tuple es k pos) (gTup K n t) := by
  subst hK
  exact pg_tupK hc h hn hst
theorem pg_fldK {o : Expr} {f : Str} {pos : Pos} {ta : TE} (hK : X.K = K) (ha : PE X o ta)
    (hs : ∀ v, assign (.Attribute o f pos) X.env v = (do
      let ov ← holding [v] (eval o X.env)
      standAt pos.atName
      holding [v, ov] (setAttr ov f v)
      release [v, ov] []) := by intro _; rfl) : PG X (.Attribute o f pos) (gFld K ta f) := by
  subst hK
  exact pg_fld ha hs
theorem pi_enumTK {e : Expr} {ta : TA} {p pos tpos : Pos} {elts : List Expr} {kk : Nat} (hK : X.K = K) (hg : Gl X "enumerate") (hm : X.mg "enumerate" = none) (ha : PA X [e] ta) (hs : starEach [e] X.env = [(false, eval e X.env)] := by rfl) :
    PI X (.Tuple elts kk tpos) (.Call (.Name "enumerate" p) [e] [] pos) (iEnumT K ta) := by
  subst hK
  exact pi_enumT hg hm ha hs
end
end My

namespace My
open PySem PySem.Spec PyProof.Rows L2
/-! ### the head with the table of the interpreter's own statics -/
def asS (g : Addr → Option Obj) (n : Nat) : List Addr := cStatics :: asP g n
def obsXS (n : Nat) (fa : List He.Fa) (fn : List He.DefD) (ex : PySem.W.Frag → Bool) (g : Addr → Option Obj) : He.AlX := (He.obsT fa fn [] (He.frT g (asS g n)), ex (He.frT g (asS g n)) && He.tabsB g [] (He.frT g (asS g n)))
theorem saysXS_of {n : Nat} {fa : List He.Fa} {fn : List He.DefD} {ex : PySem.W.Frag → Bool} {w : World} {h : Heap} (e : obsXS n fa fn ex h.get? = He.valX fn [] w) : He.SaysX fa fn [] [] ex w h (He.frT h.get? (asS h.get? n)) := by
  have a := congrArg (fun z : He.AlX => z.1) e
  have b : (ex (He.frT h.get? (asS h.get? n)) && He.tabsB h.get? [] (He.frT h.get? (asS h.get? n))) = true := congrArg (fun z : He.AlX => z.2) e
  exact ⟨a, (He.ba b).1, fun p hp => (nomatch hp), fun p hp => (nomatch hp), fun p hp => (nomatch hp)⟩
def obsS (n : Nat) (fa : List He.Fa) (fn : List He.DefD) (ex : PySem.W.Frag → Bool) (gs : Gs) (g : Addr → Option Obj) : AlP :=
  (obsXS n fa fn (fun K => ex K && gB K gs) g, gs.map fun q => fnA (He.frT g (asS g n)) (gAt (He.frT g (asS g n)) q))
def hookS (n : Nat) (fa : List He.Fa) (fn : List He.DefD) (ex : PySem.W.Frag → Bool) (gs : Gs) : PySem.W.Hook where
  α := AlP
  obs := fun s => obsS n fa fn ex gs s.heap.get?
  val := fun w => valP fn gs w
  says := fun w h => ∃ K : PySem.W.Frag, K.In h ∧ SaysP fa fn ex gs w h K
  of := fun _ _ e => ⟨_, He.frT_in, ⟨saysXS_of (congrArg (fun z : AlP => z.1) e), congrArg (fun z : AlP => z.2) e⟩⟩
  keeps := fun _ _ _ ⟨K, hK, c⟩ k => ⟨K, PySem.W.Frag.In.keeps hK k, ⟨⟨c.x.t, c.x.more, c.x.hd, c.x.out, fun p hp => k _ _ (c.x.empty p hp)⟩, c.g⟩⟩
theorem obsS_eq {n : Nat} {fa : List He.Fa} {fn : List He.DefD} {ex : PySem.W.Frag → Bool} {gs : Gs} {g : Addr → Option Obj} {s : Shared} (h : ∀ a, g a = s.heap.get? a) : obsS n fa fn ex gs g = (hookS n fa fn ex gs).obs s := by
  have e : g = s.heap.get? := funext h
  rw [e] <;> rfl
end My

/-! A sleeping generator that a run does not wake keeps its state. -/
namespace GenP
open PySem
open Sem (wp)

def stuckK : Resume → Sem PySem.Fin := fun _ => .unsupported ""
/-- the same, but that it cannot be woken -/
def stk : GenState → GenState
  | .suspended _ l c p fs cl => .suspended stuckK l c p fs cl
  | x => x
theorem stk_seen (x : GenState) : (stk x).seen = x.seen := by cases x <;> rfl
def Susp : GenState → Prop
  | .suspended .. => True
  | _ => False
def NoG : GenState → Prop
  | .suspended _ _ _ _ fs _ => splitAtGen fs = none
  | _ => True
/-- the sleeping ones of D stand stuck in the table T; no other sleeping one has a generator's frame -/
structure Good (D : Nat → Option GenState) (T : Array GenState) : Prop where
  at_ : ∀ (i : Nat) (x : GenState), D i = some x → T[i]? = some (stk x) ∧ Susp x
  no : ∀ (i : Nat) (y : GenState), D i = none → T[i]? = some y → NoG y
/-- D's own states instead -/
def fixT (D : Nat → Option GenState) (T : Array GenState) : Array GenState := T.mapIdx fun i y => (D i).getD y
def fixS (D : Nat → Option GenState) (s : Shared) : Shared := { s with gens := fixT D s.gens }
variable {D : Nat → Option GenState} {T : Array GenState}
theorem fix_get (i : Nat) : (fixT D T)[i]? = (T[i]?).map fun y => (D i).getD y := by simp [fixT]
theorem fix_none {i : Nat} (hi : D i = none) : (fixT D T)[i]? = T[i]? := by
  rw [fix_get, hi]; cases T[i]? <;> rfl
theorem fix_size : (fixT D T).size = T.size := by simp [fixT]
theorem Good.lt {i : Nat} {x : GenState} (h : Good D T) (hi : D i = some x) : i < T.size := (Array.getElem?_eq_some_iff.mp (h.at_ i x hi).1).1
theorem Good.set {i : Nat} {x : GenState} (h : Good D T) (hi : D i = none) (hx : NoG x) : Good D (T.setIfInBounds i x) := by
  refine ⟨fun j y e => ⟨?_, (h.at_ j y e).2⟩, fun j y hj e => ?_⟩
  · have z : i ≠ j := fun z => by subst z; rw [hi] at e; cases e
    rw [Array.getElem?_setIfInBounds_ne z]
    exact (h.at_ j y e).1
  · by_cases z : i = j
    · subst z
      rw [Array.getElem?_setIfInBounds] at e
      simp only [if_true] at e
      split at e
      · cases e; exact hx
      · cases e
    · rw [Array.getElem?_setIfInBounds_ne z] at e
      exact h.no j y hj e
theorem Good.push {c : Code} (h : Good D T) : Good D (T.push (.fresh c)) := by
  refine ⟨fun j y e => ⟨?_, (h.at_ j y e).2⟩, fun j y hj e => ?_⟩
  · rw [Array.getElem?_push_lt (h.lt e)]
    have := (h.at_ j y e).1
    rw [Array.getElem?_eq_getElem (h.lt e)] at this
    exact this
  · rw [Array.getElem?_push] at e
    split at e
    · cases e; trivial
    · exact h.no j y hj e
theorem set_comm {i : Nat} {x : GenState} (hi : D i = none) : fixT D (T.setIfInBounds i x) = (fixT D T).setIfInBounds i x := by
  apply Array.ext_getElem?
  intro j
  rw [fix_get]
  by_cases z : i = j
  · subst z
    rw [Array.getElem?_setIfInBounds, Array.getElem?_setIfInBounds, fix_size]
    simp only [if_true]
    split <;> simp [hi]
  · rw [Array.getElem?_setIfInBounds_ne z, Array.getElem?_setIfInBounds_ne z, fix_get]
theorem push_fix {y : GenState} (h : Good D T) : fixT D (T.push y) = (fixT D T).push y := by
  apply Array.ext_getElem?
  intro j
  rw [fix_get, Array.getElem?_push, Array.getElem?_push, fix_size]
  split
  · rename_i z
    subst z
    cases e : D T.size with
    | none => rfl
    | some x => exact absurd (h.lt e) (Nat.lt_irrefl _)
  · rw [fix_get]
theorem Good.sees {i : Nat} {st : GenState} (h : Good D T) (e : T[i]? = some st) : ∃ st', (fixT D T)[i]? = some st' ∧ st'.seen = st.seen := by
  cases z : D i with
  | none => exact ⟨st, by rw [fix_none z]; exact e, rfl⟩
  | some x =>
    have q := (h.at_ i x z).1
    rw [q] at e; cases e
    exact ⟨x, by rw [fix_get, q, z]; rfl, (stk_seen x).symm⟩
theorem Good.notSusp {i : Nat} {st : GenState} (h : Good D T) (e : T[i]? = some st) (hn : ¬ Susp st) : D i = none := by
  cases z : D i with
  | none => rfl
  | some x =>
    obtain ⟨q, hs⟩ := h.at_ i x z
    rw [q] at e; cases e
    revert hs hn
    cases x <;> intro a b <;> first | exact b.elim | exact a.elim | exact (a trivial).elim | exact (b trivial).elim
/-- the stuck one cannot run -/
theorem no_stuck {M : Model} {Γ : Ctx} {p : Pos} {fs : List Frame} {s s' : Shared} {e : End} {u : String} (h : Runs M Γ p (.unsupported u) fs s e s') : False := by
  have base : ∀ {Γ : Ctx} {p : Pos} {s s' : Shared} {e : End}, Runs M Γ p (.unsupported u) [] s e s' → False := fun h => by cases h
  cases h <;> exact base (by assumption)
theorem susp_frames {e : End} (h : ∀ v g l k c p fs, e = .susp v g l k c p fs → splitAtGen fs = none) : NoG e.genState := by
  cases e with
  | ret r => trivial
  | susp v g l k c p fs => exact h _ _ _ _ _ _ _ rfl
theorem split_app : ∀ {fs fs' : List Frame}, splitAtGen fs = none → splitAtGen fs' = none → splitAtGen (fs ++ fs') = none
  | [], fs', _, h => h
  | .gen .. :: _, _, h, _ => by simp [splitAtGen] at h
  | .ret a b c d e f i :: fs, fs', h, h' => by
    simp only [splitAtGen, Option.map_eq_none_iff] at h
    simp only [List.cons_append, splitAtGen, Option.map_eq_none_iff]
    exact split_app h h'
theorem split_ret {k h g l c p kp} {fs : List Frame} (e : splitAtGen (.ret k h g l c p kp :: fs) = none) : splitAtGen fs = none := by
  simpa only [splitAtGen, Option.map_eq_none_iff] using e
abbrev EndNo (e : End) : Prop := ∀ v g l k c p fs, e = .susp v g l k c p fs → splitAtGen fs = none
theorem endNo_ret {r : Result} : EndNo (.ret r) := fun _ _ _ _ _ _ _ e => by cases e

theorem set_fix {i : Nat} {x : GenState} {s : Shared} (hi : D i = none) : (fixS D s).setGen i x = fixS D (s.setGen i x) := by
  show ({ s with gens := (fixT D s.gens).setIfInBounds i x } : Shared) = { s with gens := fixT D (s.gens.setIfInBounds i x) }
  rw [set_comm hi]
theorem runs_fix {M : Model} {Γ : Ctx} {p : Pos} {t : Sem PySem.Fin} {fs : List Frame} {s s' : Shared} {e : End} (h : Runs M Γ p t fs s e s') :
    splitAtGen fs = none → Good D s.gens → Good D s'.gens ∧ EndNo e ∧ Runs M Γ p t fs (fixS D s) e (fixS D s') := by
  induction h with
  | done => intro _ G; exact ⟨G, endNo_ret, .done⟩
  | raise => intro _ G; exact ⟨G, endNo_ret, .raise⟩
  | again hq _ ih => intro a G; obtain ⟨x, y, z⟩ := ih a G; exact ⟨x, y, .again hq z⟩
  | rule _ ih => intro a G; obtain ⟨x, y, z⟩ := ih a G; exact ⟨x, y, .rule z⟩
  | «at» _ ih => intro a G; obtain ⟨x, y, z⟩ := ih a G; exact ⟨x, y, .at z⟩
  | load ho _ ih => intro a G; obtain ⟨x, y, z⟩ := ih a G; exact ⟨x, y, .load ho z⟩
  | update ho _ ih => intro a G; obtain ⟨x, y, z⟩ := ih a G; exact ⟨x, y, .update ho z⟩
  | loadIfAlive _ ih => intro a G; obtain ⟨x, y, z⟩ := ih a G; exact ⟨x, y, .loadIfAlive z⟩
  | point _ ih => intro a G; obtain ⟨x, y, z⟩ := ih a G; exact ⟨x, y, .point z⟩
  | alloc _ ih => intro a G; obtain ⟨x, y, z⟩ := ih a G; exact ⟨x, y, .alloc z⟩
  | fresh _ ih => intro a G; obtain ⟨x, y, z⟩ := ih a G; exact ⟨x, y, .fresh z⟩
  | ask _ ih => intro a G; obtain ⟨x, y, z⟩ := ih a G; exact ⟨x, y, .ask z⟩
  | choose hn _ ih => intro a G; obtain ⟨x, y, z⟩ := ih a G; exact ⟨x, y, .choose hn z⟩
  | os _ ih => intro a G; obtain ⟨x, y, z⟩ := ih a G; exact ⟨x, y, .os z⟩
  | handled _ ih => intro a G; obtain ⟨x, y, z⟩ := ih a G; exact ⟨x, y, .handled z⟩
  | genState hs _ ih =>
    intro a G
    obtain ⟨x, y, z⟩ := ih a G
    obtain ⟨st', e1, e2⟩ := G.sees hs
    exact ⟨x, y, .genState e1 (by rw [e2]; exact z)⟩
  | stack _ ih => intro a G; obtain ⟨x, y, z⟩ := ih a G; exact ⟨x, y, .stack z⟩
  | thread _ ih => intro a G; obtain ⟨x, y, z⟩ := ih a G; exact ⟨x, y, .thread z⟩
  | @newGen Γ p k s e s' c h1 ih =>
    intro a G
    obtain ⟨x, y, z⟩ := ih a G.push
    refine ⟨x, y, .newGen ?_⟩
    have e1 : (fixS D s).gens.size = s.gens.size := fix_size
    rw [e1]
    have e2 : fixS D ({ s with gens := s.gens.push (.fresh c) } : Shared) = { fixS D s with gens := (fixS D s).gens.push (.fresh c) } := by
      show ({ s with gens := fixT D (s.gens.push (.fresh c)) } : Shared) = { s with gens := (fixT D s.gens).push (.fresh c) }
      rw [push_fix G]
    rw [← e2]; exact z
  | call _ _ ih1 ih2 =>
    intro a G
    obtain ⟨x, y, z⟩ := ih1 rfl G
    obtain ⟨x2, y2, z2⟩ := ih2 rfl x
    exact ⟨x2, y2, .call z z2⟩
  | callSusp _ ih1 =>
    intro a G
    obtain ⟨x, y, z⟩ := ih1 rfl G
    refine ⟨x, fun _ _ _ _ _ _ _ e => ?_, .callSusp z⟩
    cases e
    exact split_app (y _ _ _ _ _ _ _ rfl) rfl
  | yield => intro a G; exact ⟨G, fun _ _ _ _ _ _ _ e => (by cases e; rfl), .yield⟩
  | @resumeFresh Γ p i l k s c e₁ s₁ e s' hs h1 hq h2 ih1 ih2 =>
    intro a G
    have hi : D i = none := G.notSusp hs (fun z => z)
    obtain ⟨x, y, z⟩ := ih1 rfl (G.set hi trivial)
    obtain ⟨x2, y2, z2⟩ := ih2 rfl (x.set hi (susp_frames y))
    refine ⟨x2, y2, .resumeFresh (c := c) (e₁ := e₁) (s₁ := fixS D s₁) ?_ ?_ hq ?_⟩
    · exact (fix_none hi).trans hs
    · rw [set_fix hi]; exact z
    · rw [set_fix hi]; exact z2
  | @resumeSuspended Γ p i r l k s k₀ l₀ c₀ p₀ fs cl e₁ s₁ e s' hs h1 hq h2 ih1 ih2 =>
    intro a G
    by_cases hi : D i = none
    rotate_left
    · obtain ⟨x0, h0⟩ := Option.ne_none_iff_exists'.mp hi
      obtain ⟨e1, e2⟩ := G.at_ i x0 h0
      rw [hs] at e1
      cases x0 with
      | suspended => cases e1; exact (no_stuck h1).elim
      | _ => exact e2.elim
    · obtain ⟨x, y, z⟩ := ih1 (G.no i _ hi hs) (G.set hi trivial)
      obtain ⟨x2, y2, z2⟩ := ih2 rfl (x.set hi (susp_frames y))
      refine ⟨x2, y2, .resumeSuspended (e₁ := e₁) (s₁ := fixS D s₁) (by exact (fix_none hi).trans hs) ?_ hq ?_⟩
      · rw [set_fix hi]; exact z
      · rw [set_fix hi]; exact z2
  | resumeJustStarted hs hv _ ih =>
    intro a G
    have hi := G.notSusp hs (fun z => z)
    obtain ⟨x, y, z⟩ := ih rfl G
    exact ⟨x, y, .resumeJustStarted ((fix_none hi).trans hs) hv z⟩
  | @resumeThrowFresh i Γ p k e s' x1 l s c hs _ ih =>
    intro a G
    have hi := G.notSusp hs (fun z => z)
    obtain ⟨x, y, z⟩ := ih rfl (G.set hi trivial)
    refine ⟨x, y, .resumeThrowFresh ((fix_none hi).trans hs) ?_⟩
    rw [set_fix hi]; exact z
  | resumeRunning hs _ ih =>
    intro a G
    have hi := G.notSusp hs (fun z => z)
    obtain ⟨x, y, z⟩ := ih rfl G
    exact ⟨x, y, .resumeRunning ((fix_none hi).trans hs) z⟩
  | resumeFinished hs _ ih =>
    intro a G
    have hi := G.notSusp hs (fun z => z)
    obtain ⟨x, y, z⟩ := ih rfl G
    exact ⟨x, y, .resumeFinished ((fix_none hi).trans hs) z⟩
  | segRet _ _ ih1 ih2 =>
    intro a G
    obtain ⟨x, y, z⟩ := ih1 rfl G
    obtain ⟨x2, y2, z2⟩ := ih2 (split_ret a) x
    exact ⟨x2, y2, .segRet z z2⟩
  | segGen => intro a G; simp [splitAtGen] at a
  | segSuspOut hs _ ih =>
    intro a G
    obtain ⟨x, y, z⟩ := ih rfl G
    refine ⟨x, fun _ _ _ _ _ _ _ e => ?_, .segSuspOut hs z⟩
    cases e
    exact split_app (y _ _ _ _ _ _ _ rfl) hs
  | segSuspGen hs => intro a G; rw [hs] at a; cases a

theorem wakes_fix {M : Model} {Γ : Ctx} {p : Pos} {i : Nat} {r : Resume} {s s' : Shared} {res : GenResult} (h : Wakes M Γ p i r s res s') (G : Good D s.gens) : Good D s'.gens ∧ Wakes M Γ p i r (fixS D s) res (fixS D s') := by
  have at_ : D i = none → (fixS D s).gens[i]? = s.gens[i]? := fun hi => fix_none hi
  unfold Wakes at h ⊢
  split at h
  · exact h.elim
  · rename_i c hs
    have hi : D i = none := G.notSusp hs (fun z => z)
    rw [at_ hi, hs]
    dsimp only
    split at h
    · obtain ⟨e₁, s₁, hr, hq, rfl, rfl⟩ := h
      obtain ⟨x, y, z⟩ := runs_fix hr rfl (G.set hi trivial)
      exact ⟨x.set hi (susp_frames y), e₁, _, by rw [set_fix hi]; exact z, hq, rfl, (set_fix hi).symm⟩
    · obtain ⟨rfl, rfl⟩ := h
      exact ⟨G, by first | exact ⟨rfl, rfl⟩ | (split <;> first | exact ⟨rfl, rfl⟩ | (rename_i hne _; exact (hne rfl).elim))⟩
    · obtain ⟨rfl, rfl⟩ := h
      exact ⟨G.set hi trivial, rfl, (set_fix hi).symm⟩
  · rename_i k₀ l c₀ p₀ fs cl hs
    obtain ⟨e₁, s₁, hr, hq, rfl, rfl⟩ := h
    by_cases hi : D i = none
    rotate_left
    · obtain ⟨x0, h0⟩ := Option.ne_none_iff_exists'.mp hi
      obtain ⟨e1, e2⟩ := G.at_ i x0 h0
      rw [hs] at e1
      cases x0 with
      | suspended => cases e1; exact (no_stuck hr).elim
      | _ => exact e2.elim
    · rw [at_ hi, hs]
      obtain ⟨x, y, z⟩ := runs_fix hr (G.no i _ hi hs) (G.set hi trivial)
      exact ⟨x.set hi (susp_frames y), e₁, _, by rw [set_fix hi]; exact z, hq, rfl, (set_fix hi).symm⟩
  · rename_i hs
    have hi : D i = none := G.notSusp hs (fun z => z)
    rw [at_ hi, hs]
    obtain ⟨rfl, rfl⟩ := h
    exact ⟨G, rfl, rfl⟩
  · rename_i hs
    have hi : D i = none := G.notSusp hs (fun z => z)
    rw [at_ hi, hs]
    obtain ⟨rfl, rfl⟩ := h
    exact ⟨G, rfl, rfl⟩

theorem wp_fix {α : Type} (M : Model) (Γ : Ctx) (t : Sem α) : ∀ (Q : α → Pos → Shared → Prop) (E : Value → Pos → Shared → Prop) (p : Pos) (s : Shared), Good D s.gens → wp M Γ t Q E p s →
    wp M Γ t (fun a p' s' => ∃ s1, Good D s1.gens ∧ s' = fixS D s1 ∧ Q a p' s1) (fun e p' s' => ∃ s1, Good D s1.gens ∧ s' = fixS D s1 ∧ E e p' s1) p (fixS D s) := by
  induction t with
  | pure a => intro Q E p s hn h; exact ⟨s, hn, rfl, h⟩
  | raise e => intro Q E p s hn h; exact ⟨s, hn, rfl, h⟩
  | unsupported _ => intro Q E p s _ h; exact h
  | finish _ => intro Q E p s _ h; exact h
  | rule _ k ih => intro Q E p s hn h; exact ih () Q E p s hn h
  | «at» p' k ih => intro Q E p s hn h; exact ih () Q E p' s hn h
  | load a _ k ih => intro Q E p s hn h; obtain ⟨o, ho, h⟩ := h; exact ⟨o, ho, ih o Q E p s hn h⟩
  | update a _ f k ih => intro Q E p s hn h; exact ⟨h.1, ih () Q E p { s with heap := s.heap.update a f } hn h.2⟩
  | loadIfAlive a k ih => intro Q E p s hn h; exact ih _ Q E p s hn h
  | point _ k ih => intro Q E p s hn h; exact ih () Q E p s hn h
  | register _ _ => intro Q E p s _ h; exact h
  | alloc o k ih => intro Q E p s hn h; exact ih _ Q E p { s with heap := s.heap.push o } hn h
  | fresh k ih => intro Q E p s hn h; exact ih _ Q E p { s with toks := s.toks + 1 } hn h
  | ask k ih => intro Q E p s hn h; exact ih _ Q E p s hn h
  | choose src m k ih => intro Q E p s hn h; exact ⟨h.1, ih _ Q E p { s with drawn := s.drawn.bump src } hn h.2⟩
  | os q _ k ih => intro Q E p s hn h; exact ih _ Q E p { s with os := (Os.step s.os q).1 } hn h
  | call c hd _ _ k ih =>
    intro Q E p s hn h
    obtain ⟨r, s', hr, h⟩ := h
    obtain ⟨x, _, z⟩ := runs_fix hr rfl hn
    exact ⟨r, _, z, ih r Q E p s' x h⟩
  | handled own k ih => intro Q E p s hn h; exact ih _ Q E p s hn h
  | genState i k ih =>
    intro Q E p s hn h
    obtain ⟨st, hs, h⟩ := h
    obtain ⟨st', e1, e2⟩ := hn.sees hs
    refine ⟨st', e1, ?_⟩
    rw [e2]
    exact ih _ Q E p s hn h
  | newGen c k ih =>
    intro Q E p s hn h
    have q := ih _ Q E p { s with gens := s.gens.push (.fresh c) } hn.push h
    have e1 : (fixS D s).gens.size = s.gens.size := fix_size
    have e2 : fixS D ({ s with gens := s.gens.push (.fresh c) } : Shared) = { fixS D s with gens := (fixS D s).gens.push (.fresh c) } := by
      show ({ s with gens := fixT D (s.gens.push (.fresh c)) } : Shared) = { s with gens := (fixT D s.gens).push (.fresh c) }
      rw [push_fix hn]
    rw [e2] at q
    show wp M Γ (k (fixS D s).gens.size) _ _ _ _
    rw [e1]
    exact q
  | resume i r _ k ih =>
    intro Q E p s hn h
    obtain ⟨res, s', hw, h⟩ := h
    obtain ⟨x, z⟩ := wakes_fix hw hn
    exact ⟨res, _, z, ih res Q E p s' x h⟩
  | yield _ _ _ _ => intro Q E p s _ h; exact h
  | stack k ih => intro Q E p s hn h; exact ih _ Q E p s hn h
  | fork _ _ => intro Q E p s _ h; exact h
  | thread k ih => intro Q E p s hn h; exact ih _ Q E p s hn h
  | await _ _ _ _ _ => intro Q E p s _ h; exact h

/-- what sleeps in T -/
def slept (T : Array GenState) (i : Nat) : Option GenState := match T[i]? with
  | some (.suspended k l c p fs cl) => some (.suspended k l c p fs cl)
  | _ => none
theorem slept_some {i : Nat} {x : GenState} (h : slept T i = some x) : T[i]? = some x ∧ Susp x := by
  unfold slept at h
  split at h
  · rename_i e; cases h; exact ⟨e, trivial⟩
  · cases h
theorem slept_of {i : Nat} {x : GenState} (h : T[i]? = some x) (hx : Susp x) : slept T i = some x := by
  unfold slept
  cases x with
  | suspended => rw [h]
  | _ => exact hx.elim
def stkT (T : Array GenState) : Array GenState := T.map stk
theorem stkT_get (i : Nat) : (stkT T)[i]? = (T[i]?).map stk := by simp [stkT]
theorem good_stk : Good (slept T) (stkT T) := by
  refine ⟨fun i x e => ?_, fun i y hi e => ?_⟩
  · obtain ⟨e1, e2⟩ := slept_some e
    exact ⟨by rw [stkT_get, e1]; rfl, e2⟩
  · rw [stkT_get] at e
    cases h : T[i]? with
    | none => rw [h] at e; cases e
    | some x =>
      rw [h] at e; cases e
      cases x with
      | suspended => rw [slept_of h trivial] at hi; cases hi
      | _ => trivial
theorem fix_stk : fixT (slept T) (stkT T) = T := by
  apply Array.ext_getElem?
  intro i
  rw [fix_get, stkT_get]
  cases h : T[i]? with
  | none => rfl
  | some x =>
    cases x with
    | suspended => simp [slept_of h trivial]
    | _ => simp [slept, h, stk]
/-- the rule: run it where all that sleep are stuck -/
theorem wpAny_fix {α : Type} {M : Model} {A : Around} {s : Shared} {t : Sem α} {Q : α → Shared → Prop} {E : Value → Shared → Prop}
    (h : wpAny M A t (fun a s1 => Good (slept s.gens) s1.gens → Q a (fixS (slept s.gens) s1)) (fun e s1 => Good (slept s.gens) s1.gens → E e (fixS (slept s.gens) s1)) { s with gens := stkT s.gens }) : wpAny M A t Q E s := by
  have back : fixS (slept s.gens) { s with gens := stkT s.gens } = s := by
    show ({ s with gens := fixT (slept s.gens) (stkT s.gens) } : Shared) = s
    rw [fix_stk]
  intro Γ p hΓ
  have q := wp_fix M Γ t _ _ p { s with gens := stkT s.gens } good_stk (h Γ p hΓ)
  rw [back] at q
  refine Sem.wp_mono M Γ t ?_ ?_ p s q
  · rintro a p' s' ⟨s1, G1, rfl, h1⟩; exact h1 G1
  · rintro a p' s' ⟨s1, G1, rfl, h1⟩; exact h1 G1
/-- what slept sleeps as it did -/
theorem fix_at {s0 s1 : Shared} {g : Nat} {x : GenState} (G : Good (slept s0.gens) s1.gens) (h : s0.gens[g]? = some x) (hx : Susp x) : (fixS (slept s0.gens) s1).gens[g]? = some x := by
  have e := slept_of h hx
  show (fixT (slept s0.gens) s1.gens)[g]? = _
  rw [fix_get, (G.at_ g x e).1, e]; rfl
theorem bare_stk {T : Array GenState} (h : PyProof.Rows.AllBare T) : PyProof.Rows.AllBare (stkT T) := fun y hy => by
  obtain ⟨x, hx, rfl⟩ := Array.mem_map.mp hy
  have := h x hx
  cases x <;> exact this
theorem bare_fix {s0 s1 : Shared} (h0 : PyProof.Rows.AllBare s0.gens) (h1 : PyProof.Rows.AllBare s1.gens) : PyProof.Rows.AllBare (fixS (slept s0.gens) s1).gens := fun y hy => by
  obtain ⟨i, hi, e⟩ := Array.mem_iff_getElem.mp hy
  have e' : (fixT (slept s0.gens) s1.gens)[i]? = some y := by rw [← e]; exact Array.getElem?_eq_getElem hi
  rw [fix_get] at e'
  cases h : slept s0.gens i with
  | none =>
    rw [h] at e'
    cases h2 : s1.gens[i]? with
    | none => rw [h2] at e'; cases e'
    | some z => rw [h2] at e'; cases e'; exact h1 _ (Array.mem_of_getElem? h2)
  | some x =>
    rw [h] at e'
    cases h2 : s1.gens[i]? with
    | none => rw [h2] at e'; cases e'
    | some z => rw [h2] at e'; cases e'; exact h0 _ (Array.mem_of_getElem? (slept_some h).1)
end GenP

/-! Generators that any consumer may wake: segments by what their end is, sleeping states, yield from. -/
namespace GenP
open PySem PySem.Spec PyProof.Rows L2 GenW
open Sem (wp)

def SegP (M : Model) (A : Around) (P : End → Shared → Prop) (c : Code) (t : Sem PySem.Fin) (fs : List Frame) (s : Shared) : Prop :=
  ∀ Γ p, Γ.code = c → Γ.Woken A → ∃ e s', Runs M Γ p t fs s e s' ∧ P e s'
section
variable {M : Model} {A : Around} {P P' : End → Shared → Prop} {c : Code} {fs : List Frame} {s : Shared}
theorem SegP.mono {t : Sem PySem.Fin} (h : SegP M A P c t fs s) (hp : ∀ e s', P e s' → P' e s') : SegP M A P' c t fs s := fun Γ p h1 h2 => by
  obtain ⟨e, s', a, b⟩ := h Γ p h1 h2
  exact ⟨e, s', a, hp _ _ b⟩
theorem segp_wrap {α : Type} {m : Sem α} {K : α → Sem PySem.Fin} {J : Value → Sem PySem.Fin} {gd : Bool → Bool} {lv : List Value → List Value}
    (h : wpAny M (A.over c fs) m (fun a z => SegP M A P c (K a) fs z) (fun x z => SegP M A P c (J x) fs z) s) : SegP M A P c (m.wrap K J gd lv) fs s := fun Γ p hc hΓ => by
  subst hc
  exact runs_wrap_of_wp K J gd lv m (h (Γ.over fs) p (hΓ.over fs)) (fun a q z y => y Γ q rfl hΓ) fun x q z y => y Γ q rfl hΓ
theorem segp_at {p' : Pos} {k : Unit → Sem PySem.Fin} (h : SegP M A P c (k ()) fs s) : SegP M A P c (.at p' k) fs s :=
  segp_wrap (m := standAt p') (K := k) (J := .raise) (gd := id) (lv := id) (wpAny_standAt h)
theorem segp_point {l : List Value} {k : Unit → Sem PySem.Fin} (h : SegP M A P c (k ()) fs s) : SegP M A P c (.point l k) fs s :=
  segp_wrap (m := point) (K := k) (J := .raise) (gd := id) (lv := fun _ => l) (wpAny_point h)
theorem segp_call {c' : Code} {h : Option Value} {g : Bool} {l : List Value} {k : Result → Sem PySem.Fin} (hc : ∀ p, SegP M A P c' (M.den c') (.ret k h g l c p [] :: fs) s) : SegP M A P c (.call c' h g l k) fs s := fun Γ p e hΓ => by
  subst e
  obtain ⟨e, z, hr, he⟩ := hc p (Γ.goto c') p rfl (hΓ.goto c')
  exact ⟨e, z, runs_call_seg hr, he⟩
theorem segp_leaf {k : Result → Sem PySem.Fin} {h : Option Value} {g : Bool} {l kp : List Value} {c₁ : Code} {p₁ : Pos} (r : Result) (hk : SegP M A P c₁ (k r) fs s) : SegP M A P c (leafOf r) (.ret k h g l c₁ p₁ kp :: fs) s := fun Γ p e hΓ => by
  subst e
  obtain ⟨e, z, hr, he⟩ := hk (Γ.goto c₁) p₁ rfl (hΓ.goto c₁)
  exact ⟨e, z, Runs.pop r hr, he⟩
theorem segp_again {c' : Code} (hq : c'.quiet = true) (hc : SegP M A P c' (M.den c') fs s) : SegP M A P c (.pure (.again c')) fs s := fun Γ p e hΓ => by
  subst e
  obtain ⟨e, z, hr, he⟩ := hc (Γ.goto c') p rfl (hΓ.goto c')
  exact ⟨e, z, Runs.head (c₁ := c') (fun _ _ y => .again hq y) hr, he⟩
theorem segp_end (r : Result) (h : P (.ret r) s) : SegP M A P c (leafOf r) [] s := fun Γ p e _ => by
  subst e
  exact ⟨.ret r, s, Runs.leaf r, h⟩
theorem segp_yield {v : Value} {g : Bool} {l : List Value} {k : Resume → Sem PySem.Fin} (hfs : splitAtGen fs = none) (h : ∀ p, P (.susp v g l k c p fs) s) : SegP M A P c (.yield v g l k) fs s := fun Γ p e _ => by
  subst e
  exact ⟨_, s, Runs.yield' fs hfs, h p⟩
theorem segp_bindw {α β : Type} {m : Sem α} {f : α → Sem β} {K : β → Sem PySem.Fin} {J : Value → Sem PySem.Fin} {gd : Bool → Bool} {lv : List Value → List Value}
    (h : wpAny M (A.over c fs) m (fun a z => SegP M A P c ((f a).wrap K J gd lv) fs z) (fun x z => SegP M A P c (J x) fs z) s) : SegP M A P c ((m >>= f).wrap K J gd lv) fs s := by
  rw [Sem.bind_eq_wrap' m f, Sem.wrap_wrap]
  exact segp_wrap h
end
theorem segp_func {prog : Program} {w : World} {A : Around} {P : End → Shared → Prop} {fs : List Frame} {s : Shared} {env : Env} {body : List Stmt}
    (h : SegP (model prog w) A P (.func body env) ((execs body env).wrap (fun f => .pure (.done (.ret (match f with | .ret v => v | _ => .none)))) (fun e => (leaving env e).wrap (fun _ => .raise e) .raise id id) id id) fs s) :
    SegP (model prog w) A P (.func body env) ((model prog w).den (.func body env)) fs s := by
  show SegP _ A P _ (.point [] fun _ => ((execs body env).onRaise (leaving env)) >>= _) fs s
  refine segp_point ?_
  rw [Sem.onRaise_eq_wrap, Sem.bind_eq_wrap', Sem.wrap_wrap, Sem.wrap_congr (execs body env) _ _ (K' := fun f => .pure (.done (.ret (match f with | .ret v => v | _ => .none))))
    (H' := fun e => (leaving env e).wrap (fun _ => .raise e) .raise id id) (fun f => by cases f <;> rfl) (fun e => by rw [Sem.bind_eq_wrap, Sem.wrap_wrap]; rfl)]
  exact h

/-! ### waking -/
def GoP (M : Model) (A : Around) (P : End → Shared → Prop) (gs : GenState) (s : Shared) : Prop :=
  match gs with
  | .fresh c => SegP M A P c (M.den c) [] s
  | .suspended k _ c _ fs _ => SegP M A P c (k (.send .none)) fs s
  | _ => False
theorem wpAny_resumeP {M : Model} {A : Around} {P : End → Shared → Prop} {E : Value → Shared → Prop} {s : Shared} {g : Nat} {gs : GenState} {l : List Value} {α : Type} {k : GenResult → Sem α} {Q : α → Shared → Prop} (hg : s.gens[g]? = some gs)
    (hgo : GoP M A P gs (s.setGen g .running)) (hq : ∀ e z, P e z → e.quiet = true) (h : ∀ e z, P e z → wpAny M A (k e.result) Q E (z.setGen g e.genState)) : wpAny M A (.resume g (.send .none) l k) Q E s := fun Γ p hΓ => by
  rw [Sem.wp_resume]
  cases gs with
  | fresh c =>
    obtain ⟨e, z, hr, he⟩ := hgo (Γ.wake c p) p rfl (hΓ.wake c p)
    exact ⟨_, _, by unfold Wakes; rw [hg]; exact ⟨e, z, hr, hq e z he, rfl, rfl⟩, h e z he Γ p hΓ⟩
  | suspended k₀ l₀ c₀ p₀ fs₀ cl =>
    obtain ⟨e, z, hr, he⟩ := hgo (Γ.wake c₀ p) p₀ rfl (hΓ.wake c₀ p)
    exact ⟨_, _, by unfold Wakes; rw [hg]; exact ⟨e, z, hr, hq e z he, rfl, rfl⟩, h e z he Γ p hΓ⟩
  | running => exact hgo.elim
  | finished => exact hgo.elim
/-- the end of a generator -/
def Ended (e : End) : Prop := e = .ret (.ok (.ret .none)) ∨ e = .ret (.ok .next)
/-- next(g) -/
theorem next_genP {P : Program} {w : World} {A : Around} {E : Value → Shared → Prop} {s : Shared} {a : Addr} {g : Nat} {gs : GenState} {R : End → Shared → Prop} {Q : Option Value → Shared → Prop} (hh : A.handled = none) (hl : s.heap.NoLimit) (hroom : A.depth < recursionLimit)
    (hg : s.heap.IsGen a g) (hgs : s.gens[g]? = some gs) (hgo : GoP (model P w) A.in1 R gs (s.setGen g .running))
    (hR : ∀ e z, R e z → (∃ v, e.result = .yielded v ∧ e.quiet = true ∧ Q (some v) (z.setGen g e.genState)) ∨ (Ended e ∧ ∀ h', (∀ b o, z.heap.get? b = some o → h'.get? b = some o) → Q none { z.setGen g .finished with heap := h' })) :
    wpAny (model P w) A (pyNext (.ref a)) Q E s := by
  unfold pyNext
  refine wpAny_bind (wpAny_attempt (wpAny_callSpecial?_slot (name := Str.ofString "__next__") hg.typeIs slot_gen_next (wpAny_call_entry slot_gen_next hg.typeIs entry_gen_next ?_ (args_gen_next _))))
  show wpAny _ A.in1 (Builtin.Generator.genWake (.ref a) (.send .none)) _ _ s
  unfold Builtin.Generator.genWake
  refine wpAny_bind (wpAny_holding (wpAny_genNumber hg (wpAny_bind (wpAny_genState hgs ?_))))
  cases gs with
  | running => exact hgo.elim
  | finished => exact hgo.elim
  | _ =>
    refine wpAny_bind (wpAny_roomToWake hl hroom ?_)
    show wpAny _ A.in1 (.resume g (.send .none) [] _) _ _ s
    refine wpAny_resumeP hgs hgo (fun e z hx => ?_) (fun e z hx => ?_)
    · rcases hR e z hx with ⟨_, _, y, _⟩ | ⟨y | y, _⟩
      · exact y
      · rw [y]; rfl
      · rw [y]; rfl
    · rcases hR e z hx with ⟨v, y, _, q⟩ | ⟨y, q⟩
      · rw [y]
        exact wpAny_pure ⟨v, rfl, wpAny_pure q⟩
      · have e1 : e.result = .returned .none := by rcases y with y | y <;> rw [y] <;> rfl
        have e2 : e.genState = .finished := by rcases y with y | y <;> rw [y] <;> rfl
        rw [e1, e2]
        show wpAny _ A.in1 (newExc (.type "StopIteration") [] >>= _) _ _ _
        refine wpAny_bind ?_
        simp only [newExc, newTuple]
        refine wpAny_bind (wpAny_newObj_type ?_ (by size_fits))
        refine wpAny_bind (m := firstArgMember _ _) (wpAny_of_eq (a := Value.none) (by first | rfl | (simp only [firstArgMember]; rfl)) ?_)
        refine wpAny_newObj_type ?_ (by size_fits)
        simp only [raiseNew]
        refine wpAny_bind (wpAny_bind (wpAny_handled ?_))
        first | rw [show A.in1.handled = none from hh] | rw [hh]
        refine wpAny_throw ?_
        refine wpAny_bind (wpAny_isInstance (T := "StopIteration") (b := true) ⟨_, Heap.get?_push_size _ rfl, rfl⟩ isSubtype_stop ?_)
        exact wpAny_pure (q _ fun b o hb => Heap.get?_push_of_some _ (Heap.get?_push_of_some _ hb))

/-! ### asleep -/
structure Slp (gs : GenState) : Prop where
  sus : Susp gs
  no : NoG gs
  bare : gs.bare = true
/-- only the objects at Is changed, and tokens -/
def Turned (Is : List Addr) (s z : Shared) : Prop := ∃ h' tk, z = { s with heap := h', toks := tk } ∧ ∀ b o, b ∉ Is → s.heap.get? b = some o → h'.get? b = some o
/-- r items are left, the next is the j-th; T: how its own objects stand; Y: what an item is -/
def Sleep (M : Model) (A : Around) (Is : List Addr) (T : Nat → Heap → Prop) (Y : Nat → Heap → Heap → Value → Prop) : Nat → Nat → GenState → Prop
  | 0, j => fun gs => Slp gs ∧ ∀ s, T j s.heap → GoP M A (fun e z => Ended e ∧ Turned Is s z) gs s
  | r + 1, j => fun gs => Slp gs ∧ ∀ s, T j s.heap → GoP M A (fun e z => e.quiet = true ∧ (∃ v, e.result = .yielded v ∧ Y j s.heap z.heap v) ∧ Turned Is s z ∧ T (j + 1) z.heap ∧ Sleep M A Is T Y r (j + 1) e.genState) gs s
def NextP (M : Model) (A : Around) (Is : List Addr) (T : Nat → Heap → Prop) (Y : Nat → Heap → Heap → Value → Prop) (r j : Nat) (s : Shared) : End → Shared → Prop :=
  match r with
  | 0 => fun e z => Ended e ∧ Turned Is s z
  | r + 1 => fun e z => e.quiet = true ∧ (∃ v, e.result = .yielded v ∧ Y j s.heap z.heap v) ∧ Turned Is s z ∧ T (j + 1) z.heap ∧ Sleep M A Is T Y r (j + 1) e.genState
end GenP

/-! What a generator's call gives, for a consumer of any kind; a for loop over it. -/
namespace GenP
open PySem PySem.Spec PyProof.Rows L2 GenW
open Sem (wp)

/-- no object comes back -/
structure Dead (h h' : Heap) : Prop where
  le : h.objs.size ≤ h'.objs.size
  dead : ∀ b, b < h.objs.size → h.get? b = none → h'.get? b = none
theorem Dead.refl {h : Heap} : Dead h h := ⟨Nat.le_refl _, fun _ _ e => e⟩
theorem Dead.trans {h h1 h2 : Heap} (a : Dead h h1) (b : Dead h1 h2) : Dead h h2 := ⟨Nat.le_trans a.le b.le, fun c hc e => b.dead c (Nat.lt_of_lt_of_le hc a.le) (a.dead c hc e)⟩
theorem Dead.push {h h2 : Heap} {o : Obj} (b : Dead (h.push o) h2) : Dead h h2 :=
  Dead.trans ⟨by rw [Heap.size_push]; exact Nat.le_succ _, fun c hc e => by rw [Heap.get?_push_ne _ _ _ (Nat.ne_of_lt hc)]; exact e⟩ b
theorem Dead.upd {h h2 : Heap} {a : Addr} {f : Obj → Obj} (ha : (h.get? a).isSome) (b : Dead (h.update a f) h2) : Dead h h2 :=
  Dead.trans ⟨Nat.le_of_eq (Heap.size_update ..).symm, fun c hc e => by
    have n : a ≠ c := fun z => by rw [z, e] at ha; cases ha
    rw [Heap.get?_update_other _ _ n]; exact e⟩ b
theorem runs_dead {M : Model} {Γ : PySem.Ctx} {p : Pos} {t : Sem PySem.Fin} {fs : List Frame} {s s' : Shared} {e : End} (h : Runs M Γ p t fs s e s') : Dead s.heap s'.heap := by
  induction h with
  | done => exact .refl
  | raise => exact .refl
  | yield => exact .refl
  | update ho _ ih => exact .upd ho ih
  | alloc _ ih => exact .push ih
  | call _ _ i1 i2 => exact i1.trans i2
  | resumeFresh _ _ _ _ i1 i2 => exact Dead.trans i1 i2
  | resumeSuspended _ _ _ _ i1 i2 => exact Dead.trans i1 i2
  | segRet _ _ i1 i2 => exact i1.trans i2
  | segGen _ _ i1 i2 => exact i1.trans i2
  | segSuspGen _ _ _ _ i1 i2 => exact i1.trans i2
  | segSuspOut _ _ ih => exact ih
  | callSusp _ ih => exact ih
  | _ => assumption
theorem codeAny_dead {M : Model} {A : Around} {c : Code} {R : Result → Shared → Prop} {s : Shared} (h : codeAny M A c (fun r s' => Dead s.heap s'.heap → R r s') s) : codeAny M A c R s := fun Γ p h1 h2 => by
  obtain ⟨r, s', hr, q⟩ := h Γ p h1 h2
  exact ⟨r, s', hr, q (runs_dead hr)⟩

theorem inv_gens {X : Cx} {pins : List (Addr × Obj)} {σ : L2.St} {H : Hp} {s : Shared} {G : Array GenState} (I : Inv X pins σ H s) (h : AllBare G) : Inv X pins σ H { s with gens := G } :=
  I.call' (ch := []) rfl (Un.kept fun _ _ e => e) I.hok h fun b hb => absurd hb (by simp)
/-- what the items come from, as a consumer sees it -/
structure Src (P : Program) (w : World) (Is : List Addr) (T : Nat → Heap → Prop) (Y : Nat → Heap → Heap → Value → Prop) (n : Nat) (Gd : Hp → Prop) (Yd : Nat → Hp → V → Hp → Prop) : Prop where
  keep : ∀ (j : Nat) (h h' : Heap) (H' : Hp), T j h → (∀ b ∈ Is, ∀ o, h.get? b = some o → h'.get? b = some o) → HOk P w H' h' → Gd H' → T j h'
  obj : ∀ (j : Nat) (h : Heap), T j h → ∀ b ∈ Is, ∃ o, h.get? b = some o ∧ ∀ v, o.data ≠ .cell v
  gives : ∀ (X : Cx) (pins : List (Addr × Obj)) (σ : L2.St) (H : Hp) (s : Shared) (h' : Heap) (tk j : Nat) (v : Value), X.prog = P → X.w = w → Inv X pins σ H s → Gd H → (∀ b ∈ Is, FpOk X pins H b) →
    (∀ b o, b ∉ Is → s.heap.get? b = some o → h'.get? b = some o) → Y j s.heap h' v → ∃ x H', RelV x v ∧ Inv X pins σ H' { s with heap := h', toks := tk } ∧ (∀ b, s.heap.get? b ≠ none → H b = none → H' b = none) ∧ Yd j H x H'
abbrev TQ := Nat → (Hp → Prop) → (Nat → Hp → V → Hp → Prop) → Hp → Prop
/-- the first waking -/
def Begun (P : Program) (w : World) (outer : List Env) (H : Hp) (s : Shared) (a : Addr) (go : Obj) (pl : List (Addr × Obj)) (A : Around) (Q : TQ) : End → Shared → Prop := fun e z =>
  ∃ (Is : List Addr) (T : Nat → Heap → Prop) (Y : Nat → Heap → Heap → Value → Prop) (n : Nat) (Gd : Hp → Prop) (Yd : Nat → Hp → V → Hp → Prop) (H' : Hp) (sM : Shared), sM.os = s.os ∧ AllBare sM.gens ∧ Un (frs outer) [] H H' s.heap sM.heap ∧ HOk P w H' sM.heap ∧
    (∀ b ∈ Is, H' b = none ∧ s.heap.objs.size ≤ b ∧ b ≠ a) ∧ H' a = none ∧ sM.heap.get? a = some go ∧ T 0 sM.heap ∧ Src P w Is T Y n Gd Yd ∧ Gd H' ∧ n ≤ sizeLine ∧ Q n Gd Yd H' ∧ (∀ p ∈ pl, sM.heap.get? p.1 = some p.2 ∧ H' p.1 = none ∧ p.1 ∉ Is) ∧ NextP (model P w) A Is T Y n 0 sM e z
def GMk (P : Program) (w : World) (k : Nat) (outer : List Env) (H : Hp) (s : Shared) (Q : TQ) (u : Value) (s' : Shared) : Prop :=
  ∃ (a : Addr) (g : Nat) (c : Code) (go : Obj), u = .ref a ∧ s.heap.objs.size ≤ a ∧ s'.heap.get? a = some go ∧ (∀ h : Heap, h.get? a = some go → h.IsGen a g) ∧ (∀ v, go.data ≠ .cell v) ∧ s'.gens[g]? = some (.fresh c) ∧ s'.os = s.os ∧ AllBare s'.gens ∧ (∀ b o, s.heap.get? b = some o → s'.heap.get? b = some o) ∧ Dead s.heap s'.heap ∧
    ∀ (A : Around) (s2 : Shared) (pl : List (Addr × Obj)), Room k A → A.frames = some outer → (∀ b o, s'.heap.get? b = some o → s2.heap.get? b = some o) → s2.os = s.os → AllBare s2.gens → (∀ p ∈ pl, s2.heap.get? p.1 = some p.2 ∧ s'.heap.objs.size ≤ p.1 ∧ ∀ v, p.2.data ≠ .cell v) → SegP (model P w) A (Begun P w outer H s a go pl A Q) c ((model P w).den c) [] s2
/-- an expression that is such a generator -/
abbrev TGq := L2.St → Hp → TQ → Prop
structure PGq (X : Cx) (k : Nat) (e : Expr) (tg : TGq) : Prop where
  run : ∀ (pins : List (Addr × Obj)) (s : Shared) (σ : L2.St) (H : Hp) (Q : TQ), Inv X pins σ H s → tg σ H Q → wpAny (model X.prog X.w) X.A (eval e X.env) (fun u s' => ∃ H1 sc, Inv X pins σ H1 sc ∧ GMk X.prog X.w k X.stack H1 sc Q u s') X.xe s

theorem own_gen {M : Model} {A : Around} {E : Value → Shared → Prop} {s : Shared} {tg : Expr} {a : Addr} {g : Nat} {v : Value} {Q : Unit → Shared → Prop} (hg : s.heap.IsGen a g) (h : Q () s) : wpAny M A (letOwnedTupleGo tg (.ref a) v) Q E s := by
  obtain ⟨o, nm, qn, ho, hc, hd, _⟩ := hg
  have body : wpAny M A (match v with
    | .ref b => do
      let o ← load a
      match o.cls, o.data with
      | .type n, .fields vs => if (["enumerate", "zip", "dict_itemiterator", "dict_reverseitemiterator", "odict_iterator", "itertools.zip_longest", "itertools.pairwise"].contains n && vs[0]? == some (rawInt b)) = true then do rule "for.unpacks-the-owned-tuple"; updateField a 0 .none else pure ()
      | _, _ => pure ()
    | _ => pure ()) Q E s := by
    cases v with
    | ref b =>
      refine wpAny_bind (wpAny_load ho ?_)
      rw [hc, hd]
      dsimp only
      rw [show (["enumerate", "zip", "dict_itemiterator", "dict_reverseitemiterator", "odict_iterator", "itertools.zip_longest", "itertools.pairwise"].contains "generator") = false from by decide, Bool.false_and, if_neg Bool.false_ne_true]
      exact wpAny_pure h
    | _ => exact wpAny_pure h
  unfold letOwnedTupleGo
  cases tg with
  | Tuple => cases v <;> exact body
  | List => cases v <;> exact body
  | _ => exact wpAny_pure h

section
variable {X : Cx} {k : Nat}
end
end GenP

/-! A generator def whose body is one «yield from» of a list. -/
namespace GenP
open PySem PySem.Spec PyProof.Rows L2 GenW
open Sem (wp)

/-! ### the list's iterator -/
section
variable {P : Program} {w : World} {A : Around} {E : Value → Shared → Prop} {s : Shared}
end
/-! ### the def -/
abbrev SpQ := List V → Hp → TQ → Prop
structure GFnQ (P : Program) (w : World) (K : PySem.W.Frag) (mg : Str → Option Value) (base : Heap) (k : Nat) (f : Addr) (fd : FuncData) (ps : List Str) (sp : SpQ) : Prop where
  len : ∀ vs H Q, sp vs H Q → vs.length = ps.length
  run : ∀ (A : Around) (outer : List Env) (s : Shared) (H : Hp) (args : Args) (us : List Value) (vs : List V) (Q : TQ), Room k A → Env0 P w K mg base A outer s H → BindsTo s fd args (ps.zip us) → Vals vs us → sp vs H Q →
    codeAny (model P w) A (.call (.ref f) args) (fun r s' => match r with | .ok (.ret u) => GMk P w k outer H s Q u s' | _ => False) s
def noX : XK := fun _ _ _ => False
/-! ### the call -/
section
variable {X : Cx} {k : Nat} {f : Addr} {fd : FuncData} {ps : List Str} {sp : SpQ} {x : Str} {p pos : Pos}
end
end GenP

/-! A list comprehension over a generator. -/
namespace GenP
open PySem PySem.Spec PyProof.Rows L2 GenW
open Sem (wp)

theorem pushCells_none : ∀ (names : List (Str × NameKind)) (h : Heap), (∀ y ∈ names, y.2 ≠ .cell) → pushCells h names = h
  | [], _, _ => rfl
  | (x, kd) :: r, h, q => by
    unfold pushCells
    have e : (kd == NameKind.cell) = false := by
      have := q (x, kd) List.mem_cons_self
      cases kd <;> first | rfl | exact absurd rfl this
    rw [e]
    exact pushCells_none r h fun y hy => q y (List.mem_cons_of_mem _ hy)
section
variable {X : Cx} {k : Nat}
end
end GenP

/-! list(g); a generator def of the module. -/
namespace GenP
open PySem PySem.Spec PyProof.Rows L2 GenW
open Sem (wp)

section
variable {X : Cx} {k : Nat}
end
end GenP
namespace GenP
open PySem PySem.Spec PyProof.Rows L2 GenW My
end GenP

/-! An Inv of a generator's frame at each waking: the entry is the waking state, cut down to what is older than the frame. -/
namespace GenP
open PySem PySem.Spec PyProof.Rows L2 GenW

def cutH (n : Nat) (h : Heap) : Heap := ⟨h.objs.extract 0 n, h.life⟩
theorem cut_get {n b : Nat} {h : Heap} : (cutH n h).get? b = if b < n then h.get? b else none := by
  unfold cutH Heap.get?
  by_cases c : b < n
  · rw [if_pos c]
    have e : (h.objs.extract 0 n)[b]? = h.objs[b]? := by
      rw [Array.getElem?_extract]
      simp only [Nat.zero_add, Nat.sub_zero]
      by_cases d : b < h.objs.size
      · rw [if_pos (by omega)]
      · rw [if_neg (by omega), Array.getElem?_eq_none (Nat.le_of_not_lt d)]
    show (match (h.objs.extract 0 n)[b]? with | some ⟨_, _, .freed, _⟩ => none | o => o) = _
    rw [e]
    rfl
  · rw [if_neg c]
    have e : (h.objs.extract 0 n)[b]? = none := by
      rw [Array.getElem?_extract, if_neg (by omega)]
    show (match (h.objs.extract 0 n)[b]? with | some ⟨_, _, .freed, _⟩ => none | o => o) = _
    rw [e]
theorem cut_lt {n b : Nat} {h : Heap} (c : b < n) : (cutH n h).get? b = h.get? b := by rw [cut_get, if_pos c]
theorem cut_some {n b : Nat} {h : Heap} {o : Obj} (e : (cutH n h).get? b = some o) : b < n ∧ h.get? b = some o := by
  rw [cut_get] at e
  by_cases c : b < n
  · rw [if_pos c] at e; exact ⟨c, e⟩
  · rw [if_neg c] at e; cases e
theorem cut_size {n : Nat} {h : Heap} (c : n ≤ h.objs.size) : (cutH n h).objs.size = n := by
  show (h.objs.extract 0 n).size = n
  rw [Array.size_extract]
  omega
theorem cut_frames {n : Nat} {h base : Heap} : ∀ {l : List Env}, (∀ b ∈ frs l, b < n) → h.FunFrames base l → (cutH n h).FunFrames base l
  | [], _, _ => trivial
  | env :: l, hb, ⟨hk, ⟨L, o, hf, hn, ho, hd⟩, hr⟩ => by
    have hL : L < n := hb L (by unfold frs; rw [List.filterMap_cons, hf]; exact List.mem_cons_self)
    refine ⟨hk, ⟨L, o, hf, hn, by rw [cut_lt hL]; exact ho, hd⟩, cut_frames (fun b hm => hb b ?_) hr⟩
    unfold frs at hm ⊢
    rw [List.filterMap_cons, hf]
    exact List.mem_cons_of_mem _ hm
theorem objOk_there {P : Program} {w : World} {H : Hp} {h : Heap} {a : Addr} {o : HO} (x : ObjOk P w H h a o) : ∃ ob, h.get? a = some ob := by
  cases o with
  | lst xs => obtain ⟨_, _, _, _, e⟩ := x; exact ⟨_, e⟩
  | tup xs => obtain ⟨_, _, _, p⟩ := x; obtain ⟨ob, e, _⟩ := p; exact ⟨ob, e⟩
  | dK kvs => obtain ⟨_, _, _, _, o, _, _, e, _⟩ := x; exact ⟨o, e⟩
  | dT kvs => obtain ⟨_, _, _, _, o, _, _, e, _⟩ := x; exact ⟨o, e⟩
  | set S n => obtain ⟨o, _, _, _, e, _⟩ := x; exact ⟨o, e⟩
  | ins C dx fs => obtain ⟨_, _, _, e, _⟩ := x; exact ⟨_, e⟩
  | own y => exact x
  | xd fs => obtain ⟨_, ⟨_, _, _, e, _⟩, _⟩ := x; exact ⟨_, e⟩
  | rng lo hi => obtain ⟨_, _, _, e⟩ := x; exact ⟨_, e⟩
  | frz ob u => obtain ⟨e, _⟩ := x; exact ⟨_, e⟩
  | tbl ps => exact ⟨_, show h.get? a = some _ from x⟩
  | met f y => exact ⟨_, show h.get? a = some _ from x⟩
  | ext φ => obtain ⟨_, e, _⟩ := x; exact e

/-- the generator's context at a waking from s, with the heap H -/
abbrev fX (R : Cx) (s : Shared) (H : Hp) : Cx := { R with s_0 := { s with heap := cutH R.env.locals s.heap }, H_0 := H, pn := [], ex := [], xe := fun _ _ => False }
def isCell (o : Obj) : Bool := match o.data with
  | .cell _ => true
  | _ => false
theorem isCell_no {o : Obj} (h : isCell o = false) : ∀ v, o.data ≠ .cell v := fun v e => by
  unfold isCell at h
  rw [e] at h
  cases h
/-- all that is younger than the frame, untracked, none of Is, no cell -/
def pinsAll (n : Nat) (Is : List Addr) (h : Heap) (H : Hp) : List (Addr × Obj) := (List.range h.objs.size).filterMap fun b => match h.get? b with
  | some o => if n ≤ b ∧ b ∉ Is ∧ (H b).isNone = true ∧ isCell o = false then some (b, o) else none
  | none => none
theorem mem_pinsAll {n : Nat} {Is : List Addr} {h : Heap} {H : Hp} {p : Addr × Obj} : p ∈ pinsAll n Is h H ↔ h.get? p.1 = some p.2 ∧ n ≤ p.1 ∧ p.1 ∉ Is ∧ H p.1 = none ∧ isCell p.2 = false := by
  unfold pinsAll
  rw [List.mem_filterMap]
  constructor
  · rintro ⟨b, _, e⟩
    cases q : h.get? b with
    | none => rw [q] at e; cases e
    | some o =>
      rw [q] at e
      dsimp only at e
      by_cases c : n ≤ b ∧ b ∉ Is ∧ (H b).isNone = true ∧ isCell o = false
      · rw [if_pos c] at e
        cases e
        exact ⟨q, c.1, c.2.1, Option.isNone_iff_eq_none.mp c.2.2.1, c.2.2.2⟩
      · rw [if_neg c] at e; cases e
  · rintro ⟨e, h1, h2, h3, h4⟩
    refine ⟨p.1, List.mem_range.mpr (Heap.lt_size e), ?_⟩
    rw [e]
    dsimp only
    rw [if_pos ⟨h1, h2, by rw [h3]; rfl, h4⟩]
/-- the cells that are younger -/
def cellsAt (n : Nat) (h : Heap) : List Addr := (List.range h.objs.size).filter fun b => match h.get? b with
  | some o => decide (n ≤ b) && isCell o
  | none => false
theorem mem_cellsAt {n : Nat} {h : Heap} {b : Addr} {o : Obj} (e : h.get? b = some o) : b ∈ cellsAt n h ↔ n ≤ b ∧ isCell o = true := by
  unfold cellsAt
  rw [List.mem_filter, e]
  dsimp only
  rw [Bool.and_eq_true, decide_eq_true_iff]
  exact ⟨fun h => h.2, fun h => ⟨List.mem_range.mpr (Heap.lt_size e), h⟩⟩
theorem of_cellsAt {n : Nat} {h : Heap} {b : Addr} (hb : b ∈ cellsAt n h) : n ≤ b ∧ ∃ o, h.get? b = some o ∧ isCell o = true := by
  unfold cellsAt at hb
  rw [List.mem_filter] at hb
  obtain ⟨_, q⟩ := hb
  cases e : h.get? b with
  | none => rw [e] at q; cases q
  | some o =>
    rw [e] at q
    dsimp only at q
    rw [Bool.and_eq_true, decide_eq_true_iff] at q
    exact ⟨q.1, o, rfl, q.2⟩
section
variable {R : Cx} {σ : L2.St} {H H' : Hp} {s z : Shared} {Is : List Addr}
theorem ok_fs_lt (ok : R.Ok) : ∀ b ∈ R.fs, b < R.env.locals := fun b hb => by
  obtain ⟨_, o, e, _⟩ := ok.funs.mem hb
  exact Nat.lt_of_lt_of_le (Heap.lt_size e) ok.above
/-- woken -/
theorem wake_inv (ok : R.Ok) (hc : R.env.cells = []) (hk : ∀ x, R.env.kindOf x ≠ some .cell ∧ R.env.kindOf x ≠ some .free) {A' : Around} (e0 : Env0 R.prog R.w R.K R.mg R.base A' R.outer s H) (hl : R.env.locals ∈ Is) (hI : ∀ b ∈ Is, H b = none)
    (loc : ∃ m, s.heap.Ns R.env.locals m ∧ ∀ (i : Nat) (x : Str) (v : V), R.N[i]? = some x → σ[i]? = some (some v) → Vis R.env.scope x → ∃ u, RelV v u ∧ Look R.env s.heap m x u) (len : σ.length = R.N.length) :
    Inv (fX R s H) (pinsAll R.env.locals Is s.heap H) σ H s := by
  have hsz : R.env.locals < s.heap.objs.size := by obtain ⟨m, hn, _⟩ := loc; exact hn.lt
  have csz : (cutH R.env.locals s.heap).objs.size = R.env.locals := cut_size (Nat.le_of_lt hsz)
  have noA : ∀ b : Addr, b ∉ ([] : List Addr) := fun b h => absurd h (by simp)
  have lk : ∀ x c, R.env.cells.lookup x = some c → False := fun x c h => by rw [hc] at h; cases h
  refine ⟨⟨ok.mod, ok.kind, ok.glob, ok.blt, Nat.le_of_eq csz, ok.inj, fun x h => ?_, fun x c _ h => (lk x c h).elim, ok.hd, ok.frames, ok.stk, fun b h => (noA b h).elim, fun b o e => ?_, ?_, fun b _ _ => noA b, fun b h => (noA b h).elim, cut_frames (ok_fs_lt (R := R) ok) e0.funs, e0.frf⟩,
    rfl, e0.bare, Un.kept fun b o e => (cut_some e).2, loc, fun x c h => (lk x c h).elim, hI _ hl, fun x c h => (lk x c h).elim, fun p hp => ?_, e0.hok, len⟩
  · rcases h with h | h
    · exact absurd h (hk x).1
    · exact absurd h (hk x).2
  · obtain ⟨q1, q2⟩ := e0.bs b o e
    have lt : b < R.env.locals := Nat.lt_of_lt_of_le (Heap.lt_size e) (Nat.le_trans ok.bsz ok.above)
    exact ⟨(cut_lt lt).trans q1, q2⟩
  · show R.base.objs.size ≤ (cutH R.env.locals s.heap).objs.size
    rw [csz]
    exact Nat.le_trans ok.bsz ok.above
  · obtain ⟨h1, h2, h3, h4, h5⟩ := mem_pinsAll.mp (show p ∈ pinsAll R.env.locals Is s.heap H from hp)
    exact ⟨h1, h4, fun q => h3 (by rw [q]; exact hl), fun q => Nat.lt_irrefl _ (Nat.lt_of_lt_of_le (ok_fs_lt ok _ q) h2), isCell_no h5⟩
/-- what a consumer may know behind it -/
theorem wake_un (ok : R.Ok) (I : Inv (fX R s H) (pinsAll R.env.locals Is s.heap H) σ H' z) (hs : ∀ b, H b ≠ none → H' b ≠ none) : Un R.fs (Is ++ cellsAt R.env.locals s.heap) H H' s.heap z.heap := by
  have pin : ∀ b o, s.heap.get? b = some o → R.env.locals ≤ b → H b = none → b ∉ Is ++ cellsAt R.env.locals s.heap → z.heap.get? b = some o ∧ H' b = none := fun b o e hb hn hx => by
    have hx1 : b ∉ Is := fun q => hx (List.mem_append_left _ q)
    have hx2 : isCell o = false := by
      cases q : isCell o with
      | false => rfl
      | true => exact absurd (List.mem_append_right _ ((mem_cellsAt e).mpr ⟨hb, q⟩)) hx
    have q := I.pin (b, o) (mem_pinsAll.mpr ⟨e, hb, hx1, hn, hx2⟩)
    exact ⟨q.1, q.2.1⟩
  have old : ∀ b o, s.heap.get? b = some o → b < R.env.locals → (cutH R.env.locals s.heap).get? b = some o := fun b o e c => (cut_lt c).trans e
  refine ⟨fun b o e hn hf hx => ?_, fun b o e hn hf hx => ?_, fun b o e hn hx => ?_, fun b o e hx => ?_, I.base.tups, I.base.frzs, I.base.tbls⟩
  · by_cases c : b < R.env.locals
    · exact I.base.keep b o (old b o e c) hn hf (by simp)
    · exact (pin b o e (Nat.le_of_not_lt c) hn hx).1
  · by_cases c : b < R.env.locals
    · exact I.base.slot b o (old b o e c) hn hf (by simp)
    · exact ⟨o.slots, (pin b o e (Nat.le_of_not_lt c) hn hx).1⟩
  · by_cases c : b < R.env.locals
    · exact I.base.free b o (old b o e c) hn (by simp)
    · exact (pin b o e (Nat.le_of_not_lt c) hn hx).2
  · by_cases c : b < R.env.locals
    · exact I.base.there b o (old b o e c) (by simp)
    · cases hn : H b with
      | none => exact ⟨o, (pin b o e (Nat.le_of_not_lt c) hn hx).1⟩
      | some u =>
        cases q : H' b with
        | none => exact absurd q (hs b (by rw [hn]; exact fun z => by cases z))
        | some u' => exact objOk_there (I.hok b u' q)
end
end GenP

/-! Segments of a for loop and of a yield. -/
namespace GenP
open PySem PySem.Spec PyProof.Rows L2 GenW
open Sem (wp)
section
variable {M : Model} {A : Around} {P : End → Shared → Prop} {c : Code} {fs : List Frame} {s : Shared} {env : Env} {K : Flow → Sem PySem.Fin} {J : Value → Sem PySem.Fin} {gd : Bool → Bool} {lv : List Value → List Value}
/-- yield e: asleep, and what follows at the next waking -/
theorem segp_yieldS {e : Expr} {yp pos : Pos} (hfs : splitAtGen fs = none) (hgd : gd false = false) (hfg : fs.any Frame.guarded = false)
    (h : wpAny M (A.over c fs) (eval e env) (fun v z => ∀ en : End, en.result = .yielded v → en.quiet = true → Slp en.genState → (∀ (z2 : Shared) (P' : End → Shared → Prop), SegP M A P' c (K .next) fs z2 → GoP M A P' en.genState z2) → P en z) (fun x z => SegP M A P c (J x) fs z) s)
    (hco : env.scope.isCoroutine = false) (hi : interactive env = false) : SegP M A P c ((exec (.Expr (.Yield (some e) yp) pos) env).wrap K J gd lv) fs s := by
  rw [exec_Expr env _ pos hi rfl]
  show SegP M A P c (.at pos fun _ => ((eval e env >>= fun v => (standAt yp >>= fun _ => yieldOut env v)) >>= fun x => dropValue (.Yield (some e) yp) pos x).wrap K J gd lv) fs s
  have hy : ∀ v, yieldOut env v = yieldValue v := fun v => by simp only [yieldOut, hco, Bool.false_eq_true, if_false]
  simp only [hy]
  refine segp_at ?_
  rw [Sem.bind_eq_wrap', Sem.bind_eq_wrap', Sem.wrap_wrap, Sem.wrap_wrap]
  refine segp_wrap (wpAny_mono h (fun v z q => ?_) fun _ _ q => q)
  refine segp_at (segp_yield hfs fun p => ?_)
  refine q _ rfl ?_ ⟨trivial, hfs, ?_⟩ fun z2 P' q2 => ?_
  · show (!(gd false || fs.any Frame.guarded)) = true
    rw [hgd, hfg]; rfl
  · show (!(gd false || fs.any Frame.guarded)) = true
    rw [hgd, hfg]; rfl
  · exact q2
end
section
variable {prog : Program} {w : World} {A : Around} {P : End → Shared → Prop} {fs : List Frame} {s : Shared} {env : Env} {target : Expr} {it : Value} {body : List Stmt}
def bodyK (target : Expr) (it : Value) (body : List Stmt) (env : Env) : Flow → Sem PySem.Fin := fun f => match f with
  | .next | .cont => .pure (.again (.forLoop target it body [] env))
  | .brk => .pure (.done .next)
  | .ret v => .pure (.done (.ret v))
/-- a turn of a for loop -/
theorem segp_forLoop (h : wpAny (model prog w) (A.over (.forLoop target it body [] env) fs) (pyNext it) (fun r s₁ => match r with
      | none => SegP (model prog w) A P (.forLoop target it body [] env) (.pure (.again (.block [] env))) fs s₁
      | some v => wpAny (model prog w) (A.over (.forLoop target it body [] env) fs) (letOwnedTupleGo target it v) (fun _ s₂ => wpAny (model prog w) (A.over (.forLoop target it body [] env) fs) (assign target env v) (fun _ s₃ =>
          ∀ Jn : Value → Sem PySem.Fin, SegP (model prog w) A P (.forLoop target it body [] env) ((execs body env).wrap (bodyK target it body env) Jn id id) fs s₃) (fun _ _ => False) s₂) (fun _ _ => False) s₁) (fun _ _ => False) s) :
    SegP (model prog w) A P (.forLoop target it body [] env) ((model prog w).den (.forLoop target it body [] env)) fs s := by
  show SegP _ A P _ ((forTurn target it body [] env).onRaise (fun x => do noteFrame x env; theTreesLotGoes x)) fs s
  unfold forTurn
  rw [Sem.onRaise_eq_wrap]
  refine segp_bindw (wpAny_standAt ?_)
  refine segp_bindw (wpAny_onRaise (wpAny_mono h (fun r s₁ h₁ => ?_) fun _ _ q => q.elim))
  cases r with
  | none => exact h₁
  | some v =>
    refine segp_bindw (wpAny_mono h₁ (fun _ s₂ h₂ => ?_) fun _ _ q => q.elim)
    refine segp_bindw (wpAny_mono h₂ (fun _ s₃ h₃ => ?_) fun _ _ q => q.elim)
    rw [Sem.bind_eq_wrap', Sem.wrap_wrap]
    rw [Sem.wrap_congr (execs body env) _ _ (K' := bodyK target it body env) (H' := fun e => (Sem.raise e : Sem PySem.Fin).wrap Sem.pure (fun e => ((do noteFrame e env; theTreesLotGoes e : Sem Unit).bind fun _ => .raise e)) id id) (fun f => by cases f <;> rfl) (fun e => rfl)]
    exact h₃ _
/-- the loop's end -/
theorem segp_block0 (h : SegP (model prog w) A P (.block [] env) (.pure (.done .next)) fs s) : SegP (model prog w) A P (.forLoop target it body [] env) (.pure (.again (.block [] env))) fs s :=
  segp_again rfl h
end
end GenP

/-! A generator whose body is a for loop that yields once a turn. -/
namespace GenP
open PySem PySem.Spec PyProof.Rows L2 GenW
open Sem (wp)
/-- from one waking to its end, as a consumer may know it -/
structure Step3 (P : Program) (w : World) (outer : List Env) (La : Nat) (Is : List Addr) (s : Shared) (H H' : Hp) (z : Shared) : Prop where
  os : z.os = s.os
  bare : AllBare z.gens
  hok : HOk P w H' z.heap
  un : Un (frs outer) (Is ++ cellsAt La s.heap) H H' s.heap z.heap
def Sleep3 (P : Program) (w : World) (K : PySem.W.Frag) (mg : Str → Option Value) (base : Heap) (A : Around) (outer : List Env) (La : Nat) (Is : List Addr) (T : Nat → Heap → Prop) (Gd : Nat → Hp → Prop) (Yd : Nat → Hp → V → Hp → Prop) : Nat → Nat → GenState → Prop
  | 0, j => fun gs => Slp gs ∧ ∀ (s : Shared) (H : Hp) (A' : Around), Env0 P w K mg base A' outer s H → T j s.heap → Gd j H → (∀ b ∈ Is, H b = none) → GoP (model P w) A (fun e z => Ended e ∧ Step3 P w outer La Is s H H z) gs s
  | r + 1, j => fun gs => Slp gs ∧ ∀ (s : Shared) (H : Hp) (A' : Around), Env0 P w K mg base A' outer s H → T j s.heap → Gd j H → (∀ b ∈ Is, H b = none) →
      GoP (model P w) A (fun e z => e.quiet = true ∧ ∃ v x H', e.result = .yielded v ∧ RelV x v ∧ Yd j H x H' ∧ Step3 P w outer La Is s H H' z ∧ T (j + 1) z.heap ∧ (∀ b ∈ Is, H' b = none) ∧ Sleep3 P w K mg base A outer La Is T Gd Yd r (j + 1) e.genState) gs s
def Next3 (P : Program) (w : World) (K : PySem.W.Frag) (mg : Str → Option Value) (base : Heap) (A : Around) (outer : List Env) (La : Nat) (Is : List Addr) (T : Nat → Heap → Prop) (Gd : Nat → Hp → Prop) (Yd : Nat → Hp → V → Hp → Prop) (r j : Nat) (s : Shared) (H : Hp) : End → Shared → Prop :=
  match r with
  | 0 => fun e z => Ended e ∧ Step3 P w outer La Is s H H z
  | r + 1 => fun e z => e.quiet = true ∧ ∃ v x H', e.result = .yielded v ∧ RelV x v ∧ Yd j H x H' ∧ Step3 P w outer La Is s H H' z ∧ T (j + 1) z.heap ∧ (∀ b ∈ Is, H' b = none) ∧ Sleep3 P w K mg base A outer La Is T Gd Yd r (j + 1) e.genState
theorem sleep3_iff {P : Program} {w : World} {K : PySem.W.Frag} {mg : Str → Option Value} {base : Heap} {A : Around} {outer : List Env} {La : Nat} {Is : List Addr} {T : Nat → Heap → Prop} {Gd : Nat → Hp → Prop} {Yd : Nat → Hp → V → Hp → Prop} {r j : Nat} {gs : GenState} :
    Sleep3 P w K mg base A outer La Is T Gd Yd r j gs ↔ Slp gs ∧ ∀ (s : Shared) (H : Hp) (A' : Around), Env0 P w K mg base A' outer s H → T j s.heap → Gd j H → (∀ b ∈ Is, H b = none) → GoP (model P w) A (Next3 P w K mg base A outer La Is T Gd Yd r j s H) gs s := by
  cases r <;> exact Iff.rfl
section
variable {R : Cx}
/-- the frame stands: its namespace, the walk's objects -/
def FrT (R : Cx) (tn : Nat → Heap → Prop) : Nat → Heap → Prop := fun j h => tn j h ∧ ∃ m, h.Ns R.env.locals m
theorem sp_forW {A : Around} {fs : List Frame} {tgt e : Expr} {yp pos : Pos} {it : Addr} {fp : List Addr} {tn : Nat → Heap → Prop} {J : It} {g : TG} {te : TE} {n : Nat} {Gd : Nat → Hp → Prop} {Yd : Nat → Hp → V → Hp → Prop}
    (ok : R.Ok) (hcm : R.calm = true) (hc : R.env.cells = []) (hk : ∀ x, R.env.kindOf x ≠ some .cell ∧ R.env.kindOf x ≠ some .free) (hco : R.env.scope.isCoroutine = false) (hi : interactive R.env = false)
    (hov : A.over (.forLoop tgt (.ref it) [.Expr (.Yield (some e) yp) pos] [] R.env) fs = R.A) (hsp : splitAtGen fs = none) (hgd : fs.any Frame.guarded = false)
    (Tu : Turn R.prog R.w R.K tgt J fp it tn) (hfp : ∀ b ∈ fp, R.env.locals < b) (hg : ∀ (s : Shared) (H : Hp), PG (fX R s H) tgt g) (he : ∀ (s : Shared) (H : Hp), PE (fX R s H) e te)
    (hstep : ∀ j H, j < n → Gd j H → J.go j H ∧ ∀ x1 H1, J.yld j H x1 H1 → g x1 (List.replicate R.N.length none) H1 fun σ2 H2 => te σ2 H2 fun x H' => Yd j H x H' ∧ ∀ b, H b ≠ none → H' b ≠ none) (hstop : ∀ H, Gd n H → J.stop n H)
    (fin : ∀ (Q : End → Shared → Prop) (z : Shared), Q (.ret (.ok (.ret .none))) z → SegP (model R.prog R.w) A Q (.block [] R.env) (.pure (.done .next)) fs z) :
    ∀ (r j : Nat) (s : Shared) (H : Hp) (A' : Around) (Q : End → Shared → Prop), j + r = n → Env0 R.prog R.w R.K R.mg R.base A' R.outer s H → FrT R tn j s.heap → Gd j H → (∀ b ∈ R.env.locals :: fp, H b = none) →
      (∀ e z, Next3 R.prog R.w R.K R.mg R.base A R.outer R.env.locals (R.env.locals :: fp) (FrT R tn) Gd Yd r j s H e z → Q e z) →
      SegP (model R.prog R.w) A Q (.forLoop tgt (.ref it) [.Expr (.Yield (some e) yp) pos] [] R.env) ((model R.prog R.w).den (.forLoop tgt (.ref it) [.Expr (.Yield (some e) yp) pos] [] R.env)) fs s := by
  have wk : ∀ (j : Nat) (s : Shared) (H : Hp) (A' : Around), Env0 R.prog R.w R.K R.mg R.base A' R.outer s H → FrT R tn j s.heap → (∀ b ∈ R.env.locals :: fp, H b = none) →
      Inv (fX R s H) (pinsAll R.env.locals (R.env.locals :: fp) s.heap H) (List.replicate R.N.length none) H s ∧ ∀ b ∈ fp, ∀ H2 : Hp, H2 b = none → FpOk (fX R s H) (pinsAll R.env.locals (R.env.locals :: fp) s.heap H) H2 b := fun j s H A' e0 t nI => by
    obtain ⟨tj, m, hm⟩ := t
    refine ⟨wake_inv ok hc hk e0 List.mem_cons_self nI ⟨m, hm, fun i x v _ h _ => ?_⟩ (List.length_replicate), fun b hb H2 h2 => ⟨h2, Nat.ne_of_gt (hfp b hb), fun q => Nat.lt_irrefl _ (Nat.lt_trans (ok_fs_lt ok b q) (hfp b hb)), .inr ?_, fun x c h => ?_, fun p hp q => ?_⟩⟩
    · rw [List.getElem?_replicate] at h
      split at h <;> cases h
    · show (cutH R.env.locals s.heap).objs.size ≤ b
      rw [cut_size (Nat.le_of_lt hm.lt)]
      exact Nat.le_of_lt (hfp b hb)
    · rw [show (fX R s H).env.cells = R.env.cells from rfl, hc] at h; cases h
    · obtain ⟨_, _, h3, _⟩ := mem_pinsAll.mp (show p ∈ pinsAll R.env.locals (R.env.locals :: fp) s.heap H from hp)
      exact h3 (by rw [q]; exact List.mem_cons_of_mem _ hb)
  intro r
  induction r with
  | zero =>
    intro j s H A' Q hj e0 t gd nI hQ
    obtain rfl : j = n := by omega
    obtain ⟨I, fpo⟩ := wk j s H A' e0 t nI
    refine segp_forLoop ?_
    rw [hov]
    refine wpAny_mono (Tu.done (fX R s H) rfl rfl rfl hcm j _ s _ H (fun _ _ => False) I (fun b hb => fpo b hb H (nI b (List.mem_cons_of_mem _ hb))) t.1 (hstop H gd)) (fun o z q => ?_) fun _ _ q => q
    obtain ⟨rfl, I2⟩ := q
    exact segp_block0 (fin Q z (hQ _ _ ⟨.inl rfl, I2.os, I2.bare, I2.hok, wake_un ok I2 fun _ h => h⟩))
  | succ r ih =>
    intro j s H A' Q hj e0 t gd nI hQ
    obtain ⟨I, fpo⟩ := wk j s H A' e0 t nI
    obtain ⟨go, stp⟩ := hstep j H (by omega) gd
    refine segp_forLoop ?_
    rw [hov]
    refine wpAny_mono (Tu.item (fX R s H) rfl rfl rfl hcm j _ s _ H (fun _ _ => False) I (fun b hb => fpo b hb H (nI b (List.mem_cons_of_mem _ hb))) t.1 go) (fun o z q => ?_) fun _ _ q => q
    obtain ⟨u, rfl, q⟩ := q
    refine wpAny_mono q (fun _ z2 q2 => ?_) fun _ _ q => q
    obtain ⟨x1, H1, I1, r1, y1, t1, n1⟩ := q2
    have I1' := I1.pinned (fun b hb => fpo b hb H1 (n1 b hb)) (Tu.obj _ _ t1)
    refine wpAny_mono ((hg s H).run _ z2 _ H1 x1 u _ I1' r1 (stp x1 H1 y1)) (fun _ z3 q3 => ?_) fun _ _ q => q
    obtain ⟨σ2, H2, I2, q3⟩ := q3
    intro Jn
    rw [execs_cons_wrap]
    refine segp_yieldS hsp rfl hgd ?_ hco hi
    rw [hov]
    refine wpAny_mono ((he s H).run _ z3 σ2 H2 _ I2 q3) (fun v z4 q4 => ?_) fun _ _ q => q.elim
    obtain ⟨x, H4, I4, r4, yd, hs4⟩ := q4
    intro en h1 h2 h3 h4
    have nfp : ∀ b ∈ fp, H4 b = none := fun b hb => by
      obtain ⟨o, eo, _⟩ := Tu.obj _ _ t1 b hb
      exact (I4.pin (b, o) (List.mem_append_right _ (List.mem_append_right _ (mem_pinsAt hb eo)))).2.1
    have t4 : FrT R tn (j + 1) z4.heap := ⟨Tu.keep _ _ _ t1 fun b hb o eo => (I4.pin (b, o) (List.mem_append_right _ (List.mem_append_right _ (mem_pinsAt hb eo)))).1, let ⟨m, hm, _⟩ := I4.loc; ⟨m, hm⟩⟩
    have I4' := I4.unpinned
    refine hQ en z4 ⟨h2, v, x, H4, h1, r4, yd, ⟨I4'.os, I4'.bare, I4'.hok, wake_un ok I4' hs4⟩, t4, fun b hb => ?_, sleep3_iff.mpr ⟨h3, fun s5 H5 A5 e5 t5 g5 n5 => h4 s5 _ ?_⟩⟩
    · rcases List.mem_cons.mp hb with q | q
      · rw [q]; exact I4'.free
      · exact nfp b q
    · exact segp_again rfl (ih (j + 1) s5 H5 A5 _ (by omega) e5 t5 g5 n5 fun _ _ q => q)
end
end GenP

/-! What a call of such a generator gives; the def's promise. -/
namespace GenP
open PySem PySem.Spec PyProof.Rows L2 GenW My
open Sem (wp)
structure Src3 (Is : List Addr) (T : Nat → Heap → Prop) : Prop where
  keep : ∀ (j : Nat) (h h' : Heap), T j h → (∀ b ∈ Is, ∀ o, h.get? b = some o → h'.get? b = some o) → T j h'
  obj : ∀ (j : Nat) (h : Heap), T j h → ∀ b ∈ Is, ∃ o, h.get? b = some o ∧ ∀ v, o.data ≠ .cell v
theorem src_for {R : Cx} {P : Program} {w : World} {K : PySem.W.Frag} {tg : Expr} {J : It} {fp : List Addr} {it : Addr} {tn : Nat → Heap → Prop} (Tu : Turn P w K tg J fp it tn) : Src3 (R.env.locals :: fp) (FrT R tn) := by
  refine ⟨fun j h h' t hk => ⟨Tu.keep j h h' t.1 fun b hb => hk b (List.mem_cons_of_mem _ hb), ?_⟩, fun j h t b hb => ?_⟩
  · obtain ⟨m, o, es, ep, ho, r⟩ := t.2
    exact ⟨m, o, es, ep, hk _ List.mem_cons_self o ho, r⟩
  · rcases List.mem_cons.mp hb with q | q
    · obtain ⟨m, o, es, ep, ho, hd, _⟩ := t.2
      rw [q]
      exact ⟨o, ho, fun v z => by rw [hd] at z; cases z⟩
    · exact Tu.obj j h t.1 b q
abbrev TQ3 := Hp → Nat → (Nat → Hp → Prop) → (Nat → Hp → V → Hp → Prop) → Hp → Prop
def Begun3 (P : Program) (w : World) (K : PySem.W.Frag) (mg : Str → Option Value) (base : Heap) (outer : List Env) (lo La : Nat) (Hc : Hp) (s : Shared) (H : Hp) (a : Addr) (go : Obj) (A : Around) (Q : TQ3) : End → Shared → Prop := fun e z =>
  ∃ (Is : List Addr) (T : Nat → Heap → Prop) (n : Nat) (Gd : Nat → Hp → Prop) (Yd : Nat → Hp → V → Hp → Prop) (H' : Hp) (sM : Shared), Step3 P w outer La [La] s H H' sM ∧ Same H H' ∧
    (∀ b ∈ Is, H' b = none ∧ lo ≤ b ∧ b ≠ a ∧ (b = La ∨ ∀ o, s.heap.get? b = some o → isCell o = false → H b ≠ none)) ∧ H' a = none ∧ sM.heap.get? a = some go ∧ (∃ o, s.heap.get? La = some o ∧ isCell o = false) ∧ T 0 sM.heap ∧ Src3 Is T ∧ Gd 0 H' ∧ n ≤ sizeLine ∧ Q Hc n Gd Yd H' ∧
    Next3 P w K mg base A outer La Is T Gd Yd n 0 sM H' e z
def GMk3 (P : Program) (w : World) (K : PySem.W.Frag) (mg : Str → Option Value) (base : Heap) (k : Nat) (outer : List Env) (H : Hp) (s : Shared) (Q : TQ3) (u : Value) (s' : Shared) : Prop :=
  ∃ (a : Addr) (g : Nat) (c : Code) (go : Obj) (La : Nat), u = .ref a ∧ s.heap.objs.size ≤ a ∧ s'.heap.get? a = some go ∧ (∀ h : Heap, h.get? a = some go → h.IsGen a g) ∧ (∀ v, go.data ≠ .cell v) ∧ s'.gens[g]? = some (.fresh c) ∧ s'.os = s.os ∧ AllBare s'.gens ∧ (∀ b o, s.heap.get? b = some o → s'.heap.get? b = some o) ∧ Dead s.heap s'.heap ∧ s.heap.objs.size ≤ La ∧ La < s'.heap.objs.size ∧
    ∀ (A A' : Around) (s2 : Shared) (H2 : Hp), Room k A → A.frames = some outer → Env0 P w K mg base A' outer s2 H2 → (∀ b o, s'.heap.get? b = some o → s2.heap.get? b = some o) → Same H H2 → (∀ b, s.heap.objs.size ≤ b → b < s'.heap.objs.size → H2 b = none) → s2.os = s.os →
      SegP (model P w) A (Begun3 P w K mg base outer s.heap.objs.size La H s2 H2 a go A Q) c ((model P w).den c) [] s2
abbrev TGq3 := L2.St → Hp → TQ3 → Prop
structure PGq3 (X : Cx) (k : Nat) (e : Expr) (tg : TGq3) : Prop where
  run : ∀ (pins : List (Addr × Obj)) (s : Shared) (σ : L2.St) (H : Hp) (Q : TQ3), Inv X pins σ H s → tg σ H Q → wpAny (model X.prog X.w) X.A (eval e X.env) (fun u s' => ∃ H1 sc, Inv X pins σ H1 sc ∧ GMk3 X.prog X.w X.K X.mg X.base k X.stack H1 sc Q u s') X.xe s
abbrev SpQ3 := List V → Hp → TQ3 → Prop
structure GFnQ3 (P : Program) (w : World) (K : PySem.W.Frag) (mg : Str → Option Value) (base : Heap) (k : Nat) (f : Addr) (fd : FuncData) (ps : List Str) (sp : SpQ3) : Prop where
  len : ∀ vs H Q, sp vs H Q → vs.length = ps.length
  run : ∀ (A : Around) (outer : List Env) (s : Shared) (H : Hp) (args : Args) (us : List Value) (vs : List V) (Q : TQ3), Room k A → Env0 P w K mg base A outer s H → BindsTo s fd args (ps.zip us) → Vals vs us → sp vs H Q →
    codeAny (model P w) A (.call (.ref f) args) (fun r s' => match r with | .ok (.ret u) => GMk3 P w K mg base k outer H s Q u s' | _ => False) s
theorem cells_none {qual : Str} {scope : Scope} {a f : Addr} {cd : Value} (h : ∀ y ∈ scope.names, y.2 ≠ .cell ∧ y.2 ≠ .free) : (envOfC qual scope a f cd).cells = [] := by
  have go : ∀ (l : List (Str × NameKind)) (n : Nat), (∀ y ∈ l, y.2 ≠ .cell ∧ y.2 ≠ .free) → cellsFrom n l [] = [] := fun l => by
    induction l with
    | nil => intro n _; rfl
    | cons y l ih =>
      intro n hl
      obtain ⟨x, kd⟩ := y
      have e := hl (x, kd) List.mem_cons_self
      cases kd with
      | cell => exact absurd rfl e.1
      | _ => exact ih n fun z hz => hl z (List.mem_cons_of_mem _ hz)
  exact go scope.names _ h
/-- the body is «for .. in iter: yield e» -/
theorem gfnq_for {P : Program} {w : World} {K : PySem.W.Frag} {mg : Str → Option Value} {base : Heap} {k : Nat} {f : Addr} {name qual : Str} {params : Arguments} {tgt iter e : Expr} {yp pos fpos : Pos} {scope : Scope} {dV kV doc pm cdv ct oc : Value} {an od : Option Addr} {osl : Array (Option Value)} {N ps : List Str} {sp : SpQ3} {body : List Stmt}
    (hbd : body = [.For tgt iter [.Expr (.Yield (some e) yp) pos] [] fpos])
    (lk : K.lookup f = some ⟨oc, od, .func (PySem.W.fnOf name qual params body scope dV kV doc pm an cdv ct), osl⟩) (hcd : PySem.W.codeIn K cdv qual = true) (S : GScope N ps scope) (hi : ∀ a : Addr, interactive (envOfC qual scope a f cdv) = false) (hloc : ∀ y ∈ scope.names, y.2 ≠ .cell ∧ y.2 ≠ .free) (hfold : ∀ (a : Addr) x, foldedSetIterable iter (envOfC qual scope a f cdv) x = pure x) (len : ∀ vs H Q, sp vs H Q → vs.length = ps.length)
    (hbody : ∀ (A : Around) (outer : List Env) (s : Shared) (H H2 : Hp) (vs : List V) (Q : TQ3), Room k (A.deeper (envOfC qual scope s.heap.objs.size f cdv)) → sp vs H Q → Same H H2 →
      ∃ wi g te, (∀ (z : Shared) (H3 : Hp), PI (fX (gcxOf P w K mg base N qual scope f cdv A outer s H noX []) z H3) tgt iter wi) ∧ (∀ (z : Shared) (H3 : Hp), PG (fX (gcxOf P w K mg base N qual scope f cdv A outer s H noX []) z H3) tgt g) ∧ (∀ (z : Shared) (H3 : Hp), PE (fX (gcxOf P w K mg base N qual scope f cdv A outer s H noX []) z H3) e te) ∧
        wi (start N vs) H2 fun J H1 => Same H2 H1 ∧ ∃ n Gd Yd, n ≤ sizeLine ∧ (∀ j H2, j < n → Gd j H2 → J.go j H2 ∧ ∀ x1 H3, J.yld j H2 x1 H3 → g x1 (List.replicate N.length none) H3 fun σ2 H4 => te σ2 H4 fun x H5 => Yd j H2 x H5 ∧ ∀ b, H2 b ≠ none → H5 b ≠ none) ∧ (∀ H2, Gd n H2 → J.stop n H2) ∧ Gd 0 H1 ∧ Q H n Gd Yd H1) :
    GFnQ3 P w K mg base (k + 1) f (PySem.W.fnOf name qual params body scope dV kV doc pm an cdv ct) ps sp := by
  subst hbd
  refine ⟨len, fun A outer s H args us vs Q hr e0 hb r hsp => ?_⟩
  have hl := len _ _ _ hsp
  have KX : K.In s.heap := e0.mod.kin.keeps fun b o q => (e0.bs b o q).1
  have lim : s.heap.NoLimit := e0.mod.nolimit.keeps fun b o q => (e0.bs b o q).1
  have hkind : ∀ y ∈ ps.zip us, scope.names.lookup y.1 = some .local ∨ (scope.names.lookup y.1 = some .cell ∧ ((cellsFrom (s.heap.objs.size + 1) scope.names []).lookup y.1).isSome = true) := fun ⟨n, v⟩ hy =>
    (S.par n (List.of_mem_zip hy).1).elim .inl fun q => .inr ⟨q, PySem.W.cellsFrom_some _ _ _ (.inl q)⟩
  refine codeAny_dead (R := fun r s' => match r with | .ok (.ret u) => GMk3 P w K mg base (k + 1) outer H s Q u s' | _ => False) ?_
  refine codeAny_mono (R := fun r s' => match r with | .ok (.ret u) => Dead s.heap s'.heap → GMk3 P w K mg base (k + 1) outer H s Q u s' | _ => False) ?_ (fun r s' q d => by cases r with | error e => exact q | ok f => cases f <;> first | exact q d | exact q)
  refine codeAny_call_generator hr.depth (KX _ _ lk) rfl S.co S.gen rfl (PySem.W.codeRec_of KX hcd) (hb _ _ _ _ ?_)
  refine wpAny_newFunctionEnv_cells S.kind hkind fun env he s1 x => ?_
  subst he
  have lim1 : s1.heap.NoLimit := lim.keeps x.toInCall.keep
  refine ⟨lim1, ?_⟩
  obtain ⟨h1, tk, es1, hk1⟩ := x.done
  have os1 : s1.os = s.os := by rw [es1]
  have gen1 : s1.gens = s.gens := by rw [es1]
  have lt1 : s.heap.objs.size < s1.heap.objs.size := x.toInCall.ns.lt
  have kp1 : ∀ b o, s.heap.get? b = some o → s1.heap.get? b = some o := x.toInCall.keep
  have main : ∀ (go : Obj) (nm qn : Value) (tk2 : Nat), go.cls = .type "generator" → go.data = .fields #[.int s1.gens.size 0, nm, qn] → go.slots = #[] → (∀ h : Heap, (h.push go).get? h.objs.size = some go) →
      Dead s.heap (s1.heap.push go) → GMk3 P w K mg base (k + 1) outer H s Q (.ref s1.heap.objs.size) { s1 with gens := s1.gens.push (.fresh (.func [.For tgt iter [.Expr (.Yield (some e) yp) pos] [] fpos] (envOfC qual scope s.heap.objs.size f cdv))), toks := tk2, heap := s1.heap.push go } := by
    intro go nm qn tk2 hgc hgd0 hgs hgp hdead
    have hgd : ∀ v, go.data ≠ .cell v := fun v q => by rw [hgd0] at q; cases q
    refine ⟨s1.heap.objs.size, s1.gens.size, _, go, s.heap.objs.size, rfl, Nat.le_of_lt lt1, hgp _, fun h q => ⟨go, nm, qn, q, hgc, hgd0, hgs⟩, hgd, Array.getElem?_push_size .., os1, ?_, fun b o q => Heap.get?_push_of_some _ (kp1 b o q), hdead, Nat.le_refl _, Nat.lt_of_lt_of_le lt1 (by show _ ≤ (s1.heap.push go).objs.size; rw [Heap.size_push]; exact Nat.le_succ _), ?_⟩
    · exact AllBare.push (by rw [gen1]; exact e0.bare) rfl
    intro Aw A' s2 H2 hrw hfr e2 hk2 hsm hnn hos
    have e0w : Env0 P w K mg base Aw outer s H := ⟨hfr, e0.mod, e0.bs, e0.bsz, e0.funs, e0.frf, e0.hok, e0.bare⟩
    obtain ⟨wi, g, te, hPI, hPG, hPE, hq⟩ := hbody Aw outer s H H2 vs Q (hrw.deeper _) hsp hsm
    have I1 : Inv (gcxOf P w K mg base N qual scope f cdv Aw outer s H noX []) [] (start N vs) H s1 := inv_startG S hrw.hd e0w hl r x
    have kp2 : ∀ b o, s1.heap.get? b = some o → s2.heap.get? b = some o := fun b o q => hk2 b o (Heap.get?_push_of_some _ q)
    have I2 : Inv (gcxOf P w K mg base N qual scope f cdv Aw outer s H noX []) [] (start N vs) H s2 := I1.call' (ch := []) (hos.trans os1.symm) (Un.kept kp2) (I1.hok.kept kp2) e2.bare fun b z => absurd z (by simp)
    have pz : (s1.heap.push go).objs.size = s1.heap.objs.size + 1 := Heap.size_push ..
    have nL : H2 s.heap.objs.size = none := hnn _ (Nat.le_refl _) (by show _ < (s1.heap.push go).objs.size; rw [pz]; exact Nat.lt_succ_of_lt lt1)
    have na : H2 s1.heap.objs.size = none := hnn _ (Nat.le_of_lt lt1) (by show _ < (s1.heap.push go).objs.size; rw [pz]; exact Nat.lt_succ_self _)
    have hga : s2.heap.get? s1.heap.objs.size = some go := hk2 _ _ (hgp _)
    have kk : ∀ x, (envOfC qual scope s.heap.objs.size f cdv).kindOf x ≠ some .cell ∧ (envOfC qual scope s.heap.objs.size f cdv).kindOf x ≠ some .free := fun x => by
      exact ⟨fun q => (hloc _ (PySem.mem_of_lookup q)).1 rfl, fun q => (hloc _ (PySem.mem_of_lookup q)).2 rfl⟩
    have I3 : Inv (fX (gcxOf P w K mg base N qual scope f cdv Aw outer s H noX []) s2 H2) (pinsAll s.heap.objs.size [s.heap.objs.size] s2.heap H2) (start N vs) H2 s2 :=
      wake_inv (R := gcxOf P w K mg base N qual scope f cdv Aw outer s H noX []) I2.ok (cells_none hloc) kk e2 List.mem_cons_self (fun b hb => by rw [List.mem_singleton.mp hb]; exact nL) I2.loc I2.len
    have hLo : ∃ o, s2.heap.get? s.heap.objs.size = some o ∧ isCell o = false := by
      obtain ⟨m, ⟨o, es, ep, ho, hd, _⟩, _⟩ := I2.loc
      exact ⟨o, ho, by unfold isCell; rw [hd]⟩
    have cgo : isCell go = false := by unfold isCell; rw [hgd0]
    have apin : (s1.heap.objs.size, go) ∈ pinsAll s.heap.objs.size [s.heap.objs.size] s2.heap H2 := mem_pinsAll.mpr ⟨hga, Nat.le_of_lt lt1, fun q => Nat.lt_irrefl _ (by have e := List.mem_singleton.mp q; have e : s1.heap.objs.size = s.heap.objs.size := e; rw [e] at lt1; exact lt1), na, cgo⟩
    refine segp_func ?_
    rw [execs_cons_wrap, exec_For]
    refine segp_bindw (wpAny_standAt ?_)
    refine segp_bindw ?_
    rw [over_func]
    refine wpAny_mono ((hPI s2 H2).run _ s2 (start N vs) H2 _ I3 hq) (fun v s3 hv => ?_) fun x z hx => hx.elim
    refine segp_bindw (wpAny_of_eq (hfold _ v) ?_)
    refine segp_bindw (wpAny_standAt ?_)
    refine segp_bindw (wpAny_holding ?_)
    rw [over_func]
    refine wpAny_mono hv (fun itv s4 h4 => ?_) fun x z hx => hx.elim
    obtain ⟨it, fp, tn, J, H1, rfl, I4, Tu, t0, ffp, hs4, n, Gd, Yd, hn, hstep, hstop, gd0, hQ⟩ := h4
    refine segp_call fun p => ?_
    have hL2 : s.heap.objs.size < s2.heap.objs.size := by obtain ⟨o, ho, _⟩ := hLo; exact Heap.lt_size ho
    have hfp : ∀ b ∈ fp, s.heap.objs.size < b := fun b hb => by
      have q := ffp b hb
      rcases q.2.2.2.1 with z | z
      · exact absurd (show b ∈ ([] : List Addr) from z) (by simp)
      · have z : (cutH s.heap.objs.size s2.heap).objs.size ≤ b := z
        rw [cut_size (Nat.le_of_lt hL2)] at z
        exact Nat.lt_of_le_of_ne z fun e => q.2.1 e.symm
    have e04 : Env0 P w K mg base Aw outer s4 H1 := ⟨hfr, e0.mod, I4.bs, Nat.le_trans I4.ok.bsz I4.sz, I4.stack.2.2, fun b hb => I4.stkFree b (by
      show b ∈ frs (envOfC qual scope s.heap.objs.size f cdv :: outer)
      unfold frs at hb ⊢
      rw [List.filterMap_cons]
      exact List.mem_cons_of_mem _ hb), I4.hok, I4.bare⟩
    refine sp_forW (R := gcxOf P w K mg base N qual scope f cdv Aw outer s H noX []) (n := n) (Gd := Gd) (Yd := Yd) I2.ok rfl (cells_none hloc) kk S.co (hi _) ((over_loop rfl rfl).trans over_func) rfl rfl Tu hfp hPG hPE hstep hstop (fun Q' z q => segp_leaf (.ok .next) (segp_end (.ok (.ret .none)) q)) n 0 s4 H1 Aw _ (Nat.zero_add _) e04 ⟨t0, let ⟨m, hm, _⟩ := I4.loc; ⟨m, hm⟩⟩ gd0 (fun b hb => ?_) fun e1 z1 nx => ?_
    · rcases List.mem_cons.mp hb with q | q
      · rw [q]; exact I4.free
      · exact (ffp b q).1
    · have pa := I4.pin _ (List.mem_append_right _ apin)
      refine ⟨s.heap.objs.size :: fp, _, n, Gd, Yd, H1, s4, ⟨I4.os, I4.bare, I4.hok, wake_un (R := gcxOf P w K mg base N qual scope f cdv Aw outer s H noX []) I2.ok I4 (fun b hb q => by cases e : H2 b with | none => exact hb e | some o => rw [hs4 b o e] at q; cases q)⟩, hs4, fun b hb => ?_, pa.2.1, pa.1, hLo, ⟨t0, let ⟨m, hm, _⟩ := I4.loc; ⟨m, hm⟩⟩, src_for (R := gcxOf P w K mg base N qual scope f cdv Aw outer s H noX []) Tu, gd0, hn, hQ, nx⟩
      rcases List.mem_cons.mp hb with q | q
      · rw [q]; exact ⟨I4.free, Nat.le_refl _, Nat.ne_of_lt lt1, .inl rfl⟩
      · refine ⟨(ffp b q).1, Nat.le_of_lt (hfp b q), fun z => (ffp b q).2.2.2.2.2 _ (List.mem_append_right _ apin) z.symm, .inr fun o eo hcl hh => ?_⟩
        exact (ffp b q).2.2.2.2.2 (b, o) (List.mem_append_right _ (mem_pinsAll.mpr ⟨eo, Nat.le_of_lt (hfp b q), fun z => Nat.lt_irrefl _ (by have e := List.mem_singleton.mp z; have h := hfp b q; have e : b = s.heap.objs.size := e; rw [e] at h; exact h), hh, hcl⟩)) rfl
  exact main _ _ _ _ rfl rfl rfl fun h => Heap.get?_push_size _ rfl
end GenP

/-! list(g), of such a generator. -/
namespace GenP
open PySem PySem.Spec PyProof.Rows L2 GenW
open Sem (wp)

section
variable {X : Cx} {k : Nat}
/-- list(g), for what Q the value and the heap are wanted -/
def tListW (tg : TGq3) : TE := fun σ H Q => tg σ H fun _ n Gd Yd H1 => ∃ Pv : Nat → List V → Hp → Prop, Pv 0 [] H1 ∧ (∀ i out H, i ≤ n → Pv i out H → Gd i H) ∧
  (∀ i out x H H', i < n → Pv i out H → Yd i H x H' → Pv (i + 1) (out ++ [x]) H') ∧ ∀ out H, Pv n out H → ∀ p, H p = none → Q (.ref p) (upd H p (.lst out))
theorem pe_listW {e : Expr} {tg : TGq3} {nm : Str} {p pos : Pos} (hi : PGq3 X k e tg) (hr : Room (k + 3) X.A) (hg : Gl X nm) (hmg : X.mg nm = none) (hv : bootBuiltins nm = some (.type "list")) (hnm : nm ≠ "__name__" := by decide) (hdb : (nm == ("__debug__" : Str)) = false := by decide)
    (he : starEach [e] X.env = (false, eval e X.env) :: starEach [] X.env := by rfl) : PE X (.Call (.Name nm p) [e] [] pos) (tListW tg) := by
  refine ⟨fun pins s0 σ H Q I hq => ?_⟩
  refine wpAny_Call_Name_kw (ld_blt I hg hmg hv ?_ hnm hdb)
  refine PyProof.Rows.callWith_type1 ?_ he rfl
  rw [he]
  show wpAny _ _ (spliced ((false, eval e X.env) :: backTo pos (starEach [] X.env))) _ _ s0
  refine Calls.spliced_cons (thn (hi.run pins s0 σ H _ I hq) fun u s h1 => Calls.spliced_nil ?_)
  obtain ⟨H1, sc, Ic, a, gn, c, go, La0, rfl, ha, hgo, hgen, hcell, hfr, hos, hbare, hkp, hdead, hLa0, hLa1, wake⟩ := h1
  have Is1 : Inv X pins σ H1 s := Ic.call' (ch := []) hos (Un.kept hkp) (Ic.hok.kept hkp) hbare fun b hb => absurd hb (by simp)
  have hSa : s.heap.objs.size ≠ a := Nat.ne_of_gt (Heap.lt_size hgo)
  have szc : sc.heap.objs.size ≤ s.heap.objs.size := Nat.le_trans ha (Nat.le_of_lt (Heap.lt_size hgo))
  have hroom : X.A.in1.in1.depth < recursionLimit := by have := hr.dp; show X.A.depth < _; omega
  have hrA : Room k X.A.in1.in1.in1 := ⟨hr.hd, by have := hr.dp; show X.A.depth + 3 * k + 5 < _; omega, by have := hr.un; show X.A.units + 1 + 1 + 1 + 16 * k + 200 < _; omega⟩
  have hfrm : X.A.frames = some X.stack := Is1.ok.frames
  refine callType_codes (Q₁ := fun obj z => obj = .ref s.heap.objs.size ∧ z = { s with heap := s.heap.push { cls := .type "list", data := .seq #[] } }) F.called_list (F.typeCall_list_1 _) F.entry_list_init (code_list_new _ ⟨rfl, rfl⟩) fun obj z hz => ?_
  obtain ⟨rfl, rfl⟩ := hz
  have hS : (s.heap.push { cls := .type "list", data := .seq #[] }).get? s.heap.objs.size = some { cls := .type "list", data := .seq #[] } := Heap.get?_push_size _ rfl
  refine ⟨⟨_, hS, rfl⟩, F.args_list_init_2 _ _, ?_⟩
  show wpAny _ X.A.in1.in1 (do let old ← Builtin.List.listItems (.ref s.heap.objs.size); Builtin.List.listUpdate (.ref s.heap.objs.size) (fun _ => #[]); letGo old.toList.reverse; Builtin.List.listExtendWith (.ref s.heap.objs.size) (.ref a) .none) _ _ _
  refine wpAny_bind ?_
  unfold Builtin.List.listItems
  refine wpAny_bind (wpAny_seqItems hS rfl (wpAny_pure ?_))
  show wpAny _ X.A.in1.in1 (updateSeq s.heap.objs.size (fun _ => #[]) >>= fun _ => letGo (#[] : Array Value).toList.reverse >>= fun _ => Builtin.List.listExtendWith (.ref s.heap.objs.size) (.ref a) .none) _ _ _
  refine wpAny_bind (wpAny_updateSeq hS rfl ?_)
  have hS2 := Heap.get?_update_self (Obj.mapSeq (fun _ => (#[] : Array Value))) hS rfl
  refine wpAny_bind (wpAny_letGo ?_)
  unfold Builtin.List.listExtendWith
  have up : ∀ (h : Heap) (f : Obj → Obj), (∀ b o, s.heap.get? b = some o → h.get? b = some o) → ∀ b o, s.heap.get? b = some o → (h.update s.heap.objs.size f).get? b = some o := fun h f q b o e =>
    (Heap.get?_update_other _ _ (Ne.symm (Nat.ne_of_lt (Heap.lt_size e)))).trans (q b o e)
  have k1 : ∀ b o, s.heap.get? b = some o → (s.heap.push { cls := .type "list", data := .seq #[] }).get? b = some o := fun b o e => Heap.get?_push_of_some _ e
  have k2 := up _ (Obj.mapSeq (fun _ => (#[] : Array Value))) k1
  have gt : ∀ {h : Heap}, (∀ b o, s.heap.get? b = some o → h.get? b = some o) → h.IsGen a gn := fun {h} q => hgen h (q a go hgo)
  refine wpAny_bind (wpAny_typeOf (Heap.IsGen.typeIs (s := { s with heap := _ }) (gt k2)) ?_)
  have n1 : Builtin.List.listSameRef (.ref s.heap.objs.size) (.ref a) = false := by simp [Builtin.List.listSameRef, hSa]
  have n2 : (Value.type "generator" == Value.type "list") = false := by decide
  have n3 : (Value.type "generator" == Value.type "tuple") = false := by decide
  simp only [n1, n2, n3, Bool.or_false, Bool.false_eq_true, if_false]
  refine wpAny_bind (wpAny_pyIter_gen (s := { s with heap := _ }) (gt k2) ?_)
  refine wpAny_bind (wpAny_holding ?_)
  unfold Builtin.List.listLengthHint
  refine wpAny_bind (wpAny_specialOf (Heap.IsGen.typeIs (s := { s with heap := _ }) (gt k2)) F.gen_no_len ?_)
  show wpAny _ X.A.in1.in1 (specialOf (Value.ref a) (Str.ofString "__length_hint__") >>= _) _ _ _
  refine wpAny_bind (wpAny_specialOf (Heap.IsGen.typeIs (s := { s with heap := _ }) (gt k2)) F.gen_no_hint ?_)
  refine wpAny_pure ?_
  show wpAny _ X.A.in1.in1 (rule "list.extend.makes-room" >>= fun _ => Builtin.List.listTouch (.ref s.heap.objs.size) >>= fun _ => again (.builtin "list.extend.loop" ⟨[.ref s.heap.objs.size, .ref a, .none], []⟩)) _ _ _
  refine wpAny_bind (wpAny_rule ?_)
  refine wpAny_bind ?_
  show wpAny _ X.A.in1.in1 (updateSeq s.heap.objs.size (·.push .none) >>= fun _ => updateSeq s.heap.objs.size (·.pop)) _ _ _
  refine wpAny_bind (wpAny_updateSeq hS2 rfl ?_)
  have hS3 := Heap.get?_update_self (Obj.mapSeq (·.push Value.none)) hS2 rfl
  refine wpAny_updateSeq (hz := by seq_fits) hS3 rfl ?_
  have hS4 := Heap.get?_update_self (Obj.mapSeq (·.pop)) hS3 rfl
  have k4 := up _ (Obj.mapSeq (·.pop)) (up _ (Obj.mapSeq (·.push Value.none)) k2)
  refine wpAny_pure ⟨plainId_quiet F.plain_extend_loop _, ?_⟩
  -- the new list, behind all this
  generalize hSd : s.heap.objs.size = S at hS4 k4 hSa ⊢
  generalize hh4 : (((((s.heap.push { cls := .type "list", data := .seq #[] }).update S (Obj.mapSeq (fun _ => (#[] : Array Value)))).update S (Obj.mapSeq (·.push Value.none))).update S (Obj.mapSeq (·.pop)))) = h4 at hS4 k4 ⊢
  obtain ⟨c4, hS4⟩ : ∃ c4, h4.get? S = some (lstObj #[] c4) := ⟨_, hS4⟩
  have I4 : Inv X pins σ H1 { s with heap := h4 } := Is1.kept (t' := s.toks) k4
  have fS : ∀ {H' : Hp}, H' S = none → FpOk X pins H' S := fun h' => Is1.fpOk (Nat.le_of_eq hSd) h'
  have fin : ∀ (z : Shared) (H' : Hp) (out : List V) (acc : Array Value) (cc : Nat), Inv X pins σ H' z → H' S = none → z.heap.get? S = some (lstObj acc cc) → Vals out acc.toList → out.length ≤ sizeLine → Q (.ref S) (upd H' S (.lst out)) →
      EP X pins σ Q (.ref S) z := fun z H' out acc cc Iz nS eS rv hl q => by
    have f := fS nS
    refine ⟨.ref S, upd H' S (.lst out), Iz.call' (ch := [S]) rfl ⟨fun b o e _ _ _ => e, fun b o e _ _ _ => ⟨o.slots, e⟩, fun b o e n hb => ?_, fun b o e _ => ⟨o, e⟩, fun b xs e => ?_, fun b o u e => ?_, fun b ps e => ⟨#[], ?_⟩⟩ (fun b u e => ?_) Iz.bare fun b hb => ?_, rfl, q⟩
    · rw [upd_ne (fun z => hb (by simp [z]))]; exact n
    · rw [upd_ne (ne_of_none e nS)]; exact e
    · rw [upd_ne (ne_of_none e nS)]; exact e
    · rw [upd_ne (ne_of_none e nS), e]; simp
    · by_cases hb : b = S
      · subst hb
        rw [upd_same] at e; cases e
        exact ⟨hl, acc.toList, cc, rv, by rw [eS]⟩
      · rw [upd_ne hb] at e
        exact (Iz.hok b u e).stay (fun _ _ _ z => z) (fun d z => by rw [upd_ne (ne_of_none z nS)]; exact z) fun d xs z => by rw [upd_ne (ne_of_none z nS)]; exact z
    · obtain rfl : b = S := by simpa using hb
      exact ⟨f.2.2.2.1, f.2.1, f.2.2.2.2.1, f.2.2.2.2.2⟩
  generalize hR : (wants (fun r s₂ => r = Value.none ∧ EP X pins σ Q (Value.ref S) s₂) X.xe : Result → Shared → Prop) = R
  have okR : ∀ z, EP X pins σ Q (.ref S) z → R (.ok (.ret .none)) z := fun z q => by rw [← hR]; exact ⟨rfl, q⟩
  have step : ∀ (La : Nat) (Is : List Addr) (T : Nat → Heap → Prop) (N : Nat) (Gd : Nat → Hp → Prop) (Yd : Nat → Hp → V → Hp → Prop) (Pv : Nat → List V → Hp → Prop), Src3 Is T → sc.heap.objs.size ≤ La → N ≤ sizeLine → (∀ i out H, i ≤ N → Pv i out H → Gd i H) →
      (∀ i out x H H', i < N → Pv i out H → Yd i H x H' → Pv (i + 1) (out ++ [x]) H') → (∀ out H, Pv N out H → ∀ p, H p = none → Q (.ref p) (upd H p (.lst out))) → (∀ b ∈ Is, b ≠ a ∧ b ≠ S ∧ ∀ H', H' b = none → FpOk X pins H' b) →
      ∀ (r j : Nat) (out : List V) (acc : Array Value) (cc : Nat) (H' : Hp) (sM : Shared), j + r = N → out.length = j → Vals out acc.toList → Inv X pins σ H' sM → (∀ b ∈ Is, H' b = none) → H' a = none → sM.heap.get? a = some go → H' S = none → sM.heap.get? S = some (lstObj acc cc) → T j sM.heap → Pv j out H' →
      ∀ (e : End) (z : Shared), Next3 X.prog X.w X.K X.mg X.base X.A.in1.in1.in1 X.stack La Is T Gd Yd r j sM H' e z →
        (∃ v r', r = r' + 1 ∧ e.result = .yielded v ∧ e.quiet = true ∧ ∃ x H2, RelV x v ∧ Inv X pins σ H2 (z.setGen gn e.genState) ∧ (∀ b ∈ Is, H2 b = none) ∧ H2 a = none ∧ z.heap.get? a = some go ∧ H2 S = none ∧ z.heap.get? S = some (lstObj acc cc) ∧ T (j + 1) z.heap ∧ Pv (j + 1) (out ++ [x]) H2 ∧ Sleep3 X.prog X.w X.K X.mg X.base X.A.in1.in1.in1 X.stack La Is T Gd Yd r' (j + 1) e.genState) ∨
        (Ended e ∧ ∀ h', (∀ b o, z.heap.get? b = some o → h'.get? b = some o) → EP X pins σ Q (.ref S) { z.setGen gn .finished with heap := h' }) := by
    intro La Is T N Gd Yd Pv src hLa hN hGd hst hen fIs r j out acc cc H' sM hj hlen rv IM nIs na oa nS oS tj pv e z nx
    have ch : ∀ b ∈ Is ++ cellsAt La sM.heap, (b ∈ X.ex ∨ X.s_0.heap.objs.size ≤ b) ∧ b ≠ X.env.locals ∧ (∀ x c, X.env.cells.lookup x = some c → c ≠ b) ∧ ∀ p ∈ X.pn ++ pins, p.1 ≠ b := fun b hb => by
      have f : FpOk X pins (fun _ => none) b := by
        rcases List.mem_append.mp hb with hb | hb
        · exact (fIs b hb).2.2 _ rfl
        · exact Ic.fpOk (Nat.le_trans hLa (of_cellsAt hb).1) rfl
      exact ⟨f.2.2.2.1, f.2.1, f.2.2.2.2.1, f.2.2.2.2.2⟩
    have nst : ∀ b, FpOk X pins (fun _ => none) b → b ∉ frs X.stack := fun b f q => by
      rcases List.mem_cons.mp (IM.stkSub b q) with y1 | y1
      · exact f.2.1 y1
      · exact f.2.2.1 y1
    have nch : ∀ b o, sM.heap.get? b = some o → b ∉ Is → isCell o = false → b ∉ Is ++ cellsAt La sM.heap := fun b o eo h1 h2 q => by
      rcases List.mem_append.mp q with q | q
      · exact h1 q
      · rw [((mem_cellsAt eo).mp q).2] at h2; cases h2
    have ca : isCell go = false := by
      cases q : isCell go with
      | false => rfl
      | true =>
        unfold isCell at q
        split at q
        · rename_i v e; exact absurd e (hcell v)
        · cases q
    have na' := nch a go oa (fun q => (fIs a q).1 rfl) ca
    have nS' := nch S _ oS (fun q => (fIs S q).2.1 rfl) rfl
    have sa := nst a (Ic.fpOk ha rfl)
    have sS := nst S (fS (H' := fun _ => none) rfl)
    cases r with
    | zero =>
      obtain ⟨he, st⟩ := nx
      obtain rfl : j = N := by omega
      refine .inr ⟨he, fun h' hk' => ?_⟩
      have Iz : Inv X pins σ H' z := IM.call' (ch := Is ++ cellsAt La sM.heap) st.os st.un st.hok st.bare ch
      have I2 : Inv X pins σ H' { z with heap := h', toks := z.toks } := Iz.kept (t' := z.toks) hk'
      have I3 := inv_gens (G := z.gens.setIfInBounds gn .finished) I2 (allBare_setGen (s := z) st.bare rfl)
      exact fin _ H' out acc cc I3 nS (hk' _ _ (st.un.keep _ _ oS nS sS nS')) rv (by omega) (hen _ _ pv S nS)
    | succ r =>
      obtain ⟨hq, v, x, H2, hv, rx, yd, st, tj1, nI2, sl⟩ := nx
      have hslp := (sleep3_iff.mp sl).1
      have Iz : Inv X pins σ H2 z := IM.call' (ch := Is ++ cellsAt La sM.heap) st.os st.un st.hok st.bare ch
      exact .inl ⟨v, r, rfl, hv, hq, x, H2, rx, inv_gens Iz (allBare_setGen (s := z) st.bare hslp.bare), nI2, st.un.free _ _ oa na na', st.un.keep _ _ oa na sa na', st.un.free _ _ oS nS nS', st.un.keep _ _ oS nS sS nS', tj1, hst j out x H' H2 (by omega) pv yd, sl⟩
  have push : ∀ (La : Nat) (Is : List Addr) (T : Nat → Heap → Prop) (N : Nat) (Gd : Nat → Hp → Prop) (Yd : Nat → Hp → V → Hp → Prop) (j : Nat) (out : List V) (acc : Array Value) (cc : Nat) (H2 : Hp) (z : Shared) (gs : GenState) (x : V) (v : Value), Src3 Is T → sc.heap.objs.size ≤ La → (∀ b ∈ Is, b ≠ a ∧ b ≠ S ∧ ∀ H', H' b = none → FpOk X pins H' b) → N ≤ sizeLine →
      out.length < N → Vals out acc.toList → RelV x v → Inv X pins σ H2 z → (∀ b ∈ Is, H2 b = none) → z.heap.get? a = some go → H2 S = none → z.heap.get? S = some (lstObj acc cc) → T j z.heap → z.gens[gn]? = some gs →
      (∀ (acc2 : Array Value) (c2 : Nat) (z2 : Shared), Vals (out ++ [x]) acc2.toList → Inv X pins σ H2 z2 → z2.heap.get? a = some go → z2.heap.get? S = some (lstObj acc2 c2) → T j z2.heap → z2.gens[gn]? = some gs → codeAny (model X.prog X.w) X.A.in1 (.builtin "list.extend.loop" ⟨[.ref S, .ref a, .none], []⟩) R z2) →
      wpAny (model X.prog X.w) X.A.in1.in1 (updateSeq S (·.push v) >>= fun _ => again (.builtin "list.extend.loop" ⟨[.ref S, .ref a, .none], []⟩)) (fun f s' => match f with
            | .done g => R (.ok g) s'
            | .again c' => c'.quiet = true ∧ codeAny (model X.prog X.w) X.A.in1 c' R s') (fun e s' => R (.error e) s') z := by
    intro La Is T N Gd Yd j out acc cc H2 z gs x v src hLa fIs hN hlt rv rx Iz nIs oa nS oS tj hgs go
    have hsz : acc.size = out.length := by
      have e1 := rv.length
      have e2 : acc.toList.length = acc.size := by simp
      omega
    refine wpAny_bind ?_
    refine wpAny_updateSeq oS rfl (wpAny_pure ⟨plainId_quiet F.plain_extend_loop _, ?_⟩) (by omega) (by show (acc.push v).size ≤ sizeLine + 1; rw [Array.size_push]; omega)
    have kp : ∀ b o, b ≠ S → z.heap.get? b = some o → (z.heap.update S (Obj.mapSeq (·.push v))).get? b = some o := fun b o hb e => (Heap.get?_update_other _ _ (Ne.symm hb)).trans e
    have I2 : Inv X pins σ H2 { z with heap := z.heap.update S (Obj.mapSeq (·.push v)), toks := z.toks } := Iz.turnedL (ch := [S]) (fun b o hb e => kp b o (fun q => hb (by simp [q])) e) fun b hb => by
      obtain rfl : b = S := by simpa using hb
      exact fS nS
    refine go (acc.push v) _ { z with heap := z.heap.update S (Obj.mapSeq (·.push v)) } ?_ I2 (kp _ _ (Ne.symm hSa) oa) (Heap.get?_update_self _ oS rfl) (src.keep j z.heap _ tj (fun b hb o e => kp b o (fIs b hb).2.1 e)) hgs
    rw [Array.toList_push]
    exact rv.append (.cons rx .nil)
  have loopOk : ∀ (La : Nat) (Is : List Addr) (T : Nat → Heap → Prop) (N : Nat) (Gd : Nat → Hp → Prop) (Yd : Nat → Hp → V → Hp → Prop) (Pv : Nat → List V → Hp → Prop), Src3 Is T → sc.heap.objs.size ≤ La → N ≤ sizeLine → (∀ i out H, i ≤ N → Pv i out H → Gd i H) →
      (∀ i out x H H', i < N → Pv i out H → Yd i H x H' → Pv (i + 1) (out ++ [x]) H') → (∀ out H, Pv N out H → ∀ p, H p = none → Q (.ref p) (upd H p (.lst out))) → (∀ b ∈ Is, b ≠ a ∧ b ≠ S ∧ ∀ H', H' b = none → FpOk X pins H' b) →
      ∀ (r j : Nat) (out : List V) (acc : Array Value) (cc : Nat) (H' : Hp) (z : Shared) (gs : GenState), j + r = N → out.length = j → Vals out acc.toList → Inv X pins σ H' z → (∀ b ∈ Is, H' b = none) → H' a = none → z.heap.get? a = some go → H' S = none → z.heap.get? S = some (lstObj acc cc) → T j z.heap → Pv j out H' →
        z.gens[gn]? = some gs → Sleep3 X.prog X.w X.K X.mg X.base X.A.in1.in1.in1 X.stack La Is T Gd Yd r j gs → codeAny (model X.prog X.w) X.A.in1 (.builtin "list.extend.loop" ⟨[.ref S, .ref a, .none], []⟩) R z := by
    intro La Is T N Gd Yd Pv src hLa hN hGd hst hen fIs r
    induction r with
    | zero =>
      intro j out acc cc H' z gs hj hlen rv Iz nIs na oa nS oS tj pv hgs sl
      have hlt : gn < z.gens.size := (Array.getElem?_eq_some_iff.mp hgs).1
      refine codeAny_builtin F.entry_extend_loop ?_
      rw [Around.under_plainId F.plain_extend_loop _]
      show wpAny _ X.A.in1.in1 (pyNext (.ref a) >>= _) _ _ z
      refine wpAny_bind (next_genP (A := X.A.in1.in1) hr.hd Iz.nolimit hroom (hgen _ oa) hgs ((sleep3_iff.mp sl).2 (z.setGen gn .running) H' X.A (inv_gens Iz (allBare_setGen Iz.bare rfl) : Inv X pins σ H' (z.setGen gn .running)).env0 tj (hGd j out H' (by omega) pv) nIs) fun e z1 nx => ?_)
      rcases step La Is T N Gd Yd Pv src hLa hN hGd hst hen fIs 0 j out acc cc H' (z.setGen gn .running) hj hlen rv (inv_gens Iz (allBare_setGen Iz.bare rfl)) nIs na oa nS oS tj pv e z1 nx with ⟨v, r', h0, _⟩ | ⟨h1, h2⟩
      · cases h0
      · exact .inr ⟨h1, fun h' hk => wpAny_pure (okR _ (h2 h' hk))⟩
    | succ r ih =>
      intro j out acc cc H' z gs hj hlen rv Iz nIs na oa nS oS tj pv hgs sl
      have hlt : gn < z.gens.size := (Array.getElem?_eq_some_iff.mp hgs).1
      refine codeAny_builtin F.entry_extend_loop ?_
      rw [Around.under_plainId F.plain_extend_loop _]
      show wpAny _ X.A.in1.in1 (pyNext (.ref a) >>= _) _ _ z
      refine wpAny_bind (wpAny_gsz (n := gn + 1) hlt (next_genP (A := X.A.in1.in1) hr.hd Iz.nolimit hroom (hgen _ oa) hgs ((sleep3_iff.mp sl).2 (z.setGen gn .running) H' X.A (inv_gens Iz (allBare_setGen Iz.bare rfl) : Inv X pins σ H' (z.setGen gn .running)).env0 tj (hGd j out H' (by omega) pv) nIs) fun e z1 nx => ?_))
      rcases step La Is T N Gd Yd Pv src hLa hN hGd hst hen fIs (r + 1) j out acc cc H' (z.setGen gn .running) hj hlen rv (inv_gens Iz (allBare_setGen Iz.bare rfl)) nIs na oa nS oS tj pv e z1 nx with ⟨v, r', h0, hv, hq, x, H2, rx, I2, nIs2, na2, oa2, nS2, oS2, tj2, pv2, sl2⟩ | ⟨h1, h2⟩
      · obtain rfl : r = r' := by omega
        refine .inl ⟨v, hv, hq, fun hsz => ?_⟩
        rw [setGen_size] at hsz
        exact push La Is T N Gd Yd (j + 1) out acc cc H2 (z1.setGen gn e.genState) _ x v src hLa fIs hN (by omega) rv rx I2 nIs2 oa2 nS2 oS2 tj2 (setGen_at hsz) fun acc2 c2 z2 q1 q2 q3 q4 q5 q6 =>
          ih (j + 1) (out ++ [x]) acc2 c2 H2 z2 _ (by omega) (by rw [List.length_append, hlen]; rfl) q1 q2 nIs2 na2 q3 nS2 q4 q5 pv2 q6 sl2
      · exact .inr ⟨h1, fun h' hk _ => wpAny_pure (okR _ (h2 h' hk))⟩
  -- the first waking
  refine codeAny_builtin F.entry_extend_loop ?_
  rw [Around.under_plainId F.plain_extend_loop _]
  show wpAny _ X.A.in1.in1 (pyNext (.ref a) >>= _) _ _ _
  have hlt : gn < s.gens.size := (Array.getElem?_eq_some_iff.mp hfr).1
  have frame : ∀ z : Shared, z.heap = h4 → z.gens = s.gens → z.os = s.os → wpAny (model X.prog X.w) X.A.in1.in1 (pyNext (.ref a)) (fun o z' => wpAny (model X.prog X.w) X.A.in1.in1 (match o with
        | some x => updateSeq S (·.push x) >>= fun _ => again (.builtin "list.extend.loop" ⟨[.ref S, .ref a, .none], []⟩)
        | none => ret .none) (fun f s' => match f with
            | .done g => R (.ok g) s'
            | .again c' => c'.quiet = true ∧ codeAny (model X.prog X.w) X.A.in1 c' R s') (fun e s' => R (.error e) s') z') (fun e s' => R (.error e) s') z := fun z e1 e2 e3 => by
    have Iz : Inv X pins σ H1 z := Is1.call' (ch := []) e3 (by rw [e1]; exact Un.kept k4) (by rw [e1]; exact Is1.hok.kept k4) (by rw [e2]; exact hbare) fun b hb => absurd hb (by simp)
    have Iz0 : Inv X pins σ H1 (z.setGen gn .running) := inv_gens Iz (allBare_setGen Iz.bare rfl)
    have nS1 : H1 S = none := Is1.hok.fresh (Nat.le_of_eq hSd)
    have oS1 : (z.setGen gn .running).heap.get? S = some (lstObj #[] c4) := by show z.heap.get? S = _; rw [e1]; exact hS4
    refine wpAny_gsz (n := gn + 1) (by rw [e2]; exact hlt) (next_genP (A := X.A.in1.in1) (gs := .fresh c) hr.hd Iz.nolimit hroom (hgen _ (by rw [e1]; exact k4 _ _ hgo)) (by rw [e2]; exact hfr) (wake X.A.in1.in1.in1 X.A (z.setGen gn .running) H1 hrA hfrm Iz0.env0 (fun b o q => by show z.heap.get? b = _; rw [e1]; exact k4 b o q) (Same.refl H1) (fun b hb _ => Ic.hok.fresh hb) (e3.trans hos)) fun e z1 hb => ?_)
    obtain ⟨Is, T, n, Gd, Yd, H', sM, st0, _, hIs, na, oa, hLo, t0, src, gd, hN, ⟨Pv, p0, hGd, hst, hen⟩, nx⟩ := hb
    have SL : S ≠ La0 := fun q => by rw [← hSd] at q; rw [← q] at hLa1; exact Nat.lt_irrefl _ hLa1
    have hch : ∀ b ∈ [La0] ++ cellsAt La0 (z.setGen gn .running).heap, FpOk X pins (fun _ => none) b := fun b hb => by
      rcases List.mem_append.mp hb with q | q
      · rw [List.mem_singleton.mp q]; exact Ic.fpOk hLa0 rfl
      · exact Ic.fpOk (Nat.le_trans hLa0 (of_cellsAt q).1) rfl
    have IM : Inv X pins σ H' sM := Iz0.call' (ch := [La0] ++ cellsAt La0 (z.setGen gn .running).heap) st0.os st0.un st0.hok st0.bare fun b hb => ⟨(hch b hb).2.2.2.1, (hch b hb).2.1, (hch b hb).2.2.2.2.1, (hch b hb).2.2.2.2.2⟩
    have Sch : S ∉ [La0] ++ cellsAt La0 (z.setGen gn .running).heap := fun q => by
      rcases List.mem_append.mp q with q | q
      · exact SL (List.mem_singleton.mp q)
      · have := ((mem_cellsAt oS1).mp q).2
        cases this
    have Sst : S ∉ frs X.stack := fun q => by
      have f := fS (H' := fun _ => none) rfl
      rcases List.mem_cons.mp (Iz0.stkSub S q) with y1 | y1
      · exact f.2.1 y1
      · exact f.2.2.1 y1
    have pS2 : H' S = none := st0.un.free S _ oS1 nS1 Sch
    have pS1 : sM.heap.get? S = some (lstObj #[] c4) := st0.un.keep S _ oS1 nS1 Sst Sch
    have hLa := hLa0
    let La := La0
    have fIs : ∀ b ∈ Is, b ≠ a ∧ b ≠ S ∧ ∀ H', H' b = none → FpOk X pins H' b := fun b hb => ⟨(hIs b hb).2.2.1, fun q => by
      rcases (hIs b hb).2.2.2 with y | y
      · exact SL (q.symm.trans y)
      · exact y _ (by rw [q]; exact oS1) rfl (by rw [q]; exact nS1), fun H2 h2 => Ic.fpOk (hIs b hb).2.1 h2⟩
    rcases step La Is T n Gd Yd Pv src hLa hN hGd hst hen fIs n 0 [] #[] c4 H' sM (Nat.zero_add _) rfl .nil IM (fun b hb => (hIs b hb).1) na oa pS2 pS1 t0 p0 e z1 nx with ⟨v, r', h0, hv, hq, x, H2, rx, I2, nIs2, na2, oa2, nS2, oS2, tj2, pv2, sl2⟩ | ⟨h1, h2⟩
    · subst h0
      refine .inl ⟨v, hv, hq, fun hsz => ?_⟩
      rw [setGen_size] at hsz
      exact push La Is T (r' + 1) Gd Yd 1 [] #[] c4 H2 (z1.setGen gn e.genState) _ x v src hLa fIs hN (Nat.succ_pos _) .nil rx I2 nIs2 oa2 nS2 oS2 tj2 (setGen_at hsz) fun acc2 c2 z2 q1 q2 q3 q4 q5 q6 =>
        loopOk La Is T (r' + 1) Gd Yd Pv src hLa hN hGd hst hen fIs r' 1 ([] ++ [x]) acc2 c2 H2 z2 _ (by omega) rfl q1 q2 nIs2 na2 q3 nS2 q4 q5 pv2 q6 sl2
    · exact .inr ⟨h1, fun h' hk _ => wpAny_pure (okR _ (h2 h' hk))⟩
  refine wpAny_bind (wpAny_mono (frame _ rfl rfl rfl) (fun o z q => ?_) fun _ _ q => q)
  cases o with
  | none => exact q
  | some x => exact q
end
end GenP

/-! A list comprehension over such a generator. -/
namespace GenP
open PySem PySem.Spec PyProof.Rows L2 GenW
open Sem (wp)

section
variable {X : Cx} {k : Nat}
def tLcW (tg : TGq3) (g : TG) (tt : TT) (te : TE) (vs : List Nat) : TE := fun σ H Q => tg σ H fun Hc n Gd Yd H1 => ∀ D, Hc D = none → H1 D = some (.lst []) → ∃ Pv : Nat → Hp → Prop, Pv 0 H1 ∧ (∀ i H, i ≤ n → Pv i H → Gd i H ∧ ∃ acc, H D = some (.lst acc)) ∧
  (∀ i x H H', i < n → Pv i H → Yd i H x H' → g x (wipe σ vs) H' fun σ2 H2 => wipe σ2 vs = wipe σ vs ∧ tt σ2 H2 fun b H3 => if b = true then te σ2 H3 fun y H4 => ∃ acc, H4 D = some (.lst acc) ∧ acc.length < sizeLine ∧ Pv (i + 1) (upd H4 D (.lst (acc ++ [y]))) else Pv (i + 1) H3) ∧
  ∀ H, Pv n H → Q (.ref D) H
theorem lcW_core {pins : List (Addr × Obj)} {s : Shared} {σ : L2.St} {H : Hp} {Q : VK} {elt tgt iter : Expr} {ifs : List Expr} {scope : Scope} {own : List (Str × Nat)} {pos pos' : Pos} {tg : TGq3} {g : TG} {tt : TT} {te : TE} {use : Option (Value → Sem Unit)} {Qf : Value → Shared → Prop}
    (hN : X.N.Nodup) (I : Inv X pins σ H s) (hi : PGq3 X k iter tg) (hr : Room (k + 3) X.A) (ok : BlkOk X.N X.env.scope scope own) (hnc : ∀ y ∈ scope.names, y.2 ≠ .cell)
    (hg : ∀ (s : Shared) (H : Hp) (C : Addr) (cl : List (Str × Addr)) (fp : List Addr), PG (X.blk s H scope (compEnvC scope cl C X.env) fp) tgt g) (ht : ∀ (s : Shared) (H : Hp) (C : Addr) (cl : List (Str × Addr)) (fp : List Addr), PTs (X.blk s H scope (compEnvC scope cl C X.env) fp) ifs tt)
    (he : ∀ (s : Shared) (H : Hp) (C : Addr) (cl : List (Str × Addr)) (fp : List Addr), PE (X.blk s H scope (compEnvC scope cl C X.env) fp) elt te) (hs : ∀ x, foldedSetIterable iter X.env x = pure x)
    (h : tLcW tg g tt te (own.map (·.2)) σ H Q)
    (hRR : ∀ D C s' m H', Inv X pins σ H' s' → Q (.ref D) H' → s'.heap.Ns C m → FpOk X pins H' C → compPost (model X.prog X.w) X.A X.xe use Qf (.ref D) C (.ok .next) s') :
    wpAny (model X.prog X.w) X.A (comprehension (.ListComp elt [⟨tgt, iter, ifs, 0⟩] scope pos) scope X.env pos' (newList []) false (eval iter X.env) use) Qf X.xe s := by
  have hfree : ∀ y ∈ scope.names, y.2 = .free → ∃ c, X.env.cells.lookup y.1 = some c := fun y hy e => (ok.free y hy e).elim (fun q => I.ok.has _ (.inl q)) fun q => I.ok.has _ (.inr q)
  refine wpAny_comprehension_free (use := use) rfl hs (closure_ok hfree) ok.kind (fun y hy e => by rw [ok.uniq y hy, e]) (thn (hi.run pins s σ H _ I h) fun v s1 h1 => ?_)
  obtain ⟨H1, sc, Ic, a, gn, c, go, La, rfl, ha, hgo, hgen, hcell, hfr, hos, hbare, hkp, hdead, hLa0, hLa1, wake⟩ := h1
  have Is1 : Inv X pins σ H1 s1 := Ic.call' (ch := []) hos (Un.kept hkp) (Ic.hok.kept hkp) hbare fun b hb => absurd hb (by simp)
  refine wpAny_pyIter_gen (hgen _ hgo) ?_
  refine wpAny_newObj_type (newEnv_comp ?_) (by show 0 ≤ sizeLine; decide)
  generalize hD : s1.heap.objs.size = D
  have hDn : H1 D = none := Is1.hok.fresh (Nat.le_of_eq hD)
  have szc : sc.heap.objs.size ≤ s1.heap.objs.size := Nat.le_trans ha (Nat.le_of_lt (Heap.lt_size hgo))
  generalize hoD : ({ cls := .type "list", data := .seq ([] : List Value).toArray } : Obj) = oD
  have gD : (s1.heap.push oD).get? D = some oD := by rw [← hD, ← hoD]; exact Heap.get?_push_size _ rfl
  generalize hs3 : ({ s1 with heap := s1.heap.push oD } : Shared) = s3
  have h3 : s3.heap = s1.heap.push oD := by rw [← hs3]
  have g3 : s3.gens = s1.gens := by rw [← hs3]
  have o3 : s3.os = s1.os := by rw [← hs3]
  have z3 : s3.heap.objs.size = s1.heap.objs.size + 1 := by rw [h3, Heap.size_push]
  have I3 : Inv X pins σ (upd H1 D (.lst [])) s3 := by
    rw [← hs3]
    exact Is1.laid (t' := s1.toks) (fun b o e => Heap.get?_push_of_some _ e) (Nat.le_of_eq hD) ⟨Nat.zero_le _, [], 0, .nil, by rw [gD, ← hoD]⟩
  generalize hfp : List.range' sc.heap.objs.size (s1.heap.objs.size - sc.heap.objs.size) = fp
  have mfp : ∀ b, b ∈ fp ↔ sc.heap.objs.size ≤ b ∧ b < s1.heap.objs.size := fun b => by
    rw [← hfp, List.mem_range'_1]
    omega
  have f3 : ∀ b ∈ fp, FpOk X pins (upd H1 D (.lst [])) b ∧ b < s3.heap.objs.size := fun b hb => by
    obtain ⟨q1, q2⟩ := (mfp b).mp hb
    refine ⟨Ic.fpOk q1 ?_, by omega⟩
    rw [upd_ne (by rw [← hD]; exact Nat.ne_of_lt q2)]
    exact Ic.hok.fresh q1
  have I4 := block_start I3 ok hN f3
  have pg := hg s3 (upd H1 D (.lst [])) s3.heap.objs.size (cellsFrom (s3.heap.objs.size + 1) scope.names (cloFrom X.env.cells scope.names [])) fp
  have pt := ht s3 (upd H1 D (.lst [])) s3.heap.objs.size (cellsFrom (s3.heap.objs.size + 1) scope.names (cloFrom X.env.cells scope.names [])) fp
  have pe := he s3 (upd H1 D (.lst [])) s3.heap.objs.size (cellsFrom (s3.heap.objs.size + 1) scope.names (cloFrom X.env.cells scope.names [])) fp
  show codeAny _ _ (.compStart (.ListComp elt [⟨tgt, iter, ifs, 0⟩] scope pos) 0 (.ref a) (.ref D) (compEnvC scope (cellsFrom (s3.heap.objs.size + 1) scope.names (cloFrom X.env.cells scope.names [])) s3.heap.objs.size X.env)) (compPost (model X.prog X.w) X.A X.xe use Qf (.ref D) s3.heap.objs.size) { s3 with heap := pushCells (s3.heap.push { cls := .type "dict", data := .dict #[] }) scope.names }
  rw [pushCells_none _ _ hnc] at I4 ⊢
  generalize hce : compEnvC scope (cellsFrom (s3.heap.objs.size + 1) scope.names (cloFrom X.env.cells scope.names [])) s3.heap.objs.size X.env = ce at I4 pg pt pe ⊢
  have cL : ce.locals = s3.heap.objs.size := by subst hce; rfl
  generalize hoC : ({ cls := .type "dict", data := .dict #[] } : Obj) = oC at I4 ⊢
  have gC : (s3.heap.push oC).get? s3.heap.objs.size = some oC := by rw [← hoC]; exact Heap.get?_push_size _ rfl
  generalize hs4 : ({ s3 with heap := s3.heap.push oC } : Shared) = s4 at I4 ⊢
  have h4 : s4.heap = s3.heap.push oC := by rw [← hs4]
  have g4 : s4.gens = s1.gens := by rw [← hs4]; exact g3
  have o4 : s4.os = s1.os := by rw [← hs4]; exact o3
  have z4 : s4.heap.objs.size = s1.heap.objs.size + 2 := by rw [h4, Heap.size_push, z3]
  have k14 : ∀ b o, s1.heap.get? b = some o → s4.heap.get? b = some o := fun b o e => by rw [h4, h3]; exact Heap.get?_push_of_some _ (Heap.get?_push_of_some _ e)
  have gD4 : s4.heap.get? D = some oD := by rw [h4, h3]; exact Heap.get?_push_of_some _ gD
  have gC4 : s4.heap.get? s3.heap.objs.size = some oC := by rw [h4]; exact gC
  -- what is in s4 and not in s1
  have only : ∀ b o, s4.heap.get? b = some o → s1.heap.get? b = some o ∨ b = D ∨ b = s3.heap.objs.size := fun b o e => by
    rw [h4, h3] at e
    rcases Heap.get?_push_cases e with ⟨q, _⟩ | e
    · exact .inr (.inr (by rw [q, h3]))
    · rcases Heap.get?_push_cases e with ⟨q, _⟩ | e
      · exact .inr (.inl (by rw [q, hD]))
      · exact .inl e
  have stat : ∀ {σ' : L2.St} {H' : Hp} {s' : Shared}, Inv (X.blk s3 (upd H1 D (.lst [])) scope ce fp) [] σ' H' s' → (∀ b ∈ fp, H' b = none) → ∀ b ∈ fp, FpOk (X.blk s3 (upd H1 D (.lst [])) scope ce fp) [] H' b := fun {σ' H' s'} I' hn b hb =>
    ⟨hn b hb, (I'.ok.exf b hb).1, I'.ok.exfs b hb, .inl hb, fun x c e => (I'.ok.exf b hb).2 x c e, fun p hp => absurd (show p ∈ ([] : List (Addr × Obj)) ++ [] from hp) (by simp)⟩
  have stI := stat I4 fun b hb => (f3 b hb).1.1
  have mema : a ∈ fp := (mfp a).mpr ⟨ha, Heap.lt_size hgo⟩
  have fa : ∀ {H' : Hp}, H' a = none → FpOk (X.blk s3 (upd H1 D (.lst [])) scope ce fp) [] H' a := fun h' => ⟨h', (stI a mema).2⟩
  have hroom : X.A.depth < recursionLimit := by have := hr.dp; omega
  have hrA : Room k X.A.in1 := ⟨hr.hd, by have := hr.dp; show X.A.depth + 3 * k + 5 < _; omega, by have := hr.un; show X.A.units + 1 + 16 * k + 200 < _; omega⟩
  have hA0 : X.A.handled = none := hr.hd
  have hfrm : X.A.frames = some X.stack := I.ok.frames
  have hDC : D ≠ s3.heap.objs.size := by rw [← hD, z3]; exact Nat.ne_of_lt (Nat.lt_succ_self _)
  let B := X.blk s3 (upd H1 D (.lst [])) scope ce fp
  let w := wipe σ (own.map (·.2))
  let Asl : Nat → Shared → Prop := fun n z => ∃ (Is : List Addr) (T : Nat → Heap → Prop) (N : Nat) (Gd : Nat → Hp → Prop) (Yd : Nat → Hp → V → Hp → Prop) (Pv : Nat → Hp → Prop) (j : Nat) (gs : GenState) (H' : Hp),
    Src3 Is T ∧ (∀ i H, i ≤ N → Pv i H → Gd i H ∧ ∃ acc, H D = some (.lst acc)) ∧ (∀ i x H H', i < N → Pv i H → Yd i H x H' → g x w H' fun σ2 H2 => wipe σ2 (own.map (·.2)) = w ∧ tt σ2 H2 fun b H3 => if b = true then te σ2 H3 fun y H4 => ∃ acc, H4 D = some (.lst acc) ∧ acc.length < sizeLine ∧ Pv (i + 1) (upd H4 D (.lst (acc ++ [y]))) else Pv (i + 1) H3) ∧ (∀ H, Pv N H → Q (.ref D) H) ∧
    (∀ b ∈ Is, b ≠ a ∧ ∀ H', H' b = none → FpOk B [] H' b) ∧ j ≤ N ∧ n = N - j ∧ Inv B [] w H' z ∧ (∀ b ∈ Is, H' b = none) ∧ H' a = none ∧ z.heap.get? a = some go ∧ T j z.heap ∧ Pv j H' ∧ z.gens[gn]? = some gs ∧ Sleep3 X.prog X.w X.K X.mg X.base X.A.in1 X.stack La Is T Gd Yd (N - j) j gs
  let Ii : Nat → Shared → Prop := fun n z => (n = sizeLine + 1 ∧ z = s4) ∨ Asl n z
  have back : ∀ {H5 : Hp} {s6 : Shared}, Inv B [] w H5 s6 → Q (.ref D) H5 → compPost (model X.prog X.w) X.A X.xe use Qf (.ref D) s3.heap.objs.size (.ok .next) s6 := fun {H5 s6} I6 qq => by
    have I7 : Inv X pins σ H5 s6 := I3.call' (ch := fp) I6.os I6.base I6.hok I6.bare fun b hb => ⟨(f3 b hb).1.2.2.2.1, (f3 b hb).1.2.1, (f3 b hb).1.2.2.2.2.1, (f3 b hb).1.2.2.2.2.2⟩
    have nC : H5 s3.heap.objs.size = none := by
      have q : H5 ce.locals = none := I6.free
      rwa [cL] at q
    obtain ⟨m, hn, _⟩ := I6.loc
    have hn : s6.heap.Ns ce.locals m := hn
    rw [cL] at hn
    exact hRR D s3.heap.objs.size s6 m H5 I7 qq hn (I3.fpOk (Nat.le_refl _) nC)
  have post : ∀ (Is : List Addr) (T : Nat → Heap → Prop) (N : Nat) (Gd : Nat → Hp → Prop) (Yd : Nat → Hp → V → Hp → Prop) (Pv : Nat → Hp → Prop) (j n : Nat) (H' : Hp) (sM : Shared),
      Src3 Is T → (∀ i H, i ≤ N → Pv i H → Gd i H ∧ ∃ acc, H D = some (.lst acc)) → (∀ i x H H', i < N → Pv i H → Yd i H x H' → g x w H' fun σ2 H2 => wipe σ2 (own.map (·.2)) = w ∧ tt σ2 H2 fun b H3 => if b = true then te σ2 H3 fun y H4 => ∃ acc, H4 D = some (.lst acc) ∧ acc.length < sizeLine ∧ Pv (i + 1) (upd H4 D (.lst (acc ++ [y]))) else Pv (i + 1) H3) → (∀ H, Pv N H → Q (.ref D) H) →
      (∀ b ∈ Is, b ≠ a ∧ ∀ H', H' b = none → FpOk B [] H' b) → j ≤ N → N - j ≤ n → Inv B [] w H' sM → (∀ b ∈ Is, H' b = none) → H' a = none → sM.heap.get? a = some go → T j sM.heap → Pv j H' →
      ∀ (e : End) (z : Shared), Next3 X.prog X.w X.K X.mg X.base X.A.in1 X.stack La Is T Gd Yd (N - j) j sM H' e z →
        (∃ v, e.result = .yielded v ∧ e.quiet = true ∧ (gn + 1 ≤ (z.setGen gn e.genState).gens.size → wpAny (model X.prog X.w) X.A (letOwnedTupleGo tgt (.ref a) v) (fun _ s₁' => wpAny (model X.prog X.w) X.A (assign tgt ce v) (fun _ s₂ =>
          wpAny (model X.prog X.w) X.A (forIn ifs true fun c r => if r = true then do let ok ← isTrue c ce (eval c ce); pure (ForInStep.yield ok) else pure (ForInStep.yield r)) (fun ok s₃ =>
            if ok = true then wpAny (model X.prog X.w) X.A (eval elt ce) (fun x s₄ =>
              wpAny (model X.prog X.w) X.A (call (.builtin "list.append") [.ref D, x]) (fun _ s₅ => ∃ m, m < n ∧ Ii m s₅) (notedBy (model X.prog X.w) X.A ce fun e s' => compPost (model X.prog X.w) X.A X.xe use Qf (.ref D) s3.heap.objs.size (.error e) s') s₄) (notedBy (model X.prog X.w) X.A ce fun e s' => compPost (model X.prog X.w) X.A X.xe use Qf (.ref D) s3.heap.objs.size (.error e) s') s₃
            else ∃ m, m < n ∧ Ii m s₃) (notedBy (model X.prog X.w) X.A ce fun e s' => compPost (model X.prog X.w) X.A X.xe use Qf (.ref D) s3.heap.objs.size (.error e) s') s₂) (notedBy (model X.prog X.w) X.A ce fun e s' => compPost (model X.prog X.w) X.A X.xe use Qf (.ref D) s3.heap.objs.size (.error e) s') s₁') (notedBy (model X.prog X.w) X.A ce fun e s' => compPost (model X.prog X.w) X.A X.xe use Qf (.ref D) s3.heap.objs.size (.error e) s') (z.setGen gn e.genState))) ∨
        (Ended e ∧ ∀ h', (∀ b o, z.heap.get? b = some o → h'.get? b = some o) → compPost (model X.prog X.w) X.A X.xe use Qf (.ref D) s3.heap.objs.size (.ok .next) { z.setGen gn .finished with heap := h' }) := by
    intro Is T N Gd Yd Pv j n H' sM src hGd hst hen fIs hj hn IM nIs na oa tj pv e z nx
    obtain ⟨gdj, accD, eD⟩ := hGd j H' hj pv
    have isD : ∃ o, sM.heap.get? D = some o ∧ isCell o = false := by
      obtain ⟨_, its, n0, _, e⟩ := IM.hok D _ eD
      exact ⟨_, e, rfl⟩
    have isC : ∃ o, sM.heap.get? s3.heap.objs.size = some o ∧ isCell o = false := by
      obtain ⟨m, ⟨o, es, ep, ho, hd, _⟩, _⟩ := IM.loc
      have ho : sM.heap.get? ce.locals = some o := ho
      rw [cL] at ho
      exact ⟨o, ho, by unfold isCell; rw [hd]⟩
    have ch : ∀ b ∈ Is ++ cellsAt La sM.heap, (b ∈ B.ex ∨ B.s_0.heap.objs.size ≤ b) ∧ b ≠ B.env.locals ∧ (∀ x c, B.env.cells.lookup x = some c → c ≠ b) ∧ ∀ p ∈ B.pn ++ [], p.1 ≠ b := fun b hb => by
      have f : FpOk B [] (fun _ => none) b := by
        rcases List.mem_append.mp hb with hb | hb
        · exact (fIs b hb).2 _ rfl
        · obtain ⟨lb, o, eo, co⟩ := of_cellsAt hb
          by_cases lt : b < s1.heap.objs.size
          · exact ⟨rfl, (stI b ((mfp b).mpr ⟨Nat.le_trans hLa0 lb, lt⟩)).2⟩
          · have q1 : b ≠ s1.heap.objs.size := fun q => by
              obtain ⟨o2, e2, c2⟩ := isD
              rw [← hD, ← q, eo] at e2
              cases e2
              rw [co] at c2; cases c2
            have q2 : b ≠ s1.heap.objs.size + 1 := fun q => by
              obtain ⟨o2, e2, c2⟩ := isC
              rw [z3, ← q, eo] at e2
              cases e2
              rw [co] at c2; cases c2
            refine I4.fpOk (H' := fun _ => none) ?_ rfl
            rw [z4]
            exact Nat.lt_of_le_of_ne (Nat.lt_of_le_of_ne (Nat.le_of_not_lt lt) (Ne.symm q1)) (Ne.symm q2)
      exact ⟨f.2.2.2.1, f.2.1, f.2.2.2.2.1, f.2.2.2.2.2⟩
    have ca : isCell go = false := by
      cases q : isCell go with
      | false => rfl
      | true =>
        unfold isCell at q
        split at q
        · rename_i v e; exact absurd e (hcell v)
        · cases q
    have na' : a ∉ Is ++ cellsAt La sM.heap := fun q => by
      rcases List.mem_append.mp q with q | q
      · exact (fIs a q).1 rfl
      · rw [((mem_cellsAt oa).mp q).2] at ca; cases ca
    have sa : a ∉ frs X.stack := fun q => by
      have f := Ic.fpOk (H' := fun _ => none) ha rfl
      rcases List.mem_cons.mp (Is1.stkSub a q) with y1 | y1
      · exact f.2.1 y1
      · exact f.2.2.1 y1
    cases hN : N - j with
    | zero =>
      rw [hN] at nx
      obtain ⟨he, st⟩ := nx
      obtain rfl : j = N := by omega
      refine .inr ⟨he, fun h' hk' => back ?_ (hen _ pv)⟩
      have Iz : Inv B [] w H' z := IM.call' (ch := Is ++ cellsAt La sM.heap) st.os st.un st.hok st.bare ch
      have I2 : Inv B [] w H' { z with heap := h', toks := z.toks } := Iz.kept (t' := z.toks) hk'
      exact inv_gens (G := z.gens.setIfInBounds gn .finished) I2 (allBare_setGen (s := z) st.bare rfl)
    | succ r =>
      rw [hN] at nx
      obtain ⟨hq, v, x, H2, hv, rv, yd, st, tj1, nI2, sl⟩ := nx
      have hslp := (sleep3_iff.mp sl).1
      have I2 : Inv B [] w H2 z := IM.call' (ch := Is ++ cellsAt La sM.heap) st.os st.un st.hok st.bare ch
      refine .inl ⟨v, hv, hq, fun hsz => ?_⟩
      have hga : z.heap.get? a = some go := st.un.keep a go oa na sa na'
      have na2 : H2 a = none := st.un.free a go oa na na'
      generalize hz1 : z.setGen gn e.genState = z1
      have hh1 : z1.heap = z.heap := by rw [← hz1]; rfl
      have hg1 : z1.gens[gn]? = some e.genState := by
        rw [← hz1]
        refine setGen_at ?_
        have := hsz
        rw [setGen_size] at this
        exact this
      have Iz : Inv B [] w H2 z1 := by
        rw [← hz1]
        exact inv_gens I2 (allBare_setGen (s := z) st.bare hslp.bare)
      have n2 : ∀ b ∈ a :: Is, H2 b = none := fun b hb => by
        rcases List.mem_cons.mp hb with q | q
        · rw [q]; exact na2
        · exact nI2 b q
      have ob2 : ∀ b ∈ a :: Is, ∃ o, z1.heap.get? b = some o ∧ ∀ v, o.data ≠ .cell v := fun b hb => by
        rw [hh1]
        rcases List.mem_cons.mp hb with q | q
        · rw [q]; exact ⟨go, hga, hcell⟩
        · exact src.obj (j + 1) _ tj1 b q
      have Ip : Inv B ([] ++ pinsAt (a :: Is) z1.heap) w H2 z1 := Iz.pinned (fun b hb => by
        rcases List.mem_cons.mp hb with q | q
        · rw [q]; exact fa na2
        · exact (fIs b q).2 _ (n2 b hb)) ob2
      refine own_gen (hgen _ (by rw [hh1]; exact hga)) ?_
      refine wpAny_fix ?_
      refine wpAny_mono (pg.run _ { z1 with gens := stkT z1.gens } w H2 x v _ (inv_gens Ip (bare_stk Ip.bare)) rv (hst j x H' H2 (by omega) pv yd)) (fun _ s2 q2 G2 => ?_) fun x s2 q2 G2 => q2.elim
      obtain ⟨σ8, H8, I8, hw8, q8⟩ := q2
      have I8' : Inv B ([] ++ pinsAt (a :: Is) z1.heap) σ8 H8 (fixS (slept z1.gens) s2) := inv_gens I8 (bare_fix Ip.bare I8.bare)
      have hg3 := fix_at G2 hg1 hslp.sus
      generalize fixS (slept z1.gens) s2 = z2 at I8' hg3
      refine wpAny_fix ?_
      refine wpAny_mono (pt.run _ { z2 with gens := stkT z2.gens } σ8 H8 _ (inv_gens I8' (bare_stk I8'.bare)) q8) (fun b s4' q4 G4 => ?_) fun x s2 q2 G2 => q2.elim
      obtain ⟨H9, I9, q9⟩ := q4
      have I9' : Inv B ([] ++ pinsAt (a :: Is) z1.heap) σ8 H9 (fixS (slept z2.gens) s4') := inv_gens I9 (bare_fix I8'.bare I9.bare)
      have hg4 := fix_at G4 hg3 hslp.sus
      generalize fixS (slept z2.gens) s4' = z3' at I9' hg4
      have fin : ∀ {z5 : Shared} {H5 : Hp}, Inv B ([] ++ pinsAt (a :: Is) z1.heap) σ8 H5 z5 → z5.gens[gn]? = some e.genState → Pv (j + 1) H5 → ∃ m, m < n ∧ Ii m z5 := fun {z5 H5} I5 hg5 pv5 => by
        have pin : ∀ b ∈ a :: Is, ∀ o, z1.heap.get? b = some o → z5.heap.get? b = some o ∧ H5 b = none := fun b hb o eo =>
          let q := I5.pin (b, o) (List.mem_append_right _ (List.mem_append_right _ (mem_pinsAt hb eo)))
          ⟨q.1, q.2.1⟩
        have nn5 : ∀ b ∈ a :: Is, H5 b = none := fun b hb => by
          obtain ⟨o, eo, _⟩ := ob2 b hb
          exact (pin b hb o eo).2
        have hl : w.length = σ8.length := by rw [← hw8, wipe_length]
        refine ⟨N - (j + 1), by omega, .inr ⟨Is, T, N, Gd, Yd, Pv, j + 1, e.genState, H5, src, hGd, hst, hen, fIs, by omega, rfl, (I5.unpinned (pins := [])).weak hl (fun i v ev => ?_), fun b hb => nn5 b (List.mem_cons_of_mem _ hb), nn5 a List.mem_cons_self, (pin a List.mem_cons_self go (by rw [hh1]; exact hga)).1, ?_, pv5, hg5, ?_⟩⟩
        · rw [← hw8] at ev
          exact (wipe_some ev).1
        · exact src.keep (j + 1) z.heap z5.heap tj1 (fun b hb o eo => (pin b (List.mem_cons_of_mem _ hb) o (by rw [hh1]; exact eo)).1)
        · rw [show N - (j + 1) = r by omega]; exact sl
      cases b with
      | false =>
        simp only [Bool.false_eq_true, if_false] at q9 ⊢
        exact fin I9' hg4 q9
      | true =>
        simp only [if_true] at q9 ⊢
        refine wpAny_fix ?_
        refine wpAny_mono (pe.run _ { z3' with gens := stkT z3'.gens } σ8 H9 _ (inv_gens I9' (bare_stk I9'.bare)) q9) (fun yv s10 q10 G10 => ?_) fun x s2 q2 G2 => q2.elim
        obtain ⟨yx, H10, I10, r10, acc, hD10, hz10, px⟩ := q10
        have I10' : Inv B ([] ++ pinsAt (a :: Is) z1.heap) σ8 H10 (fixS (slept z3'.gens) s10) := inv_gens I10 (bare_fix I9'.bare I10.bare)
        have hg10 := fix_at G10 hg4 hslp.sus
        generalize fixS (slept z3'.gens) s10 = z4' at I10' hg10
        refine wpAny_fix ?_
        refine app_ok (X := B) (inv_gens I10' (bare_stk I10'.bare)) hD10 hz10 r10 fun s11 I11 G11 => ?_
        exact fin (inv_gens I11 (bare_fix I10'.bare I11.bare)) (fix_at G11 hg10 hslp.sus) px
  have loop : codeAny (model X.prog X.w) X.A (.compLoop (.ListComp elt [⟨tgt, iter, ifs, 0⟩] scope pos) 0 (.ref a) (.ref D) ce) (compPost (model X.prog X.w) X.A X.xe use Qf (.ref D) s3.heap.objs.size) s4 := by
    refine compLoop_any Ii ?_ (sizeLine + 1) (.inl ⟨rfl, rfl⟩)
    rintro n zz (⟨rfl, rfl⟩ | ⟨Is, T, N, Gd, Yd, Pv, j, gs, H', src, hGd, hst, hen, fIs, hj, rfl, IM, nIs, na, oa, tj, pv, hgs, sl⟩)
    · have hfr4 : zz.gens[gn]? = some (.fresh c) := by rw [g4]; exact hfr
      have hlt : gn < zz.gens.size := (Array.getElem?_eq_some_iff.mp hfr4).1
      have I40 : Inv B [] w (upd H1 D (.lst [])) (zz.setGen gn .running) := inv_gens I4 (allBare_setGen I4.bare rfl)
      have H3n : ∀ b, sc.heap.objs.size ≤ b → b < s1.heap.objs.size → upd H1 D (.lst []) b = none := fun b h1 h2 => by
        rw [upd_ne (by rw [← hD]; exact Nat.ne_of_lt h2)]
        exact Ic.hok.fresh h1
      refine wpAny_gsz (n := gn + 1) hlt (next_genP hA0 I4.nolimit hroom (hgen _ (k14 _ _ hgo)) hfr4 (wake X.A.in1 X.A (zz.setGen gn .running) (upd H1 D (.lst [])) hrA hfrm I40.env0 k14 (fun b o q => by rw [upd_ne (ne_of_none q hDn)]; exact q) H3n (o4.trans hos)) fun e z hb => ?_)
      obtain ⟨Is, T, n, Gd, Yd, H', sM, st0, hsm, hIs, na, oa, hLo, t0, src, gd, hN, hq, nx⟩ := hb
      have hch : ∀ b ∈ [La] ++ cellsAt La (zz.setGen gn .running).heap, FpOk B [] (fun _ => none) b := fun b hb => by
        rcases List.mem_append.mp hb with q | q
        · rw [List.mem_singleton.mp q]
          exact ⟨rfl, (stI La ((mfp La).mpr ⟨hLa0, hLa1⟩)).2⟩
        · obtain ⟨lb, o, eo, co⟩ := of_cellsAt q
          rcases only b o eo with q1 | q1 | q1
          · exact ⟨rfl, (stI b ((mfp b).mpr ⟨Nat.le_trans hLa0 lb, Heap.lt_size q1⟩)).2⟩
          · rw [q1] at eo
            have eo : zz.heap.get? D = some o := eo
            rw [gD4] at eo; cases eo
            rw [← hoD] at co; cases co
          · rw [q1] at eo
            have eo : zz.heap.get? s3.heap.objs.size = some o := eo
            rw [gC4] at eo; cases eo
            rw [← hoC] at co; cases co
      have IM : Inv B [] w H' sM := I40.call' (ch := [La] ++ cellsAt La (zz.setGen gn .running).heap) st0.os st0.un st0.hok st0.bare fun b hb => ⟨(hch b hb).2.2.2.1, (hch b hb).2.1, (hch b hb).2.2.2.2.1, (hch b hb).2.2.2.2.2⟩
      have eD' : H' D = some (.lst []) := hsm D _ upd_same
      obtain ⟨Pv, p0, hGd, hst, hen⟩ := hq D hDn eD'
      have fIs : ∀ b ∈ Is, b ≠ a ∧ ∀ H', H' b = none → FpOk B [] H' b := fun b hb => ⟨(hIs b hb).2.2.1, fun H2 h2 => by
        by_cases lt : b < s1.heap.objs.size
        · exact ⟨h2, (stI b ((mfp b).mpr ⟨(hIs b hb).2.1, lt⟩)).2⟩
        · have q1 : b ≠ s1.heap.objs.size := fun q => by
            have n1 := (hIs b hb).1
            rw [q, hD, eD'] at n1
            cases n1
          have q2 : b ≠ s1.heap.objs.size + 1 := fun q => by
            rcases (hIs b hb).2.2.2 with y | y
            · rw [y] at lt; exact lt hLa1
            · have eC : b = s3.heap.objs.size := by rw [z3]; exact q
              refine y oC (by show zz.heap.get? b = _; rw [eC]; exact gC4) (by rw [← hoC]; rfl) ?_
              rw [eC, upd_ne (Ne.symm hDC)]
              refine Is1.hok.fresh ?_
              rw [z3]; exact Nat.le_succ _
          refine I4.fpOk ?_ h2
          rw [z4]
          exact Nat.lt_of_le_of_ne (Nat.lt_of_le_of_ne (Nat.le_of_not_lt lt) (Ne.symm q1)) (Ne.symm q2)⟩
      rcases post Is T n Gd Yd Pv 0 (sizeLine + 1) H' sM src hGd hst hen fIs (Nat.zero_le _) (by omega) IM (fun b hb => (hIs b hb).1) na oa t0 p0 e z nx with ⟨v, h1, h2, h3⟩ | ⟨h1, h2⟩
      · exact .inl ⟨v, h1, h2, h3⟩
      · exact .inr ⟨h1, fun h' hk _ => h2 h' hk⟩
    · have hlt : gn < zz.gens.size := (Array.getElem?_eq_some_iff.mp hgs).1
      refine wpAny_gsz (n := gn + 1) hlt (next_genP hA0 IM.nolimit hroom (hgen _ oa) hgs ((sleep3_iff.mp sl).2 (zz.setGen gn .running) H' X.A (inv_gens IM (allBare_setGen IM.bare rfl) : Inv B [] w H' (zz.setGen gn .running)).env0 tj (hGd j H' hj pv).1 nIs) fun e z nx => ?_)
      have IM' : Inv B [] w H' (zz.setGen gn .running) := inv_gens IM (allBare_setGen IM.bare rfl)
      rcases post Is T N Gd Yd Pv j (N - j) H' (zz.setGen gn .running) src hGd hst hen fIs hj (Nat.le_refl _) IM' nIs na oa tj pv e z nx with ⟨v, h1, h2, h3⟩ | ⟨h1, h2⟩
      · exact .inl ⟨v, h1, h2, h3⟩
      · exact .inr ⟨h1, fun h' hk _ => h2 h' hk⟩
  exact codeAny_compStart_list loop (wpAny_pyIter_gen (hgen _ (k14 _ _ hgo)) loop)
/-- as a value -/
theorem pe_lcW {elt tgt iter : Expr} {ifs : List Expr} {scope : Scope} {own : List (Str × Nat)} {pos : Pos} {tg : TGq3} {g : TG} {tt : TT} {te : TE} (hN : X.N.Nodup) (hi : PGq3 X k iter tg) (hr : Room (k + 3) X.A) (ok : BlkOk X.N X.env.scope scope own)
    (hg : ∀ (s : Shared) (H : Hp) (C : Addr) (cl : List (Str × Addr)) (fp : List Addr), PG (X.blk s H scope (compEnvC scope cl C X.env) fp) tgt g) (ht : ∀ (s : Shared) (H : Hp) (C : Addr) (cl : List (Str × Addr)) (fp : List Addr), PTs (X.blk s H scope (compEnvC scope cl C X.env) fp) ifs tt)
    (he : ∀ (s : Shared) (H : Hp) (C : Addr) (cl : List (Str × Addr)) (fp : List Addr), PE (X.blk s H scope (compEnvC scope cl C X.env) fp) elt te) (hnc : ∀ y ∈ scope.names, y.2 ≠ .cell := by decide) (hs : ∀ x, foldedSetIterable iter X.env x = pure x := by intro _; rfl) :
    PE X (.ListComp elt [⟨tgt, iter, ifs, 0⟩] scope pos) (tLcW tg g tt te (own.map (·.2))) := by
  refine ⟨fun pins s σ H Q I h => ?_⟩
  rw [eval_ListComp]
  refine lcW_core hN I hi hr ok hnc hg ht he hs h fun D C s' m H' I' q hn f => ⟨m, hn, fun h'' sb => ?_⟩
  obtain ⟨f0, f1, f2, f3, f4, f5⟩ := f
  exact ⟨.ref D, H', I'.turned (t' := s'.toks) (fun b o hb e => (sb.2 b hb).trans e) f0 f1 f3 f4 f5, rfl, q⟩
end
end GenP
namespace GenP
open PySem PySem.Spec PyProof.Rows L2 GenW
section
variable {X : Cx} {k : Nat}
end
end GenP

/-! A method that is such a generator; its call; name = [.. for .. in g]. -/
namespace GenP
open PySem PySem.Spec PyProof.Rows L2 GenW My
open Sem (wp)
/-- the generator def at the address keeps the promise -/
def OkQA (P : Program) (w : World) (K : PySem.W.Frag) (mg : Str → Option Value) (base : Heap) (k : Nat) (f : Addr) (ps : List Str) (sp : SpQ3) : Prop :=
  ∃ fd : FuncData, GFnQ3 P w K mg base k f fd ps sp ∧ Binds K fd ps []
/-- the body: «for .. in iter: yield e», in every waking's context -/
structure PFy (R : Cx) (body : List Stmt) (wi : TI) (g : TG) (te : TE) : Prop where
  ex : ∃ tgt iter e yp pos fpos, body = [.For tgt iter [.Expr (.Yield (some e) yp) pos] [] fpos] ∧ (∀ (z : Shared) (H : Hp), PI (fX R z H) tgt iter wi) ∧ (∀ (z : Shared) (H : Hp), PG (fX R z H) tgt g) ∧ ∀ (z : Shared) (H : Hp), PE (fX R z H) e te
theorem pfy {R : Cx} {tgt iter e : Expr} {yp pos fpos : Pos} {wi : TI} {g : TG} {te : TE} (h1 : ∀ (z : Shared) (H : Hp), PI (fX R z H) tgt iter wi) (h2 : ∀ (z : Shared) (H : Hp), PG (fX R z H) tgt g) (h3 : ∀ (z : Shared) (H : Hp), PE (fX R z H) e te) :
    PFy R [.For tgt iter [.Expr (.Yield (some e) yp) pos] [] fpos] wi g te := ⟨⟨tgt, iter, e, yp, pos, fpos, rfl, h1, h2, h3⟩⟩
theorem okQA_of {P : Program} {w : World} {K : PySem.W.Frag} {mg : Str → Option Value} {base : Heap} {k : Nat} {x qual : Str} {params : Arguments} {body : List Stmt} {scope : Scope} {N ps : List Str} {sp : SpQ3} {f : Addr}
    (F : ∃ fd, FunD K x qual params body scope [] [] f fd) (S : GScope N ps scope)
    (hbd : ∃ tgt iter e yp pos fpos, body = [.For tgt iter [.Expr (.Yield (some e) yp) pos] [] fpos] ∧ ∀ (a : Addr) (cdv : Value) x, foldedSetIterable iter (envOfC qual scope a f cdv) x = pure x)
    (hi : ∀ (a : Addr) (cdv : Value), interactive (envOfC qual scope a f cdv) = false) (hloc : ∀ y ∈ scope.names, y.2 ≠ .cell ∧ y.2 ≠ .free)
    (hb : ∀ (kV doc pm : Value) (an : Option Addr) (cdv ct : Value) (us : List Value), us.length = ps.length → bindArgs (PySem.W.fnOf x qual params body scope .none kV doc pm an cdv ct) ⟨us, []⟩ = pure (ps.zip us))
    (len : ∀ vs H Q, sp vs H Q → vs.length = ps.length)
    (hbody : ∀ (cdv : Value) (A : Around) (outer : List Env) (s : Shared) (H H2 : Hp) (vs : List V) (Q : TQ3), Room k (A.deeper (envOfC qual scope s.heap.objs.size f cdv)) → sp vs H Q → Same H H2 →
      ∃ wi g te, PFy (gcxOf P w K mg base N qual scope f cdv A outer s H noX []) body wi g te ∧ wi (start N vs) H2 fun J H1 => Same H2 H1 ∧ ∃ n Gd Yd, n ≤ sizeLine ∧ (∀ j H2, j < n → Gd j H2 → J.go j H2 ∧ ∀ x1 H3, J.yld j H2 x1 H3 → g x1 (List.replicate N.length none) H3 fun σ2 H4 => te σ2 H4 fun x H5 => Yd j H2 x H5 ∧ ∀ b, H2 b ≠ none → H5 b ≠ none) ∧ (∀ H2, Gd n H2 → J.stop n H2) ∧ Gd 0 H1 ∧ Q H n Gd Yd H1) :
    OkQA P w K mg base (k + 1) f ps sp := by
  obtain ⟨fd, F⟩ := F
  obtain ⟨tgt, iter, e, yp, pos, fpos, rfl, hfold⟩ := hbd
  obtain ⟨oc, od, dV, kV, doc, pm, an, cdv, ct, osl, rfl, lk, hcd, hd, hk⟩ := id F.ex
  refine ⟨_, gfnq_for rfl lk hcd S (fun a => hi a cdv) hloc (fun a x => hfold a cdv x) len fun A outer s H H2 vs Q hr h hs => ?_, F.bindsN hb⟩
  obtain ⟨wi, g, te, ⟨tgt', iter', e', yp', pos', fpos', eb, h1, h2, h3⟩, h4⟩ := hbody cdv A outer s H H2 vs Q hr h hs
  injection eb with eb _
  injection eb with eb1 eb2 eb3 _ _
  injection eb3 with eb3 _
  injection eb3 with eb3 _
  injection eb3 with eb3 _
  injection eb3 with eb3
  subst eb1 eb2 eb3
  exact ⟨wi, g, te, h1, h2, h3, h4⟩
section
variable {X : Cx} {k : Nat} {f C : Addr} {fd : FuncData} {ps : List Str} {sp : SpQ3} {m : Str} {pos apos : Pos} {o : Expr} {ta : TE}
def tMethQ (C : Addr) (m : Str) (sp : SpQ3) (ta : TE) : TGq3 := fun σ H Q => ta σ H fun x H1 => ∃ a dx fs, x = .ref a ∧ H1 a = some (.ins C dx fs) ∧ fs.lookup m = none ∧ sp [x] H1 Q
/-- o.m() of a generator method -/
theorem calMQ0 {pl : Sem Bool} (O : OkQA X.prog X.w X.K X.mg X.base k f ps sp) (hr : Room k X.A) (c : Cls X.K C) (hm : Meth X.K C m f) (he : PE X o ta)
    (ht : eval (.Call (.Attribute o m apos) [] [] pos) X.env = (do
      let ov ← eval o X.env
      standAt apos.atName
      let (f, first) ← holding [ov] (getMethod ov m pl)
      callWith pos f first (backTo pos (starEach [] X.env)) (backToKw pos (keywordEach [] X.env))) := by rfl) :
    PGq3 X k (.Call (.Attribute o m apos) [] [] pos) (tMethQ C m sp ta) := by
  obtain ⟨fd, F, b⟩ := O
  refine ⟨fun pins s σ H Q I h => ?_⟩
  refine PySem.W.methodCall_KW (pl := pl) (thn (he.run pins s σ H _ I h) fun u s1 ⟨x, H1, I1, rx, a, dx, fs, ex, ea, l, q⟩ => ?_) ht
  subst ex
  obtain rfl : u = Value.ref a := rx
  refine getmeth_ok I1 ea c hm l ?_
  refine PySem.W.callWith_K0 (first := [.ref a]) I1.kIn hm.kp ?_
  have hl2 : ([Value.ref a] : List Value).length = ps.length := F.len _ _ _ q
  refine wpAny_call (codeAny_mono (F.run X.A X.stack s1 H1 ⟨[.ref a], []⟩ [.ref a] [.ref a] Q hr I1.env0 (by have := b s1 [.ref a] I1.kIn (by rw [List.length_append, List.length_nil]; exact hl2); rw [List.append_nil] at this; exact this) (.cons rfl .nil) q) fun rr s' hq => ?_)
  cases rr with
  | error e => exact False.elim hq
  | ok fl =>
    cases fl with
    | ret u => exact ⟨H1, s1, I1, hq⟩
    | next => exact False.elim hq
    | brk => exact False.elim hq
    | cont => exact False.elim hq
end
end GenP

/-! == of two instances by their class's own __eq__, where it is true. -/
namespace My
open PySem PySem.Spec PyProof.Rows L2
theorem op_eqO {X : Cx} {CX : CXT} {k : Nat} {C f : Addr} {ps : List Str} {R : Addr → Addr → Hp → Prop} {E : XK} (O : OkA X.prog X.w X.K X.mg X.base CX k f ps (spEq R)) (hr : Room k X.A) (hx : Passes CX X E) (m : Meth X.K C "__eq__" f) : OpR X (compareOp .Eq) (rEqG (DIns C R)) := by
  obtain ⟨fd, F, b⟩ := O
  exact op_eqG (rcG_ins F (ownM_of m).at_ (ownM_of m).fn b hx) hr
theorem kit_self (K : PySem.W.Frag) (t : Value) : PySem.W.kitOne K t t = some true := by
  unfold PySem.W.kitOne
  rw [if_pos]
  exact beq_self_eq_true t
end My
namespace My
open PySem PySem.Spec PyProof.Rows L2
def isiB (K : PySem.W.Frag) (x : Str) : Bool :=
  decide (PySem.W.findIn K (.ref (He.ga K x)) "__class__" = some (some (.builtin "object.__class__"))) && (decide (PySem.W.specialIn K (.builtin "object.__class__") "__get__" = some (some (.builtin "getset_descriptor.__get__"))) && (decide (PySem.W.takesIn K (.builtin "object.__class__") = some true) && decide (PySem.W.mroIn K (He.ga K x) (.type "object") = some true)))
structure IsiC (K : PySem.W.Frag) (C : Addr) : Prop where
  f : PySem.W.findIn K (.ref C) "__class__" = some (some (.builtin "object.__class__"))
  g : PySem.W.specialIn K (.builtin "object.__class__") "__get__" = some (some (.builtin "getset_descriptor.__get__"))
  t : PySem.W.takesIn K (.builtin "object.__class__") = some true
  m : PySem.W.mroIn K C (.type "object") = some true
theorem isiB_ok {K : PySem.W.Frag} {x : Str} (h : isiB K x = true) : IsiC K (He.ga K x) := by
  unfold isiB at h
  simp only [Bool.and_eq_true, decide_eq_true_eq] at h
  exact ⟨h.1, h.2.1, h.2.2.1, h.2.2.2⟩
theorem IsiC.ty {K : PySem.W.Frag} {H : Hp} {a C dx : Addr} {fs : List (Str × V)} (i : IsiC K C) (c : Cls K C) (h : H a = some (.ins C dx fs)) : TyX K H (.ref a) (.ref C) := .base (.ins h c i.f i.g i.t i.m)
end My
namespace My
open PySem PySem.Spec PyProof.Rows L2
/-- for .. in range(lo, hi, c) -/
theorem for_step {lo c : Int} {n : Nat} {g : TG} {tb : TS} {D : Ends} {σ : L2.St} {H : Hp} (Pv : Nat → L2.St → Hp → Prop) (h0 : Pv 0 σ H)
    (h1 : ∀ (i : Nat) (σ : L2.St) (H : Hp), i < n → Pv i σ H → g (V.int (lo + (i : Nat) * c)) σ H fun σ2 H2 => tb { nx := Pv (i + 1), rt := D.rt, bk := D.nx, ct := Pv (i + 1) } σ2 H2)
    (h2 : ∀ (σ : L2.St) (H : Hp), Pv n σ H → D.nx σ H) :
    ∃ W : Nat → Nat → L2.St → Hp → Prop, (∃ m, W 0 m σ H) ∧ ∀ (i m : Nat) (σ : L2.St) (H : Hp), W i m σ H → (Itc lo c n).stop i H ∧ D.nx σ H ∨ (Itc lo c n).go i H ∧ ∃ N : L2.St → Hp → Prop, (∀ (σ' : L2.St) (H' : Hp), N σ' H' → ∃ m', m' < m ∧ W (i + 1) m' σ' H') ∧ ∀ (x : V) (H' : Hp), (Itc lo c n).yld i H x H' → g x σ H' fun σ2 H2 => tb { nx := N, rt := D.rt, bk := D.nx, ct := N } σ2 H2 := by
  refine ⟨fun i m σ H => i ≤ n ∧ m = n - i ∧ Pv i σ H, ⟨n, Nat.zero_le _, rfl, h0⟩, fun i m σ H hw => ?_⟩
  obtain ⟨a, b, p⟩ := hw
  by_cases h : i < n
  · refine .inr ⟨h, Pv (i + 1), fun σ' H' hp => ⟨n - (i + 1), by omega, by omega, rfl, hp⟩, fun x H' hy => ?_⟩
    obtain ⟨e1, e2⟩ := hy
    subst e1 e2
    exact h1 i σ H' h p
  · have : i = n := by omega
    subst this
    exact .inl ⟨Nat.le_refl _, h2 σ H p⟩
end My
namespace My
open PySem PySem.Spec PyProof.Rows L2
theorem slT_cut {K : PySem.W.Frag} {H : Hp} {a : Addr} {xs : List V} {p q : Nat} {Q : VK} (hT : SqT K H a xs) (hp : p ≤ xs.length) (hq : p ≤ q) (h : ∀ H' d, Same H H' → SqT K H' d ((xs.drop p).take (q - p)) → Q (.ref d) H') : rSlA K (.ref a) (some (p : Int)) (some (q : Int)) H Q := by
  have e1 : HT.sIx xs.length 0 (some (p : Int)) = p := by
    show (if (p : Int) < 0 then ((p : Int) + (xs.length : Int)).toNat else min (p : Int).toNat xs.length) = p
    rw [if_neg (by omega), Int.toNat_natCast]
    omega
  have e2 : HT.sIx xs.length xs.length (some (q : Int)) = min q xs.length := by
    show (if (q : Int) < 0 then ((q : Int) + (xs.length : Int)).toNat else min (q : Int).toNat xs.length) = _
    rw [if_neg (by omega), Int.toNat_natCast]
  have e3 : (xs.drop p).take (min q xs.length - p) = (xs.drop p).take (q - p) := by
    rcases Nat.le_total q xs.length with z | z
    · rw [Nat.min_eq_left z]
    · rw [Nat.min_eq_right z, List.take_of_length_le (by rw [List.length_drop]; exact Nat.le_refl _), List.take_of_length_le (by rw [List.length_drop]; omega)]
  refine ⟨a, _, rfl, hT, fun e => ?_, fun e d nd => ?_⟩
  · rw [e1, e2] at e
    refine h H a (Same.refl H) ?_
    rw [e.1, List.drop_zero, List.take_of_length_le (by omega)]
    exact hT
  · refine h _ d (same_upd nd) (.inl (.inl ?_))
    rw [upd_same]
    unfold cutV
    rw [e1, e2, e3]
end My
namespace My
open PySem PySem.Spec PyProof.Rows L2
/-! ### the text of data keeps to signs that are code points -/
def LuL (l : List Nat) : Prop := ∀ c ∈ l, c < 1114112
def Lu (x : Str) : Prop := LuL x.cps.toList
theorem LuL.app {a b : List Nat} (h : LuL a) (g : LuL b) : LuL (a ++ b) := fun c hc => (List.mem_append.mp hc).elim (h c) (g c)
theorem Lu.app {a b : Str} (h : Lu a) (g : Lu b) : Lu (a ++ b) := fun c hc => (mem_cps_append.mp hc).elim (h c) (g c)
theorem lu_char (c : Char) : c.toNat < 1114112 := by
  rcases c.valid with h | h
  · exact Nat.lt_trans h (by decide)
  · exact h.2
theorem lu_ofString (s : String) : Lu (Str.ofString s) := by
  intro c hc
  rw [signs_ofString] at hc
  obtain ⟨ch, _, rfl⟩ := List.mem_map.mp hc
  exact lu_char ch
theorem lu_chr {q c : Nat} (hq : q < 1114112) (hc : c < 1114112) : LuL (Builtin.Str.reprChar q c) := by
  have hx : ∀ w : Nat, LuL (List.replicate (w - ((Nat.toDigits 16 c).map Char.toNat).length) 48 ++ (Nat.toDigits 16 c).map Char.toNat) := fun w => LuL.app (fun x h => by
    rw [(List.mem_replicate.mp h).2]
    decide) fun x h => by
      obtain ⟨ch, _, rfl⟩ := List.mem_map.mp h
      exact lu_char ch
  have two : ∀ k : Nat, k < 1114112 → LuL [92, k] := fun k hk x h => by
    simp only [List.mem_cons, List.not_mem_nil, or_false] at h
    rcases h with rfl | rfl
    · decide
    · exact hk
  have one : LuL [c] := fun x h => by rw [List.mem_singleton.mp h]; exact hc
  unfold Builtin.Str.reprChar
  dsimp only
  repeat' split
  all_goals first
    | exact two _ hc
    | exact two _ (by decide)
    | exact one
    | exact LuL.app (two _ (by decide)) (hx _)
theorem lu_fold {q : Nat} (hq : q < 1114112) : ∀ (l : List Nat) (acc : Array Nat), LuL l → LuL acc.toList → LuL (l.foldl (fun out c => out ++ (Builtin.Str.reprChar q c).toArray) acc).toList
  | [], _, _, h => h
  | c :: r, acc, hl, h => by
    refine lu_fold hq r _ (fun x hx => hl x (List.mem_cons_of_mem _ hx)) ?_
    rw [Array.toList_append]
    exact h.app (lu_chr hq (hl c List.mem_cons_self))
theorem lu_repr {x : Str} (h : Lu x) : Lu (reprText x) := by
  have hq : reprQuote x < 1114112 := by
    unfold reprQuote
    split <;> decide
  unfold Lu reprText
  rw [Array.toList_push, ← Array.foldl_toList]
  exact (lu_fold hq _ _ h (fun c hc => by
    rw [List.mem_singleton.mp hc]
    exact hq)).app fun c hc => by
      rw [List.mem_singleton.mp hc]
      exact hq
theorem lu_from : ∀ (ts : List Str) (k : Nat) (acc : Str), (∀ t ∈ ts, Lu t) → Lu acc → Lu (textFrom k acc ts)
  | [], _, _, _, h => h
  | t :: r, k, acc, ht, h => by
    refine lu_from r (k + 1) _ (fun x hx => ht x (List.mem_cons_of_mem _ hx)) ((h.app ?_).app (ht t List.mem_cons_self))
    split <;> exact lu_ofString _
theorem lu_join {ts : List Str} (h : ∀ t ∈ ts, Lu t) : Lu (Str.join ", " ts) := fun c hc => by
  rcases (mem_join _ c ts).mp hc with ⟨t, ht, hc⟩ | ⟨_, hc⟩
  · exact h t ht c hc
  · exact lu_ofString ", " c hc
mutual
theorem shown_lu : ∀ d : PyData, d.canLay0 = true → Lu d.shown
  | .none, _ => lu_ofString "None"
  | .bool b, _ => by
    cases b <;> exact lu_ofString _
  | .int i, _ => lu_ofString _
  | .str x, h => lu_repr fun c hc => by
    have h : PyData.strOk x = true := h
    unfold PyData.strOk at h
    rw [Array.all_eq_true_iff_forall_mem] at h
    exact of_decide_eq_true (h c (by simpa using hc))
  | .list xs, h => by
    show Lu (listText (PyData.shownAll xs))
    exact (lu_from _ 0 _ (shownAll_lu xs h) (lu_ofString "[")).app (lu_ofString "]")
  | .tuple xs, h => by
    show Lu (tupleText (PyData.shownAll xs))
    unfold tupleText
    exact ((lu_ofString "(").app (lu_join (shownAll_lu xs h))).app (lu_ofString _)
  | .dict kvs, h => nomatch h
theorem shownAll_lu : ∀ xs : List PyData, PyData.canLayAll0 xs = true → ∀ t ∈ PyData.shownAll xs, Lu t
  | [], _, _, z => nomatch z
  | x :: xs, h, t, ht => by
    have h' : x.canLay0 = true ∧ PyData.canLayAll0 xs = true := by simpa only [PyData.canLayAll0, Bool.and_eq_true] using h
    rcases List.mem_cons.mp (show t ∈ x.shown :: PyData.shownAll xs from ht) with rfl | z
    · exact shown_lu x h'.1
    · exact shownAll_lu xs h'.2 t z
end
theorem strOk_shown {d : PyData} (h : d.canLay0 = true) : PyData.strOk d.shown = true := by
  unfold PyData.strOk
  rw [Array.all_eq_true_iff_forall_mem]
  intro c hc
  exact decide_eq_true (shown_lu d h c (by simpa using hc))
theorem shaped_two {a b : Str} (e1 : PyData.strOk a = true) (e2 : PyData.strOk b = true) : SeqAt.shaped (.list [.str a, .str b]) = true := by
  unfold SeqAt.shaped
  show ((PyData.strOk a && (PyData.strOk b && true)) && decide (PyData.depth (.list [.str a, .str b]) ≤ 64)) = true
  rw [e1, e2]
  rfl
theorem eqv_two (a b : Str) : PyData.eqv (.list [.str a, .str b]) (.list [.str a, .str b]) = true := SeqAt.eqv_refl_plain _ rfl
theorem lay_ints (ns : List Int) : PyData.canLayAll0 (ns.map PyData.int) = true := by
  induction ns with
  | nil => rfl
  | cons a l ih => exact ih
theorem lay_all : ∀ {xs : List PyData}, (∀ x ∈ xs, x.canLay0 = true) → PyData.canLayAll0 xs = true
  | [], _ => rfl
  | x :: xs, h => by
    show (x.canLay0 && PyData.canLayAll0 xs) = true
    rw [h x List.mem_cons_self, lay_all fun y hy => h y (List.mem_cons_of_mem _ hy)]
    rfl
end My
namespace My
open PySem PySem.Spec PyProof.Rows L2
theorem strOk_lu {x : Str} (h : Lu x) : PyData.strOk x = true := by
  unfold PyData.strOk
  rw [Array.all_eq_true_iff_forall_mem]
  intro c hc
  exact decide_eq_true (h c (by simpa using hc))
end My

namespace K75
open PySem PySem.Spec PyProof.Rows My
open L2 hiding TupI
def top (i : Nat) : Stmt := PySem.Challenge.pw_ringpostfix_k75_whole_histories_and_new.main.body.getD i (.Pass ⟨0, 0, 0, 0⟩)
abbrev s__wall : Stmt := top 0
def d__wall : He.DefD := ⟨("_wall", none), "_wall", "_wall", defArgs s__wall, defBody s__wall, defScope s__wall, [], []⟩
abbrev s_NoBeginning_init : Stmt := inClass (top 6) 0
def d_NoBeginning_init : He.DefD := ⟨("NoBeginning", some "__init__"), "__init__", "NoBeginning.__init__", defArgs s_NoBeginning_init, defBody s_NoBeginning_init, defScope s_NoBeginning_init, [], []⟩
abbrev s_NoArity_init : Stmt := inClass (top 7) 0
def d_NoArity_init : He.DefD := ⟨("NoArity", some "__init__"), "__init__", "NoArity.__init__", defArgs s_NoArity_init, defBody s_NoArity_init, defScope s_NoArity_init, [], []⟩
abbrev s_TooLong_init : Stmt := inClass (top 8) 0
def d_TooLong_init : He.DefD := ⟨("TooLong", some "__init__"), "__init__", "TooLong.__init__", defArgs s_TooLong_init, defBody s_TooLong_init, defScope s_TooLong_init, [], []⟩
abbrev s_BadRing_init : Stmt := inClass (top 10) 0
def d_BadRing_init : He.DefD := ⟨("BadRing", some "__init__"), "__init__", "BadRing.__init__", defArgs s_BadRing_init, defBody s_BadRing_init, defScope s_BadRing_init, [], []⟩
abbrev s_NoBalance_init : Stmt := inClass (top 11) 0
def d_NoBalance_init : He.DefD := ⟨("NoBalance", some "__init__"), "__init__", "NoBalance.__init__", defArgs s_NoBalance_init, defBody s_NoBalance_init, defScope s_NoBalance_init, [], []⟩
abbrev s_BadEdit_init : Stmt := inClass (top 15) 0
def d_BadEdit_init : He.DefD := ⟨("BadEdit", some "__init__"), "__init__", "BadEdit.__init__", defArgs s_BadEdit_init, defBody s_BadEdit_init, defScope s_BadEdit_init, [], []⟩
abbrev s_Rejected_init : Stmt := inClass (top 16) 0
def d_Rejected_init : He.DefD := ⟨("Rejected", some "__init__"), "__init__", "Rejected.__init__", defArgs s_Rejected_init, defBody s_Rejected_init, defScope s_Rejected_init, [], []⟩
abbrev s_BadText_init : Stmt := inClass (top 18) 0
def d_BadText_init : He.DefD := ⟨("BadText", some "__init__"), "__init__", "BadText.__init__", defArgs s_BadText_init, defBody s_BadText_init, defScope s_BadText_init, [], []⟩
abbrev s_NoPlace_init : Stmt := inClass (top 19) 0
def d_NoPlace_init : He.DefD := ⟨("NoPlace", some "__init__"), "__init__", "NoPlace.__init__", defArgs s_NoPlace_init, defBody s_NoPlace_init, defScope s_NoPlace_init, [], []⟩
abbrev s_NoVersion_init : Stmt := inClass (top 20) 0
def d_NoVersion_init : He.DefD := ⟨("NoVersion", some "__init__"), "__init__", "NoVersion.__init__", defArgs s_NoVersion_init, defBody s_NoVersion_init, defScope s_NoVersion_init, [], []⟩
abbrev s_is_plain_integer : Stmt := top 22
abbrev N_is_plain_integer : List Str := ["value"]
theorem sc_is_plain_integer : FnScope N_is_plain_integer ["value"] (defScope s_is_plain_integer) := ⟨rfl, rfl, rfl, by decide +kernel, rfl, by decide +kernel, by decide +kernel⟩
def d_is_plain_integer : He.DefD := ⟨("is_plain_integer", none), "is_plain_integer", "is_plain_integer", defArgs s_is_plain_integer, defBody s_is_plain_integer, defScope s_is_plain_integer, [], []⟩
abbrev s_is_index : Stmt := top 23
abbrev N_is_index : List Str := ["value", "many"]
theorem sc_is_index : FnScope N_is_index ["value", "many"] (defScope s_is_index) := ⟨rfl, rfl, rfl, by decide +kernel, rfl, by decide +kernel, by decide +kernel⟩
def d_is_index : He.DefD := ⟨("is_index", none), "is_index", "is_index", defArgs s_is_index, defBody s_is_index, defScope s_is_index, [], []⟩
abbrev s_is_arity : Stmt := top 25
abbrev N_is_arity : List Str := ["value"]
theorem sc_is_arity : FnScope N_is_arity ["value"] (defScope s_is_arity) := ⟨rfl, rfl, rfl, by decide +kernel, rfl, by decide +kernel, by decide +kernel⟩
def d_is_arity : He.DefD := ⟨("is_arity", none), "is_arity", "is_arity", defArgs s_is_arity, defBody s_is_arity, defScope s_is_arity, [], []⟩
abbrev s_ring_error : Stmt := top 26
abbrev N_ring_error : List Str := ["value", "index", "item"]
theorem sc_ring_error : FnScope N_ring_error ["value"] (defScope s_ring_error) := ⟨rfl, rfl, rfl, by decide +kernel, rfl, by decide +kernel, by decide +kernel⟩
def d_ring_error : He.DefD := ⟨("ring_error", none), "ring_error", "ring_error", defArgs s_ring_error, defBody s_ring_error, defScope s_ring_error, [], []⟩
abbrev s_check_place : Stmt := top 27
abbrev N_check_place : List Str := ["ring", "place"]
theorem sc_check_place : FnScope N_check_place ["ring", "place"] (defScope s_check_place) := ⟨rfl, rfl, rfl, by decide +kernel, rfl, by decide +kernel, by decide +kernel⟩
def d_check_place : He.DefD := ⟨("check_place", none), "check_place", "check_place", defArgs s_check_place, defBody s_check_place, defScope s_check_place, [], []⟩
abbrev s_balance : Stmt := top 28
abbrev N_balance : List Str := ["row"]
theorem sc_balance : FnScope N_balance ["row"] (defScope s_balance) := ⟨rfl, rfl, rfl, by decide +kernel, rfl, by decide +kernel, by decide +kernel⟩
def d_balance : He.DefD := ⟨("balance", none), "balance", "balance", defArgs s_balance, defBody s_balance, defScope s_balance, [], []⟩
abbrev s_turned : Stmt := top 29
abbrev N_turned : List Str := ["ring", "place"]
theorem sc_turned : FnScope N_turned ["ring", "place"] (defScope s_turned) := ⟨rfl, rfl, rfl, by decide +kernel, rfl, by decide +kernel, by decide +kernel⟩
def d_turned : He.DefD := ⟨("turned", none), "turned", "turned", defArgs s_turned, defBody s_turned, defScope s_turned, [], []⟩
abbrev s_heights : Stmt := top 30
abbrev N_heights : List Str := ["ring", "place", "found", "height", "arity"]
theorem sc_heights : FnScope N_heights ["ring", "place"] (defScope s_heights) := ⟨rfl, rfl, rfl, by decide +kernel, rfl, by decide +kernel, by decide +kernel⟩
def d_heights : He.DefD := ⟨("heights", none), "heights", "heights", defArgs s_heights, defBody s_heights, defScope s_heights, [], []⟩
abbrev s_need : Stmt := top 31
abbrev N_need : List Str := ["ring", "place"]
theorem sc_need : FnScope N_need ["ring", "place"] (defScope s_need) := ⟨rfl, rfl, rfl, by decide +kernel, rfl, by decide +kernel, by decide +kernel⟩
def d_need : He.DefD := ⟨("need", none), "need", "need", defArgs s_need, defBody s_need, defScope s_need, [], []⟩
abbrev s_is_beginning : Stmt := top 33
abbrev N_is_beginning : List Str := ["ring", "place"]
theorem sc_is_beginning : FnScope N_is_beginning ["ring", "place"] (defScope s_is_beginning) := ⟨rfl, rfl, rfl, by decide +kernel, rfl, by decide +kernel, by decide +kernel⟩
def d_is_beginning : He.DefD := ⟨("is_beginning", none), "is_beginning", "is_beginning", defArgs s_is_beginning, defBody s_is_beginning, defScope s_is_beginning, [], []⟩
abbrev s_beginnings : Stmt := top 34
abbrev N_beginnings : List Str := ["ring", "place"]
theorem sc_beginnings : FnScope N_beginnings ["ring"] (defScope s_beginnings) := ⟨rfl, rfl, rfl, by decide +kernel, rfl, by decide +kernel, by decide +kernel⟩
def d_beginnings : He.DefD := ⟨("beginnings", none), "beginnings", "beginnings", defArgs s_beginnings, defBody s_beginnings, defScope s_beginnings, [], []⟩
abbrev s_check_gap : Stmt := top 37
abbrev N_check_gap : List Str := ["ring", "place"]
theorem sc_check_gap : FnScope N_check_gap ["ring", "place"] (defScope s_check_gap) := ⟨rfl, rfl, rfl, by decide +kernel, rfl, by decide +kernel, by decide +kernel⟩
def d_check_gap : He.DefD := ⟨("check_gap", none), "check_gap", "check_gap", defArgs s_check_gap, defBody s_check_gap, defScope s_check_gap, [], []⟩
abbrev s_with_arity : Stmt := top 38
abbrev N_with_arity : List Str := ["ring", "place", "arity"]
theorem sc_with_arity : FnScope N_with_arity ["ring", "place", "arity"] (defScope s_with_arity) := ⟨rfl, rfl, rfl, by decide +kernel, rfl, by decide +kernel, by decide +kernel⟩
def d_with_arity : He.DefD := ⟨("with_arity", none), "with_arity", "with_arity", defArgs s_with_arity, defBody s_with_arity, defScope s_with_arity, [], []⟩
abbrev s_with_token : Stmt := top 39
abbrev N_with_token : List Str := ["ring", "place", "arity"]
theorem sc_with_token : FnScope N_with_token ["ring", "place", "arity"] (defScope s_with_token) := ⟨rfl, rfl, rfl, by decide +kernel, rfl, by decide +kernel, by decide +kernel⟩
def d_with_token : He.DefD := ⟨("with_token", none), "with_token", "with_token", defArgs s_with_token, defBody s_with_token, defScope s_with_token, [], []⟩
abbrev s_without_token : Stmt := top 40
abbrev N_without_token : List Str := ["ring", "place"]
theorem sc_without_token : FnScope N_without_token ["ring", "place"] (defScope s_without_token) := ⟨rfl, rfl, rfl, by decide +kernel, rfl, by decide +kernel, by decide +kernel⟩
def d_without_token : He.DefD := ⟨("without_token", none), "without_token", "without_token", defArgs s_without_token, defBody s_without_token, defScope s_without_token, [], []⟩
abbrev s_check_arity : Stmt := top 42
abbrev N_check_arity : List Str := ["arity"]
theorem sc_check_arity : FnScope N_check_arity ["arity"] (defScope s_check_arity) := ⟨rfl, rfl, rfl, by decide +kernel, rfl, by decide +kernel, by decide +kernel⟩
def d_check_arity : He.DefD := ⟨("check_arity", none), "check_arity", "check_arity", defArgs s_check_arity, defBody s_check_arity, defScope s_check_arity, [], []⟩
abbrev s_put_token : Stmt := top 43
abbrev N_put_token : List Str := ["ring", "place", "arity"]
theorem sc_put_token : FnScope N_put_token ["ring", "place", "arity"] (defScope s_put_token) := ⟨rfl, rfl, rfl, by decide +kernel, rfl, by decide +kernel, by decide +kernel⟩
def d_put_token : He.DefD := ⟨("put_token", none), "put_token", "put_token", defArgs s_put_token, defBody s_put_token, defScope s_put_token, [], []⟩
abbrev s_insert_token : Stmt := top 44
abbrev N_insert_token : List Str := ["ring", "place", "arity"]
theorem sc_insert_token : FnScope N_insert_token ["ring", "place", "arity"] (defScope s_insert_token) := ⟨rfl, rfl, rfl, by decide +kernel, rfl, by decide +kernel, by decide +kernel⟩
def d_insert_token : He.DefD := ⟨("insert_token", none), "insert_token", "insert_token", defArgs s_insert_token, defBody s_insert_token, defScope s_insert_token, [], []⟩
abbrev s_edited : Stmt := top 45
abbrev N_edited : List Str := ["ring", "edit"]
theorem sc_edited : FnScope N_edited ["ring", "edit"] (defScope s_edited) := ⟨rfl, rfl, rfl, by decide +kernel, rfl, by decide +kernel, by decide +kernel⟩
def d_edited : He.DefD := ⟨("edited", none), "edited", "edited", defArgs s_edited, defBody s_edited, defScope s_edited, [], []⟩
abbrev s_parse_ring : Stmt := top 47
def d_parse_ring : He.DefD := ⟨("parse_ring", none), "parse_ring", "parse_ring", defArgs s_parse_ring, defBody s_parse_ring, defScope s_parse_ring, [], []⟩
abbrev s_Reel_init : Stmt := inClass (top 49) 2
abbrev N_Reel_init : List Str := ["self", "ring", "error"]
theorem sc_Reel_init : FnScope N_Reel_init ["self", "ring"] (defScope s_Reel_init) := ⟨rfl, rfl, rfl, by decide +kernel, rfl, by decide +kernel, by decide +kernel⟩
def d_Reel_init : He.DefD := ⟨("Reel", some "__init__"), "__init__", "Reel.__init__", defArgs s_Reel_init, defBody s_Reel_init, defScope s_Reel_init, [], []⟩
abbrev s_Reel_read : Stmt := inClass (top 49) 3
def d_Reel_read : He.DefD := ⟨("Reel", some "read"), "read", "Reel.read", defArgs s_Reel_read, defBody s_Reel_read, defScope s_Reel_read, [], []⟩
abbrev s_Reel_like : Stmt := inClass (top 49) 4
def d_Reel_like : He.DefD := ⟨("Reel", some "like"), "like", "Reel.like", defArgs s_Reel_like, defBody s_Reel_like, defScope s_Reel_like, [], []⟩
abbrev s_Reel_is_edit : Stmt := inClass (top 49) 5
abbrev N_Reel_is_edit : List Str := ["value", "arguments"]
theorem sc_Reel_is_edit : FnScope N_Reel_is_edit ["value"] (defScope s_Reel_is_edit) := ⟨rfl, rfl, rfl, by decide +kernel, rfl, by decide +kernel, by decide +kernel⟩
def d_Reel_is_edit : He.DefD := ⟨("Reel", some "is_edit"), "is_edit", "Reel.is_edit", defArgs s_Reel_is_edit, defBody s_Reel_is_edit, defScope s_Reel_is_edit, [], []⟩
abbrev s_Reel_ring : Stmt := inClass (top 49) 6
abbrev N_Reel_ring : List Str := ["self"]
theorem sc_Reel_ring : FnScope N_Reel_ring ["self"] (defScope s_Reel_ring) := ⟨rfl, rfl, rfl, by decide +kernel, rfl, by decide +kernel, by decide +kernel⟩
def d_Reel_ring : He.DefD := ⟨("Reel", some "ring"), "ring", "Reel.ring", defArgs s_Reel_ring, defBody s_Reel_ring, defScope s_Reel_ring, [], []⟩
abbrev s_Reel_version : Stmt := inClass (top 49) 7
abbrev N_Reel_version : List Str := ["self"]
theorem sc_Reel_version : FnScope N_Reel_version ["self"] (defScope s_Reel_version) := ⟨rfl, rfl, rfl, by decide +kernel, rfl, by decide +kernel, by decide +kernel⟩
def d_Reel_version : He.DefD := ⟨("Reel", some "version"), "version", "Reel.version", defArgs s_Reel_version, defBody s_Reel_version, defScope s_Reel_version, [], []⟩
abbrev s_Reel_beginnings : Stmt := inClass (top 49) 8
abbrev N_Reel_beginnings : List Str := ["self"]
theorem sc_Reel_beginnings : FnScope N_Reel_beginnings ["self"] (defScope s_Reel_beginnings) := ⟨rfl, rfl, rfl, by decide +kernel, rfl, by decide +kernel, by decide +kernel⟩
def d_Reel_beginnings : He.DefD := ⟨("Reel", some "beginnings"), "beginnings", "Reel.beginnings", defArgs s_Reel_beginnings, defBody s_Reel_beginnings, defScope s_Reel_beginnings, [], []⟩
abbrev s_Reel_start : Stmt := inClass (top 49) 9
def d_Reel_start : He.DefD := ⟨("Reel", some "start"), "start", "Reel.start", defArgs s_Reel_start, defBody s_Reel_start, defScope s_Reel_start, [], []⟩
abbrev s_Reel_start_set : Stmt := inClass (top 49) 10
def d_Reel_start_set : He.DefD := ⟨("Reel", some "start"), "start", "Reel.start", defArgs s_Reel_start_set, defBody s_Reel_start_set, defScope s_Reel_start_set, [], []⟩
abbrev s_Reel_check_idle : Stmt := inClass (top 49) 12
abbrev N_Reel_check_idle : List Str := ["self"]
theorem sc_Reel_check_idle : FnScope N_Reel_check_idle ["self"] (defScope s_Reel_check_idle) := ⟨rfl, rfl, rfl, by decide +kernel, rfl, by decide +kernel, by decide +kernel⟩
def d_Reel_check_idle : He.DefD := ⟨("Reel", some "check_idle"), "check_idle", "Reel.check_idle", defArgs s_Reel_check_idle, defBody s_Reel_check_idle, defScope s_Reel_check_idle, [], []⟩
abbrev s_Reel_check_result : Stmt := inClass (top 49) 13
abbrev N_Reel_check_result : List Str := ["self", "ring"]
theorem sc_Reel_check_result : FnScope N_Reel_check_result ["self", "ring"] (defScope s_Reel_check_result) := ⟨rfl, rfl, rfl, by decide +kernel, rfl, by decide +kernel, by decide +kernel⟩
def d_Reel_check_result : He.DefD := ⟨("Reel", some "check_result"), "check_result", "Reel.check_result", defArgs s_Reel_check_result, defBody s_Reel_check_result, defScope s_Reel_check_result, [], []⟩
abbrev s_Reel_settle : Stmt := inClass (top 49) 14
abbrev N_Reel_settle : List Str := ["self"]
theorem sc_Reel_settle : FnScope N_Reel_settle ["self"] (defScope s_Reel_settle) := ⟨rfl, rfl, rfl, by decide +kernel, rfl, by decide +kernel, by decide +kernel⟩
def d_Reel_settle : He.DefD := ⟨("Reel", some "settle"), "settle", "Reel.settle", defArgs s_Reel_settle, defBody s_Reel_settle, defScope s_Reel_settle, [], []⟩
abbrev s_Reel_do_edit : Stmt := inClass (top 49) 15
abbrev N_Reel_do_edit : List Str := ["self", "edit", "ring"]
theorem sc_Reel_do_edit : FnScope N_Reel_do_edit ["self", "edit"] (defScope s_Reel_do_edit) := ⟨rfl, rfl, rfl, by decide +kernel, rfl, by decide +kernel, by decide +kernel⟩
def d_Reel_do_edit : He.DefD := ⟨("Reel", some "do_edit"), "do_edit", "Reel.do_edit", defArgs s_Reel_do_edit, defBody s_Reel_do_edit, defScope s_Reel_do_edit, [], []⟩
abbrev s_Reel_put : Stmt := inClass (top 49) 16
abbrev N_Reel_put : List Str := ["self", "place", "arity"]
theorem sc_Reel_put : FnScope N_Reel_put ["self", "place", "arity"] (defScope s_Reel_put) := ⟨rfl, rfl, rfl, by decide +kernel, rfl, by decide +kernel, by decide +kernel⟩
def d_Reel_put : He.DefD := ⟨("Reel", some "put"), "put", "Reel.put", defArgs s_Reel_put, defBody s_Reel_put, defScope s_Reel_put, [], []⟩
abbrev s_Reel_insert : Stmt := inClass (top 49) 17
abbrev N_Reel_insert : List Str := ["self", "place", "arity"]
theorem sc_Reel_insert : FnScope N_Reel_insert ["self", "place", "arity"] (defScope s_Reel_insert) := ⟨rfl, rfl, rfl, by decide +kernel, rfl, by decide +kernel, by decide +kernel⟩
def d_Reel_insert : He.DefD := ⟨("Reel", some "insert"), "insert", "Reel.insert", defArgs s_Reel_insert, defBody s_Reel_insert, defScope s_Reel_insert, [], []⟩
abbrev s_Reel_remove : Stmt := inClass (top 49) 18
abbrev N_Reel_remove : List Str := ["self", "place"]
theorem sc_Reel_remove : FnScope N_Reel_remove ["self", "place"] (defScope s_Reel_remove) := ⟨rfl, rfl, rfl, by decide +kernel, rfl, by decide +kernel, by decide +kernel⟩
def d_Reel_remove : He.DefD := ⟨("Reel", some "remove"), "remove", "Reel.remove", defArgs s_Reel_remove, defBody s_Reel_remove, defScope s_Reel_remove, [], []⟩
abbrev s_Reel_undo : Stmt := inClass (top 49) 19
abbrev N_Reel_undo : List Str := ["self"]
theorem sc_Reel_undo : FnScope N_Reel_undo ["self"] (defScope s_Reel_undo) := ⟨rfl, rfl, rfl, by decide +kernel, rfl, by decide +kernel, by decide +kernel⟩
def d_Reel_undo : He.DefD := ⟨("Reel", some "undo"), "undo", "Reel.undo", defArgs s_Reel_undo, defBody s_Reel_undo, defScope s_Reel_undo, [], []⟩
abbrev s_Reel_checked_batch : Stmt := inClass (top 49) 20
abbrev N_Reel_checked_batch : List Str := ["self", "edits", "batch", "index", "item"]
theorem sc_Reel_checked_batch : FnScope N_Reel_checked_batch ["self", "edits"] (defScope s_Reel_checked_batch) := ⟨rfl, rfl, rfl, by decide +kernel, rfl, by decide +kernel, by decide +kernel⟩
def d_Reel_checked_batch : He.DefD := ⟨("Reel", some "checked_batch"), "checked_batch", "Reel.checked_batch", defArgs s_Reel_checked_batch, defBody s_Reel_checked_batch, defScope s_Reel_checked_batch, [], []⟩
abbrev s_Reel_do_step : Stmt := inClass (top 49) 21
abbrev N_Reel_do_step : List Str := ["self", "index", "edit"]
theorem sc_Reel_do_step : FnScope N_Reel_do_step ["self", "index", "edit"] (defScope s_Reel_do_step) := ⟨rfl, rfl, rfl, by decide +kernel, rfl, by decide +kernel, by decide +kernel⟩
def d_Reel_do_step : He.DefD := ⟨("Reel", some "do_step"), "do_step", "Reel.do_step", defArgs s_Reel_do_step, defBody s_Reel_do_step, defScope s_Reel_do_step, [], []⟩
abbrev s_Reel_run : Stmt := inClass (top 49) 22
abbrev N_Reel_run : List Str := ["self", "edits", "on_step", "batch", "rings", "done", "starts", "chosen", "version", "index", "edit"]
theorem sc_Reel_run : FnScope N_Reel_run ["self", "edits", "on_step"] (defScope s_Reel_run) := ⟨rfl, rfl, rfl, by decide +kernel, rfl, by decide +kernel, by decide +kernel⟩
def d_Reel_run : He.DefD := ⟨("Reel", some "run"), "run", "Reel.run", defArgs s_Reel_run, defBody s_Reel_run, defScope s_Reel_run, [], [("on_step", .non)]⟩
abbrev s_Reel_ring_at : Stmt := inClass (top 49) 23
abbrev N_Reel_ring_at : List Str := ["self", "version"]
theorem sc_Reel_ring_at : FnScope N_Reel_ring_at ["self", "version"] (defScope s_Reel_ring_at) := ⟨rfl, rfl, rfl, by decide +kernel, rfl, by decide +kernel, by decide +kernel⟩
def d_Reel_ring_at : He.DefD := ⟨("Reel", some "ring_at"), "ring_at", "Reel.ring_at", defArgs s_Reel_ring_at, defBody s_Reel_ring_at, defScope s_Reel_ring_at, [], []⟩
abbrev s_Reel_edits : Stmt := inClass (top 49) 24
abbrev N_Reel_edits : List Str := ["self"]
theorem sc_Reel_edits : FnScope N_Reel_edits ["self"] (defScope s_Reel_edits) := ⟨rfl, rfl, rfl, by decide +kernel, rfl, by decide +kernel, by decide +kernel⟩
def d_Reel_edits : He.DefD := ⟨("Reel", some "edits"), "edits", "Reel.edits", defArgs s_Reel_edits, defBody s_Reel_edits, defScope s_Reel_edits, [], []⟩
abbrev s_Reel_walk : Stmt := inClass (top 49) 25
abbrev N_Reel_walk : List Str := ["self", "version", "ring"]
theorem sc_Reel_walk : GScope N_Reel_walk ["self"] (defScope s_Reel_walk) := ⟨rfl, rfl, rfl, by decide +kernel, rfl, by decide +kernel, by decide +kernel⟩
def d_Reel_walk : He.DefD := ⟨("Reel", some "walk"), "walk", "Reel.walk", defArgs s_Reel_walk, defBody s_Reel_walk, defScope s_Reel_walk, [], []⟩
abbrev s_Reel_copy : Stmt := inClass (top 49) 26
def d_Reel_copy : He.DefD := ⟨("Reel", some "copy"), "copy", "Reel.copy", defArgs s_Reel_copy, defBody s_Reel_copy, defScope s_Reel_copy, [], []⟩
abbrev s_Reel_len : Stmt := inClass (top 49) 27
abbrev N_Reel_len : List Str := ["self"]
theorem sc_Reel_len : FnScope N_Reel_len ["self"] (defScope s_Reel_len) := ⟨rfl, rfl, rfl, by decide +kernel, rfl, by decide +kernel, by decide +kernel⟩
def d_Reel_len : He.DefD := ⟨("Reel", some "__len__"), "__len__", "Reel.__len__", defArgs s_Reel_len, defBody s_Reel_len, defScope s_Reel_len, [], []⟩
abbrev s_Reel_str : Stmt := inClass (top 49) 28
abbrev N_Reel_str : List Str := ["self"]
theorem sc_Reel_str : FnScope N_Reel_str ["self"] (defScope s_Reel_str) := ⟨rfl, rfl, rfl, by decide +kernel, rfl, by decide +kernel, by decide +kernel⟩
def d_Reel_str : He.DefD := ⟨("Reel", some "__str__"), "__str__", "Reel.__str__", defArgs s_Reel_str, defBody s_Reel_str, defScope s_Reel_str, [], []⟩
abbrev s_Reel_eq : Stmt := inClass (top 49) 29
abbrev N_Reel_eq : List Str := ["self", "other"]
theorem sc_Reel_eq : FnScope N_Reel_eq ["self", "other"] (defScope s_Reel_eq) := ⟨rfl, rfl, rfl, by decide +kernel, rfl, by decide +kernel, by decide +kernel⟩
def d_Reel_eq : He.DefD := ⟨("Reel", some "__eq__"), "__eq__", "Reel.__eq__", defArgs s_Reel_eq, defBody s_Reel_eq, defScope s_Reel_eq, [], []⟩
abbrev s__law_stream : Stmt := top 51
abbrev N__law_stream : List Str := ["_law_script", "_law_cells", "_law_cell"]
theorem sc__law_stream : FnScope N__law_stream ["_law_script"] (defScope s__law_stream) := ⟨rfl, rfl, rfl, by decide +kernel, rfl, by decide +kernel, by decide +kernel⟩
def d__law_stream : He.DefD := ⟨("_law_stream", none), "_law_stream", "_law_stream", defArgs s__law_stream, defBody s__law_stream, defScope s__law_stream, [], []⟩
abbrev s__law_draw : Stmt := top 52
abbrev N__law_draw : List Str := ["_law_stream_here", "_law_many", "_law_rest", "_law_turn", "_law_cell", "_law_mixed"]
theorem sc__law_draw : FnScope N__law_draw ["_law_stream_here", "_law_many"] (defScope s__law_draw) := ⟨rfl, rfl, rfl, by decide +kernel, rfl, by decide +kernel, by decide +kernel⟩
def d__law_draw : He.DefD := ⟨("_law_draw", none), "_law_draw", "_law_draw", defArgs s__law_draw, defBody s__law_draw, defScope s__law_draw, [], []⟩
abbrev s__law_pick : Stmt := top 53
abbrev N__law_pick : List Str := ["_law_stream_here", "_law_items"]
theorem sc__law_pick : FnScope N__law_pick ["_law_stream_here", "_law_items"] (defScope s__law_pick) := ⟨rfl, rfl, rfl, by decide +kernel, rfl, by decide +kernel, by decide +kernel⟩
def d__law_pick : He.DefD := ⟨("_law_pick", none), "_law_pick", "_law_pick", defArgs s__law_pick, defBody s__law_pick, defScope s__law_pick, [], []⟩
abbrev s__law_whole : Stmt := top 54
abbrev N__law_whole : List Str := ["_law_value", "_law_low", "_law_high"]
theorem sc__law_whole : FnScope N__law_whole ["_law_value", "_law_low", "_law_high"] (defScope s__law_whole) := ⟨rfl, rfl, rfl, by decide +kernel, rfl, by decide +kernel, by decide +kernel⟩
def d__law_whole : He.DefD := ⟨("_law_whole", none), "_law_whole", "_law_whole", defArgs s__law_whole, defBody s__law_whole, defScope s__law_whole, [], []⟩
abbrev s__law_ring : Stmt := top 55
abbrev N__law_ring : List Str := ["_law_stream_here", "_law_most", "_law_menus", "_law_menu", "_law_size", "_law_tokens", "_law_k", "_law_goal", "_law_turn", "_law_place", "_law_over"]
theorem sc__law_ring : FnScope N__law_ring ["_law_stream_here", "_law_most"] (defScope s__law_ring) := ⟨rfl, rfl, rfl, by decide +kernel, rfl, by decide +kernel, by decide +kernel⟩
def d__law_ring : He.DefD := ⟨("_law_ring", none), "_law_ring", "_law_ring", defArgs s__law_ring, defBody s__law_ring, defScope s__law_ring, [], []⟩
abbrev s__law_odd : Stmt := top 56
abbrev N__law_odd : List Str := ["_law_stream_here", "_law_some"]
theorem sc__law_odd : FnScope N__law_odd ["_law_stream_here"] (defScope s__law_odd) := ⟨rfl, rfl, rfl, by decide +kernel, rfl, by decide +kernel, by decide +kernel⟩
def d__law_odd : He.DefD := ⟨("_law_odd", none), "_law_odd", "_law_odd", defArgs s__law_odd, defBody s__law_odd, defScope s__law_odd, [], []⟩
abbrev s__law_name : Stmt := top 57
abbrev N__law_name : List Str := ["_law_error", "_law_names", "_law_flags", "_law_bases"]
theorem sc__law_name : FnScope N__law_name ["_law_error"] (defScope s__law_name) := ⟨rfl, rfl, rfl, by decide +kernel, rfl, by decide +kernel, by decide +kernel⟩
def d__law_name : He.DefD := ⟨("_law_name", none), "_law_name", "_law_name", defArgs s__law_name, defBody s__law_name, defScope s__law_name, [], []⟩
abbrev s__law_field : Stmt := top 58
abbrev N__law_field : List Str := ["_law_error"]
theorem sc__law_field : FnScope N__law_field ["_law_error"] (defScope s__law_field) := ⟨rfl, rfl, rfl, by decide +kernel, rfl, by decide +kernel, by decide +kernel⟩
def d__law_field : He.DefD := ⟨("_law_field", none), "_law_field", "_law_field", defArgs s__law_field, defBody s__law_field, defScope s__law_field, [], []⟩
abbrev s__law_apply : Stmt := top 59
abbrev N__law_apply : List Str := ["_law_reel", "_law_edit_here"]
theorem sc__law_apply : FnScope N__law_apply ["_law_reel", "_law_edit_here"] (defScope s__law_apply) := ⟨rfl, rfl, rfl, by decide +kernel, rfl, by decide +kernel, by decide +kernel⟩
def d__law_apply : He.DefD := ⟨("_law_apply", none), "_law_apply", "_law_apply", defArgs s__law_apply, defBody s__law_apply, defScope s__law_apply, [], []⟩
abbrev s__law_did : Stmt := top 60
abbrev N__law_did : List Str := ["_law_reel", "_law_edit_here", "_law_error"]
theorem sc__law_did : FnScope N__law_did ["_law_reel", "_law_edit_here"] (defScope s__law_did) := ⟨rfl, rfl, rfl, by decide +kernel, rfl, by decide +kernel, by decide +kernel⟩
def d__law_did : He.DefD := ⟨("_law_did", none), "_law_did", "_law_did", defArgs s__law_did, defBody s__law_did, defScope s__law_did, [], []⟩
abbrev s__law_due : Stmt := top 61
abbrev N__law_due : List Str := ["_law_ring_here", "_law_edit_here", "_law_word", "_law_place"]
theorem sc__law_due : FnScope N__law_due ["_law_ring_here", "_law_edit_here"] (defScope s__law_due) := ⟨rfl, rfl, rfl, by decide +kernel, rfl, by decide +kernel, by decide +kernel⟩
def d__law_due : He.DefD := ⟨("_law_due", none), "_law_due", "_law_due", defArgs s__law_due, defBody s__law_due, defScope s__law_due, [], []⟩
abbrev s__law_seen : Stmt := top 62
abbrev N__law_seen : List Str := ["_law_reel"]
theorem sc__law_seen : FnScope N__law_seen ["_law_reel"] (defScope s__law_seen) := ⟨rfl, rfl, rfl, by decide +kernel, rfl, by decide +kernel, by decide +kernel⟩
def d__law_seen : He.DefD := ⟨("_law_seen", none), "_law_seen", "_law_seen", defArgs s__law_seen, defBody s__law_seen, defScope s__law_seen, [], []⟩
abbrev s__law_edit : Stmt := top 63
abbrev N__law_edit : List Str := ["_law_stream_here", "_law_ring_here", "_law_word", "_law_place"]
theorem sc__law_edit : FnScope N__law_edit ["_law_stream_here", "_law_ring_here"] (defScope s__law_edit) := ⟨rfl, rfl, rfl, by decide +kernel, rfl, by decide +kernel, by decide +kernel⟩
def d__law_edit : He.DefD := ⟨("_law_edit", none), "_law_edit", "_law_edit", defArgs s__law_edit, defBody s__law_edit, defScope s__law_edit, [], []⟩
abbrev s__law_bent_edit : Stmt := top 64
abbrev N__law_bent_edit : List Str := ["_law_stream_here", "_law_edit_here", "_law_turn", "_law_spot"]
theorem sc__law_bent_edit : FnScope N__law_bent_edit ["_law_stream_here", "_law_edit_here"] (defScope s__law_bent_edit) := ⟨rfl, rfl, rfl, by decide +kernel, rfl, by decide +kernel, by decide +kernel⟩
def d__law_bent_edit : He.DefD := ⟨("_law_bent_edit", none), "_law_bent_edit", "_law_bent_edit", defArgs s__law_bent_edit, defBody s__law_bent_edit, defScope s__law_bent_edit, [], []⟩
abbrev s__law_ran : Stmt := top 65
abbrev N__law_ran : List Str := ["_law_reel", "_law_edits", "_law_error"]
theorem sc__law_ran : FnScope N__law_ran ["_law_reel", "_law_edits"] (defScope s__law_ran) := ⟨rfl, rfl, rfl, by decide +kernel, rfl, by decide +kernel, by decide +kernel⟩
def d__law_ran : He.DefD := ⟨("_law_ran", none), "_law_ran", "_law_ran", defArgs s__law_ran, defBody s__law_ran, defScope s__law_ran, [], []⟩
abbrev s__law_batch : Stmt := top 66
abbrev N__law_batch : List Str := ["_law_stream_here", "_law_ring_here", "_law_many", "_law_found", "_law_k", "_law_due_here"]
theorem sc__law_batch : FnScope N__law_batch ["_law_stream_here", "_law_ring_here", "_law_many"] (defScope s__law_batch) := ⟨rfl, rfl, rfl, by decide +kernel, rfl, by decide +kernel, by decide +kernel⟩
def d__law_batch : He.DefD := ⟨("_law_batch", none), "_law_batch", "_law_batch", defArgs s__law_batch, defBody s__law_batch, defScope s__law_batch, [], []⟩
abbrev s__law_all : Stmt := top 67
abbrev N__law_all : List Str := ["_law_reel", "_law_version", "_law_ring_here"]
theorem sc__law_all : FnScope N__law_all ["_law_reel"] (defScope s__law_all) := ⟨rfl, rfl, rfl, by decide +kernel, rfl, by decide +kernel, by decide +kernel⟩
def d__law_all : He.DefD := ⟨("_law_all", none), "_law_all", "_law_all", defArgs s__law_all, defBody s__law_all, defScope s__law_all, [], []⟩
abbrev s__law_again : Stmt := top 68
abbrev N__law_again : List Str := ["_law_ring_here", "_law_edits", "_law_way", "_law_reel", "_law_edit_here", "_law_k"]
theorem sc__law_again : FnScope N__law_again ["_law_ring_here", "_law_edits", "_law_way"] (defScope s__law_again) := ⟨rfl, rfl, rfl, by decide +kernel, rfl, by decide +kernel, by decide +kernel⟩
def d__law_again : He.DefD := ⟨("_law_again", none), "_law_again", "_law_again", defArgs s__law_again, defBody s__law_again, defScope s__law_again, [], []⟩
abbrev s__law_new_right : Stmt := top 69
abbrev N__law_new_right : List Str := ["_law_reel", "_law_new", "_law_version", "_law_ring_here"]
theorem sc__law_new_right : FnScope N__law_new_right ["_law_reel"] (defScope s__law_new_right) := ⟨rfl, rfl, rfl, by decide +kernel, rfl, by decide +kernel, by decide +kernel⟩
def d__law_new_right : He.DefD := ⟨("_law_new_right", none), "_law_new_right", "_law_new_right", defArgs s__law_new_right, defBody s__law_new_right, defScope s__law_new_right, [], []⟩
abbrev s_law : Stmt := top 70
abbrev N_law : List Str := ["_law_script", "_law_stream_here", "_law_ring_here", "_law_reel", "_law_other", "_law_k", "_law_edit_here", "_law_way"]
theorem sc_law : FnScope N_law ["_law_script"] (defScope s_law) := ⟨rfl, rfl, rfl, by decide +kernel, rfl, by decide +kernel, by decide +kernel⟩
def d_law : He.DefD := ⟨("law", none), "law", "law", defArgs s_law, defBody s_law, defScope s_law, [], []⟩
def fn : List He.DefD := [d__wall, d_NoBeginning_init, d_NoArity_init, d_TooLong_init, d_BadRing_init, d_NoBalance_init, d_BadEdit_init, d_Rejected_init, d_BadText_init, d_NoPlace_init, d_NoVersion_init, d_is_plain_integer, d_is_index, d_is_arity, d_ring_error, d_check_place, d_balance, d_turned, d_heights, d_need, d_is_beginning, d_beginnings, d_check_gap, d_with_arity, d_with_token, d_without_token, d_check_arity, d_put_token, d_insert_token, d_edited, d_parse_ring, d_Reel_init, d_Reel_check_idle, d_Reel_check_result, d_Reel_settle, d_Reel_do_edit, d_Reel_put, d_Reel_insert, d_Reel_remove, d_Reel_undo, d_Reel_checked_batch, d_Reel_do_step, d_Reel_run, d_Reel_ring_at, d_Reel_edits, d_Reel_walk, d_Reel_copy, d_Reel_len, d_Reel_str, d_Reel_eq, d__law_stream, d__law_draw, d__law_pick, d__law_whole, d__law_ring, d__law_odd, d__law_name, d__law_field, d__law_apply, d__law_did, d__law_due, d__law_seen, d__law_edit, d__law_bent_edit, d__law_ran, d__law_batch, d__law_all, d__law_again, d__law_new_right, d_law]
def gs : Gs := [("Reel", ("read", 2), d_Reel_read), ("Reel", ("like", 2), d_Reel_like), ("Reel", ("is_edit", 3), d_Reel_is_edit), ("Reel", ("ring", 0), d_Reel_ring), ("Reel", ("version", 0), d_Reel_version), ("Reel", ("beginnings", 0), d_Reel_beginnings), ("Reel", ("start", 0), d_Reel_start), ("Reel", ("start", 1), d_Reel_start_set)]
def fa : List He.Fa := [.glo "_wall", .glo "is_plain_integer", .glo "is_index", .glo "is_arity", .glo "ring_error", .glo "check_place", .glo "balance", .glo "turned", .glo "heights", .glo "need", .glo "is_beginning", .glo "beginnings", .glo "check_gap", .glo "with_arity", .glo "with_token", .glo "without_token", .glo "check_arity", .glo "put_token", .glo "insert_token", .glo "edited", .glo "parse_ring", .glo "_law_stream", .glo "_law_draw", .glo "_law_pick", .glo "_law_whole", .glo "_law_ring", .glo "_law_odd", .glo "_law_name", .glo "_law_field", .glo "_law_apply", .glo "_law_did", .glo "_law_due", .glo "_law_seen", .glo "_law_edit", .glo "_law_bent_edit", .glo "_law_ran", .glo "_law_batch", .glo "_law_all", .glo "_law_again", .glo "_law_new_right", .glo "law", .glo "RingError", .glo "NoBeginning", .glo "NoArity", .glo "TooLong", .glo "LastToken", .glo "BadRing", .glo "NoBalance", .glo "TooManyEdits", .glo "NothingToUndo", .glo "BadEdits", .glo "BadEdit", .glo "Rejected", .glo "Busy", .glo "BadText", .glo "NoPlace", .glo "NoVersion", .glo "Reel", .free "len", .free "sum", .free "min", .free "max", .free "abs", .free "repr", .free "range", .free "tuple", .free "list", .free "int", .free "bool", .free "isinstance", .free "enumerate", .free "str", .free "ValueError", .free "LookupError", .int "MAX_ARITY" 5, .int "MAX_TOKENS" 24, .int "BATCH" 20, .glo "beginnings_beginnings", .cls "Reel", .mkr "Reel", .noat "Reel" "rings", .noat "Reel" "done", .noat "Reel" "starts", .noat "Reel" "chosen", .noat "Reel" "busy", .meth "Reel" "__init__", .meth "Reel" "check_idle", .meth "Reel" "check_result", .meth "Reel" "settle", .meth "Reel" "do_edit", .meth "Reel" "put", .meth "Reel" "insert", .meth "Reel" "remove", .meth "Reel" "undo", .meth "Reel" "checked_batch", .meth "Reel" "do_step", .meth "Reel" "run", .meth "Reel" "ring_at", .meth "Reel" "edits", .meth "Reel" "walk", .meth "Reel" "copy", .meth "Reel" "__len__", .meth "Reel" "__str__", .meth "Reel" "__eq__"]
def exq (K : PySem.W.Frag) : Bool := excB K "NoBeginning" "value" "ValueError.__new__" veB && (excB K "NoArity" "value" "ValueError.__new__" veB && (excB K "TooLong" "limit" "ValueError.__new__" veB && (excB K "BadRing" "error" "ValueError.__new__" veB && (excB K "BadEdit" "index" "ValueError.__new__" veB && (excB K "Rejected" "index" "ValueError.__new__" veB && (excB K "BadText" "index" "ValueError.__new__" veB && (excB K "NoPlace" "value" "LookupError.__new__" leB && (excB K "NoVersion" "value" "LookupError.__new__" leB && (decide (He.ga K "beginnings_beginnings" = He.ga K "beginnings") && (propB K "Reel" "ring" && (propB K "Reel" "version" && (propB K "Reel" "beginnings" && (propB K "Reel" "start" && (setB K "Reel" "start" && (cmiB K "Reel" "read" && (cmiB K "Reel" "like" && (smiB K "Reel" "is_edit" && (isiB K "Reel" && (crdB K "Reel" && (conB K "Reel" "MOST_EDITS" 60 && (cvtB K "Reel" "WORDS" ["put", "insert", "remove"] && (exc0B K "LastToken" "ValueError.__new__" veB && (exc0B K "TooManyEdits" "ValueError.__new__" veB && (exc0B K "NothingToUndo" "ValueError.__new__" veB && (exc0B K "Busy" "ValueError.__new__" veB && (exc0B K "BadEdits" "ValueError.__new__" veB && (clsB K "TooLong" && (nameB K (He.ga K "TooLong") 11 && (kindB K (He.ga K "TooLong") 2 && (exmB K (He.ga K "TooLong") && (fldB K "TooLong" "limit" && (clsB K "LastToken" && (nameB K (He.ga K "LastToken") 5 && (kindB K (He.ga K "LastToken") 5 && (exmB K (He.ga K "LastToken") && (clsB K "NoPlace" && (nameB K (He.ga K "NoPlace") 13 && (kindB K (He.ga K "NoPlace") 0 && (exmB K (He.ga K "NoPlace") && (fldB K "NoPlace" "value" && (clsB K "NoArity" && (nameB K (He.ga K "NoArity") 6 && (kindB K (He.ga K "NoArity") 0 && (exmB K (He.ga K "NoArity") && (fldB K "NoArity" "value" && (clsB K "TooManyEdits" && (nameB K (He.ga K "TooManyEdits") 12 && (kindB K (He.ga K "TooManyEdits") 5 && (exmB K (He.ga K "TooManyEdits") && (clsB K "NothingToUndo" && (nameB K (He.ga K "NothingToUndo") 9 && (kindB K (He.ga K "NothingToUndo") 5 && (exmB K (He.ga K "NothingToUndo") && (clsB K "Busy" && (nameB K (He.ga K "Busy") 4 && (kindB K (He.ga K "Busy") 5 && (exmB K (He.ga K "Busy") && (clsB K "BadRing" && (nameB K (He.ga K "BadRing") 2 && (kindB K (He.ga K "BadRing") 4 && (exmB K (He.ga K "BadRing") && (fldB K "BadRing" "error" && (clsB K "NoBeginning" && (nameB K (He.ga K "NoBeginning") 8 && (kindB K (He.ga K "NoBeginning") 0 && (exmB K (He.ga K "NoBeginning") && (fldB K "NoBeginning" "value" && (clsB K "BadEdit" && (nameB K (He.ga K "BadEdit") 0 && (kindB K (He.ga K "BadEdit") 1 && (exmB K (He.ga K "BadEdit") && (fldB K "BadEdit" "index" && (clsB K "BadEdits" && (nameB K (He.ga K "BadEdits") 1 && (kindB K (He.ga K "BadEdits") 5 && (exmB K (He.ga K "BadEdits") && (clsB K "Rejected" && (nameB K (He.ga K "Rejected") 10 && (kindB K (He.ga K "Rejected") 1 && (exmB K (He.ga K "Rejected") && (fldB K "Rejected" "index" && (clsB K "NoVersion" && (nameB K (He.ga K "NoVersion") 14 && (kindB K (He.ga K "NoVersion") 0 && (decide (PySem.W.exmAny K (.ref (He.ga K "NoVersion")) [.ref (He.ga K "RingError"), .ref (He.ga K "NoVersion")] = some true) && (fldB K "NoVersion" "value"))))))))))))))))))))))))))))))))))))))))))))))))))))))))))))))))))))))))))))))))))))))
structure Tx (K : PySem.W.Frag) (mg : Str → Option Value) : Prop where
  at_ : ∃ h : Heap, K.In h ∧ h.Ns mainGlobals mg
  c : He.SaysD fa fn K
  ex2 : (exq K && gB K gs) = true
  gv : gs.map (fun q => fnA K (gAt K q)) = gs.map fun q => q.2.2.val
theorem Tx.ex {K : PySem.W.Frag} {mg : Str → Option Value} (T : Tx K mg) : exq K = true := (He.ba T.ex2).1
section
variable {K : PySem.W.Frag} {mg : Str → Option Value}
theorem Tx.F_Reel_init (T : Tx K mg) : ∃ fd, FunD K "__init__" "Reel.__init__" (defArgs s_Reel_init) (defBody s_Reel_init) (defScope s_Reel_init) [] [] (He.ma K (He.ga K "Reel") "__init__") fd := T.c.def_ 31 (d := d_Reel_init) rfl
theorem Tx.F_Reel_check_idle (T : Tx K mg) : ∃ fd, FunD K "check_idle" "Reel.check_idle" (defArgs s_Reel_check_idle) (defBody s_Reel_check_idle) (defScope s_Reel_check_idle) [] [] (He.ma K (He.ga K "Reel") "check_idle") fd := T.c.def_ 32 (d := d_Reel_check_idle) rfl
theorem Tx.F_Reel_check_result (T : Tx K mg) : ∃ fd, FunD K "check_result" "Reel.check_result" (defArgs s_Reel_check_result) (defBody s_Reel_check_result) (defScope s_Reel_check_result) [] [] (He.ma K (He.ga K "Reel") "check_result") fd := T.c.def_ 33 (d := d_Reel_check_result) rfl
theorem Tx.F_Reel_settle (T : Tx K mg) : ∃ fd, FunD K "settle" "Reel.settle" (defArgs s_Reel_settle) (defBody s_Reel_settle) (defScope s_Reel_settle) [] [] (He.ma K (He.ga K "Reel") "settle") fd := T.c.def_ 34 (d := d_Reel_settle) rfl
theorem Tx.F_Reel_do_edit (T : Tx K mg) : ∃ fd, FunD K "do_edit" "Reel.do_edit" (defArgs s_Reel_do_edit) (defBody s_Reel_do_edit) (defScope s_Reel_do_edit) [] [] (He.ma K (He.ga K "Reel") "do_edit") fd := T.c.def_ 35 (d := d_Reel_do_edit) rfl
theorem Tx.F_Reel_put (T : Tx K mg) : ∃ fd, FunD K "put" "Reel.put" (defArgs s_Reel_put) (defBody s_Reel_put) (defScope s_Reel_put) [] [] (He.ma K (He.ga K "Reel") "put") fd := T.c.def_ 36 (d := d_Reel_put) rfl
theorem Tx.F_Reel_insert (T : Tx K mg) : ∃ fd, FunD K "insert" "Reel.insert" (defArgs s_Reel_insert) (defBody s_Reel_insert) (defScope s_Reel_insert) [] [] (He.ma K (He.ga K "Reel") "insert") fd := T.c.def_ 37 (d := d_Reel_insert) rfl
theorem Tx.F_Reel_remove (T : Tx K mg) : ∃ fd, FunD K "remove" "Reel.remove" (defArgs s_Reel_remove) (defBody s_Reel_remove) (defScope s_Reel_remove) [] [] (He.ma K (He.ga K "Reel") "remove") fd := T.c.def_ 38 (d := d_Reel_remove) rfl
theorem Tx.F_Reel_undo (T : Tx K mg) : ∃ fd, FunD K "undo" "Reel.undo" (defArgs s_Reel_undo) (defBody s_Reel_undo) (defScope s_Reel_undo) [] [] (He.ma K (He.ga K "Reel") "undo") fd := T.c.def_ 39 (d := d_Reel_undo) rfl
theorem Tx.F_Reel_checked_batch (T : Tx K mg) : ∃ fd, FunD K "checked_batch" "Reel.checked_batch" (defArgs s_Reel_checked_batch) (defBody s_Reel_checked_batch) (defScope s_Reel_checked_batch) [] [] (He.ma K (He.ga K "Reel") "checked_batch") fd := T.c.def_ 40 (d := d_Reel_checked_batch) rfl
theorem Tx.F_Reel_do_step (T : Tx K mg) : ∃ fd, FunD K "do_step" "Reel.do_step" (defArgs s_Reel_do_step) (defBody s_Reel_do_step) (defScope s_Reel_do_step) [] [] (He.ma K (He.ga K "Reel") "do_step") fd := T.c.def_ 41 (d := d_Reel_do_step) rfl
theorem Tx.F_Reel_run (T : Tx K mg) : ∃ fd, FunD K "run" "Reel.run" (defArgs s_Reel_run) (defBody s_Reel_run) (defScope s_Reel_run) [] [("on_step", .non)] (He.ma K (He.ga K "Reel") "run") fd := T.c.def_ 42 (d := d_Reel_run) rfl
theorem Tx.F_Reel_ring_at (T : Tx K mg) : ∃ fd, FunD K "ring_at" "Reel.ring_at" (defArgs s_Reel_ring_at) (defBody s_Reel_ring_at) (defScope s_Reel_ring_at) [] [] (He.ma K (He.ga K "Reel") "ring_at") fd := T.c.def_ 43 (d := d_Reel_ring_at) rfl
theorem Tx.F_Reel_edits (T : Tx K mg) : ∃ fd, FunD K "edits" "Reel.edits" (defArgs s_Reel_edits) (defBody s_Reel_edits) (defScope s_Reel_edits) [] [] (He.ma K (He.ga K "Reel") "edits") fd := T.c.def_ 44 (d := d_Reel_edits) rfl
theorem Tx.F_Reel_walk (T : Tx K mg) : ∃ fd, FunD K "walk" "Reel.walk" (defArgs s_Reel_walk) (defBody s_Reel_walk) (defScope s_Reel_walk) [] [] (He.ma K (He.ga K "Reel") "walk") fd := T.c.def_ 45 (d := d_Reel_walk) rfl
theorem Tx.F_Reel_len (T : Tx K mg) : ∃ fd, FunD K "__len__" "Reel.__len__" (defArgs s_Reel_len) (defBody s_Reel_len) (defScope s_Reel_len) [] [] (He.ma K (He.ga K "Reel") "__len__") fd := T.c.def_ 47 (d := d_Reel_len) rfl
theorem Tx.F_Reel_str (T : Tx K mg) : ∃ fd, FunD K "__str__" "Reel.__str__" (defArgs s_Reel_str) (defBody s_Reel_str) (defScope s_Reel_str) [] [] (He.ma K (He.ga K "Reel") "__str__") fd := T.c.def_ 48 (d := d_Reel_str) rfl
theorem Tx.F_Reel_eq (T : Tx K mg) : ∃ fd, FunD K "__eq__" "Reel.__eq__" (defArgs s_Reel_eq) (defBody s_Reel_eq) (defScope s_Reel_eq) [] [] (He.ma K (He.ga K "Reel") "__eq__") fd := T.c.def_ 49 (d := d_Reel_eq) rfl
theorem Tx.F_Reel_is_edit (T : Tx K mg) : ∃ fd, FunD K "is_edit" "Reel.is_edit" (defArgs s_Reel_is_edit) (defBody s_Reel_is_edit) (defScope s_Reel_is_edit) [] [] (smA K (He.ga K "Reel") "is_edit") fd := getter_ok (He.ba T.ex2).2 T.gv 2
theorem Tx.F_Reel_ring (T : Tx K mg) : ∃ fd, FunD K "ring" "Reel.ring" (defArgs s_Reel_ring) (defBody s_Reel_ring) (defScope s_Reel_ring) [] [] (gtA K (He.ga K "Reel") "ring") fd := getter_ok (He.ba T.ex2).2 T.gv 3
theorem Tx.F_Reel_version (T : Tx K mg) : ∃ fd, FunD K "version" "Reel.version" (defArgs s_Reel_version) (defBody s_Reel_version) (defScope s_Reel_version) [] [] (gtA K (He.ga K "Reel") "version") fd := getter_ok (He.ba T.ex2).2 T.gv 4
theorem Tx.F_Reel_beginnings (T : Tx K mg) : ∃ fd, FunD K "beginnings" "Reel.beginnings" (defArgs s_Reel_beginnings) (defBody s_Reel_beginnings) (defScope s_Reel_beginnings) [] [] (gtA K (He.ga K "Reel") "beginnings") fd := getter_ok (He.ba T.ex2).2 T.gv 5
theorem Tx.F_is_plain_integer (T : Tx K mg) : ∃ fd, FunD K "is_plain_integer" "is_plain_integer" (defArgs s_is_plain_integer) (defBody s_is_plain_integer) (defScope s_is_plain_integer) [] [] (He.ga K "is_plain_integer") fd := T.c.def_ 11 (d := d_is_plain_integer) rfl
theorem Tx.F_is_index (T : Tx K mg) : ∃ fd, FunD K "is_index" "is_index" (defArgs s_is_index) (defBody s_is_index) (defScope s_is_index) [] [] (He.ga K "is_index") fd := T.c.def_ 12 (d := d_is_index) rfl
theorem Tx.F_is_arity (T : Tx K mg) : ∃ fd, FunD K "is_arity" "is_arity" (defArgs s_is_arity) (defBody s_is_arity) (defScope s_is_arity) [] [] (He.ga K "is_arity") fd := T.c.def_ 13 (d := d_is_arity) rfl
theorem Tx.F_ring_error (T : Tx K mg) : ∃ fd, FunD K "ring_error" "ring_error" (defArgs s_ring_error) (defBody s_ring_error) (defScope s_ring_error) [] [] (He.ga K "ring_error") fd := T.c.def_ 14 (d := d_ring_error) rfl
theorem Tx.F_check_place (T : Tx K mg) : ∃ fd, FunD K "check_place" "check_place" (defArgs s_check_place) (defBody s_check_place) (defScope s_check_place) [] [] (He.ga K "check_place") fd := T.c.def_ 15 (d := d_check_place) rfl
theorem Tx.F_balance (T : Tx K mg) : ∃ fd, FunD K "balance" "balance" (defArgs s_balance) (defBody s_balance) (defScope s_balance) [] [] (He.ga K "balance") fd := T.c.def_ 16 (d := d_balance) rfl
theorem Tx.F_turned (T : Tx K mg) : ∃ fd, FunD K "turned" "turned" (defArgs s_turned) (defBody s_turned) (defScope s_turned) [] [] (He.ga K "turned") fd := T.c.def_ 17 (d := d_turned) rfl
theorem Tx.F_heights (T : Tx K mg) : ∃ fd, FunD K "heights" "heights" (defArgs s_heights) (defBody s_heights) (defScope s_heights) [] [] (He.ga K "heights") fd := T.c.def_ 18 (d := d_heights) rfl
theorem Tx.F_need (T : Tx K mg) : ∃ fd, FunD K "need" "need" (defArgs s_need) (defBody s_need) (defScope s_need) [] [] (He.ga K "need") fd := T.c.def_ 19 (d := d_need) rfl
theorem Tx.F_is_beginning (T : Tx K mg) : ∃ fd, FunD K "is_beginning" "is_beginning" (defArgs s_is_beginning) (defBody s_is_beginning) (defScope s_is_beginning) [] [] (He.ga K "is_beginning") fd := T.c.def_ 20 (d := d_is_beginning) rfl
theorem Tx.F_beginnings (T : Tx K mg) : ∃ fd, FunD K "beginnings" "beginnings" (defArgs s_beginnings) (defBody s_beginnings) (defScope s_beginnings) [] [] (He.ga K "beginnings") fd := T.c.def_ 21 (d := d_beginnings) rfl
theorem Tx.F_check_gap (T : Tx K mg) : ∃ fd, FunD K "check_gap" "check_gap" (defArgs s_check_gap) (defBody s_check_gap) (defScope s_check_gap) [] [] (He.ga K "check_gap") fd := T.c.def_ 22 (d := d_check_gap) rfl
theorem Tx.F_with_arity (T : Tx K mg) : ∃ fd, FunD K "with_arity" "with_arity" (defArgs s_with_arity) (defBody s_with_arity) (defScope s_with_arity) [] [] (He.ga K "with_arity") fd := T.c.def_ 23 (d := d_with_arity) rfl
theorem Tx.F_with_token (T : Tx K mg) : ∃ fd, FunD K "with_token" "with_token" (defArgs s_with_token) (defBody s_with_token) (defScope s_with_token) [] [] (He.ga K "with_token") fd := T.c.def_ 24 (d := d_with_token) rfl
theorem Tx.F_without_token (T : Tx K mg) : ∃ fd, FunD K "without_token" "without_token" (defArgs s_without_token) (defBody s_without_token) (defScope s_without_token) [] [] (He.ga K "without_token") fd := T.c.def_ 25 (d := d_without_token) rfl
theorem Tx.F_check_arity (T : Tx K mg) : ∃ fd, FunD K "check_arity" "check_arity" (defArgs s_check_arity) (defBody s_check_arity) (defScope s_check_arity) [] [] (He.ga K "check_arity") fd := T.c.def_ 26 (d := d_check_arity) rfl
theorem Tx.F_put_token (T : Tx K mg) : ∃ fd, FunD K "put_token" "put_token" (defArgs s_put_token) (defBody s_put_token) (defScope s_put_token) [] [] (He.ga K "put_token") fd := T.c.def_ 27 (d := d_put_token) rfl
theorem Tx.F_insert_token (T : Tx K mg) : ∃ fd, FunD K "insert_token" "insert_token" (defArgs s_insert_token) (defBody s_insert_token) (defScope s_insert_token) [] [] (He.ga K "insert_token") fd := T.c.def_ 28 (d := d_insert_token) rfl
theorem Tx.F_edited (T : Tx K mg) : ∃ fd, FunD K "edited" "edited" (defArgs s_edited) (defBody s_edited) (defScope s_edited) [] [] (He.ga K "edited") fd := T.c.def_ 29 (d := d_edited) rfl
theorem Tx.F__law_stream (T : Tx K mg) : ∃ fd, FunD K "_law_stream" "_law_stream" (defArgs s__law_stream) (defBody s__law_stream) (defScope s__law_stream) [] [] (He.ga K "_law_stream") fd := T.c.def_ 50 (d := d__law_stream) rfl
theorem Tx.F__law_draw (T : Tx K mg) : ∃ fd, FunD K "_law_draw" "_law_draw" (defArgs s__law_draw) (defBody s__law_draw) (defScope s__law_draw) [] [] (He.ga K "_law_draw") fd := T.c.def_ 51 (d := d__law_draw) rfl
theorem Tx.F__law_pick (T : Tx K mg) : ∃ fd, FunD K "_law_pick" "_law_pick" (defArgs s__law_pick) (defBody s__law_pick) (defScope s__law_pick) [] [] (He.ga K "_law_pick") fd := T.c.def_ 52 (d := d__law_pick) rfl
theorem Tx.F__law_whole (T : Tx K mg) : ∃ fd, FunD K "_law_whole" "_law_whole" (defArgs s__law_whole) (defBody s__law_whole) (defScope s__law_whole) [] [] (He.ga K "_law_whole") fd := T.c.def_ 53 (d := d__law_whole) rfl
theorem Tx.F__law_ring (T : Tx K mg) : ∃ fd, FunD K "_law_ring" "_law_ring" (defArgs s__law_ring) (defBody s__law_ring) (defScope s__law_ring) [] [] (He.ga K "_law_ring") fd := T.c.def_ 54 (d := d__law_ring) rfl
theorem Tx.F__law_odd (T : Tx K mg) : ∃ fd, FunD K "_law_odd" "_law_odd" (defArgs s__law_odd) (defBody s__law_odd) (defScope s__law_odd) [] [] (He.ga K "_law_odd") fd := T.c.def_ 55 (d := d__law_odd) rfl
theorem Tx.F__law_name (T : Tx K mg) : ∃ fd, FunD K "_law_name" "_law_name" (defArgs s__law_name) (defBody s__law_name) (defScope s__law_name) [] [] (He.ga K "_law_name") fd := T.c.def_ 56 (d := d__law_name) rfl
theorem Tx.F__law_field (T : Tx K mg) : ∃ fd, FunD K "_law_field" "_law_field" (defArgs s__law_field) (defBody s__law_field) (defScope s__law_field) [] [] (He.ga K "_law_field") fd := T.c.def_ 57 (d := d__law_field) rfl
theorem Tx.F__law_apply (T : Tx K mg) : ∃ fd, FunD K "_law_apply" "_law_apply" (defArgs s__law_apply) (defBody s__law_apply) (defScope s__law_apply) [] [] (He.ga K "_law_apply") fd := T.c.def_ 58 (d := d__law_apply) rfl
theorem Tx.F__law_did (T : Tx K mg) : ∃ fd, FunD K "_law_did" "_law_did" (defArgs s__law_did) (defBody s__law_did) (defScope s__law_did) [] [] (He.ga K "_law_did") fd := T.c.def_ 59 (d := d__law_did) rfl
theorem Tx.F__law_due (T : Tx K mg) : ∃ fd, FunD K "_law_due" "_law_due" (defArgs s__law_due) (defBody s__law_due) (defScope s__law_due) [] [] (He.ga K "_law_due") fd := T.c.def_ 60 (d := d__law_due) rfl
theorem Tx.F__law_seen (T : Tx K mg) : ∃ fd, FunD K "_law_seen" "_law_seen" (defArgs s__law_seen) (defBody s__law_seen) (defScope s__law_seen) [] [] (He.ga K "_law_seen") fd := T.c.def_ 61 (d := d__law_seen) rfl
theorem Tx.F__law_edit (T : Tx K mg) : ∃ fd, FunD K "_law_edit" "_law_edit" (defArgs s__law_edit) (defBody s__law_edit) (defScope s__law_edit) [] [] (He.ga K "_law_edit") fd := T.c.def_ 62 (d := d__law_edit) rfl
theorem Tx.F__law_bent_edit (T : Tx K mg) : ∃ fd, FunD K "_law_bent_edit" "_law_bent_edit" (defArgs s__law_bent_edit) (defBody s__law_bent_edit) (defScope s__law_bent_edit) [] [] (He.ga K "_law_bent_edit") fd := T.c.def_ 63 (d := d__law_bent_edit) rfl
theorem Tx.F__law_ran (T : Tx K mg) : ∃ fd, FunD K "_law_ran" "_law_ran" (defArgs s__law_ran) (defBody s__law_ran) (defScope s__law_ran) [] [] (He.ga K "_law_ran") fd := T.c.def_ 64 (d := d__law_ran) rfl
theorem Tx.F__law_batch (T : Tx K mg) : ∃ fd, FunD K "_law_batch" "_law_batch" (defArgs s__law_batch) (defBody s__law_batch) (defScope s__law_batch) [] [] (He.ga K "_law_batch") fd := T.c.def_ 65 (d := d__law_batch) rfl
theorem Tx.F__law_all (T : Tx K mg) : ∃ fd, FunD K "_law_all" "_law_all" (defArgs s__law_all) (defBody s__law_all) (defScope s__law_all) [] [] (He.ga K "_law_all") fd := T.c.def_ 66 (d := d__law_all) rfl
theorem Tx.F__law_again (T : Tx K mg) : ∃ fd, FunD K "_law_again" "_law_again" (defArgs s__law_again) (defBody s__law_again) (defScope s__law_again) [] [] (He.ga K "_law_again") fd := T.c.def_ 67 (d := d__law_again) rfl
theorem Tx.F__law_new_right (T : Tx K mg) : ∃ fd, FunD K "_law_new_right" "_law_new_right" (defArgs s__law_new_right) (defBody s__law_new_right) (defScope s__law_new_right) [] [] (He.ga K "_law_new_right") fd := T.c.def_ 68 (d := d__law_new_right) rfl
theorem Tx.F_law (T : Tx K mg) : ∃ fd, FunD K "law" "law" (defArgs s_law) (defBody s_law) (defScope s_law) [] [] (He.ga K "law") fd := T.c.def_ 69 (d := d_law) rfl
theorem Tx.g_is_plain_integer (T : Tx K mg) : mg "is_plain_integer" = some (.ref (He.ga K "is_plain_integer")) := by
  obtain ⟨h, X, G⟩ := T.at_
  exact He.glo_ok X G (T.c.fact 1 (f := .glo "is_plain_integer") rfl)
theorem Tx.g_is_index (T : Tx K mg) : mg "is_index" = some (.ref (He.ga K "is_index")) := by
  obtain ⟨h, X, G⟩ := T.at_
  exact He.glo_ok X G (T.c.fact 2 (f := .glo "is_index") rfl)
theorem Tx.g_is_arity (T : Tx K mg) : mg "is_arity" = some (.ref (He.ga K "is_arity")) := by
  obtain ⟨h, X, G⟩ := T.at_
  exact He.glo_ok X G (T.c.fact 3 (f := .glo "is_arity") rfl)
theorem Tx.g_ring_error (T : Tx K mg) : mg "ring_error" = some (.ref (He.ga K "ring_error")) := by
  obtain ⟨h, X, G⟩ := T.at_
  exact He.glo_ok X G (T.c.fact 4 (f := .glo "ring_error") rfl)
theorem Tx.g_check_place (T : Tx K mg) : mg "check_place" = some (.ref (He.ga K "check_place")) := by
  obtain ⟨h, X, G⟩ := T.at_
  exact He.glo_ok X G (T.c.fact 5 (f := .glo "check_place") rfl)
theorem Tx.g_balance (T : Tx K mg) : mg "balance" = some (.ref (He.ga K "balance")) := by
  obtain ⟨h, X, G⟩ := T.at_
  exact He.glo_ok X G (T.c.fact 6 (f := .glo "balance") rfl)
theorem Tx.g_turned (T : Tx K mg) : mg "turned" = some (.ref (He.ga K "turned")) := by
  obtain ⟨h, X, G⟩ := T.at_
  exact He.glo_ok X G (T.c.fact 7 (f := .glo "turned") rfl)
theorem Tx.g_heights (T : Tx K mg) : mg "heights" = some (.ref (He.ga K "heights")) := by
  obtain ⟨h, X, G⟩ := T.at_
  exact He.glo_ok X G (T.c.fact 8 (f := .glo "heights") rfl)
theorem Tx.g_need (T : Tx K mg) : mg "need" = some (.ref (He.ga K "need")) := by
  obtain ⟨h, X, G⟩ := T.at_
  exact He.glo_ok X G (T.c.fact 9 (f := .glo "need") rfl)
theorem Tx.g_is_beginning (T : Tx K mg) : mg "is_beginning" = some (.ref (He.ga K "is_beginning")) := by
  obtain ⟨h, X, G⟩ := T.at_
  exact He.glo_ok X G (T.c.fact 10 (f := .glo "is_beginning") rfl)
theorem Tx.g_beginnings (T : Tx K mg) : mg "beginnings" = some (.ref (He.ga K "beginnings")) := by
  obtain ⟨h, X, G⟩ := T.at_
  exact He.glo_ok X G (T.c.fact 11 (f := .glo "beginnings") rfl)
theorem Tx.g_check_gap (T : Tx K mg) : mg "check_gap" = some (.ref (He.ga K "check_gap")) := by
  obtain ⟨h, X, G⟩ := T.at_
  exact He.glo_ok X G (T.c.fact 12 (f := .glo "check_gap") rfl)
theorem Tx.g_with_arity (T : Tx K mg) : mg "with_arity" = some (.ref (He.ga K "with_arity")) := by
  obtain ⟨h, X, G⟩ := T.at_
  exact He.glo_ok X G (T.c.fact 13 (f := .glo "with_arity") rfl)
theorem Tx.g_with_token (T : Tx K mg) : mg "with_token" = some (.ref (He.ga K "with_token")) := by
  obtain ⟨h, X, G⟩ := T.at_
  exact He.glo_ok X G (T.c.fact 14 (f := .glo "with_token") rfl)
theorem Tx.g_without_token (T : Tx K mg) : mg "without_token" = some (.ref (He.ga K "without_token")) := by
  obtain ⟨h, X, G⟩ := T.at_
  exact He.glo_ok X G (T.c.fact 15 (f := .glo "without_token") rfl)
theorem Tx.g_check_arity (T : Tx K mg) : mg "check_arity" = some (.ref (He.ga K "check_arity")) := by
  obtain ⟨h, X, G⟩ := T.at_
  exact He.glo_ok X G (T.c.fact 16 (f := .glo "check_arity") rfl)
theorem Tx.g_put_token (T : Tx K mg) : mg "put_token" = some (.ref (He.ga K "put_token")) := by
  obtain ⟨h, X, G⟩ := T.at_
  exact He.glo_ok X G (T.c.fact 17 (f := .glo "put_token") rfl)
theorem Tx.g_insert_token (T : Tx K mg) : mg "insert_token" = some (.ref (He.ga K "insert_token")) := by
  obtain ⟨h, X, G⟩ := T.at_
  exact He.glo_ok X G (T.c.fact 18 (f := .glo "insert_token") rfl)
theorem Tx.g_edited (T : Tx K mg) : mg "edited" = some (.ref (He.ga K "edited")) := by
  obtain ⟨h, X, G⟩ := T.at_
  exact He.glo_ok X G (T.c.fact 19 (f := .glo "edited") rfl)
theorem Tx.g__law_stream (T : Tx K mg) : mg "_law_stream" = some (.ref (He.ga K "_law_stream")) := by
  obtain ⟨h, X, G⟩ := T.at_
  exact He.glo_ok X G (T.c.fact 21 (f := .glo "_law_stream") rfl)
theorem Tx.g__law_draw (T : Tx K mg) : mg "_law_draw" = some (.ref (He.ga K "_law_draw")) := by
  obtain ⟨h, X, G⟩ := T.at_
  exact He.glo_ok X G (T.c.fact 22 (f := .glo "_law_draw") rfl)
theorem Tx.g__law_pick (T : Tx K mg) : mg "_law_pick" = some (.ref (He.ga K "_law_pick")) := by
  obtain ⟨h, X, G⟩ := T.at_
  exact He.glo_ok X G (T.c.fact 23 (f := .glo "_law_pick") rfl)
theorem Tx.g__law_whole (T : Tx K mg) : mg "_law_whole" = some (.ref (He.ga K "_law_whole")) := by
  obtain ⟨h, X, G⟩ := T.at_
  exact He.glo_ok X G (T.c.fact 24 (f := .glo "_law_whole") rfl)
theorem Tx.g__law_ring (T : Tx K mg) : mg "_law_ring" = some (.ref (He.ga K "_law_ring")) := by
  obtain ⟨h, X, G⟩ := T.at_
  exact He.glo_ok X G (T.c.fact 25 (f := .glo "_law_ring") rfl)
theorem Tx.g__law_odd (T : Tx K mg) : mg "_law_odd" = some (.ref (He.ga K "_law_odd")) := by
  obtain ⟨h, X, G⟩ := T.at_
  exact He.glo_ok X G (T.c.fact 26 (f := .glo "_law_odd") rfl)
theorem Tx.g__law_name (T : Tx K mg) : mg "_law_name" = some (.ref (He.ga K "_law_name")) := by
  obtain ⟨h, X, G⟩ := T.at_
  exact He.glo_ok X G (T.c.fact 27 (f := .glo "_law_name") rfl)
theorem Tx.g__law_field (T : Tx K mg) : mg "_law_field" = some (.ref (He.ga K "_law_field")) := by
  obtain ⟨h, X, G⟩ := T.at_
  exact He.glo_ok X G (T.c.fact 28 (f := .glo "_law_field") rfl)
theorem Tx.g__law_apply (T : Tx K mg) : mg "_law_apply" = some (.ref (He.ga K "_law_apply")) := by
  obtain ⟨h, X, G⟩ := T.at_
  exact He.glo_ok X G (T.c.fact 29 (f := .glo "_law_apply") rfl)
theorem Tx.g__law_did (T : Tx K mg) : mg "_law_did" = some (.ref (He.ga K "_law_did")) := by
  obtain ⟨h, X, G⟩ := T.at_
  exact He.glo_ok X G (T.c.fact 30 (f := .glo "_law_did") rfl)
theorem Tx.g__law_due (T : Tx K mg) : mg "_law_due" = some (.ref (He.ga K "_law_due")) := by
  obtain ⟨h, X, G⟩ := T.at_
  exact He.glo_ok X G (T.c.fact 31 (f := .glo "_law_due") rfl)
theorem Tx.g__law_seen (T : Tx K mg) : mg "_law_seen" = some (.ref (He.ga K "_law_seen")) := by
  obtain ⟨h, X, G⟩ := T.at_
  exact He.glo_ok X G (T.c.fact 32 (f := .glo "_law_seen") rfl)
theorem Tx.g__law_edit (T : Tx K mg) : mg "_law_edit" = some (.ref (He.ga K "_law_edit")) := by
  obtain ⟨h, X, G⟩ := T.at_
  exact He.glo_ok X G (T.c.fact 33 (f := .glo "_law_edit") rfl)
theorem Tx.g__law_bent_edit (T : Tx K mg) : mg "_law_bent_edit" = some (.ref (He.ga K "_law_bent_edit")) := by
  obtain ⟨h, X, G⟩ := T.at_
  exact He.glo_ok X G (T.c.fact 34 (f := .glo "_law_bent_edit") rfl)
theorem Tx.g__law_ran (T : Tx K mg) : mg "_law_ran" = some (.ref (He.ga K "_law_ran")) := by
  obtain ⟨h, X, G⟩ := T.at_
  exact He.glo_ok X G (T.c.fact 35 (f := .glo "_law_ran") rfl)
theorem Tx.g__law_batch (T : Tx K mg) : mg "_law_batch" = some (.ref (He.ga K "_law_batch")) := by
  obtain ⟨h, X, G⟩ := T.at_
  exact He.glo_ok X G (T.c.fact 36 (f := .glo "_law_batch") rfl)
theorem Tx.g__law_all (T : Tx K mg) : mg "_law_all" = some (.ref (He.ga K "_law_all")) := by
  obtain ⟨h, X, G⟩ := T.at_
  exact He.glo_ok X G (T.c.fact 37 (f := .glo "_law_all") rfl)
theorem Tx.g__law_again (T : Tx K mg) : mg "_law_again" = some (.ref (He.ga K "_law_again")) := by
  obtain ⟨h, X, G⟩ := T.at_
  exact He.glo_ok X G (T.c.fact 38 (f := .glo "_law_again") rfl)
theorem Tx.g__law_new_right (T : Tx K mg) : mg "_law_new_right" = some (.ref (He.ga K "_law_new_right")) := by
  obtain ⟨h, X, G⟩ := T.at_
  exact He.glo_ok X G (T.c.fact 39 (f := .glo "_law_new_right") rfl)
theorem Tx.g_law (T : Tx K mg) : mg "law" = some (.ref (He.ga K "law")) := by
  obtain ⟨h, X, G⟩ := T.at_
  exact He.glo_ok X G (T.c.fact 40 (f := .glo "law") rfl)
theorem Tx.g_RingError (T : Tx K mg) : mg "RingError" = some (.ref (He.ga K "RingError")) := by
  obtain ⟨h, X, G⟩ := T.at_
  exact He.glo_ok X G (T.c.fact 41 (f := .glo "RingError") rfl)
theorem Tx.g_NoBeginning (T : Tx K mg) : mg "NoBeginning" = some (.ref (He.ga K "NoBeginning")) := by
  obtain ⟨h, X, G⟩ := T.at_
  exact He.glo_ok X G (T.c.fact 42 (f := .glo "NoBeginning") rfl)
theorem Tx.g_NoArity (T : Tx K mg) : mg "NoArity" = some (.ref (He.ga K "NoArity")) := by
  obtain ⟨h, X, G⟩ := T.at_
  exact He.glo_ok X G (T.c.fact 43 (f := .glo "NoArity") rfl)
theorem Tx.g_TooLong (T : Tx K mg) : mg "TooLong" = some (.ref (He.ga K "TooLong")) := by
  obtain ⟨h, X, G⟩ := T.at_
  exact He.glo_ok X G (T.c.fact 44 (f := .glo "TooLong") rfl)
theorem Tx.g_LastToken (T : Tx K mg) : mg "LastToken" = some (.ref (He.ga K "LastToken")) := by
  obtain ⟨h, X, G⟩ := T.at_
  exact He.glo_ok X G (T.c.fact 45 (f := .glo "LastToken") rfl)
theorem Tx.g_BadRing (T : Tx K mg) : mg "BadRing" = some (.ref (He.ga K "BadRing")) := by
  obtain ⟨h, X, G⟩ := T.at_
  exact He.glo_ok X G (T.c.fact 46 (f := .glo "BadRing") rfl)
theorem Tx.g_NoBalance (T : Tx K mg) : mg "NoBalance" = some (.ref (He.ga K "NoBalance")) := by
  obtain ⟨h, X, G⟩ := T.at_
  exact He.glo_ok X G (T.c.fact 47 (f := .glo "NoBalance") rfl)
theorem Tx.g_TooManyEdits (T : Tx K mg) : mg "TooManyEdits" = some (.ref (He.ga K "TooManyEdits")) := by
  obtain ⟨h, X, G⟩ := T.at_
  exact He.glo_ok X G (T.c.fact 48 (f := .glo "TooManyEdits") rfl)
theorem Tx.g_NothingToUndo (T : Tx K mg) : mg "NothingToUndo" = some (.ref (He.ga K "NothingToUndo")) := by
  obtain ⟨h, X, G⟩ := T.at_
  exact He.glo_ok X G (T.c.fact 49 (f := .glo "NothingToUndo") rfl)
theorem Tx.g_BadEdits (T : Tx K mg) : mg "BadEdits" = some (.ref (He.ga K "BadEdits")) := by
  obtain ⟨h, X, G⟩ := T.at_
  exact He.glo_ok X G (T.c.fact 50 (f := .glo "BadEdits") rfl)
theorem Tx.g_BadEdit (T : Tx K mg) : mg "BadEdit" = some (.ref (He.ga K "BadEdit")) := by
  obtain ⟨h, X, G⟩ := T.at_
  exact He.glo_ok X G (T.c.fact 51 (f := .glo "BadEdit") rfl)
theorem Tx.g_Rejected (T : Tx K mg) : mg "Rejected" = some (.ref (He.ga K "Rejected")) := by
  obtain ⟨h, X, G⟩ := T.at_
  exact He.glo_ok X G (T.c.fact 52 (f := .glo "Rejected") rfl)
theorem Tx.g_Busy (T : Tx K mg) : mg "Busy" = some (.ref (He.ga K "Busy")) := by
  obtain ⟨h, X, G⟩ := T.at_
  exact He.glo_ok X G (T.c.fact 53 (f := .glo "Busy") rfl)
theorem Tx.g_BadText (T : Tx K mg) : mg "BadText" = some (.ref (He.ga K "BadText")) := by
  obtain ⟨h, X, G⟩ := T.at_
  exact He.glo_ok X G (T.c.fact 54 (f := .glo "BadText") rfl)
theorem Tx.g_NoPlace (T : Tx K mg) : mg "NoPlace" = some (.ref (He.ga K "NoPlace")) := by
  obtain ⟨h, X, G⟩ := T.at_
  exact He.glo_ok X G (T.c.fact 55 (f := .glo "NoPlace") rfl)
theorem Tx.g_NoVersion (T : Tx K mg) : mg "NoVersion" = some (.ref (He.ga K "NoVersion")) := by
  obtain ⟨h, X, G⟩ := T.at_
  exact He.glo_ok X G (T.c.fact 56 (f := .glo "NoVersion") rfl)
theorem Tx.g_Reel (T : Tx K mg) : mg "Reel" = some (.ref (He.ga K "Reel")) := by
  obtain ⟨h, X, G⟩ := T.at_
  exact He.glo_ok X G (T.c.fact 57 (f := .glo "Reel") rfl)
theorem Tx.f_len (T : Tx K mg) : mg "len" = none := by
  obtain ⟨h, X, G⟩ := T.at_
  exact He.free_ok X G (T.c.fact 58 (f := .free "len") rfl)
theorem Tx.f_sum (T : Tx K mg) : mg "sum" = none := by
  obtain ⟨h, X, G⟩ := T.at_
  exact He.free_ok X G (T.c.fact 59 (f := .free "sum") rfl)
theorem Tx.f_min (T : Tx K mg) : mg "min" = none := by
  obtain ⟨h, X, G⟩ := T.at_
  exact He.free_ok X G (T.c.fact 60 (f := .free "min") rfl)
theorem Tx.f_max (T : Tx K mg) : mg "max" = none := by
  obtain ⟨h, X, G⟩ := T.at_
  exact He.free_ok X G (T.c.fact 61 (f := .free "max") rfl)
theorem Tx.f_abs (T : Tx K mg) : mg "abs" = none := by
  obtain ⟨h, X, G⟩ := T.at_
  exact He.free_ok X G (T.c.fact 62 (f := .free "abs") rfl)
theorem Tx.f_repr (T : Tx K mg) : mg "repr" = none := by
  obtain ⟨h, X, G⟩ := T.at_
  exact He.free_ok X G (T.c.fact 63 (f := .free "repr") rfl)
theorem Tx.f_range (T : Tx K mg) : mg "range" = none := by
  obtain ⟨h, X, G⟩ := T.at_
  exact He.free_ok X G (T.c.fact 64 (f := .free "range") rfl)
theorem Tx.f_tuple (T : Tx K mg) : mg "tuple" = none := by
  obtain ⟨h, X, G⟩ := T.at_
  exact He.free_ok X G (T.c.fact 65 (f := .free "tuple") rfl)
theorem Tx.f_list (T : Tx K mg) : mg "list" = none := by
  obtain ⟨h, X, G⟩ := T.at_
  exact He.free_ok X G (T.c.fact 66 (f := .free "list") rfl)
theorem Tx.f_int (T : Tx K mg) : mg "int" = none := by
  obtain ⟨h, X, G⟩ := T.at_
  exact He.free_ok X G (T.c.fact 67 (f := .free "int") rfl)
theorem Tx.f_bool (T : Tx K mg) : mg "bool" = none := by
  obtain ⟨h, X, G⟩ := T.at_
  exact He.free_ok X G (T.c.fact 68 (f := .free "bool") rfl)
theorem Tx.f_isinstance (T : Tx K mg) : mg "isinstance" = none := by
  obtain ⟨h, X, G⟩ := T.at_
  exact He.free_ok X G (T.c.fact 69 (f := .free "isinstance") rfl)
theorem Tx.f_enumerate (T : Tx K mg) : mg "enumerate" = none := by
  obtain ⟨h, X, G⟩ := T.at_
  exact He.free_ok X G (T.c.fact 70 (f := .free "enumerate") rfl)
theorem Tx.f_str (T : Tx K mg) : mg "str" = none := by
  obtain ⟨h, X, G⟩ := T.at_
  exact He.free_ok X G (T.c.fact 71 (f := .free "str") rfl)
theorem Tx.f_ValueError (T : Tx K mg) : mg "ValueError" = none := by
  obtain ⟨h, X, G⟩ := T.at_
  exact He.free_ok X G (T.c.fact 72 (f := .free "ValueError") rfl)
theorem Tx.f_LookupError (T : Tx K mg) : mg "LookupError" = none := by
  obtain ⟨h, X, G⟩ := T.at_
  exact He.free_ok X G (T.c.fact 73 (f := .free "LookupError") rfl)
theorem Tx.g_MAX_ARITY (T : Tx K mg) : ∃ t, mg "MAX_ARITY" = some (.int 5 t) := by
  obtain ⟨h, X, G⟩ := T.at_
  exact He.int_ok X G (T.c.fact 74 (f := .int "MAX_ARITY" 5) rfl)
theorem Tx.g_MAX_TOKENS (T : Tx K mg) : ∃ t, mg "MAX_TOKENS" = some (.int 24 t) := by
  obtain ⟨h, X, G⟩ := T.at_
  exact He.int_ok X G (T.c.fact 75 (f := .int "MAX_TOKENS" 24) rfl)
theorem Tx.g_BATCH (T : Tx K mg) : ∃ t, mg "BATCH" = some (.int 20 t) := by
  obtain ⟨h, X, G⟩ := T.at_
  exact He.int_ok X G (T.c.fact 76 (f := .int "BATCH" 20) rfl)
theorem Tx.g_beginnings_beginnings (T : Tx K mg) : mg "beginnings_beginnings" = some (.ref (He.ga K "beginnings_beginnings")) := by
  obtain ⟨h, X, G⟩ := T.at_
  exact He.glo_ok X G (T.c.fact 77 (f := .glo "beginnings_beginnings") rfl)
theorem Tx.c_Reel (T : Tx K mg) : Cls K (He.ga K "Reel") := He.cls_ok (T.c.fact 78 (f := .cls "Reel") rfl)
theorem Tx.mk_Reel (T : Tx K mg) : Mk K (He.ga K "Reel") (He.ma K (He.ga K "Reel") "__init__") := He.mkr_ok (T.c.fact 79 (f := .mkr "Reel") rfl)
theorem Tx.n_Reel_rings (T : Tx K mg) : NoAttr K (He.ga K "Reel") "rings" := He.noat_ok (T.c.fact 80 (f := .noat "Reel" "rings") rfl)
theorem Tx.n_Reel_done (T : Tx K mg) : NoAttr K (He.ga K "Reel") "done" := He.noat_ok (T.c.fact 81 (f := .noat "Reel" "done") rfl)
theorem Tx.n_Reel_starts (T : Tx K mg) : NoAttr K (He.ga K "Reel") "starts" := He.noat_ok (T.c.fact 82 (f := .noat "Reel" "starts") rfl)
theorem Tx.n_Reel_chosen (T : Tx K mg) : NoAttr K (He.ga K "Reel") "chosen" := He.noat_ok (T.c.fact 83 (f := .noat "Reel" "chosen") rfl)
theorem Tx.n_Reel_busy (T : Tx K mg) : NoAttr K (He.ga K "Reel") "busy" := He.noat_ok (T.c.fact 84 (f := .noat "Reel" "busy") rfl)
theorem Tx.m_Reel_check_idle (T : Tx K mg) : Meth K (He.ga K "Reel") "check_idle" (He.ma K (He.ga K "Reel") "check_idle") := He.meth_ok (T.c.fact 86 (f := .meth "Reel" "check_idle") rfl)
theorem Tx.m_Reel_check_result (T : Tx K mg) : Meth K (He.ga K "Reel") "check_result" (He.ma K (He.ga K "Reel") "check_result") := He.meth_ok (T.c.fact 87 (f := .meth "Reel" "check_result") rfl)
theorem Tx.m_Reel_settle (T : Tx K mg) : Meth K (He.ga K "Reel") "settle" (He.ma K (He.ga K "Reel") "settle") := He.meth_ok (T.c.fact 88 (f := .meth "Reel" "settle") rfl)
theorem Tx.m_Reel_do_edit (T : Tx K mg) : Meth K (He.ga K "Reel") "do_edit" (He.ma K (He.ga K "Reel") "do_edit") := He.meth_ok (T.c.fact 89 (f := .meth "Reel" "do_edit") rfl)
theorem Tx.m_Reel_put (T : Tx K mg) : Meth K (He.ga K "Reel") "put" (He.ma K (He.ga K "Reel") "put") := He.meth_ok (T.c.fact 90 (f := .meth "Reel" "put") rfl)
theorem Tx.m_Reel_insert (T : Tx K mg) : Meth K (He.ga K "Reel") "insert" (He.ma K (He.ga K "Reel") "insert") := He.meth_ok (T.c.fact 91 (f := .meth "Reel" "insert") rfl)
theorem Tx.m_Reel_remove (T : Tx K mg) : Meth K (He.ga K "Reel") "remove" (He.ma K (He.ga K "Reel") "remove") := He.meth_ok (T.c.fact 92 (f := .meth "Reel" "remove") rfl)
theorem Tx.m_Reel_undo (T : Tx K mg) : Meth K (He.ga K "Reel") "undo" (He.ma K (He.ga K "Reel") "undo") := He.meth_ok (T.c.fact 93 (f := .meth "Reel" "undo") rfl)
theorem Tx.m_Reel_checked_batch (T : Tx K mg) : Meth K (He.ga K "Reel") "checked_batch" (He.ma K (He.ga K "Reel") "checked_batch") := He.meth_ok (T.c.fact 94 (f := .meth "Reel" "checked_batch") rfl)
theorem Tx.m_Reel_do_step (T : Tx K mg) : Meth K (He.ga K "Reel") "do_step" (He.ma K (He.ga K "Reel") "do_step") := He.meth_ok (T.c.fact 95 (f := .meth "Reel" "do_step") rfl)
theorem Tx.m_Reel_run (T : Tx K mg) : Meth K (He.ga K "Reel") "run" (He.ma K (He.ga K "Reel") "run") := He.meth_ok (T.c.fact 96 (f := .meth "Reel" "run") rfl)
theorem Tx.m_Reel_ring_at (T : Tx K mg) : Meth K (He.ga K "Reel") "ring_at" (He.ma K (He.ga K "Reel") "ring_at") := He.meth_ok (T.c.fact 97 (f := .meth "Reel" "ring_at") rfl)
theorem Tx.m_Reel_edits (T : Tx K mg) : Meth K (He.ga K "Reel") "edits" (He.ma K (He.ga K "Reel") "edits") := He.meth_ok (T.c.fact 98 (f := .meth "Reel" "edits") rfl)
theorem Tx.m_Reel_walk (T : Tx K mg) : Meth K (He.ga K "Reel") "walk" (He.ma K (He.ga K "Reel") "walk") := He.meth_ok (T.c.fact 99 (f := .meth "Reel" "walk") rfl)
theorem Tx.m_Reel___len__ (T : Tx K mg) : Meth K (He.ga K "Reel") "__len__" (He.ma K (He.ga K "Reel") "__len__") := He.meth_ok (T.c.fact 101 (f := .meth "Reel" "__len__") rfl)
theorem Tx.m_Reel___str__ (T : Tx K mg) : Meth K (He.ga K "Reel") "__str__" (He.ma K (He.ga K "Reel") "__str__") := He.meth_ok (T.c.fact 102 (f := .meth "Reel" "__str__") rfl)
theorem Tx.m_Reel___eq__ (T : Tx K mg) : Meth K (He.ga K "Reel") "__eq__" (He.ma K (He.ga K "Reel") "__eq__") := He.meth_ok (T.c.fact 103 (f := .meth "Reel" "__eq__") rfl)
theorem Tx.x_NoArity (T : Tx K mg) : PySem.Xf_value.Txt K mg "NoArity" "NoArity.__init__" (He.ga K "NoArity") (He.ma K (He.ga K "NoArity") "__init__") "ValueError.__new__" veB := by
  have c := T.ex
  unfold exq at c
  try simp only [Bool.and_eq_true, decide_eq_true_eq] at c
  obtain ⟨fd, F⟩ := T.c.def_ 2 (d := d_NoArity_init) rfl
  exact excB_value T.g_NoArity c.2.1 ⟨_, _, _, _, _, _, fd, F⟩
theorem Tx.x_TooLong (T : Tx K mg) : PySem.Xf_limit.Txt K mg "TooLong" "TooLong.__init__" (He.ga K "TooLong") (He.ma K (He.ga K "TooLong") "__init__") "ValueError.__new__" veB := by
  have c := T.ex
  unfold exq at c
  try simp only [Bool.and_eq_true, decide_eq_true_eq] at c
  obtain ⟨fd, F⟩ := T.c.def_ 3 (d := d_TooLong_init) rfl
  exact excB_limit T.g_TooLong c.2.2.1 ⟨_, _, _, _, _, _, fd, F⟩
theorem Tx.x_BadRing (T : Tx K mg) : PySem.Xf_error.Txt K mg "BadRing" "BadRing.__init__" (He.ga K "BadRing") (He.ma K (He.ga K "BadRing") "__init__") "ValueError.__new__" veB := by
  have c := T.ex
  unfold exq at c
  try simp only [Bool.and_eq_true, decide_eq_true_eq] at c
  obtain ⟨fd, F⟩ := T.c.def_ 4 (d := d_BadRing_init) rfl
  exact excB_error T.g_BadRing c.2.2.2.1 ⟨_, _, _, _, _, _, fd, F⟩
theorem Tx.x_BadEdit (T : Tx K mg) : PySem.Xf_index.Txt K mg "BadEdit" "BadEdit.__init__" (He.ga K "BadEdit") (He.ma K (He.ga K "BadEdit") "__init__") "ValueError.__new__" veB := by
  have c := T.ex
  unfold exq at c
  try simp only [Bool.and_eq_true, decide_eq_true_eq] at c
  obtain ⟨fd, F⟩ := T.c.def_ 6 (d := d_BadEdit_init) rfl
  exact excB_index T.g_BadEdit c.2.2.2.2.1 ⟨_, _, _, _, _, _, fd, F⟩
theorem Tx.x_Rejected (T : Tx K mg) : PySem.Xf_index.Txt K mg "Rejected" "Rejected.__init__" (He.ga K "Rejected") (He.ma K (He.ga K "Rejected") "__init__") "ValueError.__new__" veB := by
  have c := T.ex
  unfold exq at c
  try simp only [Bool.and_eq_true, decide_eq_true_eq] at c
  obtain ⟨fd, F⟩ := T.c.def_ 7 (d := d_Rejected_init) rfl
  exact excB_index T.g_Rejected c.2.2.2.2.2.1 ⟨_, _, _, _, _, _, fd, F⟩
theorem Tx.x_NoPlace (T : Tx K mg) : PySem.Xf_value.Txt K mg "NoPlace" "NoPlace.__init__" (He.ga K "NoPlace") (He.ma K (He.ga K "NoPlace") "__init__") "LookupError.__new__" leB := by
  have c := T.ex
  unfold exq at c
  try simp only [Bool.and_eq_true, decide_eq_true_eq] at c
  obtain ⟨fd, F⟩ := T.c.def_ 9 (d := d_NoPlace_init) rfl
  exact excB_value T.g_NoPlace c.2.2.2.2.2.2.2.1 ⟨_, _, _, _, _, _, fd, F⟩
theorem Tx.x_NoVersion (T : Tx K mg) : PySem.Xf_value.Txt K mg "NoVersion" "NoVersion.__init__" (He.ga K "NoVersion") (He.ma K (He.ga K "NoVersion") "__init__") "LookupError.__new__" leB := by
  have c := T.ex
  unfold exq at c
  try simp only [Bool.and_eq_true, decide_eq_true_eq] at c
  obtain ⟨fd, F⟩ := T.c.def_ 10 (d := d_NoVersion_init) rfl
  exact excB_value T.g_NoVersion c.2.2.2.2.2.2.2.2.1 ⟨_, _, _, _, _, _, fd, F⟩
theorem Tx.al_beginnings_beginnings (T : Tx K mg) : He.ga K "beginnings_beginnings" = He.ga K "beginnings" := by
  have c := T.ex
  unfold exq at c
  try simp only [Bool.and_eq_true, decide_eq_true_eq] at c
  exact c.2.2.2.2.2.2.2.2.2.1
theorem Tx.p_Reel_ring (T : Tx K mg) : PropOf K (He.ga K "Reel") "ring" (prA K (He.ga K "Reel") "ring") (gtA K (He.ga K "Reel") "ring") := by
  have c := T.ex
  unfold exq at c
  try simp only [Bool.and_eq_true, decide_eq_true_eq] at c
  exact prop_ok c.2.2.2.2.2.2.2.2.2.2.1
theorem Tx.p_Reel_version (T : Tx K mg) : PropOf K (He.ga K "Reel") "version" (prA K (He.ga K "Reel") "version") (gtA K (He.ga K "Reel") "version") := by
  have c := T.ex
  unfold exq at c
  try simp only [Bool.and_eq_true, decide_eq_true_eq] at c
  exact prop_ok c.2.2.2.2.2.2.2.2.2.2.2.1
theorem Tx.p_Reel_beginnings (T : Tx K mg) : PropOf K (He.ga K "Reel") "beginnings" (prA K (He.ga K "Reel") "beginnings") (gtA K (He.ga K "Reel") "beginnings") := by
  have c := T.ex
  unfold exq at c
  try simp only [Bool.and_eq_true, decide_eq_true_eq] at c
  exact prop_ok c.2.2.2.2.2.2.2.2.2.2.2.2.1
theorem Tx.si_Reel_is_edit (T : Tx K mg) : SInst K (He.ga K "Reel") "is_edit" (prA K (He.ga K "Reel") "is_edit") (smA K (He.ga K "Reel") "is_edit") := by
  have c := T.ex
  unfold exq at c
  try simp only [Bool.and_eq_true, decide_eq_true_eq] at c
  exact smi_ok c.2.2.2.2.2.2.2.2.2.2.2.2.2.2.2.2.2.1
theorem Tx.is_Reel (T : Tx K mg) : IsiC K (He.ga K "Reel") := by
  have c := T.ex
  unfold exq at c
  try simp only [Bool.and_eq_true, decide_eq_true_eq] at c
  exact isiB_ok c.2.2.2.2.2.2.2.2.2.2.2.2.2.2.2.2.2.2.1
theorem Tx.cr_Reel (T : Tx K mg) : ClX.CRead K (He.ga K "Reel") (.type "type") := by
  have c := T.ex
  unfold exq at c
  try simp only [Bool.and_eq_true, decide_eq_true_eq] at c
  exact crd_ok c.2.2.2.2.2.2.2.2.2.2.2.2.2.2.2.2.2.2.2.1
theorem Tx.k_Reel_MOST_EDITS (T : Tx K mg) : ∃ u, Con K (He.ga K "Reel") "MOST_EDITS" (.int 60) u := by
  have c := T.ex
  unfold exq at c
  try simp only [Bool.and_eq_true, decide_eq_true_eq] at c
  exact con_ok c.2.2.2.2.2.2.2.2.2.2.2.2.2.2.2.2.2.2.2.2.1
theorem Tx.cv_Reel_WORDS (T : Tx K mg) : ∃ a : Addr, ClX.CVal K (He.ga K "Reel") (.type "type") "WORDS" (.ref a) (.ref a) ∧ ∀ H : Hp, SqT K H a ((["put", "insert", "remove"] : List Str).map V.str) := by
  have c := T.ex
  unfold exq at c
  try simp only [Bool.and_eq_true, decide_eq_true_eq] at c
  exact cvt_ok c.2.2.2.2.2.2.2.2.2.2.2.2.2.2.2.2.2.2.2.2.2.1
theorem Tx.x_LastToken (T : Tx K mg) : Exc0 K mg "LastToken" (He.ga K "LastToken") "ValueError.__new__" veB := by
  have c := T.ex
  unfold exq at c
  try simp only [Bool.and_eq_true, decide_eq_true_eq] at c
  exact exc0_ok T.g_LastToken c.2.2.2.2.2.2.2.2.2.2.2.2.2.2.2.2.2.2.2.2.2.2.1
theorem Tx.x_TooManyEdits (T : Tx K mg) : Exc0 K mg "TooManyEdits" (He.ga K "TooManyEdits") "ValueError.__new__" veB := by
  have c := T.ex
  unfold exq at c
  try simp only [Bool.and_eq_true, decide_eq_true_eq] at c
  exact exc0_ok T.g_TooManyEdits c.2.2.2.2.2.2.2.2.2.2.2.2.2.2.2.2.2.2.2.2.2.2.2.1
theorem Tx.x_NothingToUndo (T : Tx K mg) : Exc0 K mg "NothingToUndo" (He.ga K "NothingToUndo") "ValueError.__new__" veB := by
  have c := T.ex
  unfold exq at c
  try simp only [Bool.and_eq_true, decide_eq_true_eq] at c
  exact exc0_ok T.g_NothingToUndo c.2.2.2.2.2.2.2.2.2.2.2.2.2.2.2.2.2.2.2.2.2.2.2.2.1
theorem Tx.x_Busy (T : Tx K mg) : Exc0 K mg "Busy" (He.ga K "Busy") "ValueError.__new__" veB := by
  have c := T.ex
  unfold exq at c
  try simp only [Bool.and_eq_true, decide_eq_true_eq] at c
  exact exc0_ok T.g_Busy c.2.2.2.2.2.2.2.2.2.2.2.2.2.2.2.2.2.2.2.2.2.2.2.2.2.1
theorem Tx.x_BadEdits (T : Tx K mg) : Exc0 K mg "BadEdits" (He.ga K "BadEdits") "ValueError.__new__" veB := by
  have c := T.ex
  unfold exq at c
  try simp only [Bool.and_eq_true, decide_eq_true_eq] at c
  exact exc0_ok T.g_BadEdits c.2.2.2.2.2.2.2.2.2.2.2.2.2.2.2.2.2.2.2.2.2.2.2.2.2.2.1
theorem Tx.k_TooLong (T : Tx K mg) : ClsE K (He.ga K "TooLong") := by
  have c := T.ex
  unfold exq at c
  try simp only [Bool.and_eq_true, decide_eq_true_eq] at c
  exact clsB_ok c.2.2.2.2.2.2.2.2.2.2.2.2.2.2.2.2.2.2.2.2.2.2.2.2.2.2.2.1
theorem Tx.nm_TooLong (T : Tx K mg) : NameE K (He.ga K "TooLong") 11 := by
  have c := T.ex
  unfold exq at c
  try simp only [Bool.and_eq_true, decide_eq_true_eq] at c
  exact nameB_ok T.k_TooLong (by decide) c.2.2.2.2.2.2.2.2.2.2.2.2.2.2.2.2.2.2.2.2.2.2.2.2.2.2.2.2.1
theorem Tx.kd_TooLong (T : Tx K mg) : KindE K (He.ga K "TooLong") 2 := by
  have c := T.ex
  unfold exq at c
  try simp only [Bool.and_eq_true, decide_eq_true_eq] at c
  exact kindB_ok T.k_TooLong c.2.2.2.2.2.2.2.2.2.2.2.2.2.2.2.2.2.2.2.2.2.2.2.2.2.2.2.2.2.1
theorem Tx.xm_TooLong (T : Tx K mg) : exmB K (He.ga K "TooLong") = true := by
  have c := T.ex
  unfold exq at c
  try simp only [Bool.and_eq_true, decide_eq_true_eq] at c
  exact c.2.2.2.2.2.2.2.2.2.2.2.2.2.2.2.2.2.2.2.2.2.2.2.2.2.2.2.2.2.2.1
theorem Tx.fl_TooLong (T : Tx K mg) : FldE K (He.ga K "TooLong") "limit" := by
  have c := T.ex
  unfold exq at c
  try simp only [Bool.and_eq_true, decide_eq_true_eq] at c
  exact fldB_ok c.2.2.2.2.2.2.2.2.2.2.2.2.2.2.2.2.2.2.2.2.2.2.2.2.2.2.2.2.2.2.2.1
theorem Tx.k_LastToken (T : Tx K mg) : ClsE K (He.ga K "LastToken") := by
  have c := T.ex
  unfold exq at c
  try simp only [Bool.and_eq_true, decide_eq_true_eq] at c
  exact clsB_ok c.2.2.2.2.2.2.2.2.2.2.2.2.2.2.2.2.2.2.2.2.2.2.2.2.2.2.2.2.2.2.2.2.1
theorem Tx.nm_LastToken (T : Tx K mg) : NameE K (He.ga K "LastToken") 5 := by
  have c := T.ex
  unfold exq at c
  try simp only [Bool.and_eq_true, decide_eq_true_eq] at c
  exact nameB_ok T.k_LastToken (by decide) c.2.2.2.2.2.2.2.2.2.2.2.2.2.2.2.2.2.2.2.2.2.2.2.2.2.2.2.2.2.2.2.2.2.1
theorem Tx.kd_LastToken (T : Tx K mg) : KindE K (He.ga K "LastToken") 5 := by
  have c := T.ex
  unfold exq at c
  try simp only [Bool.and_eq_true, decide_eq_true_eq] at c
  exact kindB_ok T.k_LastToken c.2.2.2.2.2.2.2.2.2.2.2.2.2.2.2.2.2.2.2.2.2.2.2.2.2.2.2.2.2.2.2.2.2.2.1
theorem Tx.xm_LastToken (T : Tx K mg) : exmB K (He.ga K "LastToken") = true := by
  have c := T.ex
  unfold exq at c
  try simp only [Bool.and_eq_true, decide_eq_true_eq] at c
  exact c.2.2.2.2.2.2.2.2.2.2.2.2.2.2.2.2.2.2.2.2.2.2.2.2.2.2.2.2.2.2.2.2.2.2.2.1
theorem Tx.k_NoPlace (T : Tx K mg) : ClsE K (He.ga K "NoPlace") := by
  have c := T.ex
  unfold exq at c
  try simp only [Bool.and_eq_true, decide_eq_true_eq] at c
  exact clsB_ok c.2.2.2.2.2.2.2.2.2.2.2.2.2.2.2.2.2.2.2.2.2.2.2.2.2.2.2.2.2.2.2.2.2.2.2.2.1
theorem Tx.nm_NoPlace (T : Tx K mg) : NameE K (He.ga K "NoPlace") 13 := by
  have c := T.ex
  unfold exq at c
  try simp only [Bool.and_eq_true, decide_eq_true_eq] at c
  exact nameB_ok T.k_NoPlace (by decide) c.2.2.2.2.2.2.2.2.2.2.2.2.2.2.2.2.2.2.2.2.2.2.2.2.2.2.2.2.2.2.2.2.2.2.2.2.2.1
theorem Tx.kd_NoPlace (T : Tx K mg) : KindE K (He.ga K "NoPlace") 0 := by
  have c := T.ex
  unfold exq at c
  try simp only [Bool.and_eq_true, decide_eq_true_eq] at c
  exact kindB_ok T.k_NoPlace c.2.2.2.2.2.2.2.2.2.2.2.2.2.2.2.2.2.2.2.2.2.2.2.2.2.2.2.2.2.2.2.2.2.2.2.2.2.2.1
theorem Tx.xm_NoPlace (T : Tx K mg) : exmB K (He.ga K "NoPlace") = true := by
  have c := T.ex
  unfold exq at c
  try simp only [Bool.and_eq_true, decide_eq_true_eq] at c
  exact c.2.2.2.2.2.2.2.2.2.2.2.2.2.2.2.2.2.2.2.2.2.2.2.2.2.2.2.2.2.2.2.2.2.2.2.2.2.2.2.1
theorem Tx.fl_NoPlace (T : Tx K mg) : FldE K (He.ga K "NoPlace") "value" := by
  have c := T.ex
  unfold exq at c
  try simp only [Bool.and_eq_true, decide_eq_true_eq] at c
  exact fldB_ok c.2.2.2.2.2.2.2.2.2.2.2.2.2.2.2.2.2.2.2.2.2.2.2.2.2.2.2.2.2.2.2.2.2.2.2.2.2.2.2.2.1
theorem Tx.k_NoArity (T : Tx K mg) : ClsE K (He.ga K "NoArity") := by
  have c := T.ex
  unfold exq at c
  try simp only [Bool.and_eq_true, decide_eq_true_eq] at c
  exact clsB_ok c.2.2.2.2.2.2.2.2.2.2.2.2.2.2.2.2.2.2.2.2.2.2.2.2.2.2.2.2.2.2.2.2.2.2.2.2.2.2.2.2.2.1
theorem Tx.nm_NoArity (T : Tx K mg) : NameE K (He.ga K "NoArity") 6 := by
  have c := T.ex
  unfold exq at c
  try simp only [Bool.and_eq_true, decide_eq_true_eq] at c
  exact nameB_ok T.k_NoArity (by decide) c.2.2.2.2.2.2.2.2.2.2.2.2.2.2.2.2.2.2.2.2.2.2.2.2.2.2.2.2.2.2.2.2.2.2.2.2.2.2.2.2.2.2.1
theorem Tx.kd_NoArity (T : Tx K mg) : KindE K (He.ga K "NoArity") 0 := by
  have c := T.ex
  unfold exq at c
  try simp only [Bool.and_eq_true, decide_eq_true_eq] at c
  exact kindB_ok T.k_NoArity c.2.2.2.2.2.2.2.2.2.2.2.2.2.2.2.2.2.2.2.2.2.2.2.2.2.2.2.2.2.2.2.2.2.2.2.2.2.2.2.2.2.2.2.1
theorem Tx.xm_NoArity (T : Tx K mg) : exmB K (He.ga K "NoArity") = true := by
  have c := T.ex
  unfold exq at c
  try simp only [Bool.and_eq_true, decide_eq_true_eq] at c
  exact c.2.2.2.2.2.2.2.2.2.2.2.2.2.2.2.2.2.2.2.2.2.2.2.2.2.2.2.2.2.2.2.2.2.2.2.2.2.2.2.2.2.2.2.2.1
theorem Tx.fl_NoArity (T : Tx K mg) : FldE K (He.ga K "NoArity") "value" := by
  have c := T.ex
  unfold exq at c
  try simp only [Bool.and_eq_true, decide_eq_true_eq] at c
  exact fldB_ok c.2.2.2.2.2.2.2.2.2.2.2.2.2.2.2.2.2.2.2.2.2.2.2.2.2.2.2.2.2.2.2.2.2.2.2.2.2.2.2.2.2.2.2.2.2.1
theorem Tx.k_TooManyEdits (T : Tx K mg) : ClsE K (He.ga K "TooManyEdits") := by
  have c := T.ex
  unfold exq at c
  try simp only [Bool.and_eq_true, decide_eq_true_eq] at c
  exact clsB_ok c.2.2.2.2.2.2.2.2.2.2.2.2.2.2.2.2.2.2.2.2.2.2.2.2.2.2.2.2.2.2.2.2.2.2.2.2.2.2.2.2.2.2.2.2.2.2.1
theorem Tx.nm_TooManyEdits (T : Tx K mg) : NameE K (He.ga K "TooManyEdits") 12 := by
  have c := T.ex
  unfold exq at c
  try simp only [Bool.and_eq_true, decide_eq_true_eq] at c
  exact nameB_ok T.k_TooManyEdits (by decide) c.2.2.2.2.2.2.2.2.2.2.2.2.2.2.2.2.2.2.2.2.2.2.2.2.2.2.2.2.2.2.2.2.2.2.2.2.2.2.2.2.2.2.2.2.2.2.2.1
theorem Tx.kd_TooManyEdits (T : Tx K mg) : KindE K (He.ga K "TooManyEdits") 5 := by
  have c := T.ex
  unfold exq at c
  try simp only [Bool.and_eq_true, decide_eq_true_eq] at c
  exact kindB_ok T.k_TooManyEdits c.2.2.2.2.2.2.2.2.2.2.2.2.2.2.2.2.2.2.2.2.2.2.2.2.2.2.2.2.2.2.2.2.2.2.2.2.2.2.2.2.2.2.2.2.2.2.2.2.1
theorem Tx.xm_TooManyEdits (T : Tx K mg) : exmB K (He.ga K "TooManyEdits") = true := by
  have c := T.ex
  unfold exq at c
  try simp only [Bool.and_eq_true, decide_eq_true_eq] at c
  exact c.2.2.2.2.2.2.2.2.2.2.2.2.2.2.2.2.2.2.2.2.2.2.2.2.2.2.2.2.2.2.2.2.2.2.2.2.2.2.2.2.2.2.2.2.2.2.2.2.2.1
theorem Tx.k_NothingToUndo (T : Tx K mg) : ClsE K (He.ga K "NothingToUndo") := by
  have c := T.ex
  unfold exq at c
  try simp only [Bool.and_eq_true, decide_eq_true_eq] at c
  exact clsB_ok c.2.2.2.2.2.2.2.2.2.2.2.2.2.2.2.2.2.2.2.2.2.2.2.2.2.2.2.2.2.2.2.2.2.2.2.2.2.2.2.2.2.2.2.2.2.2.2.2.2.2.1
theorem Tx.nm_NothingToUndo (T : Tx K mg) : NameE K (He.ga K "NothingToUndo") 9 := by
  have c := T.ex
  unfold exq at c
  try simp only [Bool.and_eq_true, decide_eq_true_eq] at c
  exact nameB_ok T.k_NothingToUndo (by decide) c.2.2.2.2.2.2.2.2.2.2.2.2.2.2.2.2.2.2.2.2.2.2.2.2.2.2.2.2.2.2.2.2.2.2.2.2.2.2.2.2.2.2.2.2.2.2.2.2.2.2.2.1
theorem Tx.kd_NothingToUndo (T : Tx K mg) : KindE K (He.ga K "NothingToUndo") 5 := by
  have c := T.ex
  unfold exq at c
  try simp only [Bool.and_eq_true, decide_eq_true_eq] at c
  exact kindB_ok T.k_NothingToUndo c.2.2.2.2.2.2.2.2.2.2.2.2.2.2.2.2.2.2.2.2.2.2.2.2.2.2.2.2.2.2.2.2.2.2.2.2.2.2.2.2.2.2.2.2.2.2.2.2.2.2.2.2.1
theorem Tx.xm_NothingToUndo (T : Tx K mg) : exmB K (He.ga K "NothingToUndo") = true := by
  have c := T.ex
  unfold exq at c
  try simp only [Bool.and_eq_true, decide_eq_true_eq] at c
  exact c.2.2.2.2.2.2.2.2.2.2.2.2.2.2.2.2.2.2.2.2.2.2.2.2.2.2.2.2.2.2.2.2.2.2.2.2.2.2.2.2.2.2.2.2.2.2.2.2.2.2.2.2.2.1
theorem Tx.k_BadEdit (T : Tx K mg) : ClsE K (He.ga K "BadEdit") := by
  have c := T.ex
  unfold exq at c
  try simp only [Bool.and_eq_true, decide_eq_true_eq] at c
  exact clsB_ok c.2.2.2.2.2.2.2.2.2.2.2.2.2.2.2.2.2.2.2.2.2.2.2.2.2.2.2.2.2.2.2.2.2.2.2.2.2.2.2.2.2.2.2.2.2.2.2.2.2.2.2.2.2.2.2.2.2.2.2.2.2.2.2.2.2.2.2.2.1
theorem Tx.nm_BadEdit (T : Tx K mg) : NameE K (He.ga K "BadEdit") 0 := by
  have c := T.ex
  unfold exq at c
  try simp only [Bool.and_eq_true, decide_eq_true_eq] at c
  exact nameB_ok T.k_BadEdit (by decide) c.2.2.2.2.2.2.2.2.2.2.2.2.2.2.2.2.2.2.2.2.2.2.2.2.2.2.2.2.2.2.2.2.2.2.2.2.2.2.2.2.2.2.2.2.2.2.2.2.2.2.2.2.2.2.2.2.2.2.2.2.2.2.2.2.2.2.2.2.2.1
theorem Tx.kd_BadEdit (T : Tx K mg) : KindE K (He.ga K "BadEdit") 1 := by
  have c := T.ex
  unfold exq at c
  try simp only [Bool.and_eq_true, decide_eq_true_eq] at c
  exact kindB_ok T.k_BadEdit c.2.2.2.2.2.2.2.2.2.2.2.2.2.2.2.2.2.2.2.2.2.2.2.2.2.2.2.2.2.2.2.2.2.2.2.2.2.2.2.2.2.2.2.2.2.2.2.2.2.2.2.2.2.2.2.2.2.2.2.2.2.2.2.2.2.2.2.2.2.2.1
theorem Tx.xm_BadEdit (T : Tx K mg) : exmB K (He.ga K "BadEdit") = true := by
  have c := T.ex
  unfold exq at c
  try simp only [Bool.and_eq_true, decide_eq_true_eq] at c
  exact c.2.2.2.2.2.2.2.2.2.2.2.2.2.2.2.2.2.2.2.2.2.2.2.2.2.2.2.2.2.2.2.2.2.2.2.2.2.2.2.2.2.2.2.2.2.2.2.2.2.2.2.2.2.2.2.2.2.2.2.2.2.2.2.2.2.2.2.2.2.2.2.1
theorem Tx.fl_BadEdit (T : Tx K mg) : FldE K (He.ga K "BadEdit") "index" := by
  have c := T.ex
  unfold exq at c
  try simp only [Bool.and_eq_true, decide_eq_true_eq] at c
  exact fldB_ok c.2.2.2.2.2.2.2.2.2.2.2.2.2.2.2.2.2.2.2.2.2.2.2.2.2.2.2.2.2.2.2.2.2.2.2.2.2.2.2.2.2.2.2.2.2.2.2.2.2.2.2.2.2.2.2.2.2.2.2.2.2.2.2.2.2.2.2.2.2.2.2.2.1
theorem Tx.k_BadEdits (T : Tx K mg) : ClsE K (He.ga K "BadEdits") := by
  have c := T.ex
  unfold exq at c
  try simp only [Bool.and_eq_true, decide_eq_true_eq] at c
  exact clsB_ok c.2.2.2.2.2.2.2.2.2.2.2.2.2.2.2.2.2.2.2.2.2.2.2.2.2.2.2.2.2.2.2.2.2.2.2.2.2.2.2.2.2.2.2.2.2.2.2.2.2.2.2.2.2.2.2.2.2.2.2.2.2.2.2.2.2.2.2.2.2.2.2.2.2.1
theorem Tx.nm_BadEdits (T : Tx K mg) : NameE K (He.ga K "BadEdits") 1 := by
  have c := T.ex
  unfold exq at c
  try simp only [Bool.and_eq_true, decide_eq_true_eq] at c
  exact nameB_ok T.k_BadEdits (by decide) c.2.2.2.2.2.2.2.2.2.2.2.2.2.2.2.2.2.2.2.2.2.2.2.2.2.2.2.2.2.2.2.2.2.2.2.2.2.2.2.2.2.2.2.2.2.2.2.2.2.2.2.2.2.2.2.2.2.2.2.2.2.2.2.2.2.2.2.2.2.2.2.2.2.2.1
theorem Tx.kd_BadEdits (T : Tx K mg) : KindE K (He.ga K "BadEdits") 5 := by
  have c := T.ex
  unfold exq at c
  try simp only [Bool.and_eq_true, decide_eq_true_eq] at c
  exact kindB_ok T.k_BadEdits c.2.2.2.2.2.2.2.2.2.2.2.2.2.2.2.2.2.2.2.2.2.2.2.2.2.2.2.2.2.2.2.2.2.2.2.2.2.2.2.2.2.2.2.2.2.2.2.2.2.2.2.2.2.2.2.2.2.2.2.2.2.2.2.2.2.2.2.2.2.2.2.2.2.2.2.1
theorem Tx.xm_BadEdits (T : Tx K mg) : exmB K (He.ga K "BadEdits") = true := by
  have c := T.ex
  unfold exq at c
  try simp only [Bool.and_eq_true, decide_eq_true_eq] at c
  exact c.2.2.2.2.2.2.2.2.2.2.2.2.2.2.2.2.2.2.2.2.2.2.2.2.2.2.2.2.2.2.2.2.2.2.2.2.2.2.2.2.2.2.2.2.2.2.2.2.2.2.2.2.2.2.2.2.2.2.2.2.2.2.2.2.2.2.2.2.2.2.2.2.2.2.2.2.1
theorem Tx.k_Rejected (T : Tx K mg) : ClsE K (He.ga K "Rejected") := by
  have c := T.ex
  unfold exq at c
  try simp only [Bool.and_eq_true, decide_eq_true_eq] at c
  exact clsB_ok c.2.2.2.2.2.2.2.2.2.2.2.2.2.2.2.2.2.2.2.2.2.2.2.2.2.2.2.2.2.2.2.2.2.2.2.2.2.2.2.2.2.2.2.2.2.2.2.2.2.2.2.2.2.2.2.2.2.2.2.2.2.2.2.2.2.2.2.2.2.2.2.2.2.2.2.2.2.1
theorem Tx.nm_Rejected (T : Tx K mg) : NameE K (He.ga K "Rejected") 10 := by
  have c := T.ex
  unfold exq at c
  try simp only [Bool.and_eq_true, decide_eq_true_eq] at c
  exact nameB_ok T.k_Rejected (by decide) c.2.2.2.2.2.2.2.2.2.2.2.2.2.2.2.2.2.2.2.2.2.2.2.2.2.2.2.2.2.2.2.2.2.2.2.2.2.2.2.2.2.2.2.2.2.2.2.2.2.2.2.2.2.2.2.2.2.2.2.2.2.2.2.2.2.2.2.2.2.2.2.2.2.2.2.2.2.2.1
theorem Tx.kd_Rejected (T : Tx K mg) : KindE K (He.ga K "Rejected") 1 := by
  have c := T.ex
  unfold exq at c
  try simp only [Bool.and_eq_true, decide_eq_true_eq] at c
  exact kindB_ok T.k_Rejected c.2.2.2.2.2.2.2.2.2.2.2.2.2.2.2.2.2.2.2.2.2.2.2.2.2.2.2.2.2.2.2.2.2.2.2.2.2.2.2.2.2.2.2.2.2.2.2.2.2.2.2.2.2.2.2.2.2.2.2.2.2.2.2.2.2.2.2.2.2.2.2.2.2.2.2.2.2.2.2.1
theorem Tx.xm_Rejected (T : Tx K mg) : exmB K (He.ga K "Rejected") = true := by
  have c := T.ex
  unfold exq at c
  try simp only [Bool.and_eq_true, decide_eq_true_eq] at c
  exact c.2.2.2.2.2.2.2.2.2.2.2.2.2.2.2.2.2.2.2.2.2.2.2.2.2.2.2.2.2.2.2.2.2.2.2.2.2.2.2.2.2.2.2.2.2.2.2.2.2.2.2.2.2.2.2.2.2.2.2.2.2.2.2.2.2.2.2.2.2.2.2.2.2.2.2.2.2.2.2.2.1
theorem Tx.fl_Rejected (T : Tx K mg) : FldE K (He.ga K "Rejected") "index" := by
  have c := T.ex
  unfold exq at c
  try simp only [Bool.and_eq_true, decide_eq_true_eq] at c
  exact fldB_ok c.2.2.2.2.2.2.2.2.2.2.2.2.2.2.2.2.2.2.2.2.2.2.2.2.2.2.2.2.2.2.2.2.2.2.2.2.2.2.2.2.2.2.2.2.2.2.2.2.2.2.2.2.2.2.2.2.2.2.2.2.2.2.2.2.2.2.2.2.2.2.2.2.2.2.2.2.2.2.2.2.2.1
end
end K75
namespace K75
open PySem PySem.Spec PyProof.Rows My
open L2 hiding TupI
set_option maxHeartbeats 0

/-! ### the head -/
abbrev RR : PySem.W.OpenRow := PySem.W.OpenLaw.row PySem.Challenge.rw_ringpostfix_k75_whole_histories_and_new
abbrev hk : PySem.W.Hook := hookS 5 fa fn exq gs
def ob (s : PySem.W.SharedT) : AlP := obsS 5 fa fn exq gs (HandSHeadRun.getT s)
theorem ob_eq (s : PySem.W.SharedT) : ob s = hk.obs s.abs := obsS_eq (HandSHeadRun.getT_eq s)
def loose : List Str := [("_wall" : Str), ("is_plain_integer" : Str), ("is_index" : Str), ("is_arity" : Str), ("ring_error" : Str), ("check_place" : Str), ("balance" : Str), ("turned" : Str), ("heights" : Str), ("need" : Str), ("is_beginning" : Str), ("beginnings" : Str), ("check_gap" : Str), ("with_arity" : Str), ("with_token" : Str), ("without_token" : Str), ("check_arity" : Str), ("put_token" : Str), ("insert_token" : Str), ("edited" : Str), ("parse_ring" : Str), ("_law_stream" : Str), ("_law_draw" : Str), ("_law_pick" : Str), ("_law_whole" : Str), ("_law_ring" : Str), ("_law_odd" : Str), ("_law_name" : Str), ("_law_field" : Str), ("_law_apply" : Str), ("_law_did" : Str), ("_law_due" : Str), ("_law_seen" : Str), ("_law_edit" : Str), ("_law_bent_edit" : Str), ("_law_ran" : Str), ("_law_batch" : Str), ("_law_all" : Str), ("_law_again" : Str), ("_law_new_right" : Str), ("RingError" : Str), ("NoBeginning" : Str), ("NoArity" : Str), ("TooLong" : Str), ("LastToken" : Str), ("BadRing" : Str), ("NoBalance" : Str), ("TooManyEdits" : Str), ("NothingToUndo" : Str), ("BadEdits" : Str), ("BadEdit" : Str), ("Rejected" : Str), ("Busy" : Str), ("BadText" : Str), ("NoPlace" : Str), ("NoVersion" : Str), ("Reel" : Str), ("MAX_ARITY" : Str), ("MAX_TOKENS" : Str), ("BATCH" : Str), ("beginnings_beginnings" : Str)]
theorem run (w : World) : HandSHeadRun.RunEq RR (PySem.W.view RR.prog [70]) hk ob 12000 loose w := by
  intro os
  kernel_rfl
end K75
namespace K75
open PySem PySem.Spec PyProof.Rows My
open L2 hiding TupI
section
variable {P : Program} {w : World} {K : PySem.W.Frag} {mg : Str → Option Value} {base : Heap}
-- @@ is_plain_integer
def sp_is_plain_integer (K : PySem.W.Frag) : Sp := fun vs H Q _ => ∃ v, vs = [v] ∧ Kd K H v ∧ Q (.bl (isI v)) H
theorem ok_is_plain_integer (T : Tx K mg) : Ok P w K mg base CX0 1 "is_plain_integer" ["value"] (sp_is_plain_integer K) := by
  refine ok_of T.F_is_plain_integer T.g_is_plain_integer sc_is_plain_integer (fun _ _ _ _ _ _ us hl => match us, hl with | [_], _ => rfl) (fun vs H Q E h => ?_) (fun cdv A outer s H vs Q E hr h => ?_)
  · obtain ⟨v, rfl, _⟩ := h
    rfl
  · obtain ⟨v, rfl, kd, q⟩ := h
    refine ⟨_, (pss_one (ps_ret (pe_and (pe_callB call_isi (by rfl) T.f_isinstance boot_isinstance (pa_cons (pv 0) (pa_cons (pe_bltn (v := .ty "int") (by rfl) T.f_int boot_int rfl) pa_nil))) (pe_one (pe_not (pe_callB call_isi (by rfl) T.f_isinstance boot_isinstance (pa_cons (pv 0) (pa_cons (pe_bltn (v := .ty "bool") (by rfl) T.f_bool boot_bool rfl) pa_nil)))))))), ?_⟩
    obtain ⟨t1, ty1, k1⟩ := kd_int kd
    obtain ⟨t2, ty2, k2⟩ := kd_bool kd
    refine ⟨_, rfl, v, .ty "int", t1, _, _, rfl, .ty _, ty1, k1, _, rfl, ?_⟩
    cases e1 : (isI v || isB v) with
    | false =>
      refine iteF ?_
      have e : isI v = false := by
        cases q1 : isI v with
        | false => rfl
        | true =>
          rw [q1] at e1
          cases e1
      rw [e] at q
      exact q
    | true =>
      refine iteT ?_
      refine ⟨_, rfl, v, .ty "bool", t2, _, _, rfl, .ty _, ty2, k2, _, rfl, ?_⟩
      have e : isI v = !isB v := by
        cases v <;> first | rfl | cases e1
      rw [e] at q
      exact q
-- @@ is_index
def sp_is_index (K : PySem.W.Frag) : Sp := fun vs H Q _ => ∃ v n, vs = [v, .int n] ∧ Kd K H v ∧ Q (.bl (ixB v n)) H
theorem ok_is_index (T : Tx K mg) : Ok P w K mg base CX0 2 "is_index" ["value", "many"] (sp_is_index K) := by
  refine ok_of T.F_is_index T.g_is_index sc_is_index (fun _ _ _ _ _ _ us hl => match us, hl with | [_, _], _ => rfl) (fun vs H Q E h => ?_) (fun cdv A outer s H vs Q E hr h => ?_)
  · obtain ⟨v, n, rfl, _⟩ := h
    rfl
  · obtain ⟨v, n, rfl, kd, q⟩ := h
    refine ⟨_, (pss_one (ps_ret (pe_and (cal (ok_is_plain_integer T) (hr.mono (by decide)) pass0 (pa_cons (pv 0) pa_nil)) (pe_one (pe_chain op_le op_lt pe_int (pv 0) (pv 1)))))), ?_⟩
    refine ⟨_, rfl, v, rfl, kd, _, rfl, ?_⟩
    cases v with
    | int i =>
      refine iteT ?_
      refine ⟨_, rfl, _, _, rfl, rfl, _, rfl, ?_⟩
      change Q (.bl (decide ((0 : Int) ≤ i) && decide (i < n))) H at q
      cases e1 : decide ((0 : Int) ≤ i) with
      | true =>
        refine iteT ?_
        rw [e1, Bool.true_and] at q
        exact ⟨_, rfl, _, _, rfl, rfl, q⟩
      | false =>
        refine iteF ?_
        rw [e1, Bool.false_and] at q
        exact q
    | _ => exact iteF q
-- @@ is_arity
def spAr (K : PySem.W.Frag) : Sp := fun vs H Q _ => ∃ v, vs = [v] ∧ Kd K H v ∧ Q (.bl (arB v)) H
theorem ok_is_arity (T : Tx K mg) : Ok P w K mg base CX0 3 "is_arity" ["value"] (spAr K) := by
  refine ok_of T.F_is_arity T.g_is_arity sc_is_arity (fun _ _ _ _ _ _ us hl => match us, hl with | [_], _ => rfl) (fun vs H Q E h => ?_) (fun cdv A outer s H vs Q E hr h => ?_)
  · obtain ⟨v, rfl, _⟩ := h
    rfl
  · obtain ⟨v, rfl, kd, q⟩ := h
    refine ⟨_, (pss_one (ps_ret (cal (ok_is_index T) (hr.mono (by decide)) pass0 (pa_cons (pv 0) (pa_cons (pe_op op_add (pe_glob (v := .int 5) rfl T.g_MAX_ARITY.choose_spec ⟨_, rfl⟩) pe_int) pa_nil))))), ?_⟩
    exact ⟨_, rfl, _, _, rfl, rfl, v, _, rfl, kd, q⟩
theorem iteN {c : Bool} {A B : Prop} (h : c = false) (b : B) : if c = true then A else B := by
  rw [if_neg (by rw [h]; exact Bool.false_ne_true)]
  exact b
theorem iteY {c : Bool} {A B : Prop} (h : c = true) (a : A) : if c = true then A else B := by
  rw [if_pos h]
  exact a
-- @@ ring_error
def spRE (K : PySem.W.Frag) : Sp := fun vs H Q _ => ∃ (a : Addr) (ns : List Int), vs = [.ref a] ∧ TupI K H a ns ∧ Ring ns ∧ ∀ H', Same H H' → Q .non H'
theorem ok_ring_error (T : Tx K mg) : Ok P w K mg base CX0 4 "ring_error" ["value"] (spRE K) := by
  refine ok_of T.F_ring_error T.g_ring_error sc_ring_error (fun _ _ _ _ _ _ us hl => match us, hl with | [_], _ => rfl) (fun vs H Q E h => ?_) (fun cdv A outer s H vs Q E hr h => ?_)
  · obtain ⟨a, ns, rfl, _⟩ := h
    rfl
  · obtain ⟨a, ns, rfl, hq, rg, q⟩ := h
    refine ⟨_, (pss_cons (ps_if (pt_not (pt_val (pe_callB call_isi (by rfl) T.f_isinstance boot_isinstance (pa_cons (pv 0) (pa_cons (pe_bltn (v := .ty "tuple") (by rfl) T.f_tuple boot_tuple rfl) pa_nil))))) (pss_one (ps_ret (pe_tup (pa_cons pe_non (pa_cons pe_str pa_nil))))) pss_nil)
    (pss_cons (ps_if (pt_not (pt_chain op_le op_le pe_int (pe_callB call_len_seq (by rfl) T.f_len PySem.boot_len (pa_cons (pv 0) pa_nil)) (pe_glob (v := .int 24) rfl T.g_MAX_TOKENS.choose_spec ⟨_, rfl⟩))) (pss_one (ps_ret (pe_tup (pa_cons pe_non (pa_cons pe_str pa_nil))))) pss_nil)
    (pss_cons (ps_for PassesOwn.never rfl (pi_enumT (by rfl) T.f_enumerate (pa_cons (pv 0) pa_nil)) (pg_tup rfl (pgs_cons (pg_name (i := 1) sc_ring_error.nd rfl (.inl rfl)) (pgs_cons (pg_name (i := 2) sc_ring_error.nd rfl (.inl rfl)) pgs_nil)))
    (pss_one (ps_if (pt_not (pt_val (cal (ok_is_arity T) (hr.mono (by decide)) pass0 (pa_cons (pv 2) pa_nil)))) (pss_one (ps_ret (pe_tup (pa_cons (pv 1) (pa_cons pe_str pa_nil))))) pss_nil)))
    (pss_one (ps_ret pe_non))))), ?_⟩
    obtain ⟨g1, g2, g3⟩ := id rg
    have hln : (ns.map V.int).length = ns.length := List.length_map _
    obtain ⟨t, ty, kk⟩ := tySq (K := K) hq
    refine ⟨_, rfl, .ref a, .ty "tuple", t, _, _, rfl, .ty _, ty, kk, _, rfl, iteN rfl ?_⟩
    refine ⟨.ref a, rfl, a, _, rfl, .inr hq, _, _, rfl, rfl, _, rfl, ?_⟩
    rw [hln]
    refine iteY (decide_eq_true (by omega)) ?_
    refine ⟨_, _, rfl, rfl, _, rfl, ?_⟩
    refine iteN (by rw [decide_eq_true (show ((ns.length : Nat) : Int) ≤ 24 by omega)]; rfl) ?_
    refine ⟨.ref a, rfl, a, _, rfl, hq, for_enumT (xs := ns.map V.int) (fun i σ H3 => ∃ y1 y2, σ = [some (.ref a), y1, y2] ∧ Same H H3) ⟨_, _, rfl, Same.refl H⟩ ?_ ?_ ?_⟩
    · rintro i σ H3 _ ⟨_, _, _, s3⟩
      exact same_seqT s3 hq
    · rintro i x σ H3 Tp hx ⟨y1, y2, rfl, s3⟩ nT
      obtain ⟨z, hz, rfl⟩ : ∃ z, ns[i]? = some z ∧ x = .int z := by
        rw [List.getElem?_map] at hx
        cases e : ns[i]? with
        | none => rw [e] at hx; cases hx
        | some z => rw [e] at hx; cases hx; exact ⟨z, rfl, rfl⟩
      have s4 := s3.trans (same_upd (o := .tup [.int (i : Nat), .int z]) nT)
      have hT := upd_same (H := H3) (a := Tp) (o := .tup [.int (i : Nat), .int z])
      revert s4 hT
      generalize (upd H3 Tp (.tup [.int (i : Nat), .int z])) = H4
      intro s4 hT
      refine ⟨Tp, _, rfl, .inl (.inl hT), rfl, _, _, rfl, _, _, rfl, rfl, ?_⟩
      refine ⟨_, rfl, .int z, rfl, .int _, _, rfl, ?_⟩
      have hb := g3 z (List.mem_of_getElem? hz)
      have c : arB (.int z) = true := by
        show (decide ((0 : Int) ≤ z) && decide (z < 6)) = true
        rw [decide_eq_true hb.1, decide_eq_true (by omega)]
        rfl
      rw [c]
      exact iteN rfl ⟨_, _, rfl, s4⟩
    · rintro σ H3 ⟨y1, y2, rfl, s3⟩
      exact q _ s3
/-- the place is one -/
def sp_check_place0 (K : PySem.W.Frag) : Sp := fun vs H Q _ => ∃ (a : Addr) (ns : List Int) (p : Nat), vs = [.ref a, .int p] ∧ TupI K H a ns ∧ p < ns.length ∧ Q .non H
theorem ok_check_place0 (T : Tx K mg) : Ok P w K mg base CX0 3 "check_place" ["ring", "place"] (sp_check_place0 K) := by
  refine ok_of T.F_check_place T.g_check_place sc_check_place (fun _ _ _ _ _ _ us hl => match us, hl with | [_, _], _ => rfl) (fun vs H Q E h => ?_) (fun cdv A outer s H vs Q E hr h => ?_)
  · obtain ⟨a, ns, p, rfl, _⟩ := h
    rfl
  · obtain ⟨a, ns, p, rfl, hT, hp, q⟩ := h
    refine ⟨_, (pss_one (ps_if (pt_not (pt_val (cal (ok_is_index T) (hr.mono (by decide)) pass0 (pa_cons (pv 1) (pa_cons (pe_callB call_len_seq (by rfl) T.f_len PySem.boot_len (pa_cons (pv 0) pa_nil)) pa_nil))))) pss_never pss_nil)), ?_⟩
    refine ⟨_, rfl, _, rfl, a, _, rfl, .inr hT, .int p, _, rfl, .int _, _, rfl, ?_⟩
    have e : ixB (.int (p : Int)) (((ns.map V.int).length : Nat) : Int) = true := by
      show (decide ((0 : Int) ≤ (p : Int)) && decide ((p : Int) < _)) = true
      rw [List.length_map, decide_eq_true (by omega), decide_eq_true (by omega)]
      rfl
    rw [e]
    exact iteF q
-- @@ check_place
theorem ok_check_place (T : Tx K mg) : Ok P w K mg base (L2N.CX P w) 4 "check_place" ["ring", "place"] (spCheckX K) := by
  refine ok_ofX T.F_check_place T.g_check_place sc_check_place (fun _ _ _ _ _ _ us hl => match us, hl with | [_, _], _ => rfl) (fun vs H Q E h => ?_) (fun cdv A outer s H vs Q E hr h => ?_)
  · obtain ⟨a, ns, v, rfl, _⟩ := h
    rfl
  · obtain ⟨a, ns, v, rfl, hT, kd, q, e⟩ := h
    refine ⟨_, (pss_one (ps_if (pt_not (pt_val (cal (ok_is_index T) (hr.mono (by decide)) pass0 (pa_cons (pv 1) (pa_cons (pe_callB call_len_seq (by rfl) T.f_len PySem.boot_len (pa_cons (pv 0) pa_nil)) pa_nil))))) (pss_one (ps_raiseN_value rfl PySem.F.excBase_LookupError PySem.F.store_LookupError T.x_NoPlace hr (L2N.takes_of rfl rfl rfl rfl) (pa_cons (pv 1) pa_nil))) pss_nil)), ?_⟩
    have hl : ((ns.map V.int).length : Int) = (ns.length : Int) := by rw [List.length_map]
    refine ⟨_, rfl, _, rfl, a, _, rfl, .inr hT, v, _, rfl, kd, _, rfl, ?_⟩
    rw [hl]
    cases c : ixB v (ns.length : Int) with
    | true => exact iteF (q c)
    | false => exact iteT ⟨_, rfl, _, rfl, fun d nd => e c _ d (same_upd nd) upd_same⟩
-- @@ balance
def sp_balance (K : PySem.W.Frag) : Sp := fun vs H Q _ => ∃ (a : Addr) (ns : List Int), vs = [.ref a] ∧ TupI K H a ns ∧ Q (.int (bal ns)) H
theorem ok_balance (T : Tx K mg) : Ok P w K mg base CX0 1 "balance" ["row"] (sp_balance K) := by
  refine ok_of T.F_balance T.g_balance sc_balance (fun _ _ _ _ _ _ us hl => match us, hl with | [_], _ => rfl) (fun vs H Q E h => ?_) (fun cdv A outer s H vs Q E hr h => ?_)
  · obtain ⟨a, ns, rfl, _⟩ := h
    rfl
  · obtain ⟨a, ns, rfl, hT, q⟩ := h
    refine ⟨_, (pss_one (ps_ret (pe_op op_sub (pe_callB call_len_seq (by rfl) T.f_len PySem.boot_len (pa_cons (pv 0) pa_nil)) (pe_callB (call_sumT rfl) (by rfl) T.f_sum boot_sum (pa_cons (pv 0) pa_nil))))), ?_⟩
    refine ⟨_, rfl, a, _, rfl, .inr hT, _, rfl, a, ns, rfl, hT, _, _, rfl, rfl, ?_⟩
    unfold bal at q
    rw [List.length_map]
    exact q
-- @@ turned
def sp_turned (K : PySem.W.Frag) : Sp := fun vs H Q _ => ∃ (a : Addr) (ns : List Int) (p : Nat), vs = [.ref a, .int p] ∧ TupI K H a ns ∧ p < ns.length ∧ ns.length ≤ 24 ∧
  ∀ H' q, Same H H' → TupI K H' q (rot ns p) → Q (.ref q) H'
theorem ok_turned (T : Tx K mg) : Ok P w K mg base CX0 4 "turned" ["ring", "place"] (sp_turned K) := by
  refine ok_of T.F_turned T.g_turned sc_turned (fun _ _ _ _ _ _ us hl => match us, hl with | [_, _], _ => rfl) (fun vs H Q E h => ?_) (fun cdv A outer s H vs Q E hr h => ?_)
  · obtain ⟨a, ns, p, rfl, _⟩ := h
    rfl
  · obtain ⟨a, ns, p, rfl, hT, hp, hl, q⟩ := h
    refine ⟨_, (pss_cons (ps_expr (cal (ok_check_place0 T) (hr.mono (by decide)) pass0 (pa_cons (pv 0) (pa_cons (pv 1) pa_nil))))
      (pss_one (ps_ret (pe_op op_catA (pe_slice sl_tupA (pv 0) (po_some (pv 1)) po_none) (pe_slice sl_tupA (pv 0) po_none (po_some (pv 1))))))), ?_⟩
    refine ⟨_, rfl, _, rfl, a, ns, p, rfl, hT, hp, ?_⟩
    -- ring[place:]
    have hl2 : (ns.map V.int).length = ns.length := List.length_map _
    have h1 : ∀ (H1 : Hp) (b : Addr), Same H H1 → TupI K H1 b (ns.drop p) → ∀ (H2 : Hp) (c : Addr), Same H1 H2 → TupI K H2 c (ns.take p) → rCatA K (.ref b) (.ref c) H2 Q := by
      intro H1 b s1 tb H2 c s2 tc
      refine ⟨b, c, _, _, rfl, rfl, same_seqT s2 tb, tc, ?_, fun e => ?_, fun e1 e2 => ?_, fun e1 e2 d nd => ?_⟩
      · rw [List.length_map, List.length_map, List.length_drop, List.length_take]
        exact sz (by omega)
      · have : (ns.drop p).length = 0 := by rw [List.map_eq_nil_iff.mp e]; rfl
        rw [List.length_drop] at this
        omega
      · refine q H2 b (s1.trans s2) ?_
        have e3 := List.map_eq_nil_iff.mp e2
        unfold rot
        rw [e3, List.append_nil]
        exact same_seqT s2 tb
      · refine q _ d ((s1.trans s2).trans (same_upd nd)) ?_
        refine tupI_of ?_
        rw [upd_same]
        unfold rot
        rw [List.map_append]
    have h2 : ∀ (H1 : Hp) (b : Addr), Same H H1 → TupI K H1 b (ns.drop p) → rSlA K (.ref a) none (some (p : Int)) H1 (fun y H2 => rCatA K (.ref b) y H2 Q) := by
      intro H1 b s1 tb
      refine ⟨a, _, rfl, same_seqT s1 hT, fun e => ?_, fun e d nd => ?_⟩
      · -- the whole of it: not so, p < length
        rw [HT.sIx_none, show HT.sIx (ns.map V.int).length (ns.map V.int).length (some (p : Int)) = min p (ns.map V.int).length from HT.sIx_nat _ _ p, hl2] at e
        omega
      · refine h1 H1 b s1 tb _ d (same_upd nd) (tupI_of ?_)
        rw [upd_same, cut_hi _ _ (by omega), List.map_take]
    refine ⟨.ref a, rfl, .int p, rfl, (p : Int), rfl, a, _, rfl, hT, fun e => ?_, fun e d nd => ?_⟩
    · rw [show HT.sIx (ns.map V.int).length 0 (some (p : Int)) = min p (ns.map V.int).length from HT.sIx_nat _ _ p, hl2] at e
      have p0 : p = 0 := by omega
      refine ⟨.ref a, rfl, .int p, rfl, (p : Int), rfl, h2 H a (Same.refl H) ?_⟩
      rw [p0, List.drop_zero]
      exact hT
    · refine ⟨.ref a, rfl, .int p, rfl, (p : Int), rfl, h2 _ d (same_upd nd) (tupI_of ?_)⟩
      rw [upd_same, cut_lo _ _ (by omega), List.map_drop]
-- @@ heights
def sp_heights (K : PySem.W.Frag) : Sp := fun vs H Q _ => ∃ (a : Addr) (ns : List Int) (p : Nat), vs = [.ref a, .int p] ∧ TupI K H a ns ∧ p < ns.length ∧ ns.length ≤ 24 ∧
  ∀ H' q, Same H H' → TupI K H' q (hts 0 (rot ns p)) → Q (.ref q) H'
theorem ok_heights (T : Tx K mg) : Ok P w K mg base CX0 5 "heights" ["ring", "place"] (sp_heights K) := by
  refine ok_of T.F_heights T.g_heights sc_heights (fun _ _ _ _ _ _ us hl => match us, hl with | [_, _], _ => rfl) (fun vs H Q E h => ?_) (fun cdv A outer s H vs Q E hr h => ?_)
  · obtain ⟨a, ns, p, rfl, _⟩ := h
    rfl
  · obtain ⟨a, ns, p, rfl, hT, hp, hl, q⟩ := h
    refine ⟨_, (pss_cons (ps_set (i := 2) sc_heights.nd rfl (.inl rfl) (pe_lst pa_nil))
      (pss_cons (ps_set (i := 3) sc_heights.nd rfl (.inl rfl) pe_int)
      (pss_cons (ps_for PassesOwn.never rfl (pi_tup (cal (ok_turned T) (hr.mono (by decide)) pass0 (pa_cons (pv 0) (pa_cons (pv 1) pa_nil)))) (pg_name (i := 4) sc_heights.nd rfl (.inl rfl))
        (pss_cons (ps_aug (i := 3) sc_heights.nd rfl (.inl rfl) (pe_op op_sub pe_int (pv 4)) ip_add)
        (pss_one (ps_expr (pe_bm PySem.F.plainAttrs_list PySem.F.slot_list_append PySem.F.type_list_append mt_append (pv 2) (pa_cons (pv 3) pa_nil))))))
      (pss_one (ps_ret (pe_callTy call_tuple_of (by rfl) T.f_tuple boot_tuple (pa_cons (pv 2) pa_nil))))))), ?_⟩
    refine ⟨Nat.zero_le _, fun o no => ?_⟩
    have s1 : Same H (upd H o (.lst [])) := same_upd no
    refine ⟨.ref a, rfl, .int p, rfl, a, ns, p, rfl, same_seqT s1 hT, hp, hl, fun H1 t s2 hR => ?_⟩
    have ho1 : H1 o = some (.lst []) := s2 _ _ upd_same
    have hrl : (rot ns p).length = ns.length := rot_len ns p (by omega)
    refine ⟨t, rfl, ⟨_, hR⟩, for_tup (xs := (rot ns p).map V.int) (fun i σ H3 => ∃ y4, σ = [some (.ref a), some (.int p), some (.ref o), some (.int (ps (rot ns p) i)), y4] ∧ Same H H3 ∧ TupI K H3 t (rot ns p) ∧
      H3 o = some (.lst (((hts 0 (rot ns p)).take i).map V.int))) ?_ ?_ ?_ ?_⟩
    · exact ⟨none, by rw [ps_zero]; rfl, s1.trans s2, hR, ho1⟩
    · rintro i σ H3 _ ⟨_, _, _, h3, _⟩
      exact h3
    · rintro i x σ H3 hx ⟨y4, rfl, s3, h3, h4⟩
      have hi : i < (rot ns p).length := by
        have := (List.getElem?_eq_some_iff.mp hx).1
        rw [List.length_map] at this
        exact this
      have ex : x = .int (rot ns p)[i] := by
        rw [List.getElem?_map, List.getElem?_eq_getElem hi] at hx
        exact (Option.some.inj hx).symm
      subst ex
      have e1 : ps (rot ns p) i + (1 - (rot ns p)[i]) = ps (rot ns p) (i + 1) := by
        unfold ps
        rw [sum_take (List.getElem?_eq_getElem hi)]
        omega
      refine ⟨_, rfl, _, rfl, _, _, rfl, rfl, _, _, rfl, rfl, ?_⟩
      refine ⟨.ref o, rfl, .inl ⟨rfl, _, lstI_of h4⟩, .int _, rfl, o, _, _, rfl, rfl, h4, szl (by rw [List.length_map, List.length_take, hts_len]; omega), ?_⟩
      refine ⟨some (.int (rot ns p)[i]), by rw [← e1]; rfl, fun b z e => ?_, ?_, ?_⟩
      · have nb : b ≠ o := ne_of_none e no
        rw [upd_ne nb]
        exact s3 _ _ e
      · rcases h3 with (z | ⟨ob, z⟩) | z
        · exact .inl (.inl (by rw [upd_ne (ne_of z h4 (by intro q; cases q))]; exact z))
        · exact .inl (.inr ⟨ob, by rw [upd_ne (ne_of z h4 (by intro q; cases q))]; exact z⟩)
        · exact .inr z
      · rw [upd_same, List.take_add_one, hts_get _ _ _ hi, List.map_append]
        have e2 : (0 : Int) + ((i : Int) + 1) - ((rot ns p).take (i + 1)).sum = ps (rot ns p) (i + 1) := by
          unfold ps
          omega
        rw [e2, ← e1]
        rfl
    · rintro σ H3 ⟨y4, rfl, s3, h3, h4⟩
      refine ⟨.ref o, rfl, o, _, rfl, .inl ⟨lstI_of h4, fun d nd => ?_⟩⟩
      refine q _ d (s3.trans (same_upd nd)) (tupI_of ?_)
      rw [upd_same, List.length_map, List.take_of_length_le (by rw [hts_len]; exact Nat.le_refl _)]
-- @@ need
def sp_need (K : PySem.W.Frag) : Sp := fun vs H Q _ => ∃ (a : Addr) (ns : List Int) (p : Nat), vs = [.ref a, .int p] ∧ TupI K H a ns ∧ p < ns.length ∧ ns.length ≤ 24 ∧
  ∀ H', Same H H' → Q (.int (nd ns p)) H'
theorem ok_need (T : Tx K mg) : Ok P w K mg base CX0 6 "need" ["ring", "place"] (sp_need K) := by
  refine ok_of T.F_need T.g_need sc_need (fun _ _ _ _ _ _ us hl => match us, hl with | [_, _], _ => rfl) (fun vs H Q E h => ?_) (fun cdv A outer s H vs Q E hr h => ?_)
  · obtain ⟨a, ns, p, rfl, _⟩ := h
    rfl
  · obtain ⟨a, ns, p, rfl, hT, hp, hl, q⟩ := h
    refine ⟨_, (pss_one (ps_ret (pe_callB (call_max2 rfl) (by rfl) T.f_max boot_max (pa_cons pe_int (pa_cons (pe_op op_sub pe_int (pe_callB (call_minT rfl) (by rfl) T.f_min boot_min (pa_cons (cal (ok_heights T) (hr.mono (by decide)) pass0 (pa_cons (pv 0) (pa_cons (pv 1) pa_nil))) pa_nil))) pa_nil))))), ?_⟩
    refine ⟨.ref a, rfl, .int p, rfl, a, ns, p, rfl, hT, hp, hl, fun H1 t s1 h1 => ?_⟩
    refine ⟨t, _, rfl, h1, by rw [hts_len, rot_len ns p (by omega)]; omega, fun m m1 m2 => ?_⟩
    refine ⟨_, _, rfl, rfl, _, _, rfl, ?_⟩
    rw [lo_uniq m1 m2]
    exact q H1 s1
-- @@ is_beginning
def sp_is_beginning (K : PySem.W.Frag) : Sp := fun vs H Q _ => ∃ (a : Addr) (ns : List Int) (p : Nat), vs = [.ref a, .int p] ∧ TupI K H a ns ∧ p < ns.length ∧ ns.length ≤ 24 ∧
  ∀ H', Same H H' → Q (.bl (decide (nd ns p = 0))) H'
theorem ok_is_beginning (T : Tx K mg) : Ok P w K mg base CX0 7 "is_beginning" ["ring", "place"] (sp_is_beginning K) := by
  refine ok_of T.F_is_beginning T.g_is_beginning sc_is_beginning (fun _ _ _ _ _ _ us hl => match us, hl with | [_, _], _ => rfl) (fun vs H Q E h => ?_) (fun cdv A outer s H vs Q E hr h => ?_)
  · obtain ⟨a, ns, p, rfl, _⟩ := h
    rfl
  · obtain ⟨a, ns, p, rfl, hT, hp, hl, q⟩ := h
    refine ⟨_, (pss_one (ps_ret (pe_cmpR op_eq (cal (ok_need T) (hr.mono (by decide)) pass0 (pa_cons (pv 0) (pa_cons (pv 1) pa_nil))) pe_int (nomark _)))), ?_⟩
    refine ⟨.ref a, rfl, .int p, rfl, a, ns, p, rfl, hT, hp, hl, fun H1 s1 => ?_⟩
    have e : decide (V.int (nd ns p) = V.int 0) = decide (nd ns p = 0) := L2.dec_int
    refine ⟨rfl, ?_⟩
    rw [e]
    exact q H1 s1
-- @@ beginnings
def sp_beginnings (K : PySem.W.Frag) : Sp := fun vs H Q _ => ∃ (a : Addr) (ns : List Int), vs = [.ref a] ∧ TupI K H a ns ∧ ns.length ≤ 24 ∧
  ∀ H' t, Same H H' → H t = none → H' t = some (.tup ((ofN (bgn ns)).map V.int)) → Q (.ref t) H'
theorem ok_beginnings (T : Tx K mg) : Ok P w K mg base CX0 8 "beginnings" ["ring"] (sp_beginnings K) := by
  refine ok_of T.F_beginnings T.g_beginnings sc_beginnings (fun _ _ _ _ _ _ us hl => match us, hl with | [_], _ => rfl) (fun vs H Q E h => ?_) (fun cdv A outer s H vs Q E hr h => ?_)
  · obtain ⟨a, ns, rfl, _⟩ := h
    rfl
  · obtain ⟨a, ns, rfl, hT, hl, q⟩ := h
    refine ⟨_, (pss_one (ps_ret (pe_callTy call_tuple_of (by rfl) T.f_tuple boot_tuple (pa_cons (pe_lc (own := [("place", 1)]) (g := gName 1) rfl sc_beginnings.nd (pi_range1 (by rfl) T.f_range (pa_cons (pe_callB call_len_seq (by rfl) T.f_len PySem.boot_len (pa_cons (pv 0) pa_nil)) pa_nil)) (blkOk_by (own := [("place", 1)]) (N := N_beginnings) (sc := defScope s_beginnings) (by decide +kernel)) (fun _ _ _ _ _ => pg_name (i := 1) sc_beginnings.nd rfl (Or.inl rfl)) (fun _ _ _ _ _ => pts_one (pt_val (cal (ok_is_beginning T) (hr.mono (by decide)) pass0 (pa_cons (pv 0) (pa_cons (pv 1) pa_nil))))) (fun _ _ _ _ _ => (pv 1))) pa_nil)))), ?_⟩
    have hlen : (ns.map V.int).length = ns.length := List.length_map _
    refine ⟨.ref a, rfl, a, _, rfl, .inr hT, ((ns.length : Nat) : Int), by rw [hlen], by omega, by omega, fun D nD => ?_⟩
    refine lc_range (lo := 0) (n := ns.length) (fun i H1 => Same H H1 ∧ H1 D = some (.lst ((ofN (bgU ns i)).map V.int))) ⟨same_upd nD, by rw [upd_same]; rfl⟩ ?_ ?_
    · rintro i H1 hi ⟨s1, hD⟩
      refine ⟨rfl, ?_⟩
      refine ⟨.ref a, rfl, .int ((0 : Int) + (i : Int)), rfl, a, ns, i, by rw [Int.zero_add]; rfl, same_seqT s1 hT, hi, hl, fun H2 s2 => ?_⟩
      refine ⟨_, rfl, ite2 (fun h => ?_) (fun h => ?_)⟩
      · refine ⟨_, rfl, _, s2 _ _ hD, szl (by rw [List.length_map, ofN_len]; have := bgU_len ns i; omega), ?_, ?_⟩
        · intro b z e
          rw [upd_ne (ne_of_none e nD)]
          exact s2 _ _ (s1 _ _ e)
        · rw [upd_same, bgU_yes (of_decide_eq_true h), ofN_app, List.map_append]
          show some (HO.lst (_ ++ [V.int ((0 : Int) + (i : Int))])) = _
          rw [Int.zero_add]
          rfl
      · refine ⟨s1.trans s2, ?_⟩
        rw [bgU_no (fun z => h (decide_eq_true z))]
        exact s2 _ _ hD
    · rintro H1 ⟨s1, hD⟩
      refine ⟨D, _, rfl, .inl ⟨lstI_of hD, fun t nt => ?_⟩⟩
      exact q _ t (s1.trans (same_upd nt)) (s1.free nt) upd_same
-- @@ check_gap
def spGap (K : PySem.W.Frag) : Sp := fun vs H Q E => ∃ (a : Addr) (ns : List Int) (v : V), vs = [.ref a, v] ∧ TupI K H a ns ∧ Kd K H v ∧
  (ixB v ((ns.length + 1 : Nat) : Int) = true → Q .non H) ∧
  (ixB v ((ns.length + 1 : Nat) : Int) = false → ∀ H' d, Same H H' → H' d = some (.xd [("value", v)]) → E (.ref (He.ga K "NoPlace")) (some d) H')
theorem ok_check_gap (T : Tx K mg) : Ok P w K mg base (L2N.CX P w) 4 "check_gap" ["ring", "place"] (spGap K) := by
  refine ok_ofX T.F_check_gap T.g_check_gap sc_check_gap (fun _ _ _ _ _ _ us hl => match us, hl with | [_, _], _ => rfl) (fun vs H Q E h => ?_) (fun cdv A outer s H vs Q E hr h => ?_)
  · obtain ⟨a, ns, v, rfl, _⟩ := h
    rfl
  · obtain ⟨a, ns, v, rfl, hT, kd, q, e⟩ := h
    refine ⟨_, (pss_one (ps_if (pt_not (pt_val (cal (ok_is_index T) (hr.mono (by decide)) pass0 (pa_cons (pv 1) (pa_cons (pe_op op_add (pe_callB call_len_seq (by rfl) T.f_len PySem.boot_len (pa_cons (pv 0) pa_nil)) pe_int) pa_nil))))) (pss_one (ps_raiseN_value rfl PySem.F.excBase_LookupError PySem.F.store_LookupError T.x_NoPlace hr (L2N.takes_of rfl rfl rfl rfl) (pa_cons (pv 1) pa_nil))) pss_nil)), ?_⟩
    have hl : ((ns.map V.int).length : Int) + 1 = ((ns.length + 1 : Nat) : Int) := by rw [List.length_map]; omega
    refine ⟨_, rfl, .ref a, rfl, a, _, rfl, .inr hT, _, _, rfl, rfl, v, _, rfl, kd, _, rfl, ?_⟩
    rw [hl]
    cases c : ixB v ((ns.length + 1 : Nat) : Int) with
    | true => exact iteF (q c)
    | false => exact iteT ⟨_, rfl, _, rfl, fun d nd => e c _ d (same_upd nd) upd_same⟩
-- @@ with_arity
def spWith (K : PySem.W.Frag) : Sp := fun vs H Q _ => ∃ (a : Addr) (ns : List Int) (p : Nat) (x : Int), vs = [.ref a, .int p, .int x] ∧ TupI K H a ns ∧ p < ns.length ∧ ns.length ≤ 24 ∧
  ∀ H' b, Same H H' → TupI K H' b (ns.set p x) → Q (.ref b) H'
theorem mset_int (ns : List Int) (p : Nat) (x : Int) (hp : p < ns.length) : (ns.map V.int).take p ++ [V.int x] ++ (ns.map V.int).drop (p + 1) = (ns.set p x).map V.int := by
  rw [List.set_eq_take_append_cons_drop, if_pos hp, List.map_append, List.map_cons, List.map_take, List.map_drop, List.append_assoc]
  rfl
theorem ok_with_arity (T : Tx K mg) : Ok P w K mg base CX0 1 "with_arity" ["ring", "place", "arity"] (spWith K) := by
  refine ok_of T.F_with_arity T.g_with_arity sc_with_arity (fun _ _ _ _ _ _ us hl => match us, hl with | [_, _, _], _ => rfl) (fun vs H Q E h => ?_) (fun cdv A outer s H vs Q E hr h => ?_)
  · obtain ⟨a, ns, p, x, rfl, _⟩ := h
    rfl
  · obtain ⟨a, ns, p, x, rfl, hT, hp, hl, q⟩ := h
    refine ⟨_, (pss_one (ps_ret (pe_op op_catA (pe_op op_catA (pe_slice sl_tupA (pv 0) po_none (po_some (pv 1))) (pe_tup (pa_cons (pv 2) pa_nil))) (pe_slice sl_tupA (pv 0) (po_some (pe_op op_add (pv 1) pe_int)) po_none)))), ?_⟩
    have hln : (ns.map V.int).length = ns.length := List.length_map _
    refine ⟨.ref a, rfl, .int (p : Int), rfl, (p : Int), rfl, slT_hi hT (by omega) fun H1 b s1 hb => ?_⟩
    refine ⟨_, rfl, sz (by show 1 ≤ _; decide), fun c nc => ?_⟩
    have s2 := same_upd (o := .tup [V.int x]) nc
    refine catT (same_seqT s2 hb) (.inl (.inl upd_same)) (by rw [List.length_take]; show _ + 1 ≤ _; omega) fun H2 d s3 hd => ?_
    refine ⟨.ref a, rfl, _, rfl, _, _, rfl, rfl, _, rfl, ?_⟩
    dsimp only [tNoPart]
    refine slT_lo (p := p + 1) (same_seqT (s1.trans (s2.trans s3)) hT) (by omega) fun H3 e s4 he => ?_
    refine catT (same_seqT s4 hd) he (by rw [List.length_append, List.length_take, List.length_drop]; show _ + 1 + _ ≤ _; omega) fun H4 f s5 hf => ?_
    rw [mset_int ns p x hp] at hf
    exact q H4 f (s1.trans (s2.trans (s3.trans (s4.trans s5)))) hf
-- @@ with_token
def insR (ns : List Int) (p : Nat) (x : Int) : List Int := ns.take p ++ [x] ++ ns.drop p
def remR (ns : List Int) (p : Nat) : List Int := ns.take p ++ ns.drop (p + 1)
def spPut (K : PySem.W.Frag) : Sp := fun vs H Q E => ∃ (a : Addr) (ns : List Int) (v : V) (x : Int), vs = [.ref a, v, .int x] ∧ TupI K H a ns ∧ ns.length ≤ 24 ∧ Kd K H v ∧
  (∀ p : Nat, v = .int p → p ≤ ns.length → ns.length < 24 → ∀ H' b, Same H H' → TupI K H' b (insR ns p x) → Q (.ref b) H') ∧
  (ixB v ((ns.length + 1 : Nat) : Int) = true → ns.length = 24 → ∀ H' d, Same H H' → H' d = some (.xd [("limit", .int 24)]) → E (.ref (He.ga K "TooLong")) (some d) H') ∧
  (ixB v ((ns.length + 1 : Nat) : Int) = false → ∀ H' d, Same H H' → H' d = some (.xd [("value", v)]) → E (.ref (He.ga K "NoPlace")) (some d) H')
theorem ok_with_token (T : Tx K mg) : Ok P w K mg base (L2N.CX P w) 5 "with_token" ["ring", "place", "arity"] (spPut K) := by
  refine ok_ofX T.F_with_token T.g_with_token sc_with_token (fun _ _ _ _ _ _ us hl => match us, hl with | [_, _, _], _ => rfl) (fun vs H Q E h => ?_) (fun cdv A outer s H vs Q E hr h => ?_)
  · obtain ⟨a, ns, v, x, rfl, _⟩ := h
    rfl
  · obtain ⟨a, ns, v, x, rfl, hT, g2, kd, q, ql, qp⟩ := h
    refine ⟨_, (pss_cons (ps_expr (calXN (ok_check_gap T) (hr.mono (by decide)) (L2N.takes_of rfl rfl rfl rfl) (pa_cons (pv 0) (pa_cons (pv 1) pa_nil))))
    (pss_cons (ps_if (pt_cmpR op_ge (pe_callB call_len_seq (by rfl) T.f_len PySem.boot_len (pa_cons (pv 0) pa_nil)) (pe_glob (v := .int 24) rfl T.g_MAX_TOKENS.choose_spec ⟨_, rfl⟩) (nomark _)) (pss_one (ps_raiseN_limit rfl PySem.F.excBase_ValueError PySem.F.store_ValueError T.x_TooLong hr (L2N.takes_of rfl rfl rfl rfl) (pa_cons (pe_glob (v := .int 24) rfl T.g_MAX_TOKENS.choose_spec ⟨_, rfl⟩) pa_nil))) pss_nil)
    (pss_one (ps_ret (pe_op op_catA (pe_op op_catA (pe_slice sl_tupA (pv 0) po_none (po_some (pv 1))) (pe_tup (pa_cons (pv 2) pa_nil))) (pe_slice sl_tupA (pv 0) (po_some (pv 1)) po_none)))))), ?_⟩
    have hln : (ns.map V.int).length = ns.length := List.length_map _
    refine ⟨.ref a, rfl, v, rfl, a, ns, v, rfl, hT, kd, fun hix => ?_, qp⟩
    refine ⟨.ref a, rfl, a, _, rfl, .inr hT, _, _, rfl, rfl, _, rfl, ?_⟩
    by_cases c : ns.length = 24
    · refine iteY (by rw [hln]; exact decide_eq_true (by omega)) ?_
      exact ⟨_, rfl, fun d nd => ql hix c _ d (same_upd nd) upd_same⟩
    · refine iteN (by rw [hln]; exact decide_eq_false (by omega)) ?_
      obtain ⟨p, rfl, hp⟩ : ∃ p : Nat, v = .int p ∧ p < ns.length + 1 := by
        rcases ix_cases (v := v) (n := ns.length + 1) with z | z
        · exact z
        · rw [z] at hix
          cases hix
      refine ⟨.ref a, rfl, .int (p : Int), rfl, (p : Int), rfl, slT_hi hT (by omega) fun H1 b s1 hb => ?_⟩
      refine ⟨_, rfl, sz (by show 1 ≤ _; decide), fun c nc => ?_⟩
      have s2 := same_upd (o := .tup [V.int x]) nc
      refine catT (same_seqT s2 hb) (.inl (.inl upd_same)) (by rw [List.length_take]; show _ + 1 ≤ _; omega) fun H2 d s3 hd => ?_
      refine ⟨.ref a, rfl, .int (p : Int), rfl, (p : Int), rfl, ?_⟩
      dsimp only [tNoPart]
      refine slT_lo (p := p) (same_seqT (s1.trans (s2.trans s3)) hT) (by omega) fun H3 e s4 he => ?_
      refine catT (same_seqT s4 hd) he (by rw [List.length_append, List.length_take, List.length_drop]; show _ + 1 + _ ≤ _; omega) fun H4 f s5 hf => ?_
      have e : (ns.map V.int).take p ++ [V.int x] ++ (ns.map V.int).drop p = (insR ns p x).map V.int := by
        unfold insR
        rw [List.map_append, List.map_append, List.map_take, List.map_drop]
        rfl
      rw [e] at hf
      exact q p rfl (by omega) (by omega) H4 f (s1.trans (s2.trans (s3.trans (s4.trans s5)))) hf
-- @@ without_token
def spRem (K : PySem.W.Frag) : Sp := fun vs H Q E => ∃ (a : Addr) (ns : List Int) (v : V), vs = [.ref a, v] ∧ TupI K H a ns ∧ ns.length ≤ 24 ∧ Kd K H v ∧
  (∀ p : Nat, v = .int p → p < ns.length → ns.length ≠ 1 → ∀ H' b, Same H H' → TupI K H' b (remR ns p) → Q (.ref b) H') ∧
  (ixB v (ns.length : Int) = true → ns.length = 1 → ∀ H', Same H H' → E (.ref (He.ga K "LastToken")) none H') ∧
  (ixB v (ns.length : Int) = false → ∀ H' d, Same H H' → H' d = some (.xd [("value", v)]) → E (.ref (He.ga K "NoPlace")) (some d) H')
theorem remR_int (ns : List Int) (p : Nat) : (ns.map V.int).take p ++ (ns.map V.int).drop (p + 1) = (remR ns p).map V.int := by
  unfold remR
  rw [List.map_append, List.map_take, List.map_drop]
theorem ok_without_token (T : Tx K mg) : Ok P w K mg base (L2N.CX P w) 5 "without_token" ["ring", "place"] (spRem K) := by
  refine ok_ofX T.F_without_token T.g_without_token sc_without_token (fun _ _ _ _ _ _ us hl => match us, hl with | [_, _], _ => rfl) (fun vs H Q E h => ?_) (fun cdv A outer s H vs Q E hr h => ?_)
  · obtain ⟨a, ns, v, rfl, _⟩ := h
    rfl
  · obtain ⟨a, ns, v, rfl, hT, g2, kd, q, ql, qp⟩ := h
    refine ⟨_, (pss_cons (ps_expr (calXN (ok_check_place T) (hr.mono (by decide)) (L2N.takes_of rfl rfl rfl rfl) (pa_cons (pv 0) (pa_cons (pv 1) pa_nil))))
    (pss_cons (ps_if (pt_cmpR op_eq (pe_callB call_len_seq (by rfl) T.f_len PySem.boot_len (pa_cons (pv 0) pa_nil)) pe_int (nomark _)) (pss_one (ps_raiseN0 rfl PySem.F.excBase_ValueError T.x_LastToken (L2N.takes_of rfl rfl rfl rfl))) pss_nil)
    (pss_one (ps_ret (pe_op op_catA (pe_slice sl_tupA (pv 0) po_none (po_some (pv 1))) (pe_slice sl_tupA (pv 0) (po_some (pe_op op_add (pv 1) pe_int)) po_none)))))), ?_⟩
    have hln : (ns.map V.int).length = ns.length := List.length_map _
    refine ⟨.ref a, rfl, v, rfl, a, ns, v, rfl, hT, kd, fun hix => ?_, qp⟩
    refine ⟨.ref a, rfl, a, _, rfl, .inr hT, rfl, _, rfl, ?_⟩
    by_cases c : ns.length = 1
    · refine iteY (by rw [hln]; exact decide_eq_true (by rw [c]; rfl)) ?_
      exact ql hix c H (Same.refl H)
    · refine iteN (by rw [hln]; exact decide_eq_false (fun z => by have := V.int.inj z; omega)) ?_
      obtain ⟨p, rfl, hp⟩ : ∃ p : Nat, v = .int p ∧ p < ns.length := by
        rcases ix_cases (v := v) (n := ns.length) with z | z
        · exact z
        · rw [z] at hix
          cases hix
      refine ⟨.ref a, rfl, .int (p : Int), rfl, (p : Int), rfl, slT_hi hT (by omega) fun H1 b s1 hb => ?_⟩
      refine ⟨.ref a, rfl, _, rfl, _, _, rfl, rfl, _, rfl, ?_⟩
      dsimp only [tNoPart]
      refine slT_lo (p := p + 1) (same_seqT s1 hT) (by omega) fun H3 e s4 he => ?_
      refine catT (same_seqT s4 hb) he (by rw [List.length_take, List.length_drop]; omega) fun H4 f s5 hf => ?_
      rw [remR_int] at hf
      exact q p rfl (by omega) c H4 f (s1.trans (s4.trans s5)) hf
-- @@ check_arity
def spChkA (K : PySem.W.Frag) : Sp := fun vs H Q E => ∃ (v : V), vs = [v] ∧ Kd K H v ∧ (arB v = true → Q .non H) ∧
  (arB v = false → ∀ H' d, Same H H' → H' d = some (.xd [("value", v)]) → E (.ref (He.ga K "NoArity")) (some d) H')
theorem ok_check_arity (T : Tx K mg) : Ok P w K mg base (L2N.CX P w) 4 "check_arity" ["arity"] (spChkA K) := by
  refine ok_ofX T.F_check_arity T.g_check_arity sc_check_arity (fun _ _ _ _ _ _ us hl => match us, hl with | [_], _ => rfl) (fun vs H Q E h => ?_) (fun cdv A outer s H vs Q E hr h => ?_)
  · obtain ⟨v, rfl, _⟩ := h
    rfl
  · obtain ⟨v, rfl, kd, q, e⟩ := h
    refine ⟨_, (pss_one (ps_if (pt_not (pt_val (cal (ok_is_arity T) (hr.mono (by decide)) pass0 (pa_cons (pv 0) pa_nil)))) (pss_one (ps_raiseN_value rfl PySem.F.excBase_ValueError PySem.F.store_ValueError T.x_NoArity hr (L2N.takes_of rfl rfl rfl rfl) (pa_cons (pv 0) pa_nil))) pss_nil)), ?_⟩
    refine ⟨_, rfl, v, rfl, kd, _, rfl, ?_⟩
    cases c : arB v with
    | true => exact iteF (q c)
    | false => exact iteT ⟨_, rfl, _, rfl, fun d nd => e c _ d (same_upd nd) upd_same⟩
-- @@ put_token
def spPutT (K : PySem.W.Frag) : Sp := fun vs H Q E => ∃ (a : Addr) (ns : List Int) (p x : V), vs = [.ref a, p, x] ∧ TupI K H a ns ∧ ns.length ≤ 24 ∧ Kd K H p ∧ Kd K H x ∧ EdTo K H (edPut ns p x) Q E
theorem ok_put_token (T : Tx K mg) : Ok P w K mg base (L2N.CX P w) 6 "put_token" ["ring", "place", "arity"] (spPutT K) := by
  refine ok_ofX T.F_put_token T.g_put_token sc_put_token (fun _ _ _ _ _ _ us hl => match us, hl with | [_, _, _], _ => rfl) (fun vs H Q E h => ?_) (fun cdv A outer s H vs Q E hr h => ?_)
  · obtain ⟨a, ns, p, x, rfl, _⟩ := h
    rfl
  · obtain ⟨a, ns, p, x, rfl, hT, hl, kp, kx, q⟩ := h
    refine ⟨_, (pss_cons (ps_expr (calXN (ok_check_place T) (hr.mono (by decide)) (L2N.takes_of rfl rfl rfl rfl) (pa_cons (pv 0) (pa_cons (pv 1) pa_nil))))
    (pss_cons (ps_expr (calXN (ok_check_arity T) (hr.mono (by decide)) (L2N.takes_of rfl rfl rfl rfl) (pa_cons (pv 2) pa_nil)))
    (pss_one (ps_ret (cal (ok_with_arity T) (hr.mono (by decide)) pass0 (pa_cons (pv 0) (pa_cons (pv 1) (pa_cons (pv 2) pa_nil)))))))), ?_⟩
    refine ⟨.ref a, rfl, p, rfl, a, ns, p, rfl, hT, kp, fun hix => ?_, fun hix H' d s1 hd => ?_⟩
    · refine ⟨x, rfl, x, rfl, kx, fun hx => ?_, fun hx H' d s1 hd => ?_⟩
      · obtain ⟨n, rfl, hn⟩ := ix_of hix
        obtain ⟨i, rfl⟩ := ar_of hx
        refine ⟨.ref a, rfl, _, rfl, _, rfl, a, ns, n, i, rfl, hT, hn, hl, fun H' b s1 hb => ?_⟩
        have e : edPut ns (.int (n : Int)) (.int i) = .ok (ns.set n i) := by
          unfold edPut
          rw [if_neg (by rw [hix]; exact Bool.noConfusion), if_neg (by rw [hx]; exact Bool.noConfusion)]
          rfl
        rw [e] at q
        exact q H' b s1 hb
      · have e : edPut ns p x = .bad "NoArity" (some ("value", x)) := by
          unfold edPut
          rw [if_neg (by rw [hix]; exact Bool.noConfusion), if_pos hx]
        rw [e] at q
        exact q H' _ s1 ⟨d, rfl, hd⟩
    · have e : edPut ns p x = .bad "NoPlace" (some ("value", p)) := if_pos hix
      rw [e] at q
      exact q H' _ s1 ⟨d, rfl, hd⟩
-- @@ insert_token
def spInsT (K : PySem.W.Frag) : Sp := fun vs H Q E => ∃ (a : Addr) (ns : List Int) (p x : V), vs = [.ref a, p, x] ∧ TupI K H a ns ∧ ns.length ≤ 24 ∧ Kd K H p ∧ Kd K H x ∧ EdTo K H (edIns ns p x) Q E
theorem ok_insert_token (T : Tx K mg) : Ok P w K mg base (L2N.CX P w) 6 "insert_token" ["ring", "place", "arity"] (spInsT K) := by
  refine ok_ofX T.F_insert_token T.g_insert_token sc_insert_token (fun _ _ _ _ _ _ us hl => match us, hl with | [_, _, _], _ => rfl) (fun vs H Q E h => ?_) (fun cdv A outer s H vs Q E hr h => ?_)
  · obtain ⟨a, ns, p, x, rfl, _⟩ := h
    rfl
  · obtain ⟨a, ns, p, x, rfl, hT, hl, kp, kx, q⟩ := h
    refine ⟨_, (pss_cons (ps_expr (calXN (ok_check_gap T) (hr.mono (by decide)) (L2N.takes_of rfl rfl rfl rfl) (pa_cons (pv 0) (pa_cons (pv 1) pa_nil))))
    (pss_cons (ps_expr (calXN (ok_check_arity T) (hr.mono (by decide)) (L2N.takes_of rfl rfl rfl rfl) (pa_cons (pv 2) pa_nil)))
    (pss_one (ps_ret (calXN (ok_with_token T) (hr.mono (by decide)) (L2N.takes_of rfl rfl rfl rfl) (pa_cons (pv 0) (pa_cons (pv 1) (pa_cons (pv 2) pa_nil)))))))), ?_⟩
    refine ⟨.ref a, rfl, p, rfl, a, ns, p, rfl, hT, kp, fun hix => ?_, fun hix H' d s1 hd => ?_⟩
    · refine ⟨x, rfl, x, rfl, kx, fun hx => ?_, fun hx H' d s1 hd => ?_⟩
      · obtain ⟨i, rfl⟩ := ar_of hx
        have e : edIns ns p (.int i) = if ns.length = 24 then .bad "TooLong" (some ("limit", .int 24)) else .ok (insL ns (vNat p) i) := by
          unfold edIns
          rw [if_neg (by rw [hix]; exact Bool.noConfusion), if_neg (by rw [hx]; exact Bool.noConfusion)]
          rfl
        refine ⟨.ref a, rfl, _, rfl, _, rfl, a, ns, p, i, rfl, hT, hl, kp, fun n en hn h24 H' b s1 hb => ?_, fun _ h24 H' d s1 hd => ?_, fun z => ?_⟩
        · subst en
          rw [e, if_neg (by omega)] at q
          exact q H' b s1 hb
        · rw [e, if_pos h24] at q
          exact q H' _ s1 ⟨d, rfl, hd⟩
        · rw [z] at hix
          cases hix
      · have e : edIns ns p x = .bad "NoArity" (some ("value", x)) := by
          unfold edIns
          rw [if_neg (by rw [hix]; exact Bool.noConfusion), if_pos hx]
        rw [e] at q
        exact q H' _ s1 ⟨d, rfl, hd⟩
    · have e : edIns ns p x = .bad "NoPlace" (some ("value", p)) := if_pos hix
      rw [e] at q
      exact q H' _ s1 ⟨d, rfl, hd⟩
-- @@ edited
def spEdited (K : PySem.W.Frag) : Sp := fun vs H Q E => ∃ (a t : Addr) (ns : List Int) (u : Str) (xs : List V) (o : EdR), vs = [.ref a, .ref t] ∧ TupI K H a ns ∧ ns.length ≤ 24 ∧ SqT K H t (.str u :: xs) ∧ (∀ x ∈ xs, Kd K H x) ∧ edA ns u xs = some o ∧ EdTo K H o Q E
theorem ok_edited (T : Tx K mg) : Ok P w K mg base (L2N.CX P w) 7 "edited" ["ring", "edit"] (spEdited K) := by
  refine ok_ofX T.F_edited T.g_edited sc_edited (fun _ _ _ _ _ _ us hl => match us, hl with | [_, _], _ => rfl) (fun vs H Q E h => ?_) (fun cdv A outer s H vs Q E hr h => ?_)
  · obtain ⟨a, t, ns, u, xs, o, rfl, _⟩ := h
    rfl
  · obtain ⟨a, t, ns, u, xs, o, rfl, hT, hl, hE, kx, ho, q⟩ := h
    refine ⟨_, (pss_cons (ps_if (pt_cmpR op_eq (pe_ix ix_tup (pv 1) pe_int (fun _ _ => rfl)) pe_str (nomark _)) (pss_one (ps_ret (calXN (ok_put_token T) (hr.mono (by decide)) (L2N.takes_of rfl rfl rfl rfl) (pa_cons (pv 0) (pa_cons (pe_ix ix_tup (pv 1) pe_int (fun _ _ => rfl)) (pa_cons (pe_ix ix_tup (pv 1) pe_int (fun _ _ => rfl)) pa_nil)))))) pss_nil)
    (pss_cons (ps_if (pt_cmpR op_eq (pe_ix ix_tup (pv 1) pe_int (fun _ _ => rfl)) pe_str (nomark _)) (pss_one (ps_ret (calXN (ok_insert_token T) (hr.mono (by decide)) (L2N.takes_of rfl rfl rfl rfl) (pa_cons (pv 0) (pa_cons (pe_ix ix_tup (pv 1) pe_int (fun _ _ => rfl)) (pa_cons (pe_ix ix_tup (pv 1) pe_int (fun _ _ => rfl)) pa_nil)))))) pss_nil)
    (pss_one (ps_ret (calXN (ok_without_token T) (hr.mono (by decide)) (L2N.takes_of rfl rfl rfl rfl) (pa_cons (pv 0) (pa_cons (pe_ix ix_tup (pv 1) pe_int (fun _ _ => rfl)) pa_nil))))))), ?_⟩
    have at0 : ∀ {v : V} {vs : List V}, atI (v :: vs) 0 = some v := fun {v vs} => atI_nat (j := 0) rfl
    refine ⟨.ref t, rfl, t, _, _, _, rfl, rfl, hE, at0, rfl, _, rfl, ?_⟩
    match xs, ho with
    | [p, x], ho =>
      have h1 : atI [V.str u, p, x] 1 = some p := atI_nat (j := 1) rfl
      have h2 : atI [V.str u, p, x] 2 = some x := atI_nat (j := 2) rfl
      rw [edA2] at ho
      by_cases c1 : u = "put"
      · rw [if_pos c1] at ho
        cases ho
        refine iteY (decide_eq_true (congrArg V.str c1)) ?_
        refine ⟨.ref a, rfl, .ref t, rfl, t, _, _, _, rfl, rfl, hE, h1, .ref t, rfl, t, _, _, _, rfl, rfl, hE, h2, ?_⟩
        exact ⟨a, ns, p, x, rfl, hT, hl, kx p List.mem_cons_self, kx x (List.mem_cons_of_mem _ List.mem_cons_self), q⟩
      · rw [if_neg c1] at ho
        refine iteN (decide_eq_false (fun z => c1 (V.str.inj z))) ?_
        refine ⟨.ref t, rfl, t, _, _, _, rfl, rfl, hE, at0, rfl, _, rfl, ?_⟩
        by_cases c2 : u = "insert"
        · rw [if_pos c2] at ho
          cases ho
          refine iteY (decide_eq_true (congrArg V.str c2)) ?_
          refine ⟨.ref a, rfl, .ref t, rfl, t, _, _, _, rfl, rfl, hE, h1, .ref t, rfl, t, _, _, _, rfl, rfl, hE, h2, ?_⟩
          exact ⟨a, ns, p, x, rfl, hT, hl, kx p List.mem_cons_self, kx x (List.mem_cons_of_mem _ List.mem_cons_self), q⟩
        · rw [if_neg c2] at ho
          cases ho
    | [p], ho =>
      have h1 : atI [V.str u, p] 1 = some p := atI_nat (j := 1) rfl
      rw [edA1] at ho
      by_cases c1 : u = "remove"
      · rw [if_pos c1] at ho
        cases ho
        subst c1
        refine iteN rfl ⟨.ref t, rfl, t, _, _, _, rfl, rfl, hE, at0, rfl, _, rfl, iteN rfl ?_⟩
        refine ⟨.ref a, rfl, .ref t, rfl, t, _, _, _, rfl, rfl, hE, h1, ?_⟩
        refine ⟨a, ns, p, rfl, hT, hl, kx p List.mem_cons_self, fun n en hn g1 H' b s1 hb => ?_, fun hix g1 H' s1 => ?_, fun hix H' d s1 hd => ?_⟩
        · subst en
          have e : edRem ns (.int (n : Int)) = .ok (remL ns n) := by
            unfold edRem
            rw [if_neg (by rw [ix_int hn]; exact Bool.noConfusion), if_neg g1]
            rfl
          rw [e] at q
          exact q H' b s1 hb
        · have e : edRem ns p = .bad "LastToken" none := by
            unfold edRem
            rw [if_neg (by rw [hix]; exact Bool.noConfusion), if_pos g1]
          rw [e] at q
          exact q H' _ s1 rfl
        · have e : edRem ns p = .bad "NoPlace" (some ("value", p)) := if_pos hix
          rw [e] at q
          exact q H' _ s1 ⟨d, rfl, hd⟩
      · rw [if_neg c1] at ho
        cases ho
    | [], ho => cases ho
    | _ :: _ :: _ :: _, ho => cases ho
-- @@ Reel_init
abbrev CR (K : PySem.W.Frag) : Addr := He.ga K "Reel"
def spInit (K : PySem.W.Frag) : Sp := fun vs H Q _ => ∃ (x t : Addr) (dx : Addr) (ns : List Int), vs = [.ref x, .ref t] ∧ H x = some (.ins (CR K) dx []) ∧ TupI K H t ns ∧ Ring ns ∧
  ∀ H', KX x H H' → RO K H' x (CR K) ⟨[ns], [], ofN (bgn ns), none, false⟩ → Q .non H'
theorem ok_Reel_init (T : Tx K mg) : OkA P w K mg base (L2.CX P w) 10 (He.ma K (CR K) "__init__") ["self", "ring"] (spInit K) := by
  refine okA_ofX T.F_Reel_init sc_Reel_init (fun _ _ _ _ _ _ us hl => match us, hl with | [_, _], _ => rfl) (fun vs H Q E h => ?_) (fun cdv A outer s H vs Q E hr h => ?_)
  · obtain ⟨x, t, dx, ns, rfl, _⟩ := h
    rfl
  · obtain ⟨x, t, dx, ns, rfl, hx, hT, rg, q⟩ := h
    refine ⟨_, (pss_cons (ps_set (i := 2) sc_Reel_init.nd rfl (.inl rfl) (cal (ok_ring_error T) (hr.mono (by decide)) pass0 (pa_cons (pv 1) pa_nil)))
    (pss_cons (ps_if (pt_cmpR op_notN (pv 2) pe_non (nomark _)) (pss_one (ps_raise_error rfl PySem.F.excBase_ValueError PySem.F.store_ValueError T.x_BadRing hr (takes_of rfl rfl rfl rfl) (pa_cons (pv 2) pa_nil))) pss_nil)
    (pss_cons (ps_fld (pv 0) (pe_tup (pa_cons (pv 1) pa_nil)) rfl)
    (pss_cons (ps_fld (pv 0) (pe_tup pa_nil) rfl)
    (pss_cons (ps_fld (pv 0) (calAs (ok_beginnings T) T.g_beginnings_beginnings T.al_beginnings_beginnings (hr.mono (by decide)) pass0 (pa_cons (pv 1) pa_nil)) rfl)
    (pss_cons (ps_fld (pv 0) pe_non rfl)
    (pss_one (ps_fld (pv 0) pe_bl rfl)))))))), ?_⟩
    refine ⟨.ref t, rfl, t, ns, rfl, hT, rg, fun H1 s1 => ?_⟩
    refine ⟨_, rfl, rfl, _, rfl, iteN rfl ?_⟩
    have hx1 := s1 _ _ hx
    refine ⟨.ref t, rfl, sz (by show 1 ≤ _; decide), fun p np => ?_⟩
    obtain ⟨H2, e2, s2, hp⟩ := new_tup np [.ref t]
    rw [e2]
    have dp : Dt K H2 (.ref p) (.tuple [rgD ns]) := .tup (.inl (.inl hp)) (.cons (dt_rg (same_seqT (s1.trans s2) hT)) .nil)
    have hx2 := s2 _ _ hx1
    refine ⟨.ref x, rfl, x, _, dx, _, rfl, hx2, T.c_Reel, T.n_Reel_rings, by decide, ?_⟩
    obtain ⟨H3, e3, k3, t3, hx3⟩ := new_fld hx2 "rings" (.ref p) rfl
    rw [e3]
    refine ⟨sz (by show 0 ≤ _; decide), fun p2 np2 => ?_⟩
    obtain ⟨H4, e4, s4, hp2⟩ := new_tup np2 []
    rw [e4]
    have hx4 := s4 _ _ hx3
    refine ⟨.ref x, rfl, x, _, dx, _, rfl, hx4, T.c_Reel, T.n_Reel_done, by show 1 < 1000; decide, ?_⟩
    obtain ⟨H5, e5, k5, t5, hx5⟩ := new_fld hx4 "done" (.ref p2) rfl
    rw [e5]
    have t05 : KT H H5 := (s1.trans s2).kt.trans (t3.trans (s4.kt.trans t5))
    refine ⟨.ref t, rfl, t, ns, rfl, SqT.kt t05 hT, rg.2.1, fun H6 b s6 _ hb => ?_⟩
    have hx6 := s6 _ _ hx5
    refine ⟨.ref x, rfl, x, _, dx, _, rfl, hx6, T.c_Reel, T.n_Reel_starts, by show 2 < 1000; decide, ?_⟩
    obtain ⟨H7, e7, k7, t7, hx7⟩ := new_fld hx6 "starts" (.ref b) rfl
    rw [e7]
    refine ⟨.ref x, rfl, x, _, dx, _, rfl, hx7, T.c_Reel, T.n_Reel_chosen, by show 3 < 1000; decide, ?_⟩
    obtain ⟨H8, e8, k8, t8, hx8⟩ := new_fld hx7 "chosen" .non rfl
    rw [e8]
    refine ⟨.ref x, rfl, x, _, dx, _, rfl, hx8, T.c_Reel, T.n_Reel_busy, by show 4 < 1000; decide, ?_⟩
    obtain ⟨H9, e9, k9, t9, hx9⟩ := new_fld hx8 "busy" (.bl false) rfl
    rw [e9]
    have t79 := t7.trans (t8.trans t9)
    have t39 := t3.trans (s4.kt.trans (t5.trans (s6.kt.trans t79)))
    refine q H9 (((s1.trans s2).kx x).trans (k3.trans ((s4.kx x).trans (k5.trans ((s6.kx x).trans (k7.trans (k8.trans k9))))))) ⟨dx, _, _, _, hx9, dp.kt t39, ?_, ?_⟩
    · exact .tup (.inl (.inl ((t5.trans (s6.kt.trans t79)) _ _ |>.1 hp2))) .nil
    · exact (dt_rg (.inl (.inl hb))).kt t79
-- @@ Reel_like
-- @@ Reel_is_edit
def edB : List V → Bool
  | [] => false
  | w :: ys => if w = .str "remove" then decide (ys.length = 1) else if w = .str "put" ∨ w = .str "insert" then decide (ys.length = 2) else false
theorem words_yes {w : V} (h : inV w ((["put", "insert", "remove"] : List Str).map V.str) = true) : w = .str "put" ∨ w = .str "insert" ∨ w = .str "remove" := by
  cases w with
  | str x =>
    have h : ((("put" : Str) == x) || ((("insert" : Str) == x) || ((("remove" : Str) == x) || false))) = true := h
    rw [Bool.or_false, Bool.or_eq_true, Bool.or_eq_true, beq_iff_eq, beq_iff_eq, beq_iff_eq] at h
    rcases h with h | h | h
    · exact .inl (by rw [h])
    · exact .inr (.inl (by rw [h]))
    · exact .inr (.inr (by rw [h]))
  | _ => cases h
theorem words_no {w : V} (h : inV w ((["put", "insert", "remove"] : List Str).map V.str) = false) (ys : List V) : edB (w :: ys) = false := by
  have e : ∀ x : Str, x ∈ (["put", "insert", "remove"] : List Str) → w ≠ .str x := by
    intro x hx z
    rw [z] at h
    simp only [List.mem_cons, List.not_mem_nil, or_false] at hx
    rcases hx with rfl | rfl | rfl <;> cases h
  show (if w = .str "remove" then decide (ys.length = 1) else if w = .str "put" ∨ w = .str "insert" then decide (ys.length = 2) else false) = false
  rw [if_neg (e _ (by simp)), if_neg (fun z => z.elim (e _ (by simp)) (e _ (by simp)))]
/-- whether a value is an edit -/
def EdIs (K : PySem.W.Frag) (H : Hp) (v : V) (b : Bool) : Prop := (∃ t, TyX K H v t ∧ PySem.W.kitOne K t (.type "tuple") = some false ∧ b = false) ∨
  ∃ (a : Addr) (xs : List V), v = .ref a ∧ TyX K H v (.type "tuple") ∧ SqT K H a xs ∧ xs.length ≤ 1000 ∧ (∀ w ∈ xs.head?, flatV w = true) ∧ b = edB xs
def spIsEd (K : PySem.W.Frag) : Sp := fun vs H Q _ => ∃ (v : V) (b : Bool), vs = [v] ∧ EdIs K H v b ∧ Q (.bl b) H
theorem ok_Reel_is_edit (T : Tx K mg) : OkA P w K mg base CX0 3 (smA K (CR K) "is_edit") ["value"] (spIsEd K) := by
  refine okA_of T.F_Reel_is_edit sc_Reel_is_edit (fun _ _ _ _ _ _ us hl => match us, hl with | [_], _ => rfl) (fun vs H Q E h => ?_) (fun cdv A outer s H vs Q E hr h => ?_)
  · obtain ⟨v, b, rfl, _⟩ := h
    rfl
  · obtain ⟨v, b, rfl, he, q⟩ := h
    refine ⟨_, (pss_cons (ps_if (PW.pt (pw_or (pt_not (pt_val (pe_callB call_isi (by rfl) T.f_isinstance boot_isinstance (pa_cons (pv 0) (pa_cons (pe_bltn (v := .ty "tuple") (by rfl) T.f_tuple boot_tuple rfl) pa_nil))))) (pw_or (pt_cmpR op_eq (pe_callB call_len_seq (by rfl) T.f_len PySem.boot_len (pa_cons (pv 0) pa_nil)) pe_int (nomark _)) (pw_or1 (pt_cmpR op_notIn_seq (pe_ix ix_tup (pv 0) pe_int (fun _ _ => rfl)) (ClX.pe_cval (pe_glob (v := .ref (He.ga K "Reel")) rfl T.g_Reel rfl)) rfl))))) (pss_one (ps_ret pe_bl)) pss_nil)
    (pss_cons (ps_set (i := 1) sc_Reel_is_edit.nd rfl (.inl rfl) (pe_ifExp (pt_cmpR op_eq (pe_ix ix_tup (pv 0) pe_int (fun _ _ => rfl)) pe_str (nomark _)) pe_int pe_int))
    (pss_one (ps_ret (pe_cmpR op_eq (pe_callB call_len_seq (by rfl) T.f_len PySem.boot_len (pa_cons (pv 0) pa_nil)) (pe_op op_add pe_int (pv 1)) (nomark _)))))), ?_⟩
    rcases he with ⟨t, ty, kt, rfl⟩ | ⟨a, xs, rfl, ty, hT, hl, hf, rfl⟩
    · exact ⟨v, rfl, v, .ty "tuple", t, _, _, rfl, .ty _, ty, kt, _, rfl, q⟩
    · refine ⟨.ref a, rfl, .ref a, .ty "tuple", _, _, _, rfl, .ty _, ty, kit_ty (a := "tuple") (b := "tuple") (r := true) (by decide +kernel), _, rfl, ?_⟩
      refine iteN rfl ?_
      refine ⟨.ref a, rfl, a, xs, rfl, .inr hT, rfl, _, rfl, ?_⟩
      cases xs with
      | nil => exact iteY rfl q
      | cons w ys =>
        refine iteN (decide_eq_false fun z => by injection z with z; simp at z; omega) ?_
        obtain ⟨aw, hcv, hw⟩ := T.cv_Reel_WORDS
        have hfw : flatV w = true := hf w rfl
        refine ⟨.ref a, rfl, a, _, _, w, rfl, rfl, hT, atI_nat (j := 0) rfl, ?_⟩
        refine ⟨_, _, _, _, rfl, T.cr_Reel, hcv, aw, _, rfl, .inr (hw _), hfw, rfl, _, rfl, ?_⟩
        cases hin : inV w ((["put", "insert", "remove"] : List Str).map V.str) with
        | false =>
          refine iteY rfl ?_
          rw [words_no hin] at q
          exact q
        | true =>
          refine iteN rfl ?_
          have fin : ∀ (n : Nat), edB (w :: ys) = decide (ys.length = n) → decide (V.int (((w :: ys).length : Nat) : Int) = V.int (1 + (n : Int))) = edB (w :: ys) := by
            intro n e
            rw [e]
            refine decide_eq_decide.mpr ⟨fun z => ?_, fun z => ?_⟩
            · have := V.int.inj z
              rw [List.length_cons] at this
              omega
            · rw [List.length_cons, z]
              congr 1
              omega
          rcases words_yes hin with rfl | rfl | rfl
          · refine ⟨.ref a, rfl, a, _, _, _, rfl, rfl, hT, atI_nat (j := 0) rfl, rfl, _, rfl, iteN rfl ?_⟩
            refine ⟨.ref a, rfl, a, _, rfl, .inr hT, _, rfl, _, _, rfl, rfl, rfl, ?_⟩
            exact Eq.mpr (congrArg (fun z => Q (V.bl z) H) (fin 2 rfl)) q
          · refine ⟨.ref a, rfl, a, _, _, _, rfl, rfl, hT, atI_nat (j := 0) rfl, rfl, _, rfl, iteN rfl ?_⟩
            refine ⟨.ref a, rfl, a, _, rfl, .inr hT, _, rfl, _, _, rfl, rfl, rfl, ?_⟩
            exact Eq.mpr (congrArg (fun z => Q (V.bl z) H) (fin 2 rfl)) q
          · refine ⟨.ref a, rfl, a, _, _, _, rfl, rfl, hT, atI_nat (j := 0) rfl, rfl, _, rfl, iteY rfl ?_⟩
            refine ⟨.ref a, rfl, a, _, rfl, .inr hT, _, rfl, _, _, rfl, rfl, rfl, ?_⟩
            exact Eq.mpr (congrArg (fun z => Q (V.bl z) H) (fin 1 rfl)) q
-- @@ Reel_ring
def spR_ring (K : PySem.W.Frag) : Sp := fun vs H Q _ => ∃ (x : Addr) (r : RS) (ns : List Int), vs = [.ref x] ∧ RO K H x (CR K) r ∧ r.rs.getLast? = some ns ∧ ∀ t, TupI K H t ns → Q (.ref t) H
theorem ok_Reel_ring (T : Tx K mg) : OkA P w K mg base CX0 2 (gtA K (CR K) "ring") ["self"] (spR_ring K) := by
  refine okA_of T.F_Reel_ring sc_Reel_ring (fun _ _ _ _ _ _ us hl => match us, hl with | [_], _ => rfl) (fun vs H Q E h => ?_) (fun cdv A outer s H vs Q E hr h => ?_)
  · obtain ⟨x, r, ns, rfl, _⟩ := h
    rfl
  · obtain ⟨x, r, ns, rfl, hR, hns, q⟩ := h
    refine ⟨_, (pss_one (ps_ret (pe_ix ix_tup (pe_fld (pv 0) rfl) (pe_un un_neg pe_int) (fun _ _ => rfl)))), ?_⟩
    obtain ⟨dx, vr, vd, v1, hx, dr, dd, d1⟩ := id hR
    obtain ⟨rs, er⟩ := last_of hns
    rw [er, List.map_append] at dr
    obtain ⟨ra, rvs, rfl, hra, dra⟩ := dr.tuple_of
    obtain ⟨ys, y, rfl, dys, dy⟩ := dra.snoc_of
    obtain ⟨rt, rfl, hT⟩ := dt_rg_of dy
    exact ⟨.ref x, rfl, x, _, dx, _, _, rfl, hx, T.c_Reel, T.n_Reel_rings, rfl, _, rfl, ra, _, _, _, rfl, rfl, hra, atI_last _ _, q rt hT⟩
-- @@ Reel_version
def spR_version (K : PySem.W.Frag) : Sp := fun vs H Q _ => ∃ (x : Addr) (r : RS), vs = [.ref x] ∧ RO K H x (CR K) r ∧ Q (.int (r.es.length : Int)) H
theorem ok_Reel_version (T : Tx K mg) : OkA P w K mg base CX0 2 (gtA K (CR K) "version") ["self"] (spR_version K) := by
  refine okA_of T.F_Reel_version sc_Reel_version (fun _ _ _ _ _ _ us hl => match us, hl with | [_], _ => rfl) (fun vs H Q E h => ?_) (fun cdv A outer s H vs Q E hr h => ?_)
  · obtain ⟨x, r, rfl, _⟩ := h
    rfl
  · obtain ⟨x, r, rfl, hR, q⟩ := h
    refine ⟨_, (pss_one (ps_ret (pe_callB call_len_seq (by rfl) T.f_len PySem.boot_len (pa_cons (pe_fld (pv 0) rfl) pa_nil)))), ?_⟩
    obtain ⟨dx, vr, vd, v1, hx, dr, dd, d1⟩ := id hR
    obtain ⟨da, dvs, rfl, hda, dda⟩ := dd.tuple_of
    have ld : (dvs.length : Int) = (r.es.length : Int) := by rw [dda.len]
    refine ⟨.ref x, rfl, x, _, dx, _, _, rfl, hx, T.c_Reel, T.n_Reel_done, rfl, da, _, rfl, .inr hda, ?_⟩
    rw [ld]
    exact q
-- @@ Reel_beginnings
def spR_beginnings (K : PySem.W.Frag) : Sp := fun vs H Q _ => ∃ (x : Addr) (r : RS), vs = [.ref x] ∧ RO K H x (CR K) r ∧ ∀ v, Dt K H v (rgD r.ss) → Q v H
theorem ok_Reel_beginnings (T : Tx K mg) : OkA P w K mg base CX0 2 (gtA K (CR K) "beginnings") ["self"] (spR_beginnings K) := by
  refine okA_of T.F_Reel_beginnings sc_Reel_beginnings (fun _ _ _ _ _ _ us hl => match us, hl with | [_], _ => rfl) (fun vs H Q E h => ?_) (fun cdv A outer s H vs Q E hr h => ?_)
  · obtain ⟨x, r, rfl, _⟩ := h
    rfl
  · obtain ⟨x, r, rfl, hR, q⟩ := h
    refine ⟨_, (pss_one (ps_ret (pe_fld (pv 0) rfl))), ?_⟩
    obtain ⟨dx, vr, vd, v1, hx, dr, dd, d1⟩ := id hR
    exact ⟨.ref x, rfl, x, _, dx, _, _, rfl, hx, T.c_Reel, T.n_Reel_starts, rfl, q _ d1⟩
-- @@ Reel_start
-- @@ Reel_start_set
-- @@ Reel_check_idle
def spIdle (K : PySem.W.Frag) : Sp := fun vs H Q E => ∃ (x : Addr) (r : RS), vs = [.ref x] ∧ RO K H x (CR K) r ∧ (r.b = false → Q .non H) ∧ (r.b = true → E (.ref (He.ga K "Busy")) none H)
theorem ok_Reel_check_idle (T : Tx K mg) : OkA P w K mg base (L2.CX P w) 10 (He.ma K (CR K) "check_idle") ["self"] (spIdle K) := by
  refine okA_ofX T.F_Reel_check_idle sc_Reel_check_idle (fun _ _ _ _ _ _ us hl => match us, hl with | [_], _ => rfl) (fun vs H Q E h => ?_) (fun cdv A outer s H vs Q E hr h => ?_)
  · obtain ⟨x, r, rfl, _⟩ := h
    rfl
  · obtain ⟨x, r, rfl, ⟨dx, vr, vd, v1, hx, dr, dd, d1⟩, q, e⟩ := h
    refine ⟨_, (pss_one (ps_if (pt_val (pe_fld (pv 0) rfl)) (pss_one (ps_raise0 rfl PySem.F.excBase_ValueError T.x_Busy (takes_of rfl rfl rfl rfl))) pss_nil)), ?_⟩
    refine ⟨.ref x, rfl, x, _, dx, _, _, rfl, hx, T.c_Reel, T.n_Reel_busy, rfl, _, rfl, ?_⟩
    cases c : r.b with
    | true => exact iteT (e c)
    | false => exact iteF (q c)
-- @@ Reel_check_result
def spRes (K : PySem.W.Frag) : Sp := fun vs H Q _ => ∃ (a b : V), vs = [a, b] ∧ Q .non H
theorem ok_Reel_check_result (T : Tx K mg) : OkA P w K mg base CX0 10 (He.ma K (CR K) "check_result") ["self", "ring"] (spRes K) := by
  refine okA_of T.F_Reel_check_result sc_Reel_check_result (fun _ _ _ _ _ _ us hl => match us, hl with | [_, _], _ => rfl) (fun vs H Q E h => ?_) (fun cdv A outer s H vs Q E hr h => ?_)
  · obtain ⟨a, b, rfl, _⟩ := h
    rfl
  · obtain ⟨a, b, rfl, q⟩ := h
    exact ⟨_, (pss_one ps_pass), q⟩
-- @@ Reel_settle
def spSettle (K : PySem.W.Frag) : Sp := fun vs H Q _ => ∃ (x dx : Addr) (vr vd v1 v2 v3 : V) (ds : List PyData) (ns : List Int), vs = [.ref x] ∧ H x = some (.ins (CR K) dx [("rings", vr), ("done", vd), ("starts", v1), ("chosen", v2), ("busy", v3)]) ∧
  Dt K H vr (.tuple (ds ++ [rgD ns])) ∧ ns.length ≤ 24 ∧
  ∀ H' v4, KX x H H' → H' x = some (.ins (CR K) dx [("rings", vr), ("done", vd), ("starts", v4), ("chosen", .non), ("busy", v3)]) → Dt K H' v4 (rgD (ofN (bgn ns))) → Q .non H'
theorem ok_Reel_settle (T : Tx K mg) : OkA P w K mg base CX0 10 (He.ma K (CR K) "settle") ["self"] (spSettle K) := by
  refine okA_of T.F_Reel_settle sc_Reel_settle (fun _ _ _ _ _ _ us hl => match us, hl with | [_], _ => rfl) (fun vs H Q E h => ?_) (fun cdv A outer s H vs Q E hr h => ?_)
  · obtain ⟨x, dx, vr, vd, v1, v2, v3, ds, ns, rfl, _⟩ := h
    rfl
  · obtain ⟨x, dx, vr, vd, v1, v2, v3, ds, ns, rfl, hx, dr, hl, q⟩ := h
    refine ⟨_, (pss_cons (ps_fld (pv 0) (calAs (ok_beginnings T) T.g_beginnings_beginnings T.al_beginnings_beginnings (hr.mono (by decide)) pass0 (pa_cons (pe_ix ix_tup (pe_fld (pv 0) rfl) (pe_un un_neg pe_int) (fun _ _ => rfl)) pa_nil)) rfl)
    (pss_one (ps_fld (pv 0) pe_non rfl))), ?_⟩
    obtain ⟨r, xs, rfl, hr1, ha⟩ := dr.tuple_of
    obtain ⟨ys, y, rfl, _, dy⟩ := ha.snoc_of
    obtain ⟨t, rfl, hT⟩ := dt_rg_of dy
    refine ⟨.ref x, rfl, x, _, dx, _, _, rfl, hx, T.c_Reel, T.n_Reel_rings, rfl, _, rfl, r, _, _, _, rfl, rfl, hr1, atI_last _ _, ?_⟩
    refine ⟨t, ns, rfl, hT, hl, fun H1 b s1 _ hb => ?_⟩
    have hx1 := s1 _ _ hx
    refine ⟨.ref x, rfl, x, _, dx, _, rfl, hx1, T.c_Reel, T.n_Reel_starts, by show 5 < 1000; decide, ?_⟩
    obtain ⟨H2, e2, k2, t2, hx2⟩ := new_fld hx1 "starts" (.ref b) rfl
    rw [e2]
    refine ⟨.ref x, rfl, x, _, dx, _, rfl, hx2, T.c_Reel, T.n_Reel_chosen, by show 5 < 1000; decide, ?_⟩
    obtain ⟨H3, e3, k3, t3, hx3⟩ := new_fld hx2 "chosen" .non rfl
    rw [e3]
    exact q H3 _ ((s1.kx x).trans (k2.trans k3)) hx3 ((dt_rg (.inl (.inl hb))).kt (t2.trans t3))
-- @@ Reel_do_edit
def spDo (K : PySem.W.Frag) : Sp := fun vs H Q E => ∃ (x t : Addr) (r : RS) (ns : List Int) (rs : List (List Int)) (u : Str) (xs : List V) (ed : PyData) (o : EdR), vs = [.ref x, .ref t] ∧ RO K H x (CR K) r ∧ r.rs = rs ++ [ns] ∧ ns.length ≤ 24 ∧ r.rs.length ≤ 1000 ∧ r.es.length ≤ 1000 ∧
  SqT K H t (.str u :: xs) ∧ (∀ ms, o = .ok ms → Dt K H (.ref t) ed) ∧ (∀ y ∈ xs, Kd K H y) ∧ edA ns u xs = some o ∧ (∀ ms, o = .ok ms → ms.length ≤ 24) ∧ RzTo K H x (CR K) (doR r o ed) Q E
theorem ok_Reel_do_edit (T : Tx K mg) : OkA P w K mg base (L2N.CX P w) 14 (He.ma K (CR K) "do_edit") ["self", "edit"] (spDo K) := by
  refine okA_ofX T.F_Reel_do_edit sc_Reel_do_edit (fun _ _ _ _ _ _ us hl => match us, hl with | [_, _], _ => rfl) (fun vs H Q E h => ?_) (fun cdv A outer s H vs Q E hr h => ?_)
  · obtain ⟨x, t, r, ns, rs, u, xs, ed, o, rfl, _⟩ := h
    rfl
  · obtain ⟨x, t, r, ns, rs, u, xs, ed, o, rfl, hR, er, hl, l1, l2, hE, dE, kx, ho, hm, q⟩ := h
    refine ⟨_, (pss_cons (ps_if (pt_cmpR op_ge (pe_callB call_len_seq (by rfl) T.f_len PySem.boot_len (pa_cons (pe_fld (pv 0) rfl) pa_nil)) (pe_con (pv 0) rfl) (nomark _)) (pss_one (ps_raiseN0 rfl PySem.F.excBase_ValueError T.x_TooManyEdits (L2N.takes_of rfl rfl rfl rfl))) pss_nil)
    (pss_cons (ps_set (i := 2) sc_Reel_do_edit.nd rfl (.inl rfl) (calXN (ok_edited T) (hr.mono (by decide)) (L2N.takes_of rfl rfl rfl rfl) (pa_cons (pe_ix ix_tup (pe_fld (pv 0) rfl) (pe_un un_neg pe_int) (fun _ _ => rfl)) (pa_cons (pv 1) pa_nil))))
    (pss_cons (ps_expr (calM (ok_Reel_check_result T) (hr.mono (by decide)) pass0 T.c_Reel T.m_Reel_check_result (pv 0) (pa_cons (pv 2) pa_nil)))
    (pss_cons (ps_fld (pv 0) (pe_tup (StX.pa_star (pe_fld (pv 0) rfl) (pa_cons (pv 2) pa_nil))) rfl)
    (pss_cons (ps_fld (pv 0) (pe_tup (StX.pa_star (pe_fld (pv 0) rfl) (pa_cons (pv 1) pa_nil))) rfl)
    (pss_cons (ps_expr (calM0 (ok_Reel_settle T) (hr.mono (by decide)) pass0 T.c_Reel T.m_Reel_settle (pv 0)))
    (pss_one (ps_ret (pe_callB call_len_seq (by rfl) T.f_len PySem.boot_len (pa_cons (pe_fld (pv 0) rfl) pa_nil)))))))))), ?_⟩
    obtain ⟨dx, vr, vd, v1, hx, dr, dd, d1⟩ := hR
    obtain ⟨da, dvs, rfl, hda, dda⟩ := dd.tuple_of
    obtain ⟨uc, con⟩ := T.k_Reel_MOST_EDITS
    refine ⟨.ref x, rfl, x, _, dx, _, _, rfl, hx, T.c_Reel, T.n_Reel_done, rfl, da, _, rfl, .inr hda, ?_⟩
    refine ⟨.ref x, rfl, x, _, dx, _, _, _, rfl, hx, T.c_Reel, con, rfl, _, _, rfl, rfl, _, rfl, ?_⟩
    have ld : dvs.length = r.es.length := dda.len
    unfold doR at q
    by_cases c : 60 ≤ r.es.length
    · refine iteY (decide_eq_true (by omega)) ?_
      rw [if_pos c] at q
      exact q H _ (Same.refl H) rfl
    · refine iteN (decide_eq_false (by omega)) ?_
      rw [if_neg c] at q
      rw [er] at dr
      rw [List.map_append] at dr
      obtain ⟨ra, rvs, rfl, hra, dra⟩ := dr.tuple_of
      have dra0 := dra
      obtain ⟨ys, y, rfl, dys, dy⟩ := dra.snoc_of
      obtain ⟨rt, rfl, hT⟩ := dt_rg_of dy
      refine ⟨.ref x, rfl, x, _, dx, _, _, rfl, hx, T.c_Reel, T.n_Reel_rings, rfl, _, rfl, ra, _, _, _, rfl, rfl, hra, atI_last _ _, .ref t, rfl, ?_⟩
      refine ⟨rt, t, ns, u, xs, o, rfl, hT, hl, hE, kx, ho, ?_⟩
      cases o with
      | bad c f => exact q
      | ok ms =>
        intro H1 b s1 hb
        have hx1 := s1 _ _ hx
        refine ⟨.ref x, rfl, x, dx, _, rfl, hx1, rfl, .ref b, rfl, .ref x, .ref b, rfl, ?_⟩
        refine ⟨.ref x, rfl, x, _, dx, _, _, rfl, hx1, T.c_Reel, T.n_Reel_rings, rfl, ra, _, rfl, .inl (same_seqT s1 hra), .ref b, rfl, sz ?_, fun p np => ?_⟩
        · have h1 := dra0.len
          have h2 : (List.map rgD rs ++ List.map rgD [ns]).length = r.rs.length := by rw [er, ← List.map_append, List.length_map]
          rw [h2] at h1
          rw [List.length_append, h1]
          show r.rs.length + 1 ≤ 1000000
          omega
        obtain ⟨H2, e2, s2, hp⟩ := new_tup np ((ys ++ [V.ref rt]) ++ [V.ref b])
        rw [e2]
        have hx2 := s2 _ _ hx1
        refine ⟨.ref x, rfl, x, _, dx, _, rfl, hx2, T.c_Reel, T.n_Reel_rings, by show 5 < 1000; decide, ?_⟩
        obtain ⟨H3, e3, k3, t3, hx3⟩ := new_fld hx2 "rings" (.ref p) rfl
        rw [e3]
        refine ⟨.ref x, rfl, x, _, dx, _, _, rfl, hx3, T.c_Reel, T.n_Reel_done, rfl, da, _, rfl, .inl (SqT.kt ((s1.trans s2).kt.trans t3) hda), .ref t, rfl, sz ?_, fun p2 np2 => ?_⟩
        · rw [List.length_append, ld]
          show r.es.length + 1 ≤ 1000000
          omega
        obtain ⟨H4, e4, s4, hp2⟩ := new_tup np2 (dvs ++ [V.ref t])
        rw [e4]
        have hx4 := s4 _ _ hx3
        refine ⟨.ref x, rfl, x, _, dx, _, rfl, hx4, T.c_Reel, T.n_Reel_done, by show 5 < 1000; decide, ?_⟩
        obtain ⟨H5, e5, k5, t5, hx5⟩ := new_fld hx4 "done" (.ref p2) rfl
        rw [e5]
        have t12 := (s1.trans s2).kt
        have t35 := t3.trans (s4.kt.trans t5)
        have dR : Dt K H5 (.ref p) (.tuple ((r.rs.map rgD) ++ [rgD ms])) := by
          rw [er, List.map_append]
          exact .tup (SqT.kt t35 (.inl (.inl hp))) (DtAll.snoc (dra0.kt (t12.trans t35)) ((dt_rg hb).kt (s2.kt.trans t35)))
        have dD : Dt K H5 (.ref p2) (.tuple (r.es ++ [ed])) := .tup (SqT.kt t5 (.inl (.inl hp2))) (DtAll.snoc (dda.kt (t12.trans t35)) ((dE ms rfl).kt (t12.trans t35)))
        refine ⟨.ref x, rfl, x, dx, _, rfl, hx5, rfl, ?_⟩
        refine ⟨x, dx, _, _, _, _, _, _, ms, rfl, hx5, dR, hm ms rfl, fun H6 v4 k6 hx6 d4 => ?_⟩
        have t6 := k6.kt hx5
        obtain ⟨da2, dvs2, e6, hda2, dda2⟩ := (dD.kt t6).tuple_of
        cases e6
        refine ⟨.ref x, rfl, x, _, dx, _, _, rfl, hx6, T.c_Reel, T.n_Reel_done, rfl, p2, _, rfl, .inr hda2, ?_⟩
        have hlen : (dvs2.length : Int) = ((r.es ++ [ed]).length : Int) := by rw [dda2.len]
        rw [hlen]
        refine q H6 (((s1.trans s2).kx x).trans (k3.trans ((s4.kx x).trans (k5.trans k6)))) ⟨dx, _, _, _, hx6, ?_, dD.kt t6, d4⟩
        rw [List.map_append]
        exact dR.kt t6
-- @@ Reel_put
def spPutM (K : PySem.W.Frag) (u : Str) : Sp := fun vs H Q E => ∃ (x : Addr) (r : RS) (xs : List V) (ds : List PyData) (o : EdR) (ns : List Int), vs = .ref x :: xs ∧ xs.length = (if u = "remove" then 1 else 2) ∧ RO K H x (CR K) r ∧ RsOk r ∧ r.rs.getLast? = some ns ∧
  (∀ y ∈ xs, Kd K H y) ∧ (∀ ms, o = .ok ms → DtAll K H xs ds) ∧ edA ns u xs = some o ∧ RzTo K H x (CR K) (idR r (doR r o (.tuple (.str u :: ds)))) Q E
theorem ok_Reel_put (T : Tx K mg) : OkA P w K mg base (L2.CX P w) 18 (He.ma K (CR K) "put") ["self", "place", "arity"] (spPutM K "put") := by
  refine okA_ofX T.F_Reel_put sc_Reel_put (fun _ _ _ _ _ _ us hl => match us, hl with | [_, _, _], _ => rfl) (fun vs H Q E h => ?_) (fun cdv A outer s H vs Q E hr h => ?_)
  · obtain ⟨x, r, xs, ds, o, ns, rfl, hl, _⟩ := h
    exact congrArg (· + 1) hl
  · obtain ⟨x, r, xs, ds, o, ns, rfl, hl, hR, ok, hns, kx, dx, ho, q⟩ := h
    match xs, hl with
    | [p, y], _ =>
      refine ⟨_, (pss_cons (ps_expr (calM0 (ok_Reel_check_idle T) (hr.mono (by decide)) (passes_call (takes_of rfl rfl rfl rfl) fun _ _ _ _ h => h) T.c_Reel T.m_Reel_check_idle (pv 0)))
    (pss_one (ps_ret (calM (ok_Reel_do_edit T).n (hr.mono (by decide)) (passes_call (takes_of rfl rfl rfl rfl) fun _ _ _ _ h => h) T.c_Reel T.m_Reel_do_edit (pv 0) (pa_cons (pe_tup (pa_cons pe_str (pa_cons (pv 1) (pa_cons (pv 2) pa_nil)))) pa_nil))))), ?_⟩
      obtain ⟨rs, er⟩ := last_of hns
      obtain ⟨dxa, vr, vd, v1, hx, dr, dd, d1⟩ := id hR
      refine ⟨.ref x, rfl, x, dxa, _, rfl, hx, rfl, x, r, rfl, hR, fun hb => ?_, fun hb => ?_⟩
      · unfold idR at q
        rw [if_neg (by rw [hb]; exact Bool.noConfusion)] at q
        refine ⟨.ref x, rfl, x, dxa, _, rfl, hx, rfl, p, rfl, y, rfl, sz (by show 3 ≤ _; decide), fun t nt => ?_⟩
        obtain ⟨H1, e1, s1, ht⟩ := new_tup nt [V.str "put", p, y]
        rw [e1]
        have rg := ok.rg ns (by rw [er]; exact List.mem_append_right _ List.mem_cons_self)
        refine ⟨x, t, r, ns, rs, _, _, _, o, rfl, hR.same s1, er, rg.2.1, by have := ok.len; have := ok.le; omega, by have := ok.le; omega, .inl (.inl ht), fun ms e => .tup (.inl (.inl ht)) (.cons (.str _) ((dx ms e).kt s1.kt)), fun z hz => (kx z hz).same s1, ho, fun ms e => ?_, ?_⟩
        · rw [e] at ho
          exact (edA_ring rg ho).2.1
        · exact q.same s1
      · unfold idR at q
        rw [if_pos hb] at q
        exact q H _ (Same.refl H) rfl
-- @@ Reel_insert
theorem ok_Reel_insert (T : Tx K mg) : OkA P w K mg base (L2.CX P w) 18 (He.ma K (CR K) "insert") ["self", "place", "arity"] (spPutM K "insert") := by
  refine okA_ofX T.F_Reel_insert sc_Reel_insert (fun _ _ _ _ _ _ us hl => match us, hl with | [_, _, _], _ => rfl) (fun vs H Q E h => ?_) (fun cdv A outer s H vs Q E hr h => ?_)
  · obtain ⟨x, r, xs, ds, o, ns, rfl, hl, _⟩ := h
    exact congrArg (· + 1) hl
  · obtain ⟨x, r, xs, ds, o, ns, rfl, hl, hR, ok, hns, kx, dx, ho, q⟩ := h
    match xs, hl with
    | [p, y], _ =>
      refine ⟨_, (pss_cons (ps_expr (calM0 (ok_Reel_check_idle T) (hr.mono (by decide)) (passes_call (takes_of rfl rfl rfl rfl) fun _ _ _ _ h => h) T.c_Reel T.m_Reel_check_idle (pv 0)))
    (pss_one (ps_ret (calM (ok_Reel_do_edit T).n (hr.mono (by decide)) (passes_call (takes_of rfl rfl rfl rfl) fun _ _ _ _ h => h) T.c_Reel T.m_Reel_do_edit (pv 0) (pa_cons (pe_tup (pa_cons pe_str (pa_cons (pv 1) (pa_cons (pv 2) pa_nil)))) pa_nil))))), ?_⟩
      obtain ⟨rs, er⟩ := last_of hns
      obtain ⟨dxa, vr, vd, v1, hx, dr, dd, d1⟩ := id hR
      refine ⟨.ref x, rfl, x, dxa, _, rfl, hx, rfl, x, r, rfl, hR, fun hb => ?_, fun hb => ?_⟩
      · unfold idR at q
        rw [if_neg (by rw [hb]; exact Bool.noConfusion)] at q
        refine ⟨.ref x, rfl, x, dxa, _, rfl, hx, rfl, p, rfl, y, rfl, sz (by show 3 ≤ _; decide), fun t nt => ?_⟩
        obtain ⟨H1, e1, s1, ht⟩ := new_tup nt [V.str "insert", p, y]
        rw [e1]
        have rg := ok.rg ns (by rw [er]; exact List.mem_append_right _ List.mem_cons_self)
        refine ⟨x, t, r, ns, rs, _, _, _, o, rfl, hR.same s1, er, rg.2.1, by have := ok.len; have := ok.le; omega, by have := ok.le; omega, .inl (.inl ht), fun ms e => .tup (.inl (.inl ht)) (.cons (.str _) ((dx ms e).kt s1.kt)), fun z hz => (kx z hz).same s1, ho, fun ms e => ?_, ?_⟩
        · rw [e] at ho
          exact (edA_ring rg ho).2.1
        · exact q.same s1
      · unfold idR at q
        rw [if_pos hb] at q
        exact q H _ (Same.refl H) rfl
-- @@ Reel_remove
theorem ok_Reel_remove (T : Tx K mg) : OkA P w K mg base (L2.CX P w) 18 (He.ma K (CR K) "remove") ["self", "place"] (spPutM K "remove") := by
  refine okA_ofX T.F_Reel_remove sc_Reel_remove (fun _ _ _ _ _ _ us hl => match us, hl with | [_, _], _ => rfl) (fun vs H Q E h => ?_) (fun cdv A outer s H vs Q E hr h => ?_)
  · obtain ⟨x, r, xs, ds, o, ns, rfl, hl, _⟩ := h
    exact congrArg (· + 1) hl
  · obtain ⟨x, r, xs, ds, o, ns, rfl, hl, hR, ok, hns, kx, dx, ho, q⟩ := h
    match xs, hl with
    | [p], _ =>
      refine ⟨_, (pss_cons (ps_expr (calM0 (ok_Reel_check_idle T) (hr.mono (by decide)) (passes_call (takes_of rfl rfl rfl rfl) fun _ _ _ _ h => h) T.c_Reel T.m_Reel_check_idle (pv 0)))
    (pss_one (ps_ret (calM (ok_Reel_do_edit T).n (hr.mono (by decide)) (passes_call (takes_of rfl rfl rfl rfl) fun _ _ _ _ h => h) T.c_Reel T.m_Reel_do_edit (pv 0) (pa_cons (pe_tup (pa_cons pe_str (pa_cons (pv 1) pa_nil))) pa_nil))))), ?_⟩
      obtain ⟨rs, er⟩ := last_of hns
      obtain ⟨dxa, vr, vd, v1, hx, dr, dd, d1⟩ := id hR
      refine ⟨.ref x, rfl, x, dxa, _, rfl, hx, rfl, x, r, rfl, hR, fun hb => ?_, fun hb => ?_⟩
      · unfold idR at q
        rw [if_neg (by rw [hb]; exact Bool.noConfusion)] at q
        refine ⟨.ref x, rfl, x, dxa, _, rfl, hx, rfl, p, rfl, sz (by show 2 ≤ _; decide), fun t nt => ?_⟩
        obtain ⟨H1, e1, s1, ht⟩ := new_tup nt [V.str "remove", p]
        rw [e1]
        have rg := ok.rg ns (by rw [er]; exact List.mem_append_right _ List.mem_cons_self)
        refine ⟨x, t, r, ns, rs, _, _, _, o, rfl, hR.same s1, er, rg.2.1, by have := ok.len; have := ok.le; omega, by have := ok.le; omega, .inl (.inl ht), fun ms e => .tup (.inl (.inl ht)) (.cons (.str _) ((dx ms e).kt s1.kt)), fun z hz => (kx z hz).same s1, ho, fun ms e => ?_, ?_⟩
        · rw [e] at ho
          exact (edA_ring rg ho).2.1
        · exact q.same s1
      · unfold idR at q
        rw [if_pos hb] at q
        exact q H _ (Same.refl H) rfl
-- @@ Reel_undo
def spUndo (K : PySem.W.Frag) : Sp := fun vs H Q E => ∃ (x : Addr) (r : RS), vs = [.ref x] ∧ RO K H x (CR K) r ∧ RsOk r ∧ RzTo K H x (CR K) (idR r (undoR r)) Q E
theorem ok_Reel_undo (T : Tx K mg) : OkA P w K mg base (L2.CX P w) 18 (He.ma K (CR K) "undo") ["self"] (spUndo K) := by
  refine okA_ofX T.F_Reel_undo sc_Reel_undo (fun _ _ _ _ _ _ us hl => match us, hl with | [_], _ => rfl) (fun vs H Q E h => ?_) (fun cdv A outer s H vs Q E hr h => ?_)
  · obtain ⟨x, r, rfl, _⟩ := h
    rfl
  · obtain ⟨x, r, rfl, hR, ok, q⟩ := h
    refine ⟨_, (pss_cons (ps_expr (calM0 (ok_Reel_check_idle T) (hr.mono (by decide)) (passes_call (takes_of rfl rfl rfl rfl) fun _ _ _ _ h => h) T.c_Reel T.m_Reel_check_idle (pv 0)))
    (pss_cons (ps_if (pt_cmpR op_eq (pe_callB call_len_seq (by rfl) T.f_len PySem.boot_len (pa_cons (pe_fld (pv 0) rfl) pa_nil)) pe_int (nomark _)) (pss_one (ps_raise0 rfl PySem.F.excBase_ValueError T.x_NothingToUndo (takes_of rfl rfl rfl rfl))) pss_nil)
    (pss_cons (ps_fld (pv 0) (pe_slice sl_tupA (pe_fld (pv 0) rfl) po_none (po_some (pe_un un_neg pe_int))) rfl)
    (pss_cons (ps_fld (pv 0) (pe_slice sl_tupA (pe_fld (pv 0) rfl) po_none (po_some (pe_un un_neg pe_int))) rfl)
    (pss_cons (ps_expr (calM0 (ok_Reel_settle T) (hr.mono (by decide)) pass0 T.c_Reel T.m_Reel_settle (pv 0)))
    (pss_one (ps_ret (pe_callB call_len_seq (by rfl) T.f_len PySem.boot_len (pa_cons (pe_fld (pv 0) rfl) pa_nil))))))))), ?_⟩
    obtain ⟨dx, vr, vd, v1, hx, dr, dd, d1⟩ := id hR
    refine ⟨.ref x, rfl, x, dx, _, rfl, hx, rfl, x, r, rfl, hR, fun hb => ?_, fun hb => ?_⟩
    · unfold idR at q
      rw [if_neg (by rw [hb]; exact Bool.noConfusion)] at q
      obtain ⟨da, dvs, rfl, hda, dda⟩ := dd.tuple_of
      have ld : dvs.length = r.es.length := dda.len
      refine ⟨.ref x, rfl, x, _, dx, _, _, rfl, hx, T.c_Reel, T.n_Reel_done, rfl, da, _, rfl, .inr hda, rfl, _, rfl, ?_⟩
      unfold undoR at q
      by_cases c : r.es.length = 0
      · rw [if_pos c] at q
        refine iteY (by rw [ld, c]; rfl) ?_
        exact q H _ (Same.refl H) rfl
      · rw [if_neg c] at q
        refine iteN (by rw [ld]; exact decide_eq_false (fun z => c (Int.ofNat.inj (V.int.inj z)))) ?_
        obtain ⟨es, ed, ee⟩ : ∃ es ed, r.es = es ++ [ed] := ⟨_, _, (List.dropLast_concat_getLast (fun z => c (by rw [z]; rfl))).symm⟩
        have hl := ok.len
        have hr0 : r.rs ≠ [] := fun z => by rw [z] at hl; cases hl
        obtain ⟨rs1, n1, er⟩ : ∃ rs n, r.rs = rs ++ [n] := ⟨_, _, (List.dropLast_concat_getLast hr0).symm⟩
        have hr1 : rs1 ≠ [] := fun z => by
          rw [er, z, ee] at hl
          simp at hl
        obtain ⟨rs0, n0, e0⟩ : ∃ rs n, rs1 = rs ++ [n] := ⟨_, _, (List.dropLast_concat_getLast hr1).symm⟩
        have g0 : Ring n0 := ok.rg n0 (by rw [er, e0]; simp)
        rw [er, List.map_append] at dr
        obtain ⟨ra, rvs, rfl, hra, dra⟩ := dr.tuple_of
        obtain ⟨ys, y, rfl, dys, dy⟩ := dra.snoc_of
        rw [ee] at dda
        obtain ⟨ws, wv, rfl, dws, dw⟩ := dda.snoc_of
        refine ⟨.ref x, rfl, x, _, dx, _, _, rfl, hx, T.c_Reel, T.n_Reel_rings, rfl, _, rfl, ?_⟩
        refine ⟨-1, rfl, ?_⟩
        refine slT_init hra fun H1 p s1 hp => ?_
        have hx1 := s1 _ _ hx
        refine ⟨.ref x, rfl, x, _, dx, _, rfl, hx1, T.c_Reel, T.n_Reel_rings, by show 5 < 1000; decide, ?_⟩
        obtain ⟨H2, e2, k2, t2, hx2⟩ := new_fld hx1 "rings" (.ref p) rfl
        rw [e2]
        refine ⟨.ref x, rfl, x, _, dx, _, _, rfl, hx2, T.c_Reel, T.n_Reel_done, rfl, _, rfl, ?_⟩
        refine ⟨-1, rfl, ?_⟩
        refine slT_init (SqT.kt (s1.kt.trans t2) hda) fun H3 p3 s3 hp3 => ?_
        have hx3 := s3 _ _ hx2
        refine ⟨.ref x, rfl, x, _, dx, _, rfl, hx3, T.c_Reel, T.n_Reel_done, by show 5 < 1000; decide, ?_⟩
        obtain ⟨H4, e4, k4, t4, hx4⟩ := new_fld hx3 "done" (.ref p3) rfl
        rw [e4]
        have t14 := t2.trans (s3.kt.trans t4)
        have dR : Dt K H4 (.ref p) (.tuple ((rs0.map rgD) ++ [rgD n0])) := by
          have : (rs0.map rgD) ++ [rgD n0] = rs1.map rgD := by rw [e0, List.map_append]; rfl
          rw [this]
          exact .tup (SqT.kt t14 hp) (dys.kt (s1.kt.trans t14))
        have dD : Dt K H4 (.ref p3) (.tuple es) := .tup (SqT.kt t4 hp3) (dws.kt (s1.kt.trans t14))
        refine ⟨.ref x, rfl, x, dx, _, rfl, hx4, rfl, ?_⟩
        refine ⟨x, dx, _, _, _, _, _, _, n0, rfl, hx4, dR, g0.2.1, fun H6 v4 k6 hx6 d4 => ?_⟩
        have t6 := k6.kt hx4
        obtain ⟨da2, dvs2, e6, hda2, dda2⟩ := (dD.kt t6).tuple_of
        cases e6
        refine ⟨.ref x, rfl, x, _, dx, _, _, rfl, hx6, T.c_Reel, T.n_Reel_done, rfl, p3, _, rfl, .inr hda2, ?_⟩
        have hlen : (dvs2.length : Int) = (r.es.dropLast.length : Int) := by rw [dda2.len, ee, List.dropLast_concat]
        rw [hlen]
        refine q H6 ((s1.kx x).trans (k2.trans ((s3.kx x).trans (k4.trans k6)))) ⟨dx, _, _, _, hx6, ?_, ?_, ?_⟩
        · show Dt K H6 _ (.tuple (r.rs.dropLast.map rgD))
          have : r.rs.dropLast.map rgD = (rs0.map rgD) ++ [rgD n0] := by rw [er, List.dropLast_concat, e0, List.map_append]; rfl
          rw [this]
          exact dR.kt t6
        · show Dt K H6 _ (.tuple r.es.dropLast)
          rw [ee, List.dropLast_concat]
          exact dD.kt t6
        · show Dt K H6 _ (rgD (ofN (bgn (r.rs.dropLast.getLastD []))))
          rw [er, List.dropLast_concat, e0]
          have : (rs0 ++ [n0]).getLastD [] = n0 := by simp
          rw [this]
          exact d4
    · unfold idR at q
      rw [if_pos hb] at q
      exact q H _ (Same.refl H) rfl
-- @@ Reel_checked_batch
theorem sameL {K : PySem.W.Frag} {H H' : Hp} {a : Addr} {xs : List V} (s : Same H H') (h : SqL K H a xs) : SqL K H' a xs := by
  rcases h with (h | ⟨o, h⟩) | h
  · exact .inl (.inl (s _ _ h))
  · exact .inl (.inr ⟨o, s _ _ h⟩)
  · exact .inr h
def BatV (K : PySem.W.Frag) (H : Hp) (v : V) : Option (List V) → Prop
  | none => ∃ t, TyX K H v t ∧ PySem.W.kitAny K t [.type "list", .type "tuple"] = some false
  | some xs => ∃ a : Addr, v = .ref a ∧ xs.length ≤ 1000 ∧ ((SqL K H a xs ∧ TyX K H v (.type "list")) ∨ (SqT K H a xs ∧ TyX K H v (.type "tuple")))
theorem EdIs.same {K : PySem.W.Frag} {H H' : Hp} {v : V} {b : Bool} (s : Same H H') (h : EdIs K H v b) : EdIs K H' v b := by
  rcases h with ⟨t, h1, h2, h3⟩ | ⟨a, xs, h1, h2, h3, h4⟩
  · exact .inl ⟨t, tyX_same s h1, h2, h3⟩
  · exact .inr ⟨a, xs, h1, tyX_same s h2, same_seqT s h3, h4⟩
def spChk (K : PySem.W.Frag) : Sp := fun vs H Q E => ∃ (x : Addr) (r : RS) (v : V) (o : Option (List V)) (bs : List Bool), vs = [.ref x, v] ∧ RO K H x (CR K) r ∧ BatV K H v o ∧
  (∀ xs, o = some xs → xs.length ≤ 20 → bs.length = xs.length ∧ ∀ (i : Nat) y b, xs[i]? = some y → bs[i]? = some b → EdIs K H y b) ∧
  ((o = none ∨ ∃ xs, o = some xs ∧ 20 < xs.length) → ∀ H', Same H H' → E (.ref (He.ga K "BadEdits")) none H') ∧
  (∀ xs (i : Nat), o = some xs → xs.length ≤ 20 → bs[i]? = some false → (∀ j, j < i → bs[j]? = some true) → ∀ H' d, Same H H' → H' d = some (.xd [("index", .int i)]) → E (.ref (He.ga K "BadEdit")) (some d) H') ∧
  (∀ xs, o = some xs → xs.length ≤ 20 → (∀ b ∈ bs, b = true) → ∀ H' t, Same H H' → SqT K H' t xs → Q (.ref t) H')
theorem ok_Reel_checked_batch (T : Tx K mg) : OkA P w K mg base (L2.CX P w) 6 (He.ma K (CR K) "checked_batch") ["self", "edits"] (spChk K) := by
  refine okA_ofX T.F_Reel_checked_batch sc_Reel_checked_batch (fun _ _ _ _ _ _ us hl => match us, hl with | [_, _], _ => rfl) (fun vs H Q E h => ?_) (fun cdv A outer s H vs Q E hr h => ?_)
  · obtain ⟨x, r, v, o, bs, rfl, _⟩ := h
    rfl
  · obtain ⟨x, r, v, o, bs, rfl, hR, hv, hb, qe, qi, q⟩ := h
    refine ⟨_, (pss_cons (ps_if (PW.pt (pw_or (pt_not (pt_val (pe_callB call_isiT (by rfl) T.f_isinstance boot_isinstance (pa_cons (pv 1) (pa_cons (pe_tup (pa_cons (pe_bltn (v := .ty "list") (by rfl) T.f_list boot_list rfl) (pa_cons (pe_bltn (v := .ty "tuple") (by rfl) T.f_tuple boot_tuple rfl) pa_nil))) pa_nil))))) (pw_or1 (pt_cmpR op_gt (pe_callB call_len_seq (by rfl) T.f_len PySem.boot_len (pa_cons (pv 1) pa_nil)) (pe_glob (v := .int 20) rfl T.g_BATCH.choose_spec ⟨_, rfl⟩) (nomark _))))) (pss_one (ps_raise0 rfl PySem.F.excBase_ValueError T.x_BadEdits (takes_of rfl rfl rfl rfl))) pss_nil)
    (pss_cons (ps_set (i := 2) sc_Reel_checked_batch.nd rfl (.inl rfl) (pe_callTy call_tuple_of (by rfl) T.f_tuple boot_tuple (pa_cons (pv 1) pa_nil)))
    (pss_cons (ps_for (passes_of rfl) rfl (pi_enumT (by rfl) T.f_enumerate (pa_cons (pv 2) pa_nil)) (pg_tup rfl (pgs_cons (pg_name (i := 3) sc_Reel_checked_batch.nd rfl (.inl rfl)) (pgs_cons (pg_name (i := 4) sc_Reel_checked_batch.nd rfl (.inl rfl)) pgs_nil)))
    (pss_one (ps_if (pt_not (pt_val (calSM (ok_Reel_is_edit T) (hr.mono (by decide)) pass0 T.si_Reel_is_edit (pv 0) (pa_cons (pv 4) pa_nil)))) (pss_one (ps_raise_index rfl PySem.F.excBase_ValueError PySem.F.store_ValueError T.x_BadEdit hr (takes_of rfl rfl rfl rfl) (pa_cons (pv 3) pa_nil))) pss_nil)))
    (pss_one (ps_ret (pv 2)))))), ?_⟩
    refine ⟨v, rfl, sz (by show 2 ≤ _; decide), fun tp ntp => ?_⟩
    have s0 := same_upd (o := .tup [.ty "list", .ty "tuple"]) ntp
    have htp := upd_same (H := H) (a := tp) (o := .tup [.ty "list", .ty "tuple"])
    generalize (upd H tp (.tup [.ty "list", .ty "tuple"])) = H0 at s0 htp ⊢
    have pr : Paired ClsV [V.ty "list", V.ty "tuple"] [Value.type "list", Value.type "tuple"] := .cons (.ty _) (.cons (.ty _) .nil)
    cases o with
    | none =>
      obtain ⟨t, ty, kt⟩ := hv
      refine ⟨v, tp, _, t, _, _, rfl, htp, pr, tyX_same s0 ty, kt, _, rfl, ?_⟩
      exact iteY rfl (qe (.inl rfl) H0 s0)
    | some xs =>
      obtain ⟨a, rfl, hl, hx⟩ := hv
      have hx0 : SqL K H0 a xs ∨ SqT K H0 a xs := hx.imp (fun z => sameL s0 z.1) (fun z => same_seqT s0 z.1)
      have yes : ∃ t, TyX K H0 (.ref a) t ∧ PySem.W.kitAny K t [.type "list", .type "tuple"] = some true := by
        rcases hx with ⟨_, ty⟩ | ⟨_, ty⟩
        · exact ⟨_, tyX_same s0 ty, by unfold PySem.W.kitAny; rw [kit_ty (a := "list") (b := "list") (r := true) (by decide +kernel)]⟩
        · exact ⟨_, tyX_same s0 ty, by unfold PySem.W.kitAny; rw [kit_ty (a := "tuple") (b := "list") (r := false) (by decide +kernel)]; unfold PySem.W.kitAny; rw [kit_ty (a := "tuple") (b := "tuple") (r := true) (by decide +kernel)]⟩
      obtain ⟨t, ty, kt⟩ := yes
      refine ⟨.ref a, tp, _, t, _, _, rfl, htp, pr, ty, kt, _, rfl, ?_⟩
      refine iteN rfl ?_
      refine ⟨.ref a, rfl, a, xs, rfl, hx0, _, _, rfl, rfl, _, rfl, ?_⟩
      by_cases c : 20 < xs.length
      · exact iteY (decide_eq_true (by omega)) (qe (.inr ⟨xs, rfl, c⟩) H0 s0)
      refine iteN (decide_eq_false (by omega)) ?_
      obtain ⟨hbl, hbe⟩ := hb xs rfl (by omega)
      -- the tuple
      dsimp only [tNext]
      refine seq_go ?_
      refine cut_st (fun σ H1 => ∃ t, σ = [some (.ref x), some (.ref a), some (.ref t), none, none] ∧ Same H H1 ∧ SqT K H1 t xs) (fun D' hD' => ?_) ?_
      · refine ⟨.ref a, rfl, a, xs, rfl, ?_⟩
        rcases hx with ⟨hx, _⟩ | ⟨hx, _⟩
        · exact .inl ⟨sameL s0 hx, fun t nt => hD' _ _ ⟨t, rfl, s0.trans (same_upd nt), .inl (.inl upd_same)⟩⟩
        · exact .inr ⟨same_seqT s0 hx, hD' _ _ ⟨a, rfl, s0, same_seqT s0 hx⟩⟩
      · rintro σ H1 ⟨t, rfl, s1, ht⟩
        refine ⟨.ref t, rfl, t, _, rfl, ht, ?_⟩
        refine for_enumT (xs := xs) (fun i σ H2 => ∃ y3 y4, σ = [some (.ref x), some (.ref a), some (.ref t), y3, y4] ∧ Same H1 H2 ∧ ∀ j, j < i → bs[j]? = some true) ⟨_, _, rfl, Same.refl H1, fun j hj => absurd hj (Nat.not_lt_zero _)⟩ ?_ ?_ ?_
        · rintro i σ H2 _ ⟨_, _, rfl, s2, _⟩
          exact same_seqT s2 ht
        · rintro i y σ H2 Tp hy ⟨y3, y4, rfl, s2, hbs⟩ nT
          have hi : i < bs.length := by
            have := (List.getElem?_eq_some_iff.mp hy).1
            omega
          have hbi : bs[i]? = some bs[i] := List.getElem?_eq_getElem hi
          have s3 := (s1.trans s2).trans (same_upd (o := .tup [.int (i : Nat), y]) nT)
          have s23 := s2.trans (same_upd (o := .tup [.int (i : Nat), y]) nT)
          have he := (hbe i y _ hy hbi).same s3
          obtain ⟨dx, vr, vd, v1, hxr, dr, dd, d1⟩ := hR.same s3
          refine ⟨Tp, _, rfl, .inl (.inl upd_same), rfl, _, _, rfl, _, _, rfl, rfl, ?_⟩
          generalize (upd H2 Tp (.tup [.int (i : Nat), y])) = H3 at s3 s23 he hxr ⊢
          refine ⟨.ref x, rfl, x, dx, _, rfl, hxr, rfl, y, rfl, y, _, rfl, he, _, rfl, ?_⟩
          cases hb1 : bs[i] with
          | true =>
            refine iteN rfl ⟨_, _, rfl, s23, fun j hj => ?_⟩
            · by_cases e : j = i
              · rw [e, hbi, hb1]
              · exact hbs j (by omega)
          | false =>
            refine iteY rfl ⟨_, rfl, _, rfl, fun d nd => qi xs i rfl (by omega) (by rw [hbi, hb1]) hbs _ d (s3.trans (same_upd nd)) upd_same⟩
        · rintro σ H2 ⟨y3, y4, rfl, s2, hbs⟩
          refine ⟨.ref t, rfl, ?_⟩
          exact q xs rfl (by omega) (fun b hb => by
            obtain ⟨j, hj⟩ := List.mem_iff_getElem?.mp hb
            have hl := (List.getElem?_eq_some_iff.mp hj).1
            have := hbs j (by omega)
            rw [hj] at this
            exact Option.some.inj this) H2 t (s1.trans s2) (same_seqT s2 ht)
-- @@ Reel_do_step
def spStep (K : PySem.W.Frag) : Sp := fun vs H Q E => ∃ (x t : Addr) (ix : Nat) (r : RS) (ns : List Int) (rs : List (List Int)) (u : Str) (xs : List V) (ed : PyData) (o : EdR), vs = [.ref x, .int (ix : Int), .ref t] ∧ RO K H x (CR K) r ∧ r.rs = rs ++ [ns] ∧ ns.length ≤ 24 ∧ r.rs.length ≤ 1000 ∧ r.es.length ≤ 1000 ∧
  SqT K H t (.str u :: xs) ∧ (∀ ms, o = .ok ms → Dt K H (.ref t) ed) ∧ (∀ y ∈ xs, Kd K H y) ∧ edA ns u xs = some o ∧ (∀ ms, o = .ok ms → ms.length ≤ 24) ∧
  (∀ c f, doR r o ed = .bad c f → ∀ H' d, Same H H' → H' d = some (.xd [("index", .int (ix : Int))]) → E (.ref (He.ga K "Rejected")) (some d) H') ∧
  (∀ r', doR r o ed = .ok r' → ∀ H', KX x H H' → RO K H' x (CR K) r' → Q .non H')
theorem ok_Reel_do_step (T : Tx K mg) : OkA P w K mg base (CXk P w) 17 (He.ma K (CR K) "do_step") ["self", "index", "edit"] (spStep K) := by
  refine okA_ofX T.F_Reel_do_step sc_Reel_do_step (fun _ _ _ _ _ _ us hl => match us, hl with | [_, _, _], _ => rfl) (fun vs H Q E h => ?_) (fun cdv A outer s H vs Q E hr h => ?_)
  · obtain ⟨x, t, ix, r, ns, rs, u, xs, ed, o, rfl, _⟩ := h
    rfl
  · obtain ⟨x, t, ix, r, ns, rs, u, xs, ed, o, rfl, hR, er, hl, l1, l2, hE, dE, kx, ho, hm, qb, q⟩ := h
    refine ⟨_, (pss_one (ps_try_namedG (TK := fun Y => TakesK Y fun c d _ H => E c d H) rfl rfl ⟨rfl, by decide, Or.inl T.g_RingError⟩ ⟨rfl, by decide, Or.inl T.g_NoPlace⟩ (fun hd => PassesOwnAt.leaving) (fun a o pins ok => takesZ_suite (takesZ_of (fun _ _ _ _ => Zk.steady) rfl rfl rfl rfl) a o pins ok)
      (fun W pn xe tk _ => (pss_one (ps_expr (calMS (ok_Reel_do_edit T) (hr.mono (by decide)) (fun σ => L2N.passAt tk σ) T.c_Reel T.m_Reel_do_edit (pv 0) (pa_cons (pv 2) pa_nil)))))
      (fun a oe cls d pn hz hf tkS hot => (pss_one (ps_raiseK hot tkS (pmk5_index PySem.F.excBase_ValueError PySem.F.store_ValueError T.x_Rejected (Nat.lt_of_le_of_lt (Nat.le_trans (Nat.add_le_add_left (by decide : 1 ≤ 3 * 16 + 5) _) (Nat.le_of_eq (Nat.add_assoc _ _ _).symm)) hr.dp) (pa_cons (pv 1) pa_nil))))))), ?_⟩
    have ex : ∀ c f, doR r o ed = .bad c f → PySem.W.exmAny K (.ref (He.ga K c)) [.ref (He.ga K "RingError"), .ref (He.ga K "NoPlace")] = some true := by
      intro c f e
      have go : ∀ {c : Str}, exmB K (He.ga K c) = true → PySem.W.exmAny K (.ref (He.ga K c)) [.ref (He.ga K "RingError"), .ref (He.ga K "NoPlace")] = some true := fun h => of_decide_eq_true h
      rcases doR_bad e with ⟨rfl, rfl⟩ | rfl
      · exact go T.xm_TooManyEdits
      · rcases edA_bad ho with ⟨rfl, y, _, rfl⟩ | ⟨rfl, y, _, rfl⟩ | ⟨rfl, rfl⟩ | ⟨rfl, rfl⟩
        · exact go T.xm_NoPlace
        · exact go T.xm_NoArity
        · exact go T.xm_TooLong
        · exact go T.xm_LastToken
    obtain ⟨dx, vr, vd, v1, hx, dr, dd, d1⟩ := id hR
    refine ⟨.ref x, rfl, x, dx, _, rfl, hx, rfl, .ref t, rfl, x, t, r, ns, rs, u, xs, ed, o, rfl, hR, er, hl, l1, l2, hE, dE, kx, ho, hm, ?_⟩
    cases e : doR r o ed with
    | bad c f =>
      intro H1 d1 s1 hf1
      refine ⟨ex c f e, fun a na => ⟨_, rfl, _, rfl, fun d nd => qb c f e _ d (s1.trans (same_upd nd)) upd_same⟩⟩
    | ok r' =>
      intro H1 k1 hR1
      exact q r' e H1 k1 hR1
-- @@ Reel_run
/-- run(edits): on_step is None -/
theorem kb_run0 (T : Tx K mg) : ∃ (fd : FuncData) (mv : List Value), FunD K "run" "Reel.run" (defArgs s_Reel_run) (defBody s_Reel_run) (defScope s_Reel_run) [] [("on_step", .non)] (He.ma K (CR K) "run") fd ∧
    KBn K fd ["self", "edits", "on_step"] 2 [] (fun us ws => us ++ mv) (fun vs zs => vs ++ [.non]) := by
  obtain ⟨fd, F⟩ := T.F_Reel_run
  have hb := F.kbinds0 (ps := ["self", "edits", "on_step"]) 2 [] [("on_step", .non)] (fun us mv _ => us ++ mv) (by simp) (by simp) (fun r1 r2 _ => r1.append r2) (fun D doc pm an cdv ct us mv ws l1 l2 l3 => by
    match us, mv, ws, l1, l2, l3 with
    | [u1, u2], [m1], [], _, _, _ =>
      exact ⟨_, _, _, _, _, _, rfl, rfl, rfl⟩)
  obtain ⟨mv, h⟩ := hb
  exact ⟨fd, mv, F, h⟩
/-- run(edits, on_step=v) -/
theorem kb_run1 (T : Tx K mg) : ∃ (fd : FuncData), FunD K "run" "Reel.run" (defArgs s_Reel_run) (defBody s_Reel_run) (defScope s_Reel_run) [] [("on_step", .non)] (He.ma K (CR K) "run") fd ∧
    KBn K fd ["self", "edits", "on_step"] 2 ["on_step"] (fun us ws => us ++ ws) (fun vs zs => vs ++ zs) := by
  obtain ⟨fd, F⟩ := T.F_Reel_run
  have hb := F.kbinds0 (ps := ["self", "edits", "on_step"]) 2 ["on_step"] [] (fun us _ ws => us ++ ws) (by simp) (by simp) (fun r1 _ r3 => r1.append r3) (fun D doc pm an cdv ct us mv ws l1 l2 l3 => by
    match us, mv, ws, l1, l2, l3 with
    | [u1, u2], [], [w1], _, _, _ => rfl)
  obtain ⟨mv, h⟩ := hb
  exact ⟨fd, F, h⟩

theorem tyX_tupS {K : PySem.W.Frag} {H : Hp} {p : Addr} {xs : List V} (h : SqT K H p xs) : TyX K H (.ref p) (.type "tuple") := by
  rcases h with (h | ⟨o, h⟩) | ⟨o, its, n, h1, h2, _⟩
  · exact .base (.tup h)
  · exact .fTuple h
  · exact .kTuple h1 h2
theorem pss_no {X : Cx} {body : List Stmt} : PSs X body (fun _ _ _ => False) := ⟨fun _ _ _ _ _ _ h => False.elim h⟩
/-! ### what a batch does -/
def vD : V → PyData
  | .int i => .int i
  | _ => .none
def edD (e : Str × List V) : PyData := .tuple (.str e.1 :: e.2.map vD)
theorem edD_ints (u : Str) (is : List Int) : edD (u, is.map V.int) = .tuple (.str u :: is.map PyData.int) := by
  unfold edD
  congr 2
  show (is.map V.int).map vD = is.map PyData.int
  rw [List.map_map]
  rfl
def lastR (r : RS) : List Int := r.rs.getLastD []
/-- an edit in a batch -/
def stepZ (r : RS) (e : Str × List V) : Option Rz := (edA (lastR r) e.1 e.2).map fun o => doR r o (edD e)
def runL (k : Nat) (r : RS) : List (Str × List V) → Nat ⊕ RS
  | [] => .inr r
  | e :: es => match stepZ r e with
    | some (.ok r2) => runL (k + 1) r2 es
    | _ => .inl k
/-- an edit as an item of a batch -/
def EdI (K : PySem.W.Frag) (H : Hp) (v : V) (e : Str × List V) : Prop := ∃ t : Addr, v = .ref t ∧ SqT K H t (.str e.1 :: e.2) ∧ EdS e.1 e.2 ∧ ∀ y ∈ e.2, Kd K H y
def BatE (K : PySem.W.Frag) (H : Hp) (xs : List V) (L : List (Str × List V)) : Prop := xs.length = L.length ∧ ∀ (i : Nat) y e, xs[i]? = some y → L[i]? = some e → EdI K H y e
theorem EdI.kn {K : PySem.W.Frag} {H H' : Hp} {v : V} {e : Str × List V} (k : KN H H') (h : EdI K H v e) : EdI K H' v e := by
  obtain ⟨t, rfl, h1, h2, h3⟩ := h
  exact ⟨t, rfl, SqT.kn k h1, h2, fun y hy => (h3 y hy).kn k⟩
theorem EdI.is {K : PySem.W.Frag} {H : Hp} {v : V} {e : Str × List V} (h : EdI K H v e) : EdIs K H v true := by
  obtain ⟨t, rfl, h1, h2, h3⟩ := h
  have hl : e.2.length ≤ 2 := by rcases h2 with ⟨l, _⟩ | ⟨l, _⟩ <;> omega
  refine .inr ⟨t, _, rfl, tyX_tupS h1, h1, by show e.2.length + 1 ≤ 1000; omega, fun w hw => by cases hw; rfl, ?_⟩
  show true = (if V.str e.1 = .str "remove" then decide (e.2.length = 1) else if V.str e.1 = .str "put" ∨ V.str e.1 = .str "insert" then decide (e.2.length = 2) else false)
  rcases h2 with ⟨l, h | h⟩ | ⟨l, h⟩
  · rw [h, if_neg (by decide), if_pos (.inl rfl), decide_eq_true l]
  · rw [h, if_neg (by decide), if_pos (.inr rfl), decide_eq_true l]
  · rw [h, if_pos rfl, decide_eq_true l]
/-- what a value is as a batch -/
inductive BK
  | notb
  | bad (i : Nat)
  | ok (L : List (Str × List V))
def BatK (K : PySem.W.Frag) (H : Hp) (v : V) : BK → Prop
  | .notb => BatV K H v none ∨ ∃ xs, BatV K H v (some xs) ∧ 20 < xs.length
  | .bad i => ∃ (xs : List V) (bs : List Bool), BatV K H v (some xs) ∧ xs.length ≤ 20 ∧ bs.length = xs.length ∧ (∀ (i : Nat) y b, xs[i]? = some y → bs[i]? = some b → EdIs K H y b) ∧ bs[i]? = some false ∧ ∀ j, j < i → bs[j]? = some true
  | .ok L => ∃ xs, BatV K H v (some xs) ∧ xs.length ≤ 20 ∧ BatE K H xs L
def bz (r : RS) (b : Bool) : RS := ⟨r.rs, r.es, r.ss, r.ch, b⟩
/-- what run promises -/
def RunTo (K : PySem.W.Frag) (H : Hp) (x : Addr) (r : RS) (k : BK) (Q : VK) (E : XK) : Prop :=
  (r.b = true → ∀ H', Same H H' → E (.ref (He.ga K "Busy")) none H') ∧ (r.b = false → match k with
    | .notb => ∀ H', Same H H' → E (.ref (He.ga K "BadEdits")) none H'
    | .bad i => ∀ H' d, Same H H' → H' d = some (.xd [("index", .int (i : Nat))]) → E (.ref (He.ga K "BadEdit")) (some d) H'
    | .ok L => match runL 0 (bz r true) L with
      | .inl i => ∀ H' d, KX x H H' → RO K H' x (CR K) r → H' d = some (.xd [("index", .int (i : Nat))]) → E (.ref (He.ga K "Rejected")) (some d) H'
      | .inr r2 => ∀ H', KX x H H' → RO K H' x (CR K) (bz r2 false) → Q (.int (r2.es.length : Nat)) H')
def spRun (K : PySem.W.Frag) : Sp := fun vs H Q E => ∃ (x : Addr) (r : RS) (v : V) (k : BK), vs = [.ref x, v, .non] ∧ RO K H x (CR K) r ∧ RsOk r ∧ (r.b = false → BatK K H v k) ∧ RunTo K H x r k Q E
theorem fn_Reel_run (T : Tx K mg) {fd : FuncData} (F : FunD K "run" "Reel.run" (defArgs s_Reel_run) (defBody s_Reel_run) (defScope s_Reel_run) [] [("on_step", .non)] (He.ma K (CR K) "run") fd) :
    FnOk P w K mg base (L2.CX P w) 20 (He.ma K (CR K) "run") fd ["self", "edits", "on_step"] (spRun K) := by
  refine F.ok sc_Reel_run (fun vs H Q E h => ?_) (fun cdv A outer s H vs Q E hr h => ?_)
  · obtain ⟨x, r, v, k, rfl, _⟩ := h
    rfl
  · obtain ⟨x, r, v, k, rfl, hR, ok, hk, e1, q⟩ := h
    refine ⟨_, (pss_cons (ps_expr (calM0 (ok_Reel_check_idle T) (hr.mono (by decide)) (passes_call (takes_of rfl rfl rfl rfl) fun _ _ _ _ h => h) T.c_Reel T.m_Reel_check_idle (pv 0)))
    (pss_cons (ps_set (i := 3) sc_Reel_run.nd rfl (.inl rfl) (calM (ok_Reel_checked_batch T) (hr.mono (by decide)) (passes_call (takes_of rfl rfl rfl rfl) fun _ _ _ _ h => h) T.c_Reel T.m_Reel_checked_batch (pv 0) (pa_cons (pv 1) pa_nil)))
    (pss_cons (ps_asg (pe_tup (pa_cons (pe_fld (pv 0) rfl) (pa_cons (pe_fld (pv 0) rfl) (pa_cons (pe_fld (pv 0) rfl) (pa_cons (pe_fld (pv 0) rfl) pa_nil))))) (pg_tup rfl (pgs_cons (pg_name (i := 4) sc_Reel_run.nd rfl (.inl rfl)) (pgs_cons (pg_name (i := 5) sc_Reel_run.nd rfl (.inl rfl)) (pgs_cons (pg_name (i := 6) sc_Reel_run.nd rfl (.inl rfl)) (pgs_cons (pg_name (i := 7) sc_Reel_run.nd rfl (.inl rfl)) pgs_nil))))))
    (pss_cons (ps_set (i := 8) sc_Reel_run.nd rfl (.inl rfl) pe_non)
    (pss_cons (ps_finK rfl rfl rfl (takes_of rfl rfl rfl rfl)
      (fun W pn xe tk hp => (pss_cons (ps_fldK (K := K) rfl (pv 0) pe_bl rfl)
    (pss_cons (ps_for hp rfl (pi_enumTK (K := K) rfl (by rfl) T.f_enumerate (pa_cons (pv 3) pa_nil)) (pg_tupI (n := 2) (K := K) rfl rfl (pgs_cons (pg_name (i := 9) sc_Reel_run.nd rfl (.inl rfl)) (pgs_cons (pg_name (i := 10) sc_Reel_run.nd rfl (.inl rfl)) pgs_nil)))
    (pss_cons (ps_expr (calMS (ok_Reel_do_step T) (hr.mono (by decide)) (fun σ => passZ tk σ) T.c_Reel T.m_Reel_do_step (pv 0) (pa_cons (pv 9) (pa_cons (pv 10) pa_nil))))
    (pss_one (ps_if (pt_cmpR op_notN (pv 2) pe_non (nomark _)) pss_no pss_nil))))
    (pss_one (ps_set (i := 8) sc_Reel_run.nd rfl (.inl rfl) (pe_callB (call_lenK (K := K) rfl) (by rfl) T.f_len PySem.boot_len (pa_cons (pe_fldK (K := K) rfl (pv 0) rfl) pa_nil)))))))
      (pss_cons (ps_fld (pv 0) pe_bl rfl)
    (pss_one (ps_if (pt_cmpR op_isN (pv 8) pe_non (nomark _)) (pss_one (ps_asg (pe_tup (pa_cons (pv 4) (pa_cons (pv 5) (pa_cons (pv 6) (pa_cons (pv 7) pa_nil))))) (pg_tup rfl (pgs_cons (pg_fld (pv 0)) (pgs_cons (pg_fld (pv 0)) (pgs_cons (pg_fld (pv 0)) (pgs_cons (pg_fld (pv 0)) pgs_nil))))))) pss_nil)))
      (fun a pn hot => (pss_cons (ps_fldK (K := K) rfl (pv 0) pe_bl rfl)
    (pss_one (ps_if (pt_cmpR op_isN (pv 8) pe_non (nomark _)) (pss_one (ps_asg (pe_tup (pa_cons (pv 4) (pa_cons (pv 5) (pa_cons (pv 6) (pa_cons (pv 7) pa_nil))))) (pg_tupKI (n := 4) (K := K) rfl hot (pgs_cons (pg_fldK (K := K) rfl (pv 0)) (pgs_cons (pg_fldK (K := K) rfl (pv 0)) (pgs_cons (pg_fldK (K := K) rfl (pv 0)) (pgs_cons (pg_fldK (K := K) rfl (pv 0)) pgs_nil))))))) pss_nil)))))
    (pss_one (ps_ret (pv 8)))))))), ?_⟩
    obtain ⟨dx, vr, vd, v1, hx, dr, dd, d1⟩ := id hR
    refine ⟨.ref x, rfl, x, dx, _, rfl, hx, rfl, x, r, rfl, hR, fun hb => ?_, fun hb => e1 hb _ (Same.refl H)⟩
    have q := q hb
    have hk := hk hb
    refine ⟨.ref x, rfl, x, dx, _, rfl, hx, rfl, v, rfl, ?_⟩
    cases k with
    | notb =>
      rcases hk with hv | ⟨xs, hv, h20⟩
      · exact ⟨x, r, v, none, [], rfl, hR, hv, (fun xs e => nomatch e), (fun _ H' s => q H' s), (fun xs i e => nomatch e), (fun xs e => nomatch e)⟩
      · refine ⟨x, r, v, some xs, [], rfl, hR, hv, (fun ys e hl => ?_), (fun _ H' s => q H' s), (fun ys i e hl => ?_), (fun ys e hl => ?_)⟩ <;> (cases e; omega)
    | bad i =>
      obtain ⟨xs, bs, hv, h20, hbl, hbe, hbi, hbj⟩ := hk
      refine ⟨x, r, v, some xs, bs, rfl, hR, hv, (fun ys e hl => by cases e; exact ⟨hbl, hbe⟩), (fun z => ?_), (fun ys j e hl hf ht H' d s hd => ?_), (fun ys e hl all => ?_)⟩
      · rcases z with z | ⟨ys, e, hl⟩
        · cases z
        · cases e
          omega
      · have ej : j = i := by
          rcases Nat.lt_trichotomy j i with c | c | c
          · have := hbj j c
            rw [hf] at this
            cases this
          · exact c
          · have := ht i c
            rw [hbi] at this
            cases this
        subst ej
        exact q H' d s hd
      · have := all _ (List.mem_of_getElem? hbi)
        cases this
    | ok L =>
      obtain ⟨xs, hv, h20, hB⟩ := hk
      refine ⟨x, r, v, some xs, List.replicate xs.length true, rfl, hR, hv, (fun ys e hl => ?_), (fun z => ?_), (fun ys j e hl hf => ?_), (fun ys e hl all H1 t s1 ht => ?_)⟩
      · cases e
        refine ⟨List.length_replicate, fun i y b hy hb => ?_⟩
        have hi := (List.getElem?_eq_some_iff.mp hy).1
        have hi2 : i < L.length := hB.1 ▸ hi
        have eb : b = true := by
          rw [List.getElem?_replicate] at hb
          split at hb <;> cases hb <;> rfl
        rw [eb]
        exact (hB.2 i y _ hy (List.getElem?_eq_getElem hi2)).is
      · rcases z with z | ⟨ys, e, hl⟩
        · cases z
        · cases e
          omega
      · rw [List.getElem?_replicate] at hf
        split at hf <;> cases hf
      cases e
      have hx1 := s1 _ _ hx
      refine ⟨.ref x, rfl, x, _, dx, _, _, rfl, hx1, T.c_Reel, T.n_Reel_rings, rfl, ?_⟩
      refine ⟨.ref x, rfl, x, _, dx, _, _, rfl, hx1, T.c_Reel, T.n_Reel_done, rfl, ?_⟩
      refine ⟨.ref x, rfl, x, _, dx, _, _, rfl, hx1, T.c_Reel, T.n_Reel_starts, rfl, ?_⟩
      refine ⟨.ref x, rfl, x, _, dx, _, _, rfl, hx1, T.c_Reel, T.n_Reel_chosen, rfl, ?_⟩
      refine ⟨sz (by show 4 ≤ _; decide), fun d0 nd0 => ?_⟩
      obtain ⟨H2, e2, s2, hd0⟩ := new_tup nd0 [vr, vd, v1, optV r.ch]
      rw [e2]
      refine ⟨d0, _, rfl, .inl (.inl hd0), rfl, _, _, rfl, _, _, rfl, _, _, rfl, _, _, rfl, rfl, ?_⟩
      have hx2 := s2 _ _ hx1
      refine ⟨.ref x, rfl, x, _, dx, _, rfl, hx2, T.c_Reel, T.n_Reel_busy, by show 5 < 1000; decide, ?_⟩
      obtain ⟨H3, e3, k3, t3, hx3⟩ := new_fld hx2 "busy" (.bl true) rfl
      rw [e3]
      have t03 : KT H H3 := (s1.trans s2).kt.trans t3
      have k03 : KX x H H3 := ((s1.trans s2).kx x).trans k3
      have hR3 : RO K H3 x (CR K) (bz r true) := ⟨dx, vr, vd, v1, hx3, dr.kt t03, dd.kt t03, d1.kt t03⟩
      have ht3 : SqT K H3 t xs := SqT.kt (s2.kt.trans t3) ht
      have ok3 : RsOk (bz r true) := ⟨ok.len, ok.rg, ok.le⟩
      refine ⟨.ref t, rfl, t, _, rfl, ht3, ?_⟩
      refine for_enumT (xs := xs) (fun i σ H4 => ∃ y9 y10 ri, σ = [some (.ref x), some v, some .non, some (.ref t), some vr, some vd, some v1, some (optV r.ch), some .non, y9, y10] ∧ KX x H3 H4 ∧ RO K H4 x (CR K) ri ∧ RsOk ri ∧ runL 0 (bz r true) L = runL i ri (L.drop i)) ⟨_, _, bz r true, rfl, KX.refl x H3, hR3, ok3, rfl⟩ ?_ ?_ ?_
      · rintro i σ H4 _ ⟨_, _, ri, rfl, k4, _⟩
        exact SqT.kt (k4.kt hx3) ht3
      · rintro i y σ H4 Tp hy ⟨y9, y10, ri, rfl, k4, hR4, ok4, eL⟩ nT
        refine ⟨Tp, _, rfl, .inl (.inl upd_same), rfl, _, _, rfl, _, _, rfl, rfl, ?_⟩
        have hi : i < L.length := by
          have := (List.getElem?_eq_some_iff.mp hy).1
          rw [← hB.1]
          exact this
        have hi0 : L[i]? = some L[i] := List.getElem?_eq_getElem hi
        have k04 := k03.trans k4
        obtain ⟨te, rfl, hE, hes, hkd⟩ := hB.2 i y _ hy hi0
        generalize hee : L[i] = e at hE hes hkd hi0
        have hDr : L.drop i = e :: L.drop (i + 1) := by rw [List.drop_eq_getElem_cons hi, hee]
        rw [hDr] at eL
        obtain ⟨rs0, ns, er, rg⟩ := ok4.last
        have elr : lastR ri = ns := by unfold lastR; rw [er]; simp
        obtain ⟨o, ho⟩ := hes.ed ns
        obtain ⟨dx4, vr4, vd4, v14, hx4, dr4, dd4, d14⟩ := id hR4
        have nT4 : Tp ≠ x := fun z => by rw [z, hx4] at nT; cases nT
        obtain ⟨H5, e5, s5, hTp⟩ := new_tup nT [V.int ((i : Nat) : Int), .ref te]
        rw [e5]
        have t05 : KT H H5 := (k04.kt hx).trans s5.kt
        have kn05 : KN H H5 := fun b u n q => s5 _ _ ((k04.kn hx) b u n q)
        have hx5 := s5 _ _ hx4
        have hR5 := hR4.same s5
        have hE5 : SqT K H5 te (.str e.1 :: e.2) := SqT.kt t05 hE
        have hkd5 : ∀ z ∈ e.2, Kd K H5 z := fun z hz => (hkd z hz).kn kn05
        have hints : ∀ ms, o = .ok ms → ∃ is : List Int, e.2 = is.map V.int ∧ is.length ≤ 2 ∧ ∀ j ∈ is, 0 ≤ j ∧ j ≤ 100 := fun ms z => edA_ints rg.2.1 (by rw [ho, z])
        refine ⟨.ref x, rfl, x, dx4, _, rfl, hx5, rfl, _, rfl, _, rfl, x, te, i, ri, ns, rs0, e.1, e.2, edD e, o, rfl, hR5, er, rg.2.1, ?_, ?_, hE5, ?_, hkd5, ho, ?_, ?_, ?_⟩
        · have := ok4.len
          have := ok4.le
          omega
        · have := ok4.le
          omega
        · intro ms z
          obtain ⟨is, hs, _⟩ := hints ms z
          have : edD e = .tuple (.str e.1 :: is.map PyData.int) := by
            have := edD_ints e.1 is
            rw [← hs] at this
            exact this
          rw [this]
          rw [hs] at hE5
          exact .tup hE5 (.cons (.str _) (dtAll_ints is))
        · intro ms z
          have := edA_ring rg (by rw [ho, z] : edA ns e.1 e.2 = some (.ok ms))
          exact this.2.1
        · intro c f hbad H6 d s6 hd
          have er0 : runL 0 (bz r true) L = .inl i := by
            rw [eL]
            show (match stepZ ri e with | some (.ok r2) => runL (i + 1) r2 (L.drop (i + 1)) | _ => .inl i) = .inl i
            unfold stepZ
            rw [elr, ho]
            show (match some (doR ri o (edD e)) with | some (.ok r2) => runL (i + 1) r2 (L.drop (i + 1)) | _ => .inl i) = .inl i
            rw [hbad]
          have q2 : ∀ (H' : Hp) (d : Addr), KX x H H' → RO K H' x (CR K) r → H' d = some (.xd [("index", .int (i : Nat))]) → E (.ref (He.ga K "Rejected")) (some d) H' := by
            have q3 := q
            unfold BatE at hB
            show ∀ (H' : Hp) (d : Addr), _
            have : (match runL 0 (bz r true) L with
      | .inl i => ∀ H' d, KX x H H' → RO K H' x (CR K) r → H' d = some (.xd [("index", .int (i : Nat))]) → E (.ref (He.ga K "Rejected")) (some d) H'
      | .inr r2 => ∀ H', KX x H H' → RO K H' x (CR K) (bz r2 false) → Q (.int (r2.es.length : Nat)) H') := q3
            rw [er0] at this
            exact this
          have hx6 := s6 _ _ hx5
          show (WE _ _ _ _ _)
          refine ⟨.ref x, rfl, x, _, dx4, _, rfl, hx6, T.c_Reel, T.n_Reel_busy, by show 5 < 1000; decide, ?_⟩
          obtain ⟨H7, e7, k7, t7, hx7⟩ := new_fld hx6 "busy" (.bl false) rfl
          rw [e7]
          refine ⟨_, rfl, rfl, _, rfl, iteY rfl ?_⟩
          refine ⟨_, rfl, _, rfl, _, rfl, _, rfl, sz (by show 4 ≤ _; decide), fun d7 nd7 => ?_⟩
          obtain ⟨H8, e8, s8, hd8⟩ := new_tup nd7 [vr, vd, v1, optV r.ch]
          rw [e8]
          refine ⟨d7, _, rfl, .inl (.inl hd8), rfl, ?_⟩
          have hx8 := s8 _ _ hx7
          refine ⟨_, _, rfl, .ref x, rfl, x, _, dx4, _, rfl, hx8, T.c_Reel, T.n_Reel_rings, by show 5 < 1000; decide, ?_⟩
          obtain ⟨H9, e9, k9, t9, hx9⟩ := new_fld hx8 "rings" vr rfl
          rw [e9]
          refine ⟨_, _, rfl, .ref x, rfl, x, _, dx4, _, rfl, hx9, T.c_Reel, T.n_Reel_done, by show 5 < 1000; decide, ?_⟩
          obtain ⟨Ha, ea, ka, ta, hxa⟩ := new_fld hx9 "done" vd rfl
          rw [ea]
          refine ⟨_, _, rfl, .ref x, rfl, x, _, dx4, _, rfl, hxa, T.c_Reel, T.n_Reel_starts, by show 5 < 1000; decide, ?_⟩
          obtain ⟨Hb, eb, kb, tb, hxb⟩ := new_fld hxa "starts" v1 rfl
          rw [eb]
          refine ⟨_, _, rfl, .ref x, rfl, x, _, dx4, _, rfl, hxb, T.c_Reel, T.n_Reel_chosen, by show 5 < 1000; decide, ?_⟩
          obtain ⟨Hc, ec, kc, tc, hxc⟩ := new_fld hxb "chosen" (optV r.ch) rfl
          rw [ec]
          have kk : KX x H6 Hc := k7.trans ((s8.kx x).trans (k9.trans (ka.trans (kb.trans kc))))
          have k0c : KX x H Hc := (k04.trans (s5.kx x)).trans ((s6.kx x).trans kk)
          have t0c := k0c.kt hx
          have hdn : d ≠ x := fun z => by rw [z, hx6] at hd; cases hd
          refine ⟨rfl, q2 Hc d k0c ⟨dx4, vr, vd, v1, ?_, dr.kt t0c, dd.kt t0c, d1.kt t0c⟩ (kk _ _ hdn hd)⟩
          rw [hb]
          exact hxc
        · intro r2 hok H6 k6 hR6
          refine ⟨_, rfl, rfl, _, rfl, iteN rfl ?_⟩
          obtain ⟨c60, ms, rfl, rfl⟩ := doR_ok hok
          refine ⟨_, _, _, rfl, k4.trans ((s5.kx x).trans k6), hR6, rs_do ok4 (edA_ring rg ho) c60 _ _ _, ?_⟩
          rw [eL]
          show (match stepZ ri e with | some (.ok r2) => runL (i + 1) r2 (L.drop (i + 1)) | _ => .inl i) = _
          unfold stepZ
          rw [elr, ho]
          show (match some (doR ri (.ok ms) (edD e)) with | some (.ok r2) => runL (i + 1) r2 (L.drop (i + 1)) | _ => .inl i) = _
          rw [hok]
      · rintro σ H4 ⟨y9, y10, ri, rfl, k4, hR4, ok4, eL⟩
        have k04 := k03.trans k4
        have hDr : L.drop xs.length = [] := by rw [hB.1]; exact List.drop_length
        rw [hDr] at eL
        have q2 : ∀ H', KX x H H' → RO K H' x (CR K) (bz ri false) → Q (.int (ri.es.length : Nat)) H' := by
          have : (match runL 0 (bz r true) L with
      | .inl i => ∀ H' d, KX x H H' → RO K H' x (CR K) r → H' d = some (.xd [("index", .int (i : Nat))]) → E (.ref (He.ga K "Rejected")) (some d) H'
      | .inr r2 => ∀ H', KX x H H' → RO K H' x (CR K) (bz r2 false) → Q (.int (r2.es.length : Nat)) H') := q
          rw [eL] at this
          exact this
        obtain ⟨dx4, vr4, vd4, v14, hx4, dr4, dd4, d14⟩ := id hR4
        obtain ⟨da4, dvs4, rfl, hda4, dda4⟩ := dd4.tuple_of
        refine ⟨.ref x, rfl, x, _, dx4, _, _, rfl, hx4, T.c_Reel, T.n_Reel_done, rfl, da4, _, rfl, .inr hda4, ?_⟩
        refine ⟨.ref x, rfl, x, _, dx4, _, rfl, hx4, T.c_Reel, T.n_Reel_busy, by show 5 < 1000; decide, ?_⟩
        obtain ⟨H5, e5, k5, t5, hx5⟩ := new_fld hx4 "busy" (.bl false) rfl
        rw [e5]
        refine ⟨_, rfl, rfl, _, rfl, iteN rfl ?_⟩
        refine ⟨_, rfl, ?_⟩
        rw [dda4.len]
        exact q2 H5 (k04.trans k5) ⟨dx4, vr4, .ref da4, v14, hx5, dr4.kt t5, dd4.kt t5, d14.kt t5⟩
-- @@ Reel_ring_at
theorem DtAll.nth {K : PySem.W.Frag} {H : Hp} : ∀ {xs : List V} {ds : List PyData}, DtAll K H xs ds → ∀ {k : Nat} {x : V} {d : PyData}, xs[k]? = some x → ds[k]? = some d → Dt K H x d
  | _, _, .nil, _, _, _, h, _ => nomatch h
  | _, _, .cons a _, 0, _, _, h1, h2 => by cases h1; cases h2; exact a
  | _, _, .cons _ b, k + 1, _, _, h1, h2 => DtAll.nth b (k := k) h1 h2
def spR_ring_at (K : PySem.W.Frag) : Sp := fun vs H Q E => ∃ (x : Addr) (r : RS) (v : V), vs = [.ref x, v] ∧ RO K H x (CR K) r ∧ Kd K H v ∧
  (∀ (k : Nat) (ns : List Int) (t : Addr), v = .int (k : Nat) → r.rs[k]? = some ns → TupI K H t ns → Q (.ref t) H) ∧
  (ixB v (r.rs.length : Int) = false → ∀ H' d, Same H H' → H' d = some (.xd [("value", v)]) → E (.ref (He.ga K "NoVersion")) (some d) H')
theorem ok_Reel_ring_at (T : Tx K mg) : OkA P w K mg base (L2.CX P w) 4 (He.ma K (CR K) "ring_at") ["self", "version"] (spR_ring_at K) := by
  refine okA_ofX T.F_Reel_ring_at sc_Reel_ring_at (fun _ _ _ _ _ _ us hl => match us, hl with | [_, _], _ => rfl) (fun vs H Q E h => ?_) (fun cdv A outer s H vs Q E hr h => ?_)
  · obtain ⟨x, r, v, rfl, _⟩ := h
    rfl
  · obtain ⟨x, r, v, rfl, hR, kd, q, e⟩ := h
    refine ⟨_, (pss_cons (ps_if (pt_not (pt_val (cal (ok_is_index T) (hr.mono (by decide)) pass0 (pa_cons (pv 1) (pa_cons (pe_callB call_len_seq (by rfl) T.f_len PySem.boot_len (pa_cons (pe_fld (pv 0) rfl) pa_nil)) pa_nil))))) (pss_one (ps_raise_value rfl PySem.F.excBase_LookupError PySem.F.store_LookupError T.x_NoVersion hr (takes_of rfl rfl rfl rfl) (pa_cons (pv 1) pa_nil))) pss_nil)
    (pss_one (ps_ret (pe_ix ix_tup (pe_fld (pv 0) rfl) (pv 1) (fun _ _ => rfl))))), ?_⟩
    obtain ⟨dx, vr, vd, v1, hx, dr, dd, d1⟩ := id hR
    obtain ⟨ra, rvs, rfl, hra, dra⟩ := dr.tuple_of
    have hl : rvs.length = r.rs.length := by rw [dra.len, List.length_map]
    refine ⟨_, rfl, .ref x, rfl, x, _, dx, _, _, rfl, hx, T.c_Reel, T.n_Reel_rings, rfl, ra, rvs, rfl, .inr hra, v, _, rfl, kd, _, rfl, ?_⟩
    rw [hl]
    cases c : ixB v (r.rs.length : Int) with
    | true =>
      refine iteF ?_
      obtain ⟨k, rfl, hk⟩ : ∃ k : Nat, v = .int (k : Nat) ∧ k < r.rs.length := by
        cases v with
        | int i =>
          have c : (decide ((0 : Int) ≤ i) && decide (i < (r.rs.length : Int))) = true := c
          rw [Bool.and_eq_true, decide_eq_true_iff, decide_eq_true_iff] at c
          obtain ⟨k, rfl⟩ := Int.eq_ofNat_of_zero_le c.1
          exact ⟨k, rfl, by omega⟩
        | _ => cases c
      have hy : rvs[k]? = some (rvs[k]'(by omega)) := List.getElem?_eq_getElem (by omega)
      have hd : (r.rs.map rgD)[k]? = some (rgD r.rs[k]) := by rw [List.getElem?_map, List.getElem?_eq_getElem hk]; rfl
      obtain ⟨t, et, hT⟩ := dt_rg_of (DtAll.nth dra hy hd)
      rw [et] at hy
      exact ⟨.ref x, rfl, x, _, dx, _, _, rfl, hx, T.c_Reel, T.n_Reel_rings, rfl, _, rfl, ra, rvs, (k : Int), .ref t, rfl, rfl, hra, atI_nat hy, q k _ t rfl (List.getElem?_eq_getElem hk) hT⟩
    | false => exact iteT ⟨_, rfl, _, rfl, fun d nd => e c _ d (same_upd nd) upd_same⟩
-- @@ Reel_edits
def spR_edits (K : PySem.W.Frag) : Sp := fun vs H Q _ => ∃ (x : Addr) (r : RS), vs = [.ref x] ∧ RO K H x (CR K) r ∧ ∀ v, Dt K H v (.tuple r.es) → Q v H
theorem ok_Reel_edits (T : Tx K mg) : OkA P w K mg base CX0 2 (He.ma K (CR K) "edits") ["self"] (spR_edits K) := by
  refine okA_of T.F_Reel_edits sc_Reel_edits (fun _ _ _ _ _ _ us hl => match us, hl with | [_], _ => rfl) (fun vs H Q E h => ?_) (fun cdv A outer s H vs Q E hr h => ?_)
  · obtain ⟨x, r, rfl, _⟩ := h
    rfl
  · obtain ⟨x, r, rfl, hR, q⟩ := h
    refine ⟨_, (pss_one (ps_ret (pe_fld (pv 0) rfl))), ?_⟩
    obtain ⟨dx, vr, vd, v1, hx, dr, dd, d1⟩ := id hR
    exact ⟨.ref x, rfl, x, _, dx, _, _, rfl, hx, T.c_Reel, T.n_Reel_done, rfl, q _ dd⟩
-- @@ Reel_walk
def YdW (K : PySem.W.Frag) (rvs : List V) : Nat → Hp → V → Hp → Prop := fun j H x H' => ∃ t y, x = .ref t ∧ rvs[j]? = some y ∧ Same H H' ∧ SqT K H' t [.int (j : Nat), y]
def spR_walk (K : PySem.W.Frag) : GenP.SpQ3 := fun vs H Q => ∃ (x : Addr) (r : RS), vs = [.ref x] ∧ RO K H x (CR K) r ∧ r.rs.length ≤ 1000 ∧
  ∀ H' ra rvs, Same H H' → SqT K H' ra rvs → DtAll K H' rvs (r.rs.map rgD) → Q H rvs.length (fun _ H2 => SqT K H2 ra rvs) (YdW K rvs) H'
theorem ok_Reel_walk (T : Tx K mg) : GenP.OkQA P w K mg base 2 (He.ma K (CR K) "walk") ["self"] (spR_walk K) := by
  refine GenP.okQA_of T.F_Reel_walk sc_Reel_walk ⟨_, _, _, _, _, _, rfl, fun _ _ _ => rfl⟩ (fun _ _ => rfl) (by decide +kernel) (fun _ _ _ _ _ _ us hl => match us, hl with | [_], _ => rfl) (fun vs H Q h => ?_) (fun cdv A outer s H H2 vs Q hr h hs => ?_)
  · obtain ⟨x, r, rfl, _⟩ := h
    rfl
  · obtain ⟨x, r, rfl, hR, hn, q⟩ := h
    apply Exists.intro
    apply Exists.intro
    apply Exists.intro
    apply And.intro
    · apply GenP.pfy
      · exact fun _ _ => (pi_enumTK (K := K) rfl (by rfl) T.f_enumerate (pa_cons (pe_fldK (K := K) rfl (pv 0) rfl) pa_nil))
      · exact fun _ _ => (pg_tupI (n := 2) (K := K) rfl rfl (pgs_cons (pg_name (i := 1) sc_Reel_walk.nd rfl (.inl rfl)) (pgs_cons (pg_name (i := 2) sc_Reel_walk.nd rfl (.inl rfl)) pgs_nil)))
      · exact fun _ _ => (pe_tup (pa_cons (pv 1) (pa_cons (pv 2) pa_nil)))
    obtain ⟨dx, vr, vd, v1, hx, dr, dd, d1⟩ := hR.same hs
    obtain ⟨ra, rvs, rfl, hra, dra⟩ := dr.tuple_of
    have hl : rvs.length = r.rs.length := by rw [dra.len, List.length_map]
    refine ⟨.ref x, rfl, x, _, dx, _, _, rfl, hx, T.c_Reel, T.n_Reel_rings, rfl, ra, rvs, rfl, hra, Same.refl H2, rvs.length, fun _ H2 => SqT K H2 ra rvs, YdW K rvs, sz (by omega), fun j H3 hj hg => ⟨?_, fun x1 H4 hy => ?_⟩, fun H3 hg => ?_, hra, q H2 ra rvs hs hra dra⟩
    · exact ⟨rvs, rvs[j], hg, List.getElem?_eq_getElem hj⟩
    · obtain ⟨T0, y, rfl, nT, rfl, hall⟩ := hy
      have s4 := same_upd (o := .tup [.int (j : Nat), y]) nT
      refine ⟨T0, _, rfl, .inl (.inl upd_same), rfl, _, _, rfl, _, _, rfl, rfl, ?_⟩
      refine ⟨_, rfl, _, rfl, sz (by show 2 ≤ _; decide), fun t nt => ?_⟩
      have s5 := s4.trans (same_upd (o := .tup [.int (j : Nat), y]) nt)
      exact ⟨⟨t, y, rfl, hall rvs hg, s5, .inl (.inl upd_same)⟩, fun b hb q => by
        cases e : H3 b with
        | none => exact hb e
        | some o => rw [s5 b o e] at q; cases q⟩
    · exact ⟨rvs, hg, Nat.le_refl _⟩
-- @@ Reel_copy
-- @@ Reel_len
def spR_len (K : PySem.W.Frag) : Sp := fun vs H Q _ => ∃ (x : Addr) (r : RS), vs = [.ref x] ∧ RO K H x (CR K) r ∧ Q (.int (r.es.length : Int)) H
theorem ok_Reel_len (T : Tx K mg) : OkA P w K mg base CX0 2 (He.ma K (CR K) "__len__") ["self"] (spR_len K) := by
  refine okA_of T.F_Reel_len sc_Reel_len (fun _ _ _ _ _ _ us hl => match us, hl with | [_], _ => rfl) (fun vs H Q E h => ?_) (fun cdv A outer s H vs Q E hr h => ?_)
  · obtain ⟨x, r, rfl, _⟩ := h
    rfl
  · obtain ⟨x, r, rfl, hR, q⟩ := h
    refine ⟨_, (pss_one (ps_ret (pe_callB call_len_seq (by rfl) T.f_len PySem.boot_len (pa_cons (pe_fld (pv 0) rfl) pa_nil)))), ?_⟩
    obtain ⟨dx, vr, vd, v1, hx, dr, dd, d1⟩ := id hR
    obtain ⟨da, dvs, rfl, hda, dda⟩ := dd.tuple_of
    have ld : (dvs.length : Int) = (r.es.length : Int) := by rw [dda.len]
    refine ⟨.ref x, rfl, x, _, dx, _, _, rfl, hx, T.c_Reel, T.n_Reel_done, rfl, da, _, rfl, .inr hda, ?_⟩
    rw [ld]
    exact q
-- @@ Reel_str
def spR_str (K : PySem.W.Frag) : Sp := fun vs H Q _ => ∃ (x : Addr) (r : RS) (ns : List Int), vs = [.ref x] ∧ RO K H x (CR K) r ∧ r.rs.getLast? = some ns ∧ Ring ns ∧ r.es.length ≤ 60 ∧ Q (.str (strR ns r.es.length)) H
theorem ok_Reel_str (T : Tx K mg) : OkA P w K mg base CX0 3 (He.ma K (CR K) "__str__") ["self"] (spR_str K) := by
  refine okA_of T.F_Reel_str sc_Reel_str (fun _ _ _ _ _ _ us hl => match us, hl with | [_], _ => rfl) (fun vs H Q E h => ?_) (fun cdv A outer s H vs Q E hr h => ?_)
  · obtain ⟨x, r, ns, rfl, _⟩ := h
    rfl
  · obtain ⟨x, r, ns, rfl, hR, hns, rg, le, q⟩ := h
    refine ⟨_, (pss_one (ps_ret (pe_joined (PJ.cons (pe_fmt (pe_callB call_len_seq (by rfl) T.f_len PySem.boot_len (pa_cons (pe_ix ix_tup (pe_fld (pv 0) rfl) (pe_un un_neg pe_int) (fun _ _ => rfl)) pa_nil))) (PJ.cons pe_str (PJ.cons (pe_fmt (cal (ok_balance T) (hr.mono (by decide)) pass0 (pa_cons (pe_ix ix_tup (pe_fld (pv 0) rfl) (pe_un un_neg pe_int) (fun _ _ => rfl)) pa_nil))) (PJ.cons pe_str (PJ.cons (pe_fmt (pe_callB call_len_seq (by rfl) T.f_len PySem.boot_len (pa_cons (pe_fld (pv 0) rfl) pa_nil))) (PJ.cons pe_str PJ.nil))))))))), ?_⟩
    obtain ⟨dx, vr, vd, v1, hx, dr, dd, d1⟩ := id hR
    obtain ⟨rs, er⟩ := last_of hns
    rw [er, List.map_append] at dr
    obtain ⟨ra, rvs, rfl, hra, dra⟩ := dr.tuple_of
    obtain ⟨ys, y, rfl, dys, dy⟩ := dra.snoc_of
    obtain ⟨rt, rfl, hT⟩ := dt_rg_of dy
    obtain ⟨da, dvs, rfl, hda, dda⟩ := dd.tuple_of
    have ld : (dvs.length : Int) = (r.es.length : Int) := by rw [dda.len]
    have ln : (((ns.map V.int).length : Nat) : Int) = (ns.length : Int) := by rw [List.length_map]
    refine ⟨.ref x, rfl, x, _, dx, _, _, rfl, hx, T.c_Reel, T.n_Reel_rings, rfl, _, rfl, ra, _, _, _, rfl, rfl, hra, atI_last _ _, rt, _, rfl, .inr hT, ?_⟩
    rw [ln]
    have z1 := sok_txI (small_nat (n := ns.length) (by have := rg.2.1; omega))
    have z2 := sok_txI (bal_small rg)
    have z3 := sok_txI (small_nat (n := r.es.length) (by omega))
    have a1 := z1.app sok_s1
    have a2 := a1.app z2
    have a3 := a2.app sok_s2
    have a4 := a3.app z3
    have a5 := a4.app sok_s3
    refine .inr ⟨_, rfl, log_of (small_nat (n := ns.length) (by have := rg.2.1; omega)), txI (ns.length : Int), rfl, ?_⟩
    rw [empty_app]
    refine ⟨sz (Nat.le_trans z1.1 (by decide)), _, rfl, sz (Nat.le_trans a1.1 (by decide)), ?_⟩
    refine ⟨.ref x, rfl, x, _, dx, _, _, rfl, hx, T.c_Reel, T.n_Reel_rings, rfl, _, rfl, ra, _, _, _, rfl, rfl, hra, atI_last _ _, rt, ns, rfl, hT, ?_⟩
    refine .inr ⟨_, rfl, log_of (bal_small rg), txI (bal ns), rfl, sz (Nat.le_trans a2.1 (by decide)), ?_⟩
    refine ⟨_, rfl, sz (Nat.le_trans a3.1 (by decide)), ?_⟩
    refine ⟨.ref x, rfl, x, _, dx, _, _, rfl, hx, T.c_Reel, T.n_Reel_done, rfl, da, _, rfl, .inr hda, ?_⟩
    rw [ld]
    refine .inr ⟨_, rfl, log_of (small_nat (n := r.es.length) (by omega)), txI (r.es.length : Int), rfl, sz (Nat.le_trans a4.1 (by decide)), ?_⟩
    exact ⟨_, rfl, sz (Nat.le_trans a5.1 (by decide)), q⟩
-- @@ Reel_eq
def EqRO (K : PySem.W.Frag) (a b : Addr) (H : Hp) : Prop := ∃ (r1 r2 : RS) (ns : List Int), RO K H a (CR K) r1 ∧ RO K H b (CR K) r2 ∧ r1.rs.getLast? = some ns ∧ r2.rs.getLast? = some ns
theorem ok_Reel_eq (T : Tx K mg) : OkA P w K mg base CX0 3 (He.ma K (CR K) "__eq__") ["self", "other"] (spEq (EqRO K)) := by
  refine okA_of T.F_Reel_eq sc_Reel_eq (fun _ _ _ _ _ _ us hl => match us, hl with | [_, _], _ => rfl) (fun vs H Q E h => ?_) (fun cdv A outer s H vs Q E hr h => ?_)
  · obtain ⟨a, b, rfl, _⟩ := h
    rfl
  · obtain ⟨a, b, rfl, ⟨r1, r2, ns, hR1, hR2, h1, h2⟩, q⟩ := h
    refine ⟨_, (pss_one (ps_ret (pe_and (pe_callB call_isi (by rfl) T.f_isinstance boot_isinstance (pa_cons (pv 1) (pa_cons (pe_glob (v := .ref (He.ga K "Reel")) rfl T.g_Reel rfl) pa_nil))) (pe_one (pe_cmpR (op_eqD hr.units) (pe_ix ix_tup (pe_fld (pv 0) rfl) (pe_un un_neg pe_int) (fun _ _ => rfl)) (pe_ix ix_tup (pe_fld (pv 1) rfl) (pe_un un_neg pe_int) (fun _ _ => rfl)) (nomark _)))))), ?_⟩
    obtain ⟨dx, vr, vd, v1, hx, dr, dd, d1⟩ := id hR1
    obtain ⟨dx2, vr2, vd2, v12, hx2, dr2, dd2, d12⟩ := id hR2
    obtain ⟨ra, rvs, rfl, hra, dra⟩ := dr.tuple_of
    obtain ⟨ra2, rvs2, rfl, hra2, dra2⟩ := dr2.tuple_of
    obtain ⟨rs1, e1⟩ := last_of h1
    obtain ⟨rs2, e2⟩ := last_of h2
    rw [e1, List.map_append] at dra
    rw [e2, List.map_append] at dra2
    obtain ⟨ys, y, rfl, _, dy⟩ := dra.snoc_of
    obtain ⟨zs, z, rfl, _, dz⟩ := dra2.snoc_of
    obtain ⟨t1, rfl, ht1⟩ := dt_rg_of dy
    obtain ⟨t2, rfl, ht2⟩ := dt_rg_of dz
    refine ⟨.ref b, rfl, .ref b, .ref (CR K), .ref (CR K), .ref (CR K), true, rfl, .own _, T.is_Reel.ty T.c_Reel hx2, kit_self K _, _, rfl, iteY rfl ?_⟩
    refine ⟨.ref a, rfl, a, _, dx, _, _, rfl, hx, T.c_Reel, T.n_Reel_rings, rfl, 1, rfl, ra, _, _, _, rfl, rfl, hra, atI_last _ _, ?_⟩
    refine ⟨.ref b, rfl, b, _, dx2, _, _, rfl, hx2, T.c_Reel, T.n_Reel_rings, rfl, 1, rfl, ra2, _, _, _, rfl, rfl, hra2, atI_last _ _, ?_⟩
    refine ⟨_, _, dp_tup ht1, dp_tup ht2, shapedT_ints _, shapedT_ints _, ?_⟩
    rw [eqv_ints_self]
    exact q H (Same.refl H)
-- @@ _law_stream
theorem ok__law_stream (T : Tx K mg) : Ok P w K mg base CX0 1 "_law_stream" ["_law_script"] (spStream K) := by
  refine ok_of T.F__law_stream T.g__law_stream sc__law_stream (fun _ _ _ _ _ _ us hl => match us, hl with | [_], _ => rfl) (fun vs H Q E h => ?_) (fun cdv A outer s H vs Q E hr h => ?_)
  · obtain ⟨a, ns, rfl, _⟩ := h
    rfl
  · obtain ⟨a, ns, rfl, hS, hlen, q⟩ := h
    refine ⟨_, (pss_cons (ps_setLc (i := 1) (own := [("_law_cell", 2)]) (g := gName 2) rfl sc__law_stream.nd rfl rfl (sw_true rfl rfl rfl (by decide +kernel)) (pi_list (pv 0)) (blkOk_by (own := [("_law_cell", 2)]) (N := N__law_stream) (sc := defScope s__law_stream) (by decide +kernel)) (fun _ _ _ _ _ => pg_name (i := 2) sc__law_stream.nd rfl (Or.inl rfl)) (fun _ _ _ _ _ => pts_nil) (fun _ _ _ _ _ => (pe_callB call_abs (by rfl) T.f_abs boot_abs (pa_cons (pv 2) pa_nil))))
      (pss_one (ps_ret (pe_lst (pa_cons (pe_lc (own := [("_law_cell", 2)]) (g := gName 2) rfl sc__law_stream.nd (pi_list (pv 1)) (blkOk_by (own := [("_law_cell", 2)]) (N := N__law_stream) (sc := defScope s__law_stream) (by decide +kernel)) (fun _ _ _ _ _ => pg_name (i := 2) sc__law_stream.nd rfl (Or.inl rfl)) (fun _ _ _ _ _ => pts_one (pt_cmpR op_ge (pv 2) (pe_op op_pow pe_int pe_int) (nomark _))) (fun _ _ _ _ _ => (pv 2))) (pa_cons (pe_op op_cat (pv 1) (pe_lst (pa_cons (pe_op op_add (pe_callB call_len_seq (by rfl) T.f_len PySem.boot_len (pa_cons (pv 1) pa_nil)) pe_int) pa_nil))) (pa_cons pe_int pa_nil))))))), ?_⟩
    refine ⟨.ref a, rfl, a, rfl, ⟨_, hS⟩, fun D nD => ?_⟩
    refine lc_list (K := K) (a := a) (xs := ns.map V.int) (fun i H1 => Same H H1 ∧ ∃ cs : List Int, H1 D = some (.lst (cs.map V.int)) ∧ cs.length = i) ⟨same_upd nD, [], upd_same, rfl⟩ (fun i H1 _ h => h.1.seq hS) ?_ ?_
    · rintro i x H1 hx ⟨s1, cs, hD, hcs⟩
      have hi : i < ns.length := by
        have := (List.getElem?_eq_some_iff.mp hx).1
        rw [List.length_map] at this
        exact this
      obtain ⟨z, rfl⟩ : ∃ z, x = V.int z := by
        rw [List.getElem?_map, List.getElem?_eq_getElem hi] at hx
        exact ⟨_, (Option.some.inj hx).symm⟩
      refine ⟨rfl, ?_⟩
      refine ⟨_, rfl, z, rfl, _, hD, szl (by rw [List.length_map]; omega), fun b o e => ?_, cs ++ [if z < 0 then -z else z], ?_, ?_⟩
      · rw [upd_ne (ne_of_none e nD)]
        exact s1 _ _ e
      · rw [upd_same, List.map_append]
        rfl
      · rw [List.length_append, hcs]
        rfl
    · rintro H1 ⟨s1, cs, hD, hcs⟩
      rw [List.length_map] at hcs
      -- [[..], cells + [..], 0]
      refine ⟨.ref D, rfl, D, rfl, ⟨_, lstI_of hD⟩, fun E1 nE => ?_⟩
      have nDE : D ≠ E1 := ne_of_none hD nE
      refine lc_list (K := K) (a := D) (xs := cs.map V.int) (fun i H2 => Same H1 H2 ∧ ∃ gs : List Int, H2 E1 = some (.lst (gs.map V.int)) ∧ gs.length ≤ i) ⟨same_upd nE, [], upd_same, Nat.le_refl _⟩ (fun i H2 _ h => h.1.seq (lstI_of hD)) ?_ ?_
      · rintro i x H2 hx ⟨s2, gs, hE, hgs⟩
        have hi : i < cs.length := by
          have := (List.getElem?_eq_some_iff.mp hx).1
          rw [List.length_map] at this
          exact this
        obtain ⟨z, rfl⟩ : ∃ z, x = V.int z := by
          rw [List.getElem?_map, List.getElem?_eq_getElem hi] at hx
          exact ⟨_, (Option.some.inj hx).symm⟩
        refine ⟨rfl, ?_⟩
        refine ⟨_, rfl, _, _, rfl, rfl, ⟨by decide, by decide, by decide⟩, _, _, rfl, rfl, _, rfl, ite2 (fun h => ?_) (fun h => ?_)⟩
        · refine ⟨_, rfl, _, hE, szl (by rw [List.length_map]; omega), fun b o e => ?_, gs ++ [z], ?_, ?_⟩
          · rw [upd_ne (ne_of_none e nE)]
            exact s2 _ _ e
          · rw [upd_same, List.map_append]
            rfl
          · rw [List.length_append]
            show gs.length + 1 ≤ i + 1
            omega
        · exact ⟨s2, gs, hE, by omega⟩
      · rintro H2 ⟨s2, gs, hE, hgs⟩
        rw [List.length_map] at hgs
        have hD2 := s2 _ _ hD
        refine ⟨.ref D, rfl, .ref D, rfl, D, _, rfl, .inl (lstI_of hD2), _, _, rfl, rfl, Nat.succ_le_of_lt (szl (by decide)), fun F1 nF => ?_⟩
        have hD3 : (upd H2 F1 (.lst [.int (((cs.map V.int).length : Nat) + 17)])) D = some (.lst (cs.map V.int)) := by
          rw [upd_ne (ne_of_none hD2 nF)]
          exact hD2
        refine ⟨D, F1, _, _, rfl, rfl, hD3, upd_same, sz (by rw [List.length_map]; show cs.length + 1 ≤ _; omega), fun G1 nG => ?_⟩
        refine ⟨sz (by show 3 ≤ _; decide), fun S nS => ?_⟩
        have s3 : Same H1 (upd (upd (upd H2 F1 (.lst [.int (((cs.map V.int).length : Nat) + 17)])) G1 (.lst (cs.map V.int ++ [.int (((cs.map V.int).length : Nat) + 17)]))) S (.lst [.ref E1, .ref G1, .int 0])) :=
          ((s2.trans (same_upd nF)).trans (same_upd nG)).trans (same_upd nS)
        have hE2 : (upd H2 F1 (.lst [.int (((cs.map V.int).length : Nat) + 17)])) E1 = some (.lst (gs.map V.int)) := by
          rw [upd_ne (ne_of_none hE nF)]
          exact hE
        have hEG : E1 ≠ G1 := ne_of_none hE2 nG
        have hE3 : (upd (upd H2 F1 (.lst [.int (((cs.map V.int).length : Nat) + 17)])) G1 (.lst (cs.map V.int ++ [.int (((cs.map V.int).length : Nat) + 17)]))) E1 = some (.lst (gs.map V.int)) := by
          rw [upd_ne hEG]
          exact hE2
        have nSE : E1 ≠ S := ne_of_none hE3 nS
        have nSG : G1 ≠ S := ne_of_none upd_same nS
        have z1 : Same H (upd H2 F1 (.lst [.int (((cs.map V.int).length : Nat) + 17)])) := s1.trans (s2.trans (same_upd nF))
        refine q _ S E1 G1 (s1.trans s3) ((z1.trans (same_upd nG)).free nS) (s1.free nE) (z1.free nG) ⟨upd_same, ⟨gs, ?_, by omega⟩, ⟨cs ++ [(((cs.map V.int).length : Nat) : Int) + 17], ?_, ?_, ?_⟩, Ne.symm nSE, Ne.symm nSG, hEG⟩
        · rw [upd_ne nSE]
          exact hE3
        · rw [upd_ne nSG, upd_same, List.map_append]
          rfl
        · rw [List.length_append, hcs]
          show ns.length + 1 ≤ 64
          omega
        · rw [List.length_append]
          show 0 < cs.length + 1
          omega
-- @@ _law_draw
theorem ok__law_draw (T : Tx K mg) : Ok P w K mg base CX0 1 "_law_draw" ["_law_stream_here", "_law_many"] (spDraw K) := by
  refine ok_of T.F__law_draw T.g__law_draw sc__law_draw (fun _ _ _ _ _ _ us hl => match us, hl with | [_, _], _ => rfl) (fun vs H Q E h => ?_) (fun cdv A outer s H vs Q E hr h => ?_)
  · obtain ⟨S, A, B, t, many, rfl, _⟩ := h
    rfl
  · obtain ⟨S, A, B, t, many, rfl, st, m0, m1, ht, q⟩ := h
    refine ⟨_, (pss_cons (ps_while PassesOwn.never (pt_cmpR (op_neD hr.units) (pe_ix ix_list (pv 0) pe_int (fun _ _ => rfl)) (pe_lst pa_nil) (nomark _)) (pss_cons (ps_set (i := 2) sc__law_draw.nd rfl (.inl rfl) (pe_ix ix_list (pe_ix ix_list (pv 0) pe_int (fun _ _ => rfl)) pe_int (fun _ _ => rfl)))
      (pss_cons (ps_if (pt_cmpR op_gt (pv 2) pe_int (nomark _)) (pss_cons (ps_asg (pe_op op_fdivL (pv 2) (pv 1)) (pg_sub (pe_ix ix_list (pv 0) pe_int (fun _ _ => rfl)) pe_int set_list))
      (pss_one (ps_ret (pe_op op_modN (pv 2) (pv 1))))) pss_nil)
      (pss_one (ps_expr (pe_bm PySem.F.plainAttrs_list PySem.F.slot_list_pop PySem.F.type_list_pop mt_popAt (pe_ix ix_list (pv 0) pe_int (fun _ _ => rfl)) (pa_cons pe_int pa_nil)))))))
      (pss_cons (ps_set (i := 3) sc__law_draw.nd rfl (.inl rfl) (pe_op op_add (pe_ix ix_list (pv 0) pe_int (fun _ _ => rfl)) pe_int))
      (pss_cons (ps_asg (pv 3) (pg_sub (pv 0) pe_int set_list))
      (pss_cons (ps_set (i := 4) sc__law_draw.nd rfl (.inl rfl) (pe_op op_modN (pe_ix ix_list (pe_ix ix_list (pv 0) pe_int (fun _ _ => rfl)) (pe_op op_modN (pv 3) (pe_callB call_len_seq (by rfl) T.f_len PySem.boot_len (pa_cons (pe_ix ix_list (pv 0) pe_int (fun _ _ => rfl)) pa_nil))) (fun _ _ => rfl)) pe_int))
      (pss_cons (ps_set (i := 5) sc__law_draw.nd rfl (.inl rfl) (pe_op op_modN (pe_op op_add (pe_op op_add (pe_op op_mul (pv 4) (pe_op op_add pe_int (pe_op op_mul pe_int (pv 3)))) (pe_op op_mul (pe_op op_mul pe_int (pv 3)) (pv 3))) pe_int) pe_int))
      (pss_one (ps_ret (pe_op op_modN (pe_op op_fdivN (pe_op op_modN (pe_op op_mul (pv 5) (pv 5)) pe_int) pe_int) (pv 1))))))))), ?_⟩
    obtain ⟨as0, _, hl0⟩ := st.a
    refine ⟨fun m σ H1 => ∃ y2, σ = [some (.ref S), some (.int many), y2, none, none, none] ∧ SameX S A H H1 ∧ Strm H1 S A B t ∧ ∃ as : List Int, H1 A = some (.lst (as.map V.int)) ∧ as.length = m, ?_, ?_⟩
    · obtain ⟨as, h1, _⟩ := st.a
      exact ⟨as.length, none, rfl, SameX.refl S A H, st, as, h1, rfl⟩
    · rintro m σ H1 ⟨y2, rfl, sx, s1, as, hA, hm⟩
      have hS := s1.s
      refine ⟨.ref S, rfl, S, _, _, .ref A, rfl, rfl, lstI_of hS, atI_nat (j := 0) rfl, Nat.zero_le _, fun e ne => ?_⟩
      have hSe : (upd H1 e (.lst [])) S = some (.lst [.ref A, .ref B, .int t]) := by
        rw [upd_ne (ne_of_none hS ne)]
        exact hS
      have hAe : (upd H1 e (.lst [])) A = some (.lst (as.map V.int)) := by
        rw [upd_ne (ne_of_none hA ne)]
        exact hA
      have sxe : SameX S A H (upd H1 e (.lst [])) := sx.trans (Same.x (same_upd ne))
      have ste : Strm (upd H1 e (.lst [])) S A B t := s1.same (same_upd ne)
      refine ⟨.list (as.map PyData.int), .list [], .lst (lstI_of hAe) (dpAll_ints as), .lst (lstI_of upd_same) .nil, shaped_ints as, shaped_ints [], _, rfl, ?_⟩
      rw [eqv_ints_nil]
      cases as with
      | nil =>
        -- the great cells are used up
        refine iteF ?_
        obtain ⟨bs, hB, hb1, hb2⟩ := ste.b
        refine ⟨.ref S, rfl, S, _, _, .int t, rfl, rfl, lstI_of hSe, atI_nat (j := 2) rfl, _, _, rfl, rfl, ?_⟩
        refine ⟨_, rfl, .ref S, rfl, S, _, _, 2, rfl, rfl, hSe, rfl, ?_⟩
        have hS2 : (upd (upd H1 e (.lst [])) S (.lst [.ref A, .ref B, .int ((t : Int) + 1)])) S = some (.lst [.ref A, .ref B, .int ((t : Int) + 1)]) := upd_same
        have hB2 : (upd (upd H1 e (.lst [])) S (.lst [.ref A, .ref B, .int ((t : Int) + 1)])) B = some (.lst (bs.map V.int)) := by
          rw [upd_ne (Ne.symm st.sb)]
          exact hB
        have hA2 : (upd (upd H1 e (.lst [])) S (.lst [.ref A, .ref B, .int ((t : Int) + 1)])) A = some (.lst (([] : List Int).map V.int)) := by
          rw [upd_ne (Ne.symm st.sa)]
          exact hAe
        have st2 : Strm (upd (upd H1 e (.lst [])) S (.lst [.ref A, .ref B, .int ((t : Int) + 1)])) S A B (t + 1) :=
          ⟨hS2, ⟨[], hA2, Nat.zero_le _⟩, ⟨bs, hB2, hb1, hb2⟩, st.sa, st.sb, st.ab⟩
        have sx2 : SameX S A H (upd (upd H1 e (.lst [])) S (.lst [.ref A, .ref B, .int ((t : Int) + 1)])) := fun c o h1 h2 h3 => by
          rw [upd_ne h2]
          exact sxe c o h1 h2 h3
        have hbl : ((bs.map V.int).length : Int) = (bs.length : Int) := by rw [List.length_map]
        have bp : (0 : Int) < ((bs.map V.int).length : Int) := by omega
        -- the cell
        have i0 := fmod_nn (a := (t : Int) + 1) bp
        have i1 := fmod_lt' (a := (t : Int) + 1) bp
        obtain ⟨j, hj⟩ := Int.eq_ofNat_of_zero_le i0
        have jl : j < bs.length := by omega
        have gj : (bs.map V.int)[j]? = some (.int bs[j]) := by
          rw [List.getElem?_map, List.getElem?_eq_getElem jl]
          rfl
        refine ⟨.ref S, rfl, S, _, _, .ref B, rfl, rfl, lstI_of hS2, atI_nat (j := 1) rfl, ?_⟩
        refine ⟨_, rfl, .ref S, rfl, S, _, _, .ref B, rfl, rfl, lstI_of hS2, atI_nat (j := 1) rfl, B, _, rfl, .inl (lstI_of hB2), ?_⟩
        refine ⟨_, _, rfl, rfl, by omega, B, _, _, .int bs[j], rfl, rfl, lstI_of hB2, by rw [hj]; exact atI_nat gj, ?_⟩
        refine ⟨_, _, rfl, rfl, (show (2147483587 : Int) ≠ 0 by decide), ?_⟩
        have c0 := fmod_nn (a := bs[j]) (b := 2147483587) (by decide)
        have c1 := fmod_lt' (a := bs[j]) (b := 2147483587) (by decide)
        -- the mixed number
        refine ⟨_, rfl, _, rfl, _, _, rfl, rfl, .inl ⟨by decide, by decide⟩, _, _, rfl, rfl, _, _, rfl, rfl, .inl ⟨by omega, by omega⟩, ?_⟩
        refine ⟨_, rfl, _, _, rfl, rfl, .inl ⟨by decide, by decide⟩, _, rfl, _, _, rfl, rfl, .inr ⟨by omega, by omega⟩, _, _, rfl, rfl, _, _, rfl, rfl, _, _, rfl, rfl, (show (2147483647 : Int) ≠ 0 by decide), ?_⟩
        refine ⟨_, rfl, _, rfl, _, _, rfl, rfl, ?_, _, _, rfl, rfl, (show (2147483629 : Int) ≠ 0 by decide), _, _, rfl, rfl, ⟨(show (16 : Int) ≠ 0 by decide), (show (16 : Int).natAbs < 1073741824 by decide)⟩, _, rfl, _, _, rfl, rfl, by omega, ?_⟩
        · have d0 := fmod_nn (a := (bs[j].fmod 2147483587) * (16807 + 48271 * ((t : Int) + 1)) + 69621 * ((t : Int) + 1) * ((t : Int) + 1) + 5) (b := 2147483647) (by decide)
          have d1 := fmod_lt' (a := (bs[j].fmod 2147483587) * (16807 + 48271 * ((t : Int) + 1)) + 69621 * ((t : Int) + 1) * ((t : Int) + 1) + 5) (b := 2147483647) (by decide)
          exact .inl ⟨by omega, by omega⟩
        · exact q _ (t + 1) _ sx2 st2 (Nat.le_refl _) (fmod_nn m0) (fmod_lt' m0)
      | cons r rs =>
        refine iteT ?_
        refine ⟨fun σ' H' => ∃ y2, σ' = [some (.ref S), some (.int many), y2, none, none, none] ∧ SameX S A H H' ∧ Strm H' S A B t ∧ ∃ as : List Int, H' A = some (.lst (as.map V.int)) ∧ as.length = rs.length, fun σ' H' ⟨z2, e1, e2, e3, as', e4, e5⟩ => ⟨rs.length, by rw [← hm]; exact Nat.lt_succ_self _, z2, e1, e2, e3, as', e4, e5⟩, ?_⟩
        refine ⟨.ref S, rfl, S, _, _, .ref A, rfl, rfl, lstI_of hSe, atI_nat (j := 0) rfl, A, _, _, .int r, rfl, rfl, lstI_of hAe, atI_nat (j := 0) rfl, ?_⟩
        refine ⟨_, rfl, _, _, rfl, rfl, _, rfl, ite2 (fun h => ?_) (fun h => ?_)⟩
        · -- a digit of the great cell
          refine ⟨_, rfl, _, rfl, _, _, rfl, rfl, ⟨by omega, by omega⟩, ?_⟩
          refine ⟨.ref S, rfl, S, _, _, .ref A, rfl, rfl, lstI_of hSe, atI_nat (j := 0) rfl, A, _, _, 0, rfl, rfl, hAe, ixN_of (j := 0) (by rw [List.length_map]; exact Nat.succ_pos _), ?_⟩
          refine ⟨_, rfl, _, rfl, _, _, rfl, rfl, by omega, ?_⟩
          refine q _ t _ (fun c o h1 h2 h3 => ?_) ⟨?_, ⟨r.fdiv many :: rs, upd_same, ?_⟩, ?_, st.sa, st.sb, st.ab⟩ (Nat.le_succ _) (fmod_nn m0) (fmod_lt' m0)
          · rw [upd_ne h3]
            exact sxe c o h1 h2 h3
          · rw [upd_ne st.sa]
            exact hSe
          · obtain ⟨as2, h1, h2⟩ := ste.a
            rw [hAe] at h1
            have e1 : (r :: rs).map V.int = as2.map V.int := by
              injection h1 with h1
              injection h1
            have e2 := congrArg List.length e1
            rw [List.length_map, List.length_map] at e2
            show rs.length + 1 ≤ 64
            have e3 : (r :: rs).length = rs.length + 1 := rfl
            omega
          · obtain ⟨bs, hB, hb⟩ := ste.b
            exact ⟨bs, by rw [upd_ne (Ne.symm st.ab)]; exact hB, hb⟩
        · -- it is used up
          refine ⟨.ref S, rfl, S, _, _, .ref A, rfl, rfl, lstI_of hSe, atI_nat (j := 0) rfl, .inl ⟨rfl, _, lstI_of hAe⟩, A, _, 0, 0, .int r, rfl, rfl, hAe, by decide, by decide, (ixN_seq (ixN_of (j := 0) (by rw [List.length_map]; exact Nat.succ_pos _))).1, rfl, ?_⟩
          refine ⟨_, rfl, fun c o h1 h2 h3 => ?_, ⟨?_, ⟨rs, upd_same, ?_⟩, ?_, st.sa, st.sb, st.ab⟩, rs, upd_same, rfl⟩
          · rw [upd_ne h3]
            exact sxe c o h1 h2 h3
          · rw [upd_ne st.sa]
            exact hSe
          · obtain ⟨as2, h1, h2⟩ := ste.a
            rw [hAe] at h1
            have e1 : (r :: rs).map V.int = as2.map V.int := by
              injection h1 with h1
              injection h1
            have e2 := congrArg List.length e1
            rw [List.length_map, List.length_map] at e2
            have e3 : (r :: rs).length = rs.length + 1 := rfl
            omega
          · obtain ⟨bs, hB, hb⟩ := ste.b
            exact ⟨bs, by rw [upd_ne (Ne.symm st.ab)]; exact hB, hb⟩
-- @@ _law_pick
theorem ok__law_pick (T : Tx K mg) : Ok P w K mg base CX0 2 "_law_pick" ["_law_stream_here", "_law_items"] (spPick K) := by
  refine ok_of T.F__law_pick T.g__law_pick sc__law_pick (fun _ _ _ _ _ _ us hl => match us, hl with | [_, _], _ => rfl) (fun vs H Q E h => ?_) (fun cdv A outer s H vs Q E hr h => ?_)
  · obtain ⟨S, A, B, t, l, xs, rfl, _⟩ := h
    rfl
  · obtain ⟨S, A, B, t, l, xs, rfl, st, ht, hl, n1, n2, h0, h1, q⟩ := h
    refine ⟨_, (pss_one (ps_ret (pe_ix ix_list (pv 1) (cal (ok__law_draw T) (hr.mono (by decide)) pass0 (pa_cons (pv 0) (pa_cons (pe_callB call_len_seq (by rfl) T.f_len PySem.boot_len (pa_cons (pv 1) pa_nil)) pa_nil))) (fun _ _ => rfl)))), ?_⟩
    refine ⟨.ref l, rfl, .ref S, rfl, .ref l, rfl, l, xs, rfl, .inl hl, S, A, B, t, _, rfl, st, by omega, by omega, ht, fun H1 t1 v sx s1 ht1 v0 v1 => ?_⟩
    obtain ⟨j, rfl⟩ := Int.eq_ofNat_of_zero_le v0
    have jl : j < xs.length := by omega
    have hl1 : SqL K H1 l xs := by
      rcases hl with (h | ⟨o, h⟩) | h
      · exact .inl (.inl (sx _ _ h n1 n2))
      · exact .inl (.inr ⟨o, sx _ _ h n1 n2⟩)
      · exact .inr h
    refine ⟨l, xs, _, xs[j], rfl, rfl, hl1, atI_nat (List.getElem?_eq_getElem jl), ?_⟩
    exact q H1 t1 _ sx s1 ht1 (List.getElem_mem jl)
-- @@ _law_whole
def spWhole (K : PySem.W.Frag) : Sp := fun vs H Q _ => ∃ (v : V) (lo hi : Int), vs = [v, .int lo, .int hi] ∧ Kd K H v ∧ Q (.bl (whB v lo hi)) H
theorem ok__law_whole (T : Tx K mg) : Ok P w K mg base CX0 1 "_law_whole" ["_law_value", "_law_low", "_law_high"] (spWhole K) := by
  refine ok_of T.F__law_whole T.g__law_whole sc__law_whole (fun _ _ _ _ _ _ us hl => match us, hl with | [_, _, _], _ => rfl) (fun vs H Q E h => ?_) (fun cdv A outer s H vs Q E hr h => ?_)
  · obtain ⟨v, lo, hi, rfl, _⟩ := h
    rfl
  · obtain ⟨v, lo, hi, rfl, kd, q⟩ := h
    refine ⟨_, (pss_cons (ps_if (PW.pt (pw_or (pt_not (pt_val (pe_callB call_isi (by rfl) T.f_isinstance boot_isinstance (pa_cons (pv 0) (pa_cons (pe_bltn (v := .ty "int") (by rfl) T.f_int boot_int rfl) pa_nil))))) (pw_or1 (pt_val (pe_callB call_isi (by rfl) T.f_isinstance boot_isinstance (pa_cons (pv 0) (pa_cons (pe_bltn (v := .ty "bool") (by rfl) T.f_bool boot_bool rfl) pa_nil))))))) (pss_one (ps_ret pe_bl)) pss_nil)
    (pss_one (ps_ret (pe_chain op_le op_le (pv 1) (pv 0) (pv 2))))), ?_⟩
    obtain ⟨t1, ty1, k1⟩ := kd_int kd
    obtain ⟨t2, ty2, k2⟩ := kd_bool kd
    refine ⟨_, rfl, v, .ty "int", t1, _, _, rfl, .ty _, ty1, k1, _, rfl, ?_⟩
    cases v with
    | int i =>
      refine iteN rfl ?_
      refine ⟨_, rfl, .int i, .ty "bool", t2, _, _, rfl, .ty _, ty2, k2, _, rfl, iteN rfl ?_⟩
      refine ⟨_, rfl, _, rfl, _, _, rfl, rfl, _, rfl, ?_⟩
      change Q (.bl (decide (lo ≤ i) && decide (i ≤ hi))) H at q
      cases e1 : decide (lo ≤ i) with
      | true =>
        refine iteT ?_
        rw [e1, Bool.true_and] at q
        exact ⟨_, rfl, _, _, rfl, rfl, q⟩
      | false =>
        refine iteF ?_
        rw [e1, Bool.false_and] at q
        exact q
    | bl b =>
      refine iteN rfl ?_
      exact ⟨_, rfl, .bl b, .ty "bool", t2, _, _, rfl, .ty _, ty2, k2, _, rfl, iteY rfl q⟩
    | _ => exact iteY rfl q
-- @@ _law_ring
theorem ok__law_ring (T : Tx K mg) : Ok P w K mg base CX0 3 "_law_ring" ["_law_stream_here", "_law_most"] (spRing K) := by
  refine ok_of T.F__law_ring T.g__law_ring sc__law_ring (fun _ _ _ _ _ _ us hl => match us, hl with | [_, _], _ => rfl) (fun vs H Q E h => ?_) (fun cdv A outer s H vs Q E hr h => ?_)
  · obtain ⟨S, A, B, t, most, rfl, _⟩ := h
    rfl
  · obtain ⟨S, A, B, t, most, rfl, st, ht, m0, m24, q⟩ := h
    refine ⟨_, (pss_cons (ps_set (i := 2) sc__law_ring.nd rfl (.inl rfl) (pe_lst (pa_cons (pe_lst (pa_cons pe_int (pa_cons pe_int (pa_cons pe_int (pa_cons pe_int pa_nil))))) (pa_cons (pe_lst (pa_cons pe_int (pa_cons pe_int (pa_cons pe_int (pa_cons pe_int (pa_cons pe_int (pa_cons pe_int (pa_cons pe_int pa_nil)))))))) (pa_cons (pe_lst (pa_cons pe_int (pa_cons pe_int (pa_cons pe_int (pa_cons pe_int (pa_cons pe_int (pa_cons pe_int pa_nil))))))) (pa_cons (pe_lst (pa_cons pe_int (pa_cons pe_int (pa_cons pe_int pa_nil)))) (pa_cons (pe_lst (pa_cons pe_int (pa_cons pe_int (pa_cons pe_int (pa_cons pe_int pa_nil))))) pa_nil)))))))
    (pss_cons (ps_asg (pe_tup (pa_cons (cal (ok__law_pick T) (hr.mono (by decide)) pass0 (pa_cons (pv 0) (pa_cons (pe_op op_cat (pv 2) (pe_lst (pa_cons (pe_lst (pa_cons pe_int (pa_cons pe_int (pa_cons pe_int (pa_cons pe_int (pa_cons pe_int pa_nil)))))) (pa_cons (pe_lst (pa_cons pe_int pa_nil)) pa_nil)))) pa_nil))) (pa_cons (pe_op op_add pe_int (cal (ok__law_draw T) (hr.mono (by decide)) pass0 (pa_cons (pv 0) (pa_cons (pv 1) pa_nil)))) pa_nil))) (pg_tup rfl (pgs_cons (pg_name (i := 3) sc__law_ring.nd rfl (.inr rfl)) (pgs_cons (pg_name (i := 4) sc__law_ring.nd rfl (.inl rfl)) pgs_nil))))
    (pss_cons (ps_setLc (i := 5) (own := [("_law_k", 6)]) (g := gName 6) rfl sc__law_ring.nd rfl rfl (sw_true rfl rfl rfl (by decide +kernel)) (pi_range1 (by rfl) T.f_range (pa_cons (pv 4) pa_nil)) (blkOk_by (own := [("_law_k", 6)]) (N := N__law_ring) (sc := defScope s__law_ring) (by decide +kernel)) (fun _ _ _ _ _ => pg_name (i := 6) sc__law_ring.nd rfl (Or.inl rfl)) (fun _ _ _ _ _ => pts_nil) (fun _ _ _ _ _ => (cal (ok__law_pick T) (hr.mono (by decide)) pass0 (pa_cons (pv 0) (pa_cons (pv 3) pa_nil)))))
    (pss_cons (ps_set (i := 7) sc__law_ring.nd rfl (.inl rfl) (pe_ix ix_list (pe_lst (pa_cons pe_int (pa_cons (pe_op op_add pe_int (cal (ok__law_draw T) (hr.mono (by decide)) pass0 (pa_cons (pv 0) (pa_cons pe_int pa_nil)))) (pa_cons (pe_op op_sub pe_int (cal (ok__law_draw T) (hr.mono (by decide)) pass0 (pa_cons (pv 0) (pa_cons pe_int pa_nil)))) pa_nil)))) (cal (ok__law_draw T) (hr.mono (by decide)) pass0 (pa_cons (pv 0) (pa_cons pe_int pa_nil))) (fun _ _ => rfl)))
    (pss_cons (ps_for PassesOwn.never rfl (pi_range1 (by rfl) T.f_range (pa_cons (pe_op op_mul pe_int (pv 4)) pa_nil)) (pg_name (i := 8) sc__law_ring.nd rfl (.inl rfl))
    (pss_cons (ps_par (i := 9) (j := 10) (by rfl) sc__law_ring.nd rfl rfl (by decide) rfl rfl (pa_cons (cal (ok__law_draw T) (hr.mono (by decide)) pass0 (pa_cons (pv 0) (pa_cons (pv 4) pa_nil))) (pa_cons (pe_op op_sub (pe_op op_sub (pv 4) (pe_callB (cr_sum rfl) (by rfl) T.f_sum boot_sum (pa_cons (pv 5) pa_nil))) (pv 7)) pa_nil)) (by rfl))
    (pss_one (ps_if (PW.pt (pw_and (pt_cmpR op_lt (pv 7) pe_int (nomark _)) (pw_and (pt_cmpR op_lt (pv 10) pe_int (nomark _)) (pw_and1 (pt_cmpR op_gt (pe_ix ix_list (pv 5) (pv 9) (fun _ _ => rfl)) pe_int (nomark _)))))) (pss_one (ps_asg (pe_op op_sub (pe_ix ix_list (pv 5) (pv 9) (fun _ _ => rfl)) pe_int) (pg_sub (pv 5) (pv 9) set_list))) (pss_one (ps_if (PW.pt (pw_and (pt_cmpR op_lt (pv 7) pe_int (nomark _)) (pw_and (pt_cmpR op_gt (pv 10) pe_int (nomark _)) (pw_and1 (pt_cmpR op_lt (pe_ix ix_list (pv 5) (pv 9) (fun _ _ => rfl)) pe_int (nomark _)))))) (pss_one (ps_asg (pe_op op_add (pe_ix ix_list (pv 5) (pv 9) (fun _ _ => rfl)) pe_int) (pg_sub (pv 5) (pv 9) set_list))) pss_nil))))))
    (pss_one (ps_ret (pe_callTy call_tuple_of (by rfl) T.f_tuple boot_tuple (pa_cons (pv 5) pa_nil))))))))), ?_⟩
    -- the menus
    refine ⟨sz (by show 4 ≤ _; decide), fun a1 n1 => ⟨sz (by show 7 ≤ _; decide), fun a2 n2 => ⟨sz (by show 6 ≤ _; decide), fun a3 n3 => ⟨sz (by show 3 ≤ _; decide), fun a4 n4 => ⟨sz (by show 4 ≤ _; decide), fun a5 n5 => ⟨sz (by show 5 ≤ _; decide), fun L nL => ?_⟩⟩⟩⟩⟩⟩
    have s5 := same_upd (o := .lst [V.ref a1, V.ref a2, V.ref a3, V.ref a4, V.ref a5]) nL
    have s4 := (same_upd n5).trans s5
    have s3 := (same_upd n4).trans s4
    have s2 := (same_upd n3).trans s3
    have s1 := (same_upd n2).trans s2
    have s0 := (same_upd n1).trans s1
    have st1 := st.same (same_upd (o := .lst [V.int 0, V.int 0, V.int 1, V.int 2]) n1)
    have st2 := st1.same (same_upd (o := .lst [V.int 0, V.int 0, V.int 0, V.int 0, V.int 0, V.int 5, V.int 4]) n2)
    have st3 := st2.same (same_upd (o := .lst [V.int 0, V.int 1, V.int 2, V.int 3, V.int 4, V.int 5]) n3)
    have st4 := st3.same (same_upd (o := .lst [V.int 0, V.int 0, V.int 2]) n4)
    have mm : ∀ v ∈ [V.ref a1, V.ref a2, V.ref a3, V.ref a4, V.ref a5], Menu S A (upd (upd (upd (upd (upd (upd H a1 (.lst [V.int 0, V.int 0, V.int 1, V.int 2])) a2 (.lst [V.int 0, V.int 0, V.int 0, V.int 0, V.int 0, V.int 5, V.int 4])) a3 (.lst [V.int 0, V.int 1, V.int 2, V.int 3, V.int 4, V.int 5])) a4 (.lst [V.int 0, V.int 0, V.int 2])) a5 (.lst [V.int 0, V.int 0, V.int 0, V.int 1])) L (.lst [V.ref a1, V.ref a2, V.ref a3, V.ref a4, V.ref a5])) v := by
      intro v hv
      simp only [List.mem_cons, List.not_mem_nil, or_false] at hv
      rcases hv with rfl | rfl | rfl | rfl | rfl
      · exact (Menu.new st n1 [0, 0, 1, 2] (by decide) (by decide) (by decide)).x (Same.x s1)
      · exact (Menu.new st1 n2 [0, 0, 0, 0, 0, 5, 4] (by decide) (by decide) (by decide)).x (Same.x s2)
      · exact (Menu.new st2 n3 [0, 1, 2, 3, 4, 5] (by decide) (by decide) (by decide)).x (Same.x s3)
      · exact (Menu.new st3 n4 [0, 0, 2] (by decide) (by decide) (by decide)).x (Same.x s4)
      · exact (Menu.new st4 n5 [0, 0, 0, 1] (by decide) (by decide) (by decide)).x (Same.x s5)
    have hL := upd_same (H := (upd (upd (upd (upd (upd H a1 (.lst [V.int 0, V.int 0, V.int 1, V.int 2])) a2 (.lst [V.int 0, V.int 0, V.int 0, V.int 0, V.int 0, V.int 5, V.int 4])) a3 (.lst [V.int 0, V.int 1, V.int 2, V.int 3, V.int 4, V.int 5])) a4 (.lst [V.int 0, V.int 0, V.int 2])) a5 (.lst [V.int 0, V.int 0, V.int 0, V.int 1]))) (a := L) (o := .lst [V.ref a1, V.ref a2, V.ref a3, V.ref a4, V.ref a5])
    have stL := st.same s0
    revert s0 mm hL stL
    generalize (upd (upd (upd (upd (upd (upd H a1 (.lst [V.int 0, V.int 0, V.int 1, V.int 2])) a2 (.lst [V.int 0, V.int 0, V.int 0, V.int 0, V.int 0, V.int 5, V.int 4])) a3 (.lst [V.int 0, V.int 1, V.int 2, V.int 3, V.int 4, V.int 5])) a4 (.lst [V.int 0, V.int 0, V.int 2])) a5 (.lst [V.int 0, V.int 0, V.int 0, V.int 1])) L (.lst [V.ref a1, V.ref a2, V.ref a3, V.ref a4, V.ref a5])) = HL
    clear s5 s4 s3 s2 s1 st1 st2 st3 st4
    intro s0 mm hL stL
    -- the menu that is picked, the size
    refine ⟨.ref S, rfl, .ref L, rfl, sz (by show 5 ≤ _; decide), fun a6 n6 => ⟨sz (by show 1 ≤ _; decide), fun a7 n7 => ⟨sz (by show 2 ≤ _; decide), fun L2 nL2 => ?_⟩⟩⟩
    have u3 := same_upd (o := .lst [V.ref a6, V.ref a7]) nL2
    have u2 := (same_upd n7).trans u3
    have u1 := (same_upd n6).trans u2
    have m6 := (Menu.new stL n6 [1, 1, 1, 0, 2] (by decide) (by decide) (by decide)).x (Same.x u2)
    have m7 := (Menu.new (stL.same (same_upd (o := .lst [V.int 1, V.int 1, V.int 1, V.int 0, V.int 2]) n6)) n7 [2] (by decide) (by decide) (by decide)).x (Same.x u3)
    refine ⟨L, L2, _, _, rfl, rfl, u1 _ _ hL, upd_same, sz (by show 7 ≤ _; decide), fun C nC => ?_⟩
    have u0 := u1.trans (same_upd (o := .lst ([V.ref a1, V.ref a2, V.ref a3, V.ref a4, V.ref a5] ++ [V.ref a6, V.ref a7])) nC)
    have stC := stL.same u0
    obtain ⟨asC, haC, _⟩ := stC.a
    obtain ⟨asU, haU, _⟩ := (stL.same u1).a
    refine ⟨S, A, B, t, C, _, rfl, stC, by omega, lstI_of upd_same, Ne.symm (ne_of_none (stL.same u1).s nC), Ne.symm (ne_of_none haU nC), by show 0 < 7; decide, by show 7 < _; decide, fun H1 t1 v sx1 st1 ht1 hv => ?_⟩
    have mv : Menu S A H1 v := by
      rcases List.mem_append.mp hv with z | z
      · exact (mm v z).x ((Same.x u0).trans sx1)
      · simp only [List.mem_cons, List.not_mem_nil, or_false] at z
        rcases z with rfl | rfl
        · exact m6.x ((Same.x (same_upd nC)).trans sx1)
        · exact m7.x ((Same.x (same_upd nC)).trans sx1)
    have sxa : SameX S A H H1 := (Same.x (s0.trans u0)).trans sx1
    refine ⟨.ref S, rfl, .int most, rfl, S, A, B, t1, most, rfl, st1, m0, by omega, by omega, fun H2 t2 z sx2 st2 ht2 z0 z1 => ?_⟩
    refine ⟨_, _, rfl, rfl, sz (by show 2 ≤ _; decide), fun tp ntp => ?_⟩
    refine ⟨tp, [v, .int (1 + z)], rfl, .inl (.inl upd_same), rfl, v, [.int (1 + z)], rfl, .int (1 + z), [], rfl, rfl, ?_⟩
    obtain ⟨n, hn⟩ : ∃ n : Nat, 1 + z = (n : Int) := ⟨(1 + z).toNat, by omega⟩
    have n0 : 1 ≤ n := by omega
    have n24 : (n : Int) ≤ most := by omega
    dsimp only
    rw [hn]
    have st3 := st2.same (same_upd (o := .tup [v, .int (1 + z)]) ntp)
    have sxb : SameX S A H (upd H2 tp (.tup [v, .int (1 + z)])) := (sxa.trans sx2).trans (Same.x (same_upd ntp))
    have mv3 : Menu S A (upd H2 tp (.tup [v, .int (1 + z)])) v := (mv.x sx2).x (Same.x (same_upd ntp))
    rw [hn] at st3 sxb mv3
    revert st3 sxb mv3
    generalize (upd H2 tp (.tup [v, .int (n : Int)])) = H3
    intro st3 sxb mv3
    have t3 : t2 ≤ t + 2 := by omega
    clear hv mv sxa st1 st2 sx1 sx2 ntp u0 u1 u2 u3 m6 m7 stC haC haU mm hL stL s0 ht1 ht2
    obtain ⟨M, ks, rfl, hM, nMS, nMA, k0, k10, k5⟩ := id mv3
    -- the tokens
    refine ⟨.int n, rfl, (n : Int), rfl, by omega, by omega, fun D nD => ?_⟩
    have stD := st3.same (same_upd (o := .lst []) nD)
    obtain ⟨as3, ha3, _⟩ := st3.a
    have nDS : D ≠ S := Ne.symm (ne_of_none st3.s nD)
    have nDA : D ≠ A := Ne.symm (ne_of_none ha3 nD)
    obtain ⟨bs3, hb3, _⟩ := st3.b
    have nDB : D ≠ B := Ne.symm (ne_of_none hb3 nD)
    have nMD : M ≠ D := ne_of_none hM nD
    have frD : ∀ (H4 : Hp) (o : HO), SameX S A H H4 → SameX S A H (upd H4 D o) := fun H4 o e b x hb h1 h2 => by
      by_cases q1 : b = D
      · rw [q1] at hb h1 h2
        have := sxb _ _ hb h1 h2
        rw [nD] at this
        cases this
      · rw [upd_ne q1]
        exact e b x hb h1 h2
    refine lc_range (lo := 0) (n := (n : Int).toNat) (fun i H4 => SameX S A H H4 ∧ SameX S A H3 H4 ∧ ∃ (t4 : Nat) (ts : List Int), Strm H4 S A B t4 ∧ t4 ≤ t + 2 + i ∧ H4 D = some (.lst (ts.map V.int)) ∧ ts.length = i ∧ Tok5 ts) ?_ ?_ ?_
    · exact ⟨frD _ _ sxb, Same.x (same_upd nD), t2, [], stD, t3, upd_same, rfl, fun k hk => by cases hk⟩
    · rintro i H4 hi ⟨sx4, sy4, t4, ts, st4, ht4, hD4, hl4, h54⟩
      refine ⟨rfl, ?_⟩
      have hM4 : H4 M = some (.lst (ks.map V.int)) := sy4 _ _ hM nMS nMA
      refine ⟨.ref S, rfl, .ref M, rfl, S, A, B, t4, M, _, rfl, st4, by omega, lstI_of hM4, nMS, nMA, by rw [List.length_map]; exact k0, by rw [List.length_map]; omega, fun H5 t5 x sx5 st5 ht5 hx => ?_⟩
      obtain ⟨k, hk, rfl⟩ := List.mem_map.mp hx
      refine ⟨_, sx5 _ _ hD4 nDS nDA, szl (by rw [List.length_map]; omega), ?_⟩
      refine ⟨frD _ _ (sx4.trans sx5), fun b o e h1 h2 => ?_, t5, ts ++ [k], st5.upd (Ne.symm nDS) (Ne.symm nDA) (Ne.symm nDB), by omega, ?_, ?_, ?_⟩
      · rw [upd_ne (ne_of_none e nD)]
        exact sx5 _ _ (sy4 _ _ e h1 h2) h1 h2
      · rw [upd_same, List.map_append]
        rfl
      · rw [List.length_append, hl4]
        rfl
      · intro y hy
        rcases List.mem_append.mp hy with z | z
        · exact h54 y z
        · have e := List.mem_singleton.mp z
          subst e
          exact k5 _ hk
    · rintro H4 ⟨sx4, sy4, t4, ts, st4, ht4, hD4, hl4, h54⟩
      have hn2 : ((n : Int).toNat) = n := by omega
      rw [hn2] at hl4 ht4
      clear sy4
      -- the goal
      refine ⟨.ref S, rfl, S, A, B, t4, 3, rfl, st4, by decide, by decide, by omega, fun H5 t5 g1 sx5 st5 ht5 _ _ => ?_⟩
      refine ⟨_, _, rfl, rfl, .ref S, rfl, S, A, B, t5, 3, rfl, st5, by decide, by decide, by omega, fun H6 t6 g2 sx6 st6 ht6 _ _ => ?_⟩
      refine ⟨_, _, rfl, rfl, sz (by show 3 ≤ _; decide), fun G nG => ?_⟩
      dsimp only
      have st6' := st6.same (same_upd (o := .lst [V.int 99, V.int (1 + g1), V.int (0 - g2)]) nG)
      obtain ⟨as6, ha6, _⟩ := st6.a
      refine ⟨.ref S, rfl, S, A, B, t6, 3, rfl, st6', by decide, by decide, by omega, fun H7 t7 g3 sx7 st7 ht7 g30 g31 => ?_⟩
      have hG7 : H7 G = some (.lst [V.int 99, V.int (1 + g1), V.int (0 - g2)]) := sx7 _ _ upd_same (Ne.symm (ne_of_none st6.s nG)) (Ne.symm (ne_of_none ha6 nG))
      obtain ⟨g, hg⟩ : ∃ g : Int, atI [V.int 99, V.int (1 + g1), V.int (0 - g2)] g3 = some (.int g) := by
        obtain ⟨j, rfl⟩ := Int.eq_ofNat_of_zero_le g30
        have hj : j < 3 := by omega
        match j, hj with
        | 0, _ => exact ⟨_, atI_nat rfl⟩
        | 1, _ => exact ⟨_, atI_nat rfl⟩
        | 2, _ => exact ⟨_, atI_nat rfl⟩
      refine ⟨G, _, _, .int g, rfl, rfl, lstI_of hG7, hg, ?_⟩
      have hD7 : H7 D = some (.lst (ts.map V.int)) := sx7 _ _ (same_upd nG _ _ (sx6 _ _ (sx5 _ _ hD4 nDS nDA) nDS nDA)) nDS nDA
      have sxc : SameX S A H H7 := (((sx4.trans sx5).trans sx6).trans (Same.x (same_upd nG))).trans sx7
      have ht8 : t7 ≤ t + 5 + n := by omega
      clear hG7 hg g30 g31 sx5 sx6 sx7 sx4 ht7 ht6 ht5 ht4 hD4 st4 st5 st6 st6' ha6 nG
      -- the balance is brought near the goal
      refine ⟨.int n, rfl, _, _, rfl, rfl, .inl ⟨by decide, by decide⟩, (5 * (n : Int)), rfl, by omega, by omega, ?_⟩
      refine for_range (lo := 0) (n := (5 * (n : Int)).toNat) (fun i σ H8 => ∃ y8 y9 y10, σ = [some (.ref S), some (.int most), some (.ref L), some (.ref M), some (.int n), some (.ref D), none, some (.int g), y8, y9, y10] ∧
        SameX S A H H8 ∧ ∃ (t8 : Nat) (ts : List Int), Strm H8 S A B t8 ∧ t8 ≤ t + 5 + n + i ∧ H8 D = some (.lst (ts.map V.int)) ∧ ts.length = n ∧ Tok5 ts) ?_ ?_ ?_
      · exact ⟨none, none, none, rfl, sxc, t7, ts, st7, ht8, hD7, hl4, h54⟩
      · clear hl4 h54 hD7 sxc ht8 st7
        rintro i σ H8 hi ⟨y8, y9, y10, rfl, sx8, t8, ts, st8, ht8, hD8, hl7, h57⟩
        refine ⟨.ref S, rfl, .int n, rfl, S, A, B, t8, n, rfl, st8, by omega, by omega, by omega, fun H9 t7 z sx9 st7 ht9 z0 z1 => ?_⟩
        have hD7 := sx9 _ _ hD8 nDS nDA
        have sxc := sx8.trans sx9
        obtain ⟨j, rfl⟩ := Int.eq_ofNat_of_zero_le z0
        have hj : j < ts.length := by omega
        refine ⟨.int n, rfl, .ref D, rfl, D, ts, rfl, lstI_of hD7, _, _, rfl, rfl, _, rfl, _, _, rfl, rfl, _, _, rfl, ?_⟩
        refine ⟨_, rfl, _, _, rfl, rfl, _, rfl, ite2 (fun h1 => ?_) (fun h1 => ?_)⟩
        · refine ⟨_, rfl, _, _, rfl, rfl, _, rfl, ite2 (fun h2 => ?_) (fun h2 => ?_)⟩
          · refine ⟨.ref D, rfl, .int j, rfl, D, _, _, .int ts[j], rfl, rfl, lstI_of hD7, atI_nat (get_map_int hj), _, _, rfl, rfl, _, rfl, ite2 (fun h3 => ?_) (fun h3 => ?_)⟩
            · have h3 := of_decide_eq_true h3
              refine ⟨.ref D, rfl, .int j, rfl, D, _, _, .int ts[j], rfl, rfl, lstI_of hD7, atI_nat (get_map_int hj), _, _, rfl, rfl, .ref D, rfl, .int j, rfl, D, _, _, j, rfl, rfl, hD7, ixN_of (by rw [List.length_map]; exact hj), ?_⟩
              have hk := h57 _ (List.getElem_mem hj)
              have h4 : 0 < ts[j] := h3
              refine ⟨_, _, _, rfl, frD _ _ sxc, t7, ts.set j (ts[j] - 1), st7.upd (Ne.symm nDS) (Ne.symm nDA) (Ne.symm nDB), by omega, ?_, by rw [List.length_set]; exact hl7, h57.set (by omega) (by omega)⟩
              rw [upd_same, ← map_set_int]
            · skip
              refine ⟨_, rfl, _, _, rfl, rfl, _, rfl, ite2 (fun k1 => ?_) (fun k1 => ?_)⟩
              · refine ⟨_, rfl, _, _, rfl, rfl, _, rfl, ite2 (fun k2 => ?_) (fun k2 => ?_)⟩
                · refine ⟨.ref D, rfl, .int j, rfl, D, _, _, .int ts[j], rfl, rfl, lstI_of hD7, atI_nat (get_map_int hj), _, _, rfl, rfl, _, rfl, ite2 (fun k3 => ?_) (fun k3 => ?_)⟩
                  · have k3 := of_decide_eq_true k3
                    refine ⟨.ref D, rfl, .int j, rfl, D, _, _, .int ts[j], rfl, rfl, lstI_of hD7, atI_nat (get_map_int hj), _, _, rfl, rfl, .ref D, rfl, .int j, rfl, D, _, _, j, rfl, rfl, hD7, ixN_of (by rw [List.length_map]; exact hj), ?_⟩
                    have hk := h57 _ (List.getElem_mem hj)
                    have k4 : ts[j] < 5 := k3
                    refine ⟨_, _, _, rfl, frD _ _ sxc, t7, ts.set j (ts[j] + 1), st7.upd (Ne.symm nDS) (Ne.symm nDA) (Ne.symm nDB), by omega, ?_, by rw [List.length_set]; exact hl7, h57.set (by omega) (by omega)⟩
                    rw [upd_same, ← map_set_int]
                  · exact ⟨_, _, _, rfl, sxc, t7, ts, st7, by omega, hD7, hl7, h57⟩
                · exact ⟨_, _, _, rfl, sxc, t7, ts, st7, by omega, hD7, hl7, h57⟩
              · exact ⟨_, _, _, rfl, sxc, t7, ts, st7, by omega, hD7, hl7, h57⟩
          · skip
            refine ⟨_, rfl, _, _, rfl, rfl, _, rfl, ite2 (fun k1 => ?_) (fun k1 => ?_)⟩
            · refine ⟨_, rfl, _, _, rfl, rfl, _, rfl, ite2 (fun k2 => ?_) (fun k2 => ?_)⟩
              · refine ⟨.ref D, rfl, .int j, rfl, D, _, _, .int ts[j], rfl, rfl, lstI_of hD7, atI_nat (get_map_int hj), _, _, rfl, rfl, _, rfl, ite2 (fun k3 => ?_) (fun k3 => ?_)⟩
                · have k3 := of_decide_eq_true k3
                  refine ⟨.ref D, rfl, .int j, rfl, D, _, _, .int ts[j], rfl, rfl, lstI_of hD7, atI_nat (get_map_int hj), _, _, rfl, rfl, .ref D, rfl, .int j, rfl, D, _, _, j, rfl, rfl, hD7, ixN_of (by rw [List.length_map]; exact hj), ?_⟩
                  have hk := h57 _ (List.getElem_mem hj)
                  have k4 : ts[j] < 5 := k3
                  refine ⟨_, _, _, rfl, frD _ _ sxc, t7, ts.set j (ts[j] + 1), st7.upd (Ne.symm nDS) (Ne.symm nDA) (Ne.symm nDB), by omega, ?_, by rw [List.length_set]; exact hl7, h57.set (by omega) (by omega)⟩
                  rw [upd_same, ← map_set_int]
                · exact ⟨_, _, _, rfl, sxc, t7, ts, st7, by omega, hD7, hl7, h57⟩
              · exact ⟨_, _, _, rfl, sxc, t7, ts, st7, by omega, hD7, hl7, h57⟩
            · exact ⟨_, _, _, rfl, sxc, t7, ts, st7, by omega, hD7, hl7, h57⟩
        · skip
          refine ⟨_, rfl, _, _, rfl, rfl, _, rfl, ite2 (fun k1 => ?_) (fun k1 => ?_)⟩
          · refine ⟨_, rfl, _, _, rfl, rfl, _, rfl, ite2 (fun k2 => ?_) (fun k2 => ?_)⟩
            · refine ⟨.ref D, rfl, .int j, rfl, D, _, _, .int ts[j], rfl, rfl, lstI_of hD7, atI_nat (get_map_int hj), _, _, rfl, rfl, _, rfl, ite2 (fun k3 => ?_) (fun k3 => ?_)⟩
              · have k3 := of_decide_eq_true k3
                refine ⟨.ref D, rfl, .int j, rfl, D, _, _, .int ts[j], rfl, rfl, lstI_of hD7, atI_nat (get_map_int hj), _, _, rfl, rfl, .ref D, rfl, .int j, rfl, D, _, _, j, rfl, rfl, hD7, ixN_of (by rw [List.length_map]; exact hj), ?_⟩
                have hk := h57 _ (List.getElem_mem hj)
                have k4 : ts[j] < 5 := k3
                refine ⟨_, _, _, rfl, frD _ _ sxc, t7, ts.set j (ts[j] + 1), st7.upd (Ne.symm nDS) (Ne.symm nDA) (Ne.symm nDB), by omega, ?_, by rw [List.length_set]; exact hl7, h57.set (by omega) (by omega)⟩
                rw [upd_same, ← map_set_int]
              · exact ⟨_, _, _, rfl, sxc, t7, ts, st7, by omega, hD7, hl7, h57⟩
            · exact ⟨_, _, _, rfl, sxc, t7, ts, st7, by omega, hD7, hl7, h57⟩
          · exact ⟨_, _, _, rfl, sxc, t7, ts, st7, by omega, hD7, hl7, h57⟩
      · rintro σ H8 ⟨y8, y9, y10, rfl, sx8, t8, ts, st8, ht8, hD8, hl7, h57⟩
        refine ⟨.ref D, rfl, D, _, rfl, .inl ⟨lstI_of hD8, fun r nr => ?_⟩⟩
        refine q _ t8 r ts (sx8.trans (Same.x (same_upd nr))) (st8.same (same_upd nr)) (by omega) ?_ upd_same ⟨by omega, by omega, h57⟩ (by omega)
        cases hr0 : H r with
        | none => rfl
        | some o =>
          by_cases q1 : r = S
          · subst q1
            rw [st8.s] at nr
            cases nr
          · by_cases q2 : r = A
            · subst q2
              obtain ⟨as8, ha8, _⟩ := st8.a
              rw [ha8] at nr
              cases nr
            · have := sx8 _ _ hr0 q1 q2
              rw [this] at nr
              cases nr
-- @@ _law_odd
theorem ok__law_odd (T : Tx K mg) : Ok P w K mg base CX0 2 "_law_odd" ["_law_stream_here"] (spOdd2 K) := by
  refine ok_of T.F__law_odd T.g__law_odd sc__law_odd (fun _ _ _ _ _ _ us hl => match us, hl with | [_], _ => rfl) (fun vs H Q E h => ?_) (fun cdv A0 outer s H vs Q E hr h => ?_)
  · obtain ⟨S, A, B, t, rfl, _⟩ := h
    rfl
  · obtain ⟨S, A, B, t, rfl, st, ht, q⟩ := h
    refine ⟨_, (pss_cons (ps_set (i := 1) sc__law_odd.nd rfl (.inl rfl) (pe_lst' (pa_cons pe_non (pa_cons pe_bl (pa_cons pe_bl (pa_cons (pe_un un_neg pe_int) (pa_cons pe_int (pa_cons pe_int (pa_cons pe_int (pa_cons pe_int (pa_cons pe_int (pa_cons pe_int (pa_cons (pe_op op_pow pe_int pe_int) (pa_cons pe_str (pa_cons pe_str (pa_cons (pe_tup pa_nil) (pa_cons (pe_lst' pa_nil) (pa_cons pe_dnewK (pa_cons (pe_tup (pa_cons pe_int pa_nil)) (pa_cons (pe_lst' (pa_cons pe_int pa_nil)) (pa_cons (pe_tup (pa_cons pe_bl pa_nil)) (pa_cons (pe_tup (pa_cons (pe_tup pa_nil) pa_nil)) (pa_cons pe_str pa_nil)))))))))))))))))))))))
    (pss_one (ps_ret (pe_ix ix_list (pe_op op_cat (pv 1) (pe_lst' (pa_cons (pe_tup (pa_cons pe_int (pa_cons pe_int pa_nil))) (pa_cons (pe_disp (pps_cons pe_str pe_int pps_nil) (by rfl) (by rfl) (fun z => by cases z) (by decide)) (pa_cons (pe_tup (pa_cons pe_int (pa_cons pe_int (pa_cons pe_int pa_nil)))) pa_nil))))) (cal (ok__law_draw T) (hr.mono (by decide)) pass0 (pa_cons (pv 0) (pa_cons pe_int pa_nil))) (fun _ _ => rfl))))), ?_⟩
    refine ⟨1, rfl, _, _, rfl, rfl, ⟨by decide, by decide, by decide⟩, sz (Nat.zero_le _), fun p1 n1 => ?_⟩
    have o1 := od2_tup (K := K) st n1 (xs := []) (ds := []) .nil ⟨by decide +kernel, by decide +kernel, by decide +kernel, by decide +kernel⟩ (by decide) (fun x z => nomatch z)
    have t1 := st.same (same_upd (o := .tup []) n1)
    refine ⟨sz (Nat.zero_le _), fun p2 n2 m2 => ?_⟩
    have o2 := od2_lst (K := K) t1 n2 m2 (xs := []) (ds := []) .nil ⟨by decide +kernel, by decide +kernel, by decide +kernel, by decide +kernel⟩
    have t2 := t1.same (same_upd (o := .lst []) n2)
    intro p3 n3
    have o3 := od2_dic (K := K) t2 n3 [] ⟨by decide +kernel, by decide +kernel, by decide +kernel, by decide +kernel⟩
    have t3 := t2.same (same_upd (o := .dK []) n3)
    refine ⟨sz (by show 1 ≤ _; decide), fun p4 n4 => ?_⟩
    have o4 := od2_tup (K := K) t3 n4 (xs := [.int 0]) (ds := [.int 0]) (.cons (.int 0) .nil) ⟨by decide +kernel, by decide +kernel, by decide +kernel, by decide +kernel⟩ (by decide) (fun x z => by
      simp only [List.mem_cons, List.not_mem_nil, or_false] at z
      subst z
      exact odd_int (by decide +kernel))
    have t4 := t3.same (same_upd (o := .tup [.int 0]) n4)
    refine ⟨sz (by show 1 ≤ _; decide), fun p5 n5 m5 => ?_⟩
    have o5 := od2_lst (K := K) t4 n5 m5 (xs := [.int 0]) (ds := [.int 0]) (.cons (.int 0) .nil) ⟨by decide +kernel, by decide +kernel, by decide +kernel, by decide +kernel⟩
    have t5 := t4.same (same_upd (o := .lst [.int 0]) n5)
    refine ⟨sz (by show 1 ≤ _; decide), fun p6 n6 => ?_⟩
    have o6 := od2_tup (K := K) t5 n6 (xs := [.bl true]) (ds := [.bool true]) (.cons (.bl true) .nil) ⟨by decide +kernel, by decide +kernel, by decide +kernel, by decide +kernel⟩ (by decide) (fun x z => by
      simp only [List.mem_cons, List.not_mem_nil, or_false] at z
      subst z
      exact odd_bl _)
    have t6 := t5.same (same_upd (o := .tup [.bl true]) n6)
    refine ⟨sz (Nat.zero_le _), fun p7 n7 => ?_⟩
    have g7 := hid_get t6 n7 (.tup [])
    have o7 := od2_tup (K := K) t6 n7 (xs := []) (ds := []) .nil ⟨by decide +kernel, by decide +kernel, by decide +kernel, by decide +kernel⟩ (by decide) (fun x z => nomatch z)
    have t7 := t6.same (same_upd (o := .tup []) n7)
    refine ⟨sz (by show 1 ≤ _; decide), fun p8 n8 => ?_⟩
    have o8 := od2_tup (K := K) t7 n8 (xs := [.ref p7]) (ds := [.tuple []]) (.cons (.tup (.inl (.inl g7)) .nil) .nil) ⟨by decide +kernel, by decide +kernel, by decide +kernel, by decide +kernel⟩ (by show 1 ≤ 3; decide) (fun x z => by
      simp only [List.mem_cons, List.not_mem_nil, or_false] at z
      subst z
      exact o7.1)
    have t8 := t7.same (same_upd (o := .tup [.ref p7]) n8)
    refine ⟨sz (by show 21 ≤ _; decide), fun L nL mL => ?_⟩
    have s8 := same_upd (o := .lst [.non, .bl true, .bl false, (fun i : Int => V.int (-i)) 1, .int 0, .int 1, .int 2, .int 5, .int 6, .int 24, (fun i j : Int => V.int (i ^ j.toNat)) 10 29, .str "", .str "0", .ref p1, .ref p2, .ref p3, .ref p4, .ref p5, .ref p6, .ref p8, .str "a"]) nL
    have s7 := (same_upd (o := .tup [.ref p7]) n8).trans s8
    have s6 := (same_upd (o := .tup []) n7).trans s7
    have s5 := (same_upd (o := .tup [.bl true]) n6).trans s6
    have s4 := (same_upd (o := .lst [.int 0]) n5).trans s5
    have s3 := (same_upd (o := .tup [.int 0]) n4).trans s4
    have s2 := (same_upd (o := .dK []) n3).trans s3
    have s1 := (same_upd (o := .lst []) n2).trans s2
    have s0 := (same_upd (o := .tup []) n1).trans s1
    have fe : Fit 100 10 (.str "") := ⟨by decide +kernel, by decide +kernel, by decide +kernel, by decide +kernel⟩
    have f0 : Fit 100 10 (.str "0") := ⟨by decide +kernel, by decide +kernel, by decide +kernel, by decide +kernel⟩
    have fa' : Fit 100 10 (.str "a") := ⟨by decide +kernel, by decide +kernel, by decide +kernel, by decide +kernel⟩
    have mm : ∀ v ∈ ([.non, .bl true, .bl false, (fun i : Int => V.int (-i)) 1, .int 0, .int 1, .int 2, .int 5, .int 6, .int 24, (fun i j : Int => V.int (i ^ j.toNat)) 10 29, .str "", .str "0", .ref p1, .ref p2, .ref p3, .ref p4, .ref p5, .ref p6, .ref p8, .str "a"] : List V), Od2 K S A (upd (upd (upd (upd (upd (upd (upd (upd (upd H p1 (.tup [])) p2 (.lst [])) p3 (.dK [])) p4 (.tup [.int 0])) p5 (.lst [.int 0])) p6 (.tup [.bl true])) p7 (.tup [])) p8 (.tup [.ref p7])) L (.lst [.non, .bl true, .bl false, (fun i : Int => V.int (-i)) 1, .int 0, .int 1, .int 2, .int 5, .int 6, .int 24, (fun i j : Int => V.int (i ^ j.toNat)) 10 29, .str "", .str "0", .ref p1, .ref p2, .ref p3, .ref p4, .ref p5, .ref p6, .ref p8, .str "a"])) v := by
      intro v hv
      simp only [List.mem_cons, List.not_mem_nil, or_false] at hv
      rcases hv with rfl | rfl | rfl | rfl | rfl | rfl | rfl | rfl | rfl | rfl | rfl | rfl | rfl | rfl | rfl | rfl | rfl | rfl | rfl | rfl | rfl
      · exact od2_non
      · exact od2_bl _
      · exact od2_bl _
      · exact od2_int (by decide +kernel)
      · exact od2_int (by decide +kernel)
      · exact od2_int (by decide +kernel)
      · exact od2_int (by decide +kernel)
      · exact od2_int (by decide +kernel)
      · exact od2_int (by decide +kernel)
      · exact od2_int (by decide +kernel)
      · exact od2_int (by decide +kernel)
      · exact od2_str fe
      · exact od2_str f0
      · exact o1.same s1
      · exact o2.same s2
      · exact o3.same s3
      · exact o4.same s4
      · exact o5.same s5
      · exact o6.same s6
      · exact o8.same s8
      · exact od2_str fa'
    have hL := upd_same (H := (upd (upd (upd (upd (upd (upd (upd (upd H p1 (.tup [])) p2 (.lst [])) p3 (.dK [])) p4 (.tup [.int 0])) p5 (.lst [.int 0])) p6 (.tup [.bl true])) p7 (.tup [])) p8 (.tup [.ref p7]))) (a := L) (o := .lst [.non, .bl true, .bl false, (fun i : Int => V.int (-i)) 1, .int 0, .int 1, .int 2, .int 5, .int 6, .int 24, (fun i j : Int => V.int (i ^ j.toNat)) 10 29, .str "", .str "0", .ref p1, .ref p2, .ref p3, .ref p4, .ref p5, .ref p6, .ref p8, .str "a"])
    have stL := st.same s0
    revert s0 mm hL stL
    generalize (upd (upd (upd (upd (upd (upd (upd (upd (upd H p1 (.tup [])) p2 (.lst [])) p3 (.dK [])) p4 (.tup [.int 0])) p5 (.lst [.int 0])) p6 (.tup [.bl true])) p7 (.tup [])) p8 (.tup [.ref p7])) L (.lst [.non, .bl true, .bl false, (fun i : Int => V.int (-i)) 1, .int 0, .int 1, .int 2, .int 5, .int 6, .int 24, (fun i j : Int => V.int (i ^ j.toNat)) 10 29, .str "", .str "0", .ref p1, .ref p2, .ref p3, .ref p4, .ref p5, .ref p6, .ref p8, .str "a"])) = HL
    clear s8 s7 s6 s5 s4 s3 s2 s1 t1 t2 t3 t4 t5 t6 t7 t8 o1 o2 o3 o4 o5 o6 o8
    intro s0 mm hL stL
    refine ⟨.ref L, rfl, sz (by show 2 ≤ _; decide), fun p9 n9 => ?_⟩
    have o9 := od2_tup (K := K) stL n9 (xs := [.int 0, .int 2]) (ds := [.int 0, .int 2]) (.cons (.int 0) (.cons (.int 2) .nil)) ⟨by decide +kernel, by decide +kernel, by decide +kernel, by decide +kernel⟩ (by decide) (fun x z => by
      simp only [List.mem_cons, List.not_mem_nil, or_false] at z
      rcases z with rfl | rfl
      · exact odd_int (by decide +kernel)
      · exact odd_int (by decide +kernel))
    have t9 := stL.same (same_upd (o := .tup [.int 0, .int 2]) n9)
    intro p10 n10
    have o10 := od2_dic (K := K) t9 n10 [("a", 1)] ⟨by decide +kernel, by decide +kernel, by decide +kernel, by decide +kernel⟩
    have t10 := t9.same (same_upd (o := .dK ([(("a" : Str), (1 : Int))].map fun p => ((Sum.inr p.1 : Key), V.int p.2))) n10)
    refine ⟨upd_same, [((Sum.inr "a" : Key), .int 1)], rfl, by decide, ?_⟩
    rw [upd_upd, show mergeK [] [((Sum.inr "a" : Key), V.int 1)] = ([(("a" : Str), (1 : Int))].map fun p => ((Sum.inr p.1 : Key), V.int p.2)) from rfl]
    refine ⟨sz (by show 3 ≤ _; decide), fun p11 n11 => ?_⟩
    have o11 := od2_tup (K := K) t10 n11 (xs := [.int 0, .int 0, .int 2]) (ds := [.int 0, .int 0, .int 2]) (.cons (.int 0) (.cons (.int 0) (.cons (.int 2) .nil))) ⟨by decide +kernel, by decide +kernel, by decide +kernel, by decide +kernel⟩ (by decide) (fun x z => by
      simp only [List.mem_cons, List.not_mem_nil, or_false] at z
      rcases z with rfl | rfl | rfl
      · exact odd_int (by decide +kernel)
      · exact odd_int (by decide +kernel)
      · exact odd_int (by decide +kernel))
    have t11 := t10.same (same_upd (o := .tup [.int 0, .int 0, .int 2]) n11)
    refine ⟨sz (by show 3 ≤ _; decide), fun L2 nL2 mL2 => ?_⟩
    have t12 := t11.same (same_upd (o := .lst [.ref p9, .ref p10, .ref p11]) nL2)
    have u3 := same_upd (o := .lst [.ref p9, .ref p10, .ref p11]) nL2
    have u2 := (same_upd (o := .tup [.int 0, .int 0, .int 2]) n11).trans u3
    have u1 := (same_upd (o := .dK ([(("a" : Str), (1 : Int))].map fun p => ((Sum.inr p.1 : Key), V.int p.2))) n10).trans u2
    have u0 := (same_upd (o := .tup [.int 0, .int 2]) n9).trans u1
    refine ⟨L, L2, _, _, rfl, rfl, u0 _ _ hL, upd_same, sz (by show 24 ≤ _; decide), fun C nC => ?_⟩
    have uC := same_upd (o := .lst ([.non, .bl true, .bl false, (fun i : Int => V.int (-i)) 1, .int 0, .int 1, .int 2, .int 5, .int 6, .int 24, (fun i j : Int => V.int (i ^ j.toNat)) 10 29, .str "", .str "0", .ref p1, .ref p2, .ref p3, .ref p4, .ref p5, .ref p6, .ref p8, .str "a"] ++ [.ref p9, .ref p10, .ref p11])) nC
    obtain ⟨as, ha, _⟩ := t12.a
    have nS := Ne.symm (ne_of_none t12.s nC)
    have nA := Ne.symm (ne_of_none ha nC)
    refine ⟨.ref S, rfl, S, A, B, t, 24, rfl, t12.same uC, by decide, by decide, ht, fun H1 tz v sx st1 ht1 v0 v1 => ?_⟩
    have mC : ∀ v ∈ ([.non, .bl true, .bl false, (fun i : Int => V.int (-i)) 1, .int 0, .int 1, .int 2, .int 5, .int 6, .int 24, (fun i j : Int => V.int (i ^ j.toNat)) 10 29, .str "", .str "0", .ref p1, .ref p2, .ref p3, .ref p4, .ref p5, .ref p6, .ref p8, .str "a"] ++ [.ref p9, .ref p10, .ref p11] : List V), Od2 K S A H1 v := by
      intro v hv
      rcases List.mem_append.mp hv with z | z
      · exact ((mm v z).same (u0.trans uC)).x sx
      · simp only [List.mem_cons, List.not_mem_nil, or_false] at z
        rcases z with rfl | rfl | rfl
        · exact o9.same (u1.trans uC) |>.x sx
        · exact o10.same (u2.trans uC) |>.x sx
        · exact o11.same (u3.trans uC) |>.x sx
    obtain ⟨j, rfl⟩ := Int.eq_ofNat_of_zero_le v0
    have jl : j < ([.non, .bl true, .bl false, (fun i : Int => V.int (-i)) 1, .int 0, .int 1, .int 2, .int 5, .int 6, .int 24, (fun i j : Int => V.int (i ^ j.toNat)) 10 29, .str "", .str "0", .ref p1, .ref p2, .ref p3, .ref p4, .ref p5, .ref p6, .ref p8, .str "a"] ++ [.ref p9, .ref p10, .ref p11] : List V).length := by
      show j < 24
      omega
    refine ⟨C, _, _, _, rfl, rfl, lstI_of (sx _ _ upd_same nS nA), atI_nat (List.getElem?_eq_getElem jl), ?_⟩
    exact q H1 tz _ ((Same.x (s0.trans (u0.trans uC))).trans sx) st1 ht1 (mC _ (List.getElem_mem jl))
-- @@ _law_name
/-- the flags of an error's class: the one with number j -/
structure FlagsE (f : Nat → Bool) (j : Nat) : Prop where
  one : ([V.bl (f 0), .bl (f 1), .bl (f 2), .bl (f 3), .bl (f 4), .bl (f 5), .bl (f 6), .bl (f 7), .bl (f 8), .bl (f 9), .bl (f 10), .bl (f 11), .bl (f 12), .bl (f 13), .bl (f 14)].countP fun y => eqV y (.bl true)) = 1
  at_ : [V.bl (f 0), .bl (f 1), .bl (f 2), .bl (f 3), .bl (f 4), .bl (f 5), .bl (f 6), .bl (f 7), .bl (f 8), .bl (f 9), .bl (f 10), .bl (f 11), .bl (f 12), .bl (f 13), .bl (f 14)][j]? = some (.bl true)
  no : ∀ (m : Nat) (z : V), m < j → [V.bl (f 0), .bl (f 1), .bl (f 2), .bl (f 3), .bl (f 4), .bl (f 5), .bl (f 6), .bl (f 7), .bl (f 8), .bl (f 9), .bl (f 10), .bl (f 11), .bl (f 12), .bl (f 13), .bl (f 14)][m]? = some z → eqV z (.bl true) = false
theorem flagsE {j : Nat} (h : j < 15) : FlagsE (fun i => decide (i = j)) j := by
  have a : ∀ (m : Nat) (z : V), m < j → [V.bl (decide (0 = j)), .bl (decide (1 = j)), .bl (decide (2 = j)), .bl (decide (3 = j)), .bl (decide (4 = j)), .bl (decide (5 = j)), .bl (decide (6 = j)), .bl (decide (7 = j)), .bl (decide (8 = j)), .bl (decide (9 = j)), .bl (decide (10 = j)), .bl (decide (11 = j)), .bl (decide (12 = j)), .bl (decide (13 = j)), .bl (decide (14 = j))][m]? = some z → eqV z (.bl true) = false := by
    intro m z hm hz
    have e : ∀ m : Nat, m < 15 → [V.bl (decide (0 = j)), .bl (decide (1 = j)), .bl (decide (2 = j)), .bl (decide (3 = j)), .bl (decide (4 = j)), .bl (decide (5 = j)), .bl (decide (6 = j)), .bl (decide (7 = j)), .bl (decide (8 = j)), .bl (decide (9 = j)), .bl (decide (10 = j)), .bl (decide (11 = j)), .bl (decide (12 = j)), .bl (decide (13 = j)), .bl (decide (14 = j))][m]? = some (.bl (decide (m = j))) := by
      intro m hm
      match m, hm with
      | 0, _ | 1, _ | 2, _ | 3, _ | 4, _ | 5, _ | 6, _ | 7, _ | 8, _ | 9, _ | 10, _ | 11, _ | 12, _ | 13, _ | 14, _ => rfl
    rw [e m (by omega)] at hz
    cases hz
    rw [decide_eq_false (by omega)]
    rfl
  match j, h, a with
  | 0, _, a | 1, _, a | 2, _, a | 3, _, a | 4, _, a | 5, _, a | 6, _, a | 7, _, a | 8, _, a | 9, _, a | 10, _, a | 11, _, a | 12, _, a | 13, _, a | 14, _, a => exact ⟨rfl, rfl, a⟩
def nms : List Str := ["BadEdit", "BadEdits", "BadRing", "BadText", "Busy", "LastToken", "NoArity", "NoBalance", "NoBeginning", "NothingToUndo", "Rejected", "TooLong", "TooManyEdits", "NoPlace", "NoVersion"]
theorem name_at {j : Nat} (h : j < 15) : ∃ u, nms[j]? = some u ∧ [V.str "BadEdit", .str "BadEdits", .str "BadRing", .str "BadText", .str "Busy", .str "LastToken", .str "NoArity", .str "NoBalance", .str "NoBeginning", .str "NothingToUndo", .str "Rejected", .str "TooLong", .str "TooManyEdits", .str "NoPlace", .str "NoVersion"][j]? = some (.str u) := by
  match j, h with
  | 0, _ | 1, _ | 2, _ | 3, _ | 4, _ | 5, _ | 6, _ | 7, _ | 8, _ | 9, _ | 10, _ | 11, _ | 12, _ | 13, _ | 14, _ => exact ⟨_, rfl, rfl⟩
def spName (K : PySem.W.Frag) : SpE := fun a cls d vs H Q _ => ∃ (D : Addr) (j : Nat), cls = .ref D ∧ vs = [.ref a] ∧ HasD H d ∧ NameE K D j ∧ ∀ H' u, Same H H' → nms[j]? = some u → Q (.str u) H'
theorem ok__law_name (T : Tx K mg) : OkE P w K mg base CX0 1 "_law_name" ["_law_error"] (spName K) := by
  refine okE_of T.F__law_name T.g__law_name sc__law_name (fun _ _ _ _ _ _ us hl => match us, hl with | [_], _ => rfl) (fun a cls d vs H Q E h => ?_) (fun p cls d herr cdv A outer s H vs Q E hr h => ?_)
  · obtain ⟨D, j, _, rfl, _⟩ := h
    rfl
  · obtain ⟨D, j, rfl, rfl, hd, F, q⟩ := h
    have hm : (p.1, p.2) ∈ (L2H.cxH CX0 P w K mg base N__law_name "_law_name" (defScope s__law_name) (He.ga K "_law_name") cdv A outer s H E p).pn := List.mem_cons_self
    refine ⟨_, (pss_cons (ps_set (i := 1) sc__law_name.nd rfl (.inl rfl) (pe_lst (pa_cons pe_str (pa_cons pe_str (pa_cons pe_str (pa_cons pe_str (pa_cons pe_str (pa_cons pe_str (pa_cons pe_str (pa_cons pe_str (pa_cons pe_str pa_nil)))))))))))
    (pss_cons (ps_set (i := 1) sc__law_name.nd rfl (.inl rfl) (pe_op op_cat (pv 1) (pe_lst (pa_cons pe_str (pa_cons pe_str (pa_cons pe_str (pa_cons pe_str (pa_cons pe_str (pa_cons pe_str pa_nil)))))))))
    (pss_cons (ps_set (i := 2) sc__law_name.nd rfl (.inl rfl) (pe_lst (pa_cons (pe_callB (call_isO3 herr hm) (by rfl) T.f_isinstance boot_isinstance (pa_cons (pv 0) (pa_cons (pe_glob (v := .ref (He.ga K "BadEdit")) rfl T.g_BadEdit rfl) pa_nil))) (pa_cons (pe_callB (call_isO3 herr hm) (by rfl) T.f_isinstance boot_isinstance (pa_cons (pv 0) (pa_cons (pe_glob (v := .ref (He.ga K "BadEdits")) rfl T.g_BadEdits rfl) pa_nil))) (pa_cons (pe_callB (call_isO3 herr hm) (by rfl) T.f_isinstance boot_isinstance (pa_cons (pv 0) (pa_cons (pe_glob (v := .ref (He.ga K "BadRing")) rfl T.g_BadRing rfl) pa_nil))) pa_nil)))))
    (pss_cons (ps_set (i := 2) sc__law_name.nd rfl (.inl rfl) (pe_op op_cat (pv 2) (pe_lst (pa_cons (pe_callB (call_isO3 herr hm) (by rfl) T.f_isinstance boot_isinstance (pa_cons (pv 0) (pa_cons (pe_glob (v := .ref (He.ga K "BadText")) rfl T.g_BadText rfl) pa_nil))) (pa_cons (pe_callB (call_isO3 herr hm) (by rfl) T.f_isinstance boot_isinstance (pa_cons (pv 0) (pa_cons (pe_glob (v := .ref (He.ga K "Busy")) rfl T.g_Busy rfl) pa_nil))) (pa_cons (pe_callB (call_isO3 herr hm) (by rfl) T.f_isinstance boot_isinstance (pa_cons (pv 0) (pa_cons (pe_glob (v := .ref (He.ga K "LastToken")) rfl T.g_LastToken rfl) pa_nil))) pa_nil))))))
    (pss_cons (ps_set (i := 2) sc__law_name.nd rfl (.inl rfl) (pe_op op_cat (pv 2) (pe_lst (pa_cons (pe_callB (call_isO3 herr hm) (by rfl) T.f_isinstance boot_isinstance (pa_cons (pv 0) (pa_cons (pe_glob (v := .ref (He.ga K "NoArity")) rfl T.g_NoArity rfl) pa_nil))) (pa_cons (pe_callB (call_isO3 herr hm) (by rfl) T.f_isinstance boot_isinstance (pa_cons (pv 0) (pa_cons (pe_glob (v := .ref (He.ga K "NoBalance")) rfl T.g_NoBalance rfl) pa_nil))) (pa_cons (pe_callB (call_isO3 herr hm) (by rfl) T.f_isinstance boot_isinstance (pa_cons (pv 0) (pa_cons (pe_glob (v := .ref (He.ga K "NoBeginning")) rfl T.g_NoBeginning rfl) pa_nil))) pa_nil))))))
    (pss_cons (ps_set (i := 2) sc__law_name.nd rfl (.inl rfl) (pe_op op_cat (pv 2) (pe_lst (pa_cons (pe_callB (call_isO3 herr hm) (by rfl) T.f_isinstance boot_isinstance (pa_cons (pv 0) (pa_cons (pe_glob (v := .ref (He.ga K "NothingToUndo")) rfl T.g_NothingToUndo rfl) pa_nil))) (pa_cons (pe_callB (call_isO3 herr hm) (by rfl) T.f_isinstance boot_isinstance (pa_cons (pv 0) (pa_cons (pe_glob (v := .ref (He.ga K "Rejected")) rfl T.g_Rejected rfl) pa_nil))) (pa_cons (pe_callB (call_isO3 herr hm) (by rfl) T.f_isinstance boot_isinstance (pa_cons (pv 0) (pa_cons (pe_glob (v := .ref (He.ga K "TooLong")) rfl T.g_TooLong rfl) pa_nil))) pa_nil))))))
    (pss_cons (ps_set (i := 2) sc__law_name.nd rfl (.inl rfl) (pe_op op_cat (pv 2) (pe_lst (pa_cons (pe_callB (call_isO3 herr hm) (by rfl) T.f_isinstance boot_isinstance (pa_cons (pv 0) (pa_cons (pe_glob (v := .ref (He.ga K "TooManyEdits")) rfl T.g_TooManyEdits rfl) pa_nil))) (pa_cons (pe_callB (call_isO3 herr hm) (by rfl) T.f_isinstance boot_isinstance (pa_cons (pv 0) (pa_cons (pe_glob (v := .ref (He.ga K "NoPlace")) rfl T.g_NoPlace rfl) pa_nil))) (pa_cons (pe_callB (call_isO3 herr hm) (by rfl) T.f_isinstance boot_isinstance (pa_cons (pv 0) (pa_cons (pe_glob (v := .ref (He.ga K "NoVersion")) rfl T.g_NoVersion rfl) pa_nil))) pa_nil))))))
    (pss_cons (ps_set (i := 3) sc__law_name.nd rfl (.inl rfl) (pe_lst (pa_cons (pe_callB (call_isO3 herr hm) (by rfl) T.f_isinstance boot_isinstance (pa_cons (pv 0) (pa_cons (pe_glob (v := .ref (He.ga K "RingError")) rfl T.g_RingError rfl) pa_nil))) (pa_cons (pe_callB (call_isO3 herr hm) (by rfl) T.f_isinstance boot_isinstance (pa_cons (pv 0) (pa_cons (pe_bltn (v := .ty "ValueError") (by rfl) T.f_ValueError (by decide +kernel) rfl) pa_nil))) (pa_cons (pe_callB (call_isO3 herr hm) (by rfl) T.f_isinstance boot_isinstance (pa_cons (pv 0) (pa_cons (pe_bltn (v := .ty "LookupError") (by rfl) T.f_LookupError (by decide +kernel) rfl) pa_nil))) pa_nil)))))
    (pss_cons (ps_if (PW.pt (pw_or (pt_cmpR op_ne (pe_bm PySem.F.plainAttrs_list PySem.F.slot_list_count PySem.F.type_list_count (mt_lcountF (K := K) rfl) (pv 2) (pa_cons pe_bl pa_nil)) pe_int (nomark _)) (pw_or1 (pt_cmpR (op_neD (roomH_units hr)) (pv 3) (pe_ix ix_list (pe_lst (pa_cons (pe_lst (pa_cons pe_bl (pa_cons pe_bl (pa_cons pe_bl pa_nil)))) (pa_cons (pe_lst (pa_cons pe_bl (pa_cons pe_bl (pa_cons pe_bl pa_nil)))) pa_nil))) (pe_callTy call_int1 (by rfl) T.f_int boot_int (pa_cons (pe_cmpR op_gt (pe_bm PySem.F.plainAttrs_list PySem.F.slot_list_index PySem.F.type_list_index mt_index (pv 2) (pa_cons pe_bl pa_nil)) pe_int (nomark _)) pa_nil)) (fun _ _ => rfl)) (nomark _))))) (pss_one (ps_ret pe_str)) pss_nil)
    (pss_one (ps_ret (pe_ix ix_list (pv 1) (pe_bm PySem.F.plainAttrs_list PySem.F.slot_list_index PySem.F.type_list_index mt_index (pv 2) (pa_cons pe_bl pa_nil)) (fun _ _ => rfl))))))))))))), ?_⟩
    have fl := flagsE F.lt
    have k0 := F.k 0 (by decide)
    have k1 := F.k 1 (by decide)
    have k2 := F.k 2 (by decide)
    have k3 := F.k 3 (by decide)
    have k4 := F.k 4 (by decide)
    have k5 := F.k 5 (by decide)
    have k6 := F.k 6 (by decide)
    have k7 := F.k 7 (by decide)
    have k8 := F.k 8 (by decide)
    have k9 := F.k 9 (by decide)
    have k10 := F.k 10 (by decide)
    have k11 := F.k 11 (by decide)
    have k12 := F.k 12 (by decide)
    have k13 := F.k 13 (by decide)
    have k14 := F.k 14 (by decide)
    generalize hf : (fun i : Nat => decide (i = j)) = f at fl
    have ef : ∀ i : Nat, decide (i = j) = f i := fun i => congrFun hf i
    rw [ef] at k0 k1 k2 k3 k4 k5 k6 k7 k8 k9 k10 k11 k12 k13 k14
    have more : ∀ (H1 : Hp) (l1 : Addr) (xs ys : List V) (Q1 : VK), Same H H1 → H1 l1 = some (.lst xs) → xs.length ≤ 20 → ys.length ≤ 20 → (∀ H2 l2, Same H H2 → H2 l2 = some (.lst (xs ++ ys)) → Same H1 H2 → Q1 (.ref l2) H2) →
        ys.length ≤ sizeLine ∧ ∀ p, H1 p = none → rCat (.ref l1) (.ref p) (upd H1 p (.lst ys)) Q1 := by
      intro H1 l1 xs ys Q1 s1 e1 c1 c2 k
      refine ⟨sz (by omega), fun l2 n2 => ?_⟩
      have s2 := same_upd (o := .lst ys) n2
      refine ⟨_, _, _, _, rfl, rfl, s2 _ _ e1, upd_same, ?_⟩
      exact ⟨sz (by omega), fun l3 n3 => k _ l3 ((s1.trans s2).trans (same_upd n3)) upd_same (s2.trans (same_upd n3))⟩
    refine ⟨sz (by show 9 ≤ _; decide), fun n1 nn1 => ?_⟩
    obtain ⟨H1, e1, s1, hn1⟩ := new_lst nn1 [V.str "BadEdit", .str "BadEdits", .str "BadRing", .str "BadText", .str "Busy", .str "LastToken", .str "NoArity", .str "NoBalance", .str "NoBeginning"]
    rw [e1]
    refine ⟨.ref n1, rfl, ?_⟩
    refine more H1 n1 _ _ _ s1 hn1 (by show 9 ≤ 20; decide) (by show 6 ≤ 20; decide) fun H2 n2 s2 hn2 _ => ?_
    have hd2 := hd.same s2
    refine ⟨_, rfl, D, _, _, _, rfl, rfl, F.c, hd2, .own _, k0, ?_⟩
    refine ⟨_, rfl, D, _, _, _, rfl, rfl, F.c, hd2, .own _, k1, ?_⟩
    refine ⟨_, rfl, D, _, _, _, rfl, rfl, F.c, hd2, .own _, k2, ?_⟩
    refine ⟨sz (by show 3 ≤ _; decide), fun l1 nl1 => ?_⟩
    obtain ⟨H3, e3, s3, hl3⟩ := new_lst nl1 [V.bl (f 0), .bl (f 1), .bl (f 2)]
    rw [e3]
    have s23 := s2.trans s3
    have hd3 := hd.same s23
    have hn3 := s3 _ _ hn2
    refine ⟨.ref l1, rfl, ?_⟩
    refine ⟨_, rfl, D, _, _, _, rfl, rfl, F.c, hd3, .own _, k3, ?_⟩
    refine ⟨_, rfl, D, _, _, _, rfl, rfl, F.c, hd3, .own _, k4, ?_⟩
    refine ⟨_, rfl, D, _, _, _, rfl, rfl, F.c, hd3, .own _, k5, ?_⟩
    refine more H3 l1 _ _ _ s23 hl3 (by show 3 ≤ 20; decide) (by show 3 ≤ 20; decide) fun H4 l4 s4 hl4 t4 => ?_
    have hd4 := hd.same s4
    have hn4 := t4 _ _ hn3
    refine ⟨.ref l4, rfl, ?_⟩
    refine ⟨_, rfl, D, _, _, _, rfl, rfl, F.c, hd4, .own _, k6, ?_⟩
    refine ⟨_, rfl, D, _, _, _, rfl, rfl, F.c, hd4, .own _, k7, ?_⟩
    refine ⟨_, rfl, D, _, _, _, rfl, rfl, F.c, hd4, .own _, k8, ?_⟩
    refine more H4 l4 _ _ _ s4 hl4 (by show 6 ≤ 20; decide) (by show 3 ≤ 20; decide) fun H5 l5 s5 hl5 t5 => ?_
    have hd5 := hd.same s5
    have hn5 := t5 _ _ hn4
    refine ⟨.ref l5, rfl, ?_⟩
    refine ⟨_, rfl, D, _, _, _, rfl, rfl, F.c, hd5, .own _, k9, ?_⟩
    refine ⟨_, rfl, D, _, _, _, rfl, rfl, F.c, hd5, .own _, k10, ?_⟩
    refine ⟨_, rfl, D, _, _, _, rfl, rfl, F.c, hd5, .own _, k11, ?_⟩
    refine more H5 l5 _ _ _ s5 hl5 (by show 9 ≤ 20; decide) (by show 3 ≤ 20; decide) fun H6 l6 s6 hl6 t6 => ?_
    have hd6 := hd.same s6
    have hn6 := t6 _ _ hn5
    refine ⟨.ref l6, rfl, ?_⟩
    refine ⟨_, rfl, D, _, _, _, rfl, rfl, F.c, hd6, .own _, k12, ?_⟩
    refine ⟨_, rfl, D, _, _, _, rfl, rfl, F.c, hd6, .own _, k13, ?_⟩
    refine ⟨_, rfl, D, _, _, _, rfl, rfl, F.c, hd6, .own _, k14, ?_⟩
    refine more H6 l6 _ _ _ s6 hl6 (by show 12 ≤ 20; decide) (by show 3 ≤ 20; decide) fun H7 l7 s7 hl7 t7 => ?_
    have hd7 := hd.same s7
    have hn7 := t7 _ _ hn6
    refine ⟨_, rfl, D, _, _, _, rfl, rfl, F.c, hd7, .own _, F.r, ?_⟩
    refine ⟨_, rfl, D, _, _, _, rfl, rfl, F.c, hd7, .ty _, F.v, ?_⟩
    refine ⟨_, rfl, D, _, _, _, rfl, rfl, F.c, hd7, .ty _, F.l, ?_⟩
    refine ⟨sz (by show 3 ≤ _; decide), fun b1 nb1 => ?_⟩
    obtain ⟨H8, e8, s8, hb8⟩ := new_lst nb1 [V.bl (decide (j ≤ 12)), .bl (decide (j ≤ 12)), .bl (decide (12 < j))]
    rw [e8]
    have hl8 := s8 _ _ hl7
    have hn8 := s8 _ _ hn7
    have s78 := s7.trans s8
    refine ⟨.ref l7, rfl, .inl ⟨rfl, _, lstI_of hl8⟩, l7, _, _, rfl, rfl, lstI_of hl8, rfl, rfl, ?_⟩
    have one : ([V.bl (f 0), V.bl (f 1), V.bl (f 2)] ++ [V.bl (f 3), V.bl (f 4), V.bl (f 5)] ++ [V.bl (f 6), V.bl (f 7), V.bl (f 8)] ++ [V.bl (f 9), V.bl (f 10), V.bl (f 11)] ++ [V.bl (f 12), V.bl (f 13), V.bl (f 14)]).countP (fun y => eqV y (V.bl true)) = 1 := fl.one
    rw [one]
    refine ⟨rfl, _, rfl, iteN rfl ?_⟩
    refine ⟨.ref b1, rfl, ?_⟩
    refine ⟨sz (by show 3 ≤ _; decide), fun c1 nc1 => ?_⟩
    obtain ⟨H9, e9, s9, hc1⟩ := new_lst nc1 [V.bl true, .bl true, .bl false]
    rw [e9]
    refine ⟨sz (by show 3 ≤ _; decide), fun c2 nc2 => ?_⟩
    obtain ⟨H10, e10, s10, hc2⟩ := new_lst nc2 [V.bl false, .bl false, .bl true]
    rw [e10]
    refine ⟨sz (by show 2 ≤ _; decide), fun c3 nc3 => ?_⟩
    obtain ⟨H11, e11, s11, hc3⟩ := new_lst nc3 [V.ref c1, .ref c2]
    rw [e11]
    have s8b := s9.trans (s10.trans s11)
    have hl11 := s8b _ _ hl8
    refine ⟨.ref l7, rfl, .inl ⟨rfl, _, lstI_of hl11⟩, l7, _, _, j, _, rfl, rfl, lstI_of hl11, rfl, rfl, fl.at_, rfl, fl.no, ?_⟩
    have e12 : decide ((12 : Int) < ((j : Nat) : Int)) = decide (12 < j) := by
      by_cases c : 12 < j
      · rw [decide_eq_true c, decide_eq_true (by omega)]
      · rw [decide_eq_false c, decide_eq_false (by omega)]
    refine ⟨_, _, rfl, rfl, .inr ⟨_, rfl, ?_⟩⟩
    rw [e12]
    have hb11 := s8b _ _ hb8
    have hn11 := s8b _ _ hn8
    have eqs : ∀ (b1 b2 b3 : Bool) {l : Addr}, H11 l = some (.lst [V.bl b1, .bl b2, .bl b3]) → Dp K H11 (.ref l) (.list [.bool b1, .bool b2, .bool b3]) := fun b1 b2 b3 {l} h => .lst (lstI_of h) (.cons (.bl _) (.cons (.bl _) (.cons (.bl _) .nil)))
    by_cases c : 12 < j
    · rw [decide_eq_true c, decide_eq_false (show ¬ j ≤ 12 by omega)] at hb11
      rw [decide_eq_true c]
      refine ⟨c3, _, _, .ref c2, rfl, rfl, lstI_of hc3, atI_nat (j := 1) rfl, ?_⟩
      refine ⟨_, _, eqs _ _ _ hb11, eqs _ _ _ (s11 _ _ hc2), rfl, rfl, _, rfl, iteN rfl ?_⟩
      obtain ⟨u, hu, hv⟩ : ∃ u, nms[j]? = some u ∧ [V.str "BadEdit", .str "BadEdits", .str "BadRing", .str "BadText", .str "Busy", .str "LastToken", .str "NoArity", .str "NoBalance", .str "NoBeginning", .str "NothingToUndo", .str "Rejected", .str "TooLong", .str "TooManyEdits", .str "NoPlace", .str "NoVersion"][j]? = some (.str u) := name_at F.lt
      refine ⟨.ref n2, rfl, .ref l7, rfl, .inl ⟨rfl, _, lstI_of hl11⟩, l7, _, _, j, _, rfl, rfl, lstI_of hl11, rfl, rfl, fl.at_, rfl, fl.no, ?_⟩
      exact ⟨n2, _, _, .str u, rfl, rfl, lstI_of hn11, atI_nat hv, q _ u ((s7.trans s8).trans s8b) hu⟩
    · rw [decide_eq_false c, decide_eq_true (show j ≤ 12 by omega)] at hb11
      rw [decide_eq_false c]
      refine ⟨c3, _, _, .ref c1, rfl, rfl, lstI_of hc3, atI_nat (j := 0) rfl, ?_⟩
      refine ⟨_, _, eqs _ _ _ hb11, eqs _ _ _ ((s10.trans s11) _ _ hc1), rfl, rfl, _, rfl, iteN rfl ?_⟩
      obtain ⟨u, hu, hv⟩ : ∃ u, nms[j]? = some u ∧ [V.str "BadEdit", .str "BadEdits", .str "BadRing", .str "BadText", .str "Busy", .str "LastToken", .str "NoArity", .str "NoBalance", .str "NoBeginning", .str "NothingToUndo", .str "Rejected", .str "TooLong", .str "TooManyEdits", .str "NoPlace", .str "NoVersion"][j]? = some (.str u) := name_at F.lt
      refine ⟨.ref n2, rfl, .ref l7, rfl, .inl ⟨rfl, _, lstI_of hl11⟩, l7, _, _, j, _, rfl, rfl, lstI_of hl11, rfl, rfl, fl.at_, rfl, fl.no, ?_⟩
      exact ⟨n2, _, _, .str u, rfl, rfl, lstI_of hn11, atI_nat hv, q _ u ((s7.trans s8).trans s8b) hu⟩
-- @@ _law_field
def fldNames : List Str := ["value", "index", "limit", "balance", "error"]
/-- an error of the class D holds f, of the kind k of fields -/
def FldOf (K : PySem.W.Frag) (H : Hp) (D : Addr) (d : Option Addr) (k : Nat) (v : V) : Prop := (k = 5 ∧ v = .non) ∨ ∃ dd f, fldNames[k]? = some f ∧ d = some dd ∧ H dd = some (.xd [(f, v)]) ∧ FldE K D f
theorem FldOf.same {K : PySem.W.Frag} {H H' : Hp} {D : Addr} {d : Option Addr} {k : Nat} {v : V} (h : FldOf K H D d k v) (s : Same H H') : FldOf K H' D d k v := by
  rcases h with h | ⟨dd, f, h1, h2, h3, h4⟩
  · exact .inl h
  · exact .inr ⟨dd, f, h1, h2, s _ _ h3, h4⟩
def spField (K : PySem.W.Frag) : SpE := fun a cls d vs H Q _ => ∃ (D : Addr) (k : Nat) (v : V), cls = .ref D ∧ vs = [.ref a] ∧ HasD H d ∧ KindE K D k ∧ k ≤ 5 ∧ FldOf K H D d k v ∧ ∀ H', Same H H' → Q v H'
theorem ok__law_field (T : Tx K mg) : OkE P w K mg base CX0 1 "_law_field" ["_law_error"] (spField K) := by
  refine okE_of T.F__law_field T.g__law_field sc__law_field (fun _ _ _ _ _ _ us hl => match us, hl with | [_], _ => rfl) (fun a cls d vs H Q E h => ?_) (fun p cls d herr cdv A outer s H vs Q E hr h => ?_)
  · obtain ⟨D, k, v, _, rfl, _⟩ := h
    rfl
  · obtain ⟨D, k, v, rfl, rfl, hd, F, hk, hf, q⟩ := h
    have hm : (p.1, p.2) ∈ (L2H.cxH CX0 P w K mg base N__law_field "_law_field" (defScope s__law_field) (He.ga K "_law_field") cdv A outer s H E p).pn := List.mem_cons_self
    refine ⟨_, (pss_cons (ps_if (pt_val (pe_callB (call_isT3 herr hm) (by rfl) T.f_isinstance boot_isinstance (pa_cons (pv 0) (pa_cons (pe_tup (pa_cons (pe_glob (v := .ref (He.ga K "NoPlace")) rfl T.g_NoPlace rfl) (pa_cons (pe_glob (v := .ref (He.ga K "NoVersion")) rfl T.g_NoVersion rfl) (pa_cons (pe_glob (v := .ref (He.ga K "NoArity")) rfl T.g_NoArity rfl) (pa_cons (pe_glob (v := .ref (He.ga K "NoBeginning")) rfl T.g_NoBeginning rfl) pa_nil))))) pa_nil)))) (pss_one (ps_ret (pe_byN herr hm (pv 0)))) pss_nil)
    (pss_cons (ps_if (pt_val (pe_callB (call_isT3 herr hm) (by rfl) T.f_isinstance boot_isinstance (pa_cons (pv 0) (pa_cons (pe_tup (pa_cons (pe_glob (v := .ref (He.ga K "BadEdit")) rfl T.g_BadEdit rfl) (pa_cons (pe_glob (v := .ref (He.ga K "Rejected")) rfl T.g_Rejected rfl) (pa_cons (pe_glob (v := .ref (He.ga K "BadText")) rfl T.g_BadText rfl) pa_nil)))) pa_nil)))) (pss_one (ps_ret (pe_byN herr hm (pv 0)))) pss_nil)
    (pss_cons (ps_if (pt_val (pe_callB (call_isO3 herr hm) (by rfl) T.f_isinstance boot_isinstance (pa_cons (pv 0) (pa_cons (pe_glob (v := .ref (He.ga K "TooLong")) rfl T.g_TooLong rfl) pa_nil)))) (pss_one (ps_ret (pe_byN herr hm (pv 0)))) pss_nil)
    (pss_cons (ps_if (pt_val (pe_callB (call_isO3 herr hm) (by rfl) T.f_isinstance boot_isinstance (pa_cons (pv 0) (pa_cons (pe_glob (v := .ref (He.ga K "NoBalance")) rfl T.g_NoBalance rfl) pa_nil)))) (pss_one (ps_ret (pe_byN herr hm (pv 0)))) pss_nil)
    (pss_one (ps_ret (pe_ifExp (pt_val (pe_callB (call_isO3 herr hm) (by rfl) T.f_isinstance boot_isinstance (pa_cons (pv 0) (pa_cons (pe_glob (v := .ref (He.ga K "BadRing")) rfl T.g_BadRing rfl) pa_nil)))) (pe_byN herr hm (pv 0)) pe_non))))))), ?_⟩
    refine ⟨_, rfl, sz (by show 4 ≤ _; decide), fun t1 n1 => ?_⟩
    obtain ⟨H1, e1, s1, h1⟩ := new_tup n1 [V.ref (He.ga K "NoPlace"), .ref (He.ga K "NoVersion"), .ref (He.ga K "NoArity"), .ref (He.ga K "NoBeginning")]
    rw [e1]
    have hd1 := hd.same s1
    have hf1 := hf.same s1
    refine ⟨D, t1, _, _, _, rfl, rfl, F.c, hd1, h1, .cons (.own _) (.cons (.own _) (.cons (.own _) (.cons (.own _) .nil))), F.k0, _, rfl, ?_⟩
    by_cases c0 : k = 0
    · refine iteY (decide_eq_true c0) ?_
      subst c0
      rcases hf1 with ⟨z, _⟩ | ⟨dd, f, g1, g2, g3, g4⟩
      · cases z
      · cases g1
        exact ⟨.ref p.1, rfl, D, dd, v, rfl, rfl, g4, g2, g3, q H1 s1⟩
    refine iteN (decide_eq_false c0) ?_
    refine ⟨_, rfl, sz (by show 3 ≤ _; decide), fun t2 n2 => ?_⟩
    obtain ⟨H2, e2, s2, h2⟩ := new_tup n2 [V.ref (He.ga K "BadEdit"), .ref (He.ga K "Rejected"), .ref (He.ga K "BadText")]
    rw [e2]
    have hd2 := hd1.same s2
    have hf2 := hf1.same s2
    have s12 := s1.trans s2
    refine ⟨D, t2, _, _, _, rfl, rfl, F.c, hd2, h2, .cons (.own _) (.cons (.own _) (.cons (.own _) .nil)), F.k1, _, rfl, ?_⟩
    by_cases c1 : k = 1
    · refine iteY (decide_eq_true c1) ?_
      subst c1
      rcases hf2 with ⟨z, _⟩ | ⟨dd, f, g1, g2, g3, g4⟩
      · cases z
      · cases g1
        exact ⟨.ref p.1, rfl, D, dd, v, rfl, rfl, g4, g2, g3, q H2 s12⟩
    refine iteN (decide_eq_false c1) ?_
    refine ⟨_, rfl, D, _, _, _, rfl, rfl, F.c, hd2, .own _, F.k2, _, rfl, ?_⟩
    by_cases c2 : k = 2
    · refine iteY (decide_eq_true c2) ?_
      subst c2
      rcases hf2 with ⟨z, _⟩ | ⟨dd, f, g1, g2, g3, g4⟩
      · cases z
      · cases g1
        exact ⟨.ref p.1, rfl, D, dd, v, rfl, rfl, g4, g2, g3, q H2 s12⟩
    refine iteN (decide_eq_false c2) ?_
    refine ⟨_, rfl, D, _, _, _, rfl, rfl, F.c, hd2, .own _, F.k3, _, rfl, ?_⟩
    by_cases c3 : k = 3
    · refine iteY (decide_eq_true c3) ?_
      subst c3
      rcases hf2 with ⟨z, _⟩ | ⟨dd, f, g1, g2, g3, g4⟩
      · cases z
      · cases g1
        exact ⟨.ref p.1, rfl, D, dd, v, rfl, rfl, g4, g2, g3, q H2 s12⟩
    refine iteN (decide_eq_false c3) ?_
    refine ⟨_, rfl, D, _, _, _, rfl, rfl, F.c, hd2, .own _, F.k4, _, rfl, ?_⟩
    by_cases c4 : k = 4
    · refine iteY (decide_eq_true c4) ?_
      subst c4
      rcases hf2 with ⟨z, _⟩ | ⟨dd, f, g1, g2, g3, g4⟩
      · cases z
      · cases g1
        exact ⟨.ref p.1, rfl, D, dd, v, rfl, rfl, g4, g2, g3, q H2 s12⟩
    refine iteN (decide_eq_false c4) ?_
    rcases hf2 with ⟨_, rfl⟩ | ⟨dd, f, g1, _⟩
    · exact q H2 s12
    · exfalso
      have : k = 5 := by omega
      subst this
      cases g1
-- @@ _law_apply
/-- what the call that the row (.str u :: xs) names does to the reel r, whose ring is ns -/
def CallOf (K : PySem.W.Frag) (H : Hp) (r : RS) (ns : List Int) (u : Str) (xs : List V) (z : Rz) : Prop :=
  (u = "undo" ∧ z = idR r (undoR r)) ∨ ∃ o ds, (∀ ms, o = .ok ms → DtAll K H xs ds) ∧ (∀ y ∈ xs, Kd K H y) ∧ edA ns u xs = some o ∧ z = idR r (doR r o (.tuple (.str u :: ds)))
def spApply (K : PySem.W.Frag) : Sp := fun vs H Q E => ∃ (x t : Addr) (r : RS) (ns : List Int) (u : Str) (xs : List V) (z : Rz), vs = [.ref x, .ref t] ∧ SqT K H t (.str u :: xs) ∧ RO K H x (CR K) r ∧ RsOk r ∧ r.rs.getLast? = some ns ∧
  CallOf K H r ns u xs z ∧ RzTo K H x (CR K) z Q E
theorem ok__law_apply (T : Tx K mg) : Ok P w K mg base (L2.CX P w) 20 "_law_apply" ["_law_reel", "_law_edit_here"] (spApply K) := by
  refine ok_ofX T.F__law_apply T.g__law_apply sc__law_apply (fun _ _ _ _ _ _ us hl => match us, hl with | [_, _], _ => rfl) (fun vs H Q E h => ?_) (fun cdv A outer s H vs Q E hr h => ?_)
  · obtain ⟨x, t, r, ns, u, xs, z, rfl, _⟩ := h
    rfl
  · obtain ⟨x, t, r, ns, u, xs, z, rfl, hE, hR, ok, hns, hz, q⟩ := h
    refine ⟨_, (pss_cons (ps_if (pt_cmpR op_eq (pe_ix ix_tup (pv 1) pe_int (fun _ _ => rfl)) pe_str (nomark _)) (pss_one (ps_ret (calM (ok_Reel_put T) (hr.mono (by decide)) (passes_call (takes_of rfl rfl rfl rfl) fun _ _ _ _ h => h) T.c_Reel T.m_Reel_put (pv 0) (pa_cons (pe_ix ix_tup (pv 1) pe_int (fun _ _ => rfl)) (pa_cons (pe_ix ix_tup (pv 1) pe_int (fun _ _ => rfl)) pa_nil))))) pss_nil)
    (pss_cons (ps_if (pt_cmpR op_eq (pe_ix ix_tup (pv 1) pe_int (fun _ _ => rfl)) pe_str (nomark _)) (pss_one (ps_ret (calM (ok_Reel_insert T) (hr.mono (by decide)) (passes_call (takes_of rfl rfl rfl rfl) fun _ _ _ _ h => h) T.c_Reel T.m_Reel_insert (pv 0) (pa_cons (pe_ix ix_tup (pv 1) pe_int (fun _ _ => rfl)) (pa_cons (pe_ix ix_tup (pv 1) pe_int (fun _ _ => rfl)) pa_nil))))) pss_nil)
    (pss_one (ps_ret (pe_ifExp (pt_cmpR op_eq (pe_ix ix_tup (pv 1) pe_int (fun _ _ => rfl)) pe_str (nomark _)) (calM (ok_Reel_remove T) (hr.mono (by decide)) (passes_call (takes_of rfl rfl rfl rfl) fun _ _ _ _ h => h) T.c_Reel T.m_Reel_remove (pv 0) (pa_cons (pe_ix ix_tup (pv 1) pe_int (fun _ _ => rfl)) pa_nil)) (calM0 (ok_Reel_undo T) (hr.mono (by decide)) (passes_call (takes_of rfl rfl rfl rfl) fun _ _ _ _ h => h) T.c_Reel T.m_Reel_undo (pv 0))))))), ?_⟩
    obtain ⟨dx, vr, vd, v1, hx, dr, dd, d1⟩ := id hR
    have at0 : ∀ {v : V} {vs : List V}, atI (v :: vs) 0 = some v := fun {v vs} => atI_nat (j := 0) rfl
    have at1 : ∀ {v y : V} {vs : List V}, atI (v :: y :: vs) 1 = some y := fun {v y vs} => atI_nat (j := 1) rfl
    have at2 : ∀ {v y k : V} {vs : List V}, atI (v :: y :: k :: vs) 2 = some k := fun {v y k vs} => atI_nat (j := 2) rfl
    refine ⟨.ref t, rfl, t, _, _, _, rfl, rfl, hE, at0, rfl, _, rfl, ?_⟩
    rcases hz with ⟨rfl, rfl⟩ | ⟨o, ds, hds, kx, ho, rfl⟩
    · refine iteN rfl ⟨.ref t, rfl, t, _, _, _, rfl, rfl, hE, at0, rfl, _, rfl, iteN rfl ?_⟩
      refine ⟨.ref t, rfl, t, _, _, _, rfl, rfl, hE, at0, rfl, _, rfl, iteN rfl ?_⟩
      exact ⟨.ref x, rfl, x, dx, _, rfl, hx, rfl, x, r, rfl, hR, ok, q⟩
    · match xs, ho, hds, kx, hE with
      | [p, y], ho, hds, kx, hE =>
        have ho' := ho
        rw [edA2] at ho
        by_cases c1 : u = "put"
        · subst c1
          refine iteY rfl ?_
          exact ⟨.ref x, rfl, x, dx, _, rfl, hx, rfl, .ref t, rfl, t, _, _, _, rfl, rfl, hE, at1, .ref t, rfl, t, _, _, _, rfl, rfl, hE, at2, x, r, _, ds, o, ns, rfl, rfl, hR, ok, hns, kx, hds, ho', q⟩
        · refine iteN (decide_eq_false fun z => c1 (V.str.inj z)) ?_
          refine ⟨.ref t, rfl, t, _, _, _, rfl, rfl, hE, at0, rfl, _, rfl, ?_⟩
          by_cases c2 : u = "insert"
          · subst c2
            refine iteY rfl ?_
            exact ⟨.ref x, rfl, x, dx, _, rfl, hx, rfl, .ref t, rfl, t, _, _, _, rfl, rfl, hE, at1, .ref t, rfl, t, _, _, _, rfl, rfl, hE, at2, x, r, _, ds, o, ns, rfl, rfl, hR, ok, hns, kx, hds, ho', q⟩
          · rw [if_neg c1, if_neg c2] at ho
            cases ho
      | [p], ho, hds, kx, hE =>
        have ho' := ho
        rw [edA1] at ho
        by_cases c1 : u = "remove"
        · subst c1
          refine iteN rfl ⟨.ref t, rfl, t, _, _, _, rfl, rfl, hE, at0, rfl, _, rfl, iteN rfl ?_⟩
          refine ⟨.ref t, rfl, t, _, _, _, rfl, rfl, hE, at0, rfl, _, rfl, iteY rfl ?_⟩
          exact ⟨.ref x, rfl, x, dx, _, rfl, hx, rfl, .ref t, rfl, t, _, _, _, rfl, rfl, hE, at1, x, r, _, ds, o, ns, rfl, rfl, hR, ok, hns, kx, hds, ho', q⟩
        · rw [if_neg c1] at ho
          cases ho
      | [], ho, _, _, _ => cases ho
      | _ :: _ :: _ :: _, ho, _, _, _ => cases ho
-- @@ _law_did
/-- the class c of errors is known, and what its errors hold -/
def ErrK (K : PySem.W.Frag) (c : Str) (f : Option (Str × V)) : Prop := ∃ j k, nms[j]? = some c ∧ NameE K (He.ga K c) j ∧ KindE K (He.ga K c) k ∧ exmB K (He.ga K c) = true ∧ k ≤ 5 ∧ match f with
  | none => k = 5
  | some q => fldNames[k]? = some q.1 ∧ FldE K (He.ga K c) q.1
def fV : Option (Str × V) → V
  | none => .non
  | some q => q.2
def DidTo (K : PySem.W.Frag) (H : Hp) (x : Addr) (z : Rz) (Q : VK) : Prop := match z with
    | .bad c f => ErrK K c f ∧ ∀ H' l, Same H H' → H l = none → l ≠ sysModules → H' l = some (.lst [.str c, fV f]) → Q (.ref l) H'
    | .ok r2 => ∀ H' l, KX x H H' → RO K H' x (CR K) r2 → H l = none → l ≠ sysModules → H' l = some (.lst [.str "ok", .int (r2.es.length : Int)]) → Q (.ref l) H'
def resOf : Rz → RS → RS
  | .ok r2, _ => r2
  | .bad _ _, r => r
def told : Rz → List V
  | .ok r2 => [.str "ok", .int (r2.es.length : Int)]
  | .bad c f => [.str c, fV f]
theorem did_to {K : PySem.W.Frag} {H : Hp} {x : Addr} {r : RS} {z : Rz} {Q : VK} (hk : ∀ c f, z = .bad c f → ErrK K c f) (hR : RO K H x (CR K) r) (h : ∀ H' l, KX x H H' → (∀ c f, z = .bad c f → Same H H') → RO K H' x (CR K) (resOf z r) → l ≠ sysModules → H' l = some (.lst (told z)) → Q (.ref l) H') : DidTo K H x z Q := by
  cases z with
  | bad c f => exact ⟨hk c f rfl, fun H' l s _ ml hl => h H' l (s.kx x) (fun _ _ _ => s) (hR.same s) ml hl⟩
  | ok r2 => exact fun H' l k hR2 _ ml hl => h H' l k (fun _ _ e => nomatch e) hR2 ml hl
def spDid (K : PySem.W.Frag) : Sp := fun vs H Q _ => ∃ (x t : Addr) (r : RS) (ns : List Int) (u : Str) (xs : List V) (z : Rz), vs = [.ref x, .ref t] ∧ SqT K H t (.str u :: xs) ∧ RO K H x (CR K) r ∧ RsOk r ∧ r.rs.getLast? = some ns ∧
  CallOf K H r ns u xs z ∧ DidTo K H x z Q
theorem ok__law_did (T : Tx K mg) : Ok P w K mg base CX0 22 "_law_did" ["_law_reel", "_law_edit_here"] (spDid K) := by
  refine ok_of T.F__law_did T.g__law_did sc__law_did (fun _ _ _ _ _ _ us hl => match us, hl with | [_, _], _ => rfl) (fun vs H Q E h => ?_) (fun cdv A outer s H vs Q E hr h => ?_)
  · obtain ⟨x, t, r, ns, u, xs, z, rfl, _⟩ := h
    rfl
  · obtain ⟨x, t, r, ns, u, xs, z, rfl, hE, hR, ok, hns, hz, q⟩ := h
    refine ⟨_, (pss_one (ps_try_as2 (i := 2) (Wout := fun _ _ _ _ => False) rfl rfl sc__law_did.nd rfl rfl ⟨rfl, by decide, Or.inl T.g_RingError⟩ ⟨rfl, by decide, Or.inl T.g_NoPlace⟩ takes0
      (fun W pn xe tk _ => (pss_one (ps_ret (pe_lst' (pa_cons pe_str (pa_cons (calXS (ok__law_apply T) (hr.mono (by decide)) (fun σ => passAt tk σ) (pa_cons (pv 0) (pa_cons (pv 1) pa_nil))) pa_nil))))))
      (fun a oe cls d pn hz hf => (pss_one (ps_ret (pe_lst' (pa_cons (calE (ok__law_name T) ⟨(hr.mono (j := 1) (by decide)).dp, (hr.mono (j := 1) (by decide)).un⟩ pass0 hz hf List.mem_cons_self (pa_cons (pv 2) pa_nil)) (pa_cons (calE (ok__law_field T) ⟨(hr.mono (j := 1) (by decide)).dp, (hr.mono (j := 1) (by decide)).un⟩ pass0 hz hf List.mem_cons_self (pa_cons (pv 2) pa_nil)) pa_nil)))))))), ?_⟩
    refine ⟨.ref x, rfl, .ref t, rfl, x, t, r, ns, u, xs, z, rfl, hE, hR, ok, hns, hz, ?_⟩
    cases z with
    | ok r2 =>
      intro H1 k1 hR1
      refine ⟨sz (by show 2 ≤ _; decide), fun l nl ml => ?_⟩
      obtain ⟨H2, e2, s2, hl⟩ := new_lst nl [V.str "ok", .int (r2.es.length : Int)]
      rw [e2]
      obtain ⟨_, _, _, _, hx1, _⟩ := id hR1
      exact q H2 l (k1.trans (s2.kx x)) (hR1.same s2) (k1.free hx1 nl) ml hl
    | bad c f =>
      obtain ⟨⟨j, k, hj, nm, kd, xm, hk, hf⟩, q⟩ := q
      intro H1 d s1 hd
      refine ⟨true, of_decide_eq_true xm, fun _ a na => ?_, fun z => nomatch z⟩
      have hh : HasD H1 d := by
        cases f with
        | none => exact .inl hd
        | some p =>
          obtain ⟨dd, e1, e2⟩ := hd
          exact .inr ⟨dd, _, e1, e2⟩
      refine ⟨.ref a, rfl, _, j, rfl, rfl, hh, nm, fun H2 u s2 hu => ?_⟩
      have eu : u = c := Option.some.inj (hu.symm.trans hj)
      subst eu
      have hf2 : FldOf K H2 (He.ga K u) d k (fV f) := by
        cases f with
        | none => exact .inl ⟨hf, rfl⟩
        | some p =>
          obtain ⟨dd, e1, e2⟩ := hd
          exact .inr ⟨dd, _, hf.1, e1, s2 _ _ e2, hf.2⟩
      refine ⟨.ref a, rfl, _, k, _, rfl, rfl, hh.same s2, kd, hk, hf2, fun H3 s3 => ?_⟩
      refine ⟨sz (by show 2 ≤ _; decide), fun l nl ml => ?_⟩
      obtain ⟨H4, e4, s4, hl⟩ := new_lst nl [V.str u, fV f]
      rw [e4]
      have s14 := s1.trans (s2.trans s3)
      exact q H4 l (s14.trans s4) (s14.free nl) ml hl
-- @@ _law_due
def spDue (K : PySem.W.Frag) : Sp := fun vs H Q _ => ∃ (a t : Addr) (ns : List Int) (u : Str) (xs : List V) (o : EdR), vs = [.ref a, .ref t] ∧ TupI K H a ns ∧ Ring ns ∧ SqT K H t (.str u :: xs) ∧ (∀ y ∈ xs, Kd K H y) ∧ edA ns u xs = some o ∧ (match o with
    | .bad c f => ∀ H' l, Same H H' → H l = none → l ≠ sysModules → H' l = some (.lst [.str c, fV f]) → Q (.ref l) H'
    | .ok ms => ∀ H' l m, Same H H' → H l = none → H' l = some (.lst [.str "ring", .ref m]) → TupI K H' m ms → Q (.ref l) H')
theorem ok__law_due (T : Tx K mg) : Ok P w K mg base CX0 3 "_law_due" ["_law_ring_here", "_law_edit_here"] (spDue K) := by
  refine ok_of T.F__law_due T.g__law_due sc__law_due (fun _ _ _ _ _ _ us hl => match us, hl with | [_, _], _ => rfl) (fun vs H Q E h => ?_) (fun cdv A outer s H vs Q E hr h => ?_)
  · obtain ⟨a, t, ns, u, xs, o, rfl, _⟩ := h
    rfl
  · obtain ⟨a, t, ns, u, xs, o, rfl, hT, rg, hE, kx, ho, q⟩ := h
    refine ⟨_, (pss_cons (ps_par (i := 2) (j := 3) (by rfl) sc__law_due.nd rfl rfl (by decide) rfl rfl (pa_cons (pe_ix ix_tup (pv 1) pe_int (fun _ _ => rfl)) (pa_cons (pe_ix ix_tup (pv 1) pe_int (fun _ _ => rfl)) pa_nil)) (by rfl))
    (pss_cons (ps_if (pt_not (pt_val (cal (ok__law_whole T) (hr.mono (by decide)) pass0 (pa_cons (pv 3) (pa_cons pe_int (pa_cons (pe_op op_add (pe_op op_sub (pe_callB call_len_seq (by rfl) T.f_len PySem.boot_len (pa_cons (pv 0) pa_nil)) pe_int) (pe_callTy call_int1 (by rfl) T.f_int boot_int (pa_cons (pe_cmpR op_eq (pv 2) pe_str (nomark _)) pa_nil))) pa_nil)))))) (pss_one (ps_ret (pe_lst' (pa_cons pe_str (pa_cons (pv 3) pa_nil))))) pss_nil)
    (pss_cons (ps_if (PW.pt (pw_and (pt_cmpR op_ne (pv 2) pe_str (nomark _)) (pw_and1 (pt_not (pt_val (cal (ok__law_whole T) (hr.mono (by decide)) pass0 (pa_cons (pe_ix ix_tup (pv 1) pe_int (fun _ _ => rfl)) (pa_cons pe_int (pa_cons pe_int pa_nil))))))))) (pss_one (ps_ret (pe_lst' (pa_cons pe_str (pa_cons (pe_ix ix_tup (pv 1) pe_int (fun _ _ => rfl)) pa_nil))))) pss_nil)
    (pss_cons (ps_if (PW.pt (pw_and (pt_cmpR op_eq (pv 2) pe_str (nomark _)) (pw_and1 (pt_cmpR op_eq (pe_callB call_len_seq (by rfl) T.f_len PySem.boot_len (pa_cons (pv 0) pa_nil)) pe_int (nomark _))))) (pss_one (ps_ret (pe_lst' (pa_cons pe_str (pa_cons pe_int pa_nil))))) pss_nil)
    (pss_cons (ps_if (PW.pt (pw_and (pt_cmpR op_eq (pv 2) pe_str (nomark _)) (pw_and1 (pt_cmpR op_eq (pe_callB call_len_seq (by rfl) T.f_len PySem.boot_len (pa_cons (pv 0) pa_nil)) pe_int (nomark _))))) (pss_one (ps_ret (pe_lst' (pa_cons pe_str (pa_cons pe_non pa_nil))))) pss_nil)
    (pss_one (ps_ret (pe_lst' (pa_cons pe_str (pa_cons (pe_op op_catA (pe_op op_catA (pe_slice sl_tupA (pv 0) po_none (po_some (pv 3))) (pe_slice sl_tupA (pv 1) (po_some pe_int) po_none)) (pe_slice sl_tupA (pv 0) (po_some (pe_op op_add (pv 3) (pe_callTy call_int1 (by rfl) T.f_int boot_int (pa_cons (pe_cmpR op_ne (pv 2) pe_str (nomark _)) pa_nil)))) po_none)) pa_nil)))))))))), ?_⟩
    have at0 : ∀ {v : V} {vs : List V}, atI (v :: vs) 0 = some v := fun {v vs} => atI_nat (j := 0) rfl
    have at1 : ∀ {v y : V} {vs : List V}, atI (v :: y :: vs) 1 = some y := fun {v y vs} => atI_nat (j := 1) rfl
    have at2 : ∀ {v y k : V} {vs : List V}, atI (v :: y :: k :: vs) 2 = some k := fun {v y k vs} => atI_nat (j := 2) rfl
    have hln : (ns.map V.int).length = ns.length := List.length_map _
    obtain ⟨r1, r2, r3⟩ := id rg
    obtain ⟨p, ys, rfl⟩ : ∃ p ys, xs = p :: ys := by
      cases xs with
      | nil => cases ho
      | cons p ys => exact ⟨p, ys, rfl⟩
    have kp := kx p List.mem_cons_self
    refine ⟨.ref t, rfl, t, _, _, _, rfl, rfl, hE, at0, .ref t, rfl, t, _, _, _, rfl, rfl, hE, at1, ?_⟩
    refine ⟨_, _, rfl, p, rfl, .ref a, rfl, a, _, rfl, .inr hT, _, _, rfl, rfl, .str u, rfl, rfl, .inr ⟨_, rfl, ?_⟩⟩
    refine ⟨_, _, rfl, rfl, p, 0, _, rfl, kp, _, rfl, ?_⟩
    rw [hln]
    have lst2 : ∀ {H1 : Hp} {v : V} {c : Str} {f : Option (Str × V)} {Q1 : VK}, Same H H1 → (∀ H' l, Same H H' → H l = none → l ≠ sysModules → H' l = some (.lst [.str c, fV f]) → Q1 (.ref l) H') → v = fV f →
        [V.str c, v].length ≤ sizeLine ∧ ∀ l, H1 l = none → l ≠ sysModules → Q1 (.ref l) (upd H1 l (.lst [.str c, v])) := fun {H1 v c f Q1} s1 k e => by
      subst e
      exact ⟨sz (by show 2 ≤ _; decide), fun l nl ml => k _ l (s1.trans (same_upd nl)) (s1.free nl) ml upd_same⟩
    by_cases ci : u = "insert"
    · subst ci
      rw [wh_ix p (ns.length + 1) _ (by rw [if_pos (decide_eq_true rfl)]; omega)]
      obtain ⟨x, rfl⟩ : ∃ x, ys = [x] := by
        match ys, ho with
        | [], ho => cases ho
        | [x], _ => exact ⟨x, rfl⟩
        | _ :: _ :: _, ho => cases ho
      have hx := kx x (List.mem_cons_of_mem _ List.mem_cons_self)
      rw [edA2, if_neg (by decide), if_pos rfl] at ho
      cases ho
      unfold edIns at q
      cases c1 : ixB p ((ns.length + 1 : Nat) : Int) with
      | false =>
        rw [if_pos c1] at q
        exact iteY rfl ⟨p, rfl, lst2 (Same.refl H) q rfl⟩
      | true =>
        rw [if_neg (by rw [c1]; exact Bool.noConfusion)] at q
        refine iteN rfl ⟨.str "insert", rfl, rfl, _, rfl, iteY rfl ?_⟩
        refine ⟨.ref t, rfl, t, _, _, _, rfl, rfl, hE, at2, x, 0, 5, rfl, hx, _, rfl, ?_⟩
        rw [wh_ar]
        cases c2 : arB x with
        | false =>
          rw [if_pos c2] at q
          exact iteY rfl ⟨.ref t, rfl, t, _, _, _, rfl, rfl, hE, at2, lst2 (Same.refl H) q rfl⟩
        | true =>
          rw [if_neg (by rw [c2]; exact Bool.noConfusion)] at q
          refine iteN rfl ⟨.str "insert", rfl, rfl, _, rfl, iteY rfl ?_⟩
          refine ⟨.ref a, rfl, a, _, rfl, .inr hT, rfl, _, rfl, ?_⟩
          rw [hln]
          by_cases c3 : ns.length = 24
          · rw [if_pos c3] at q
            exact iteY (decide_eq_true (by rw [c3]; rfl)) (lst2 (Same.refl H) q rfl)
          · rw [if_neg c3] at q
            refine iteN (decide_eq_false (fun z => c3 (Int.ofNat.inj (V.int.inj z)))) ?_
            refine ⟨.str "insert", rfl, rfl, _, rfl, iteN rfl ?_⟩
            obtain ⟨n, rfl, hn⟩ := ix_of c1
            obtain ⟨i, rfl, _, _⟩ := tok_ar c2
            refine ⟨.ref a, rfl, .int (n : Int), rfl, (n : Int), rfl, slT_hi hT (by omega) fun H1 b1 s1 hb1 => ?_⟩
            refine ⟨.ref t, rfl, ((2 : Nat) : Int), rfl, ?_⟩
            dsimp only [tNoPart]
            refine slT_lo (p := 2) (same_seqT s1 hE) (by show 2 ≤ 3; decide) fun H2 b2 s2 hb2 => ?_
            refine catT (same_seqT s2 hb1) hb2 (by rw [List.length_take]; show _ + 1 ≤ _; omega) fun H3 b3 s3 hb3 => ?_
            refine ⟨.ref a, rfl, .int (n : Int), rfl, .str "insert", rfl, rfl, .inr ⟨_, rfl, ?_⟩⟩
            refine ⟨_, _, rfl, rfl, (n : Int), rfl, ?_⟩
            dsimp only [tNoPart]
            refine slT_lo (p := n) (same_seqT (s1.trans (s2.trans s3)) hT) (by omega) fun H4 b4 s4 hb4 => ?_
            refine catT (same_seqT s4 hb3) hb4 (by simp only [List.length_append, List.length_take, List.length_drop, List.length_map, List.length_cons, List.length_nil]; omega) fun H5 b5 s5 hb5 => ?_
            refine ⟨sz (by show 2 ≤ _; decide), fun l nl ml => ?_⟩
            obtain ⟨H6, e6, s6, hl⟩ := new_lst nl [V.str "ring", .ref b5]
            rw [e6]
            have s15 := s1.trans (s2.trans (s3.trans (s4.trans s5)))
            have hb5 : SqT K H5 b5 ((ns.map V.int).take n ++ [V.int i] ++ (ns.map V.int).drop n) := hb5
            rw [insL_int] at hb5
            exact q H6 l b5 (s15.trans s6) (s15.free nl) hl (same_seqT s6 hb5)
    · rw [wh_ix p ns.length _ (by rw [if_neg (by rw [decide_eq_false (fun z => ci (V.str.inj z))]; exact Bool.noConfusion)]; omega)]
      match ys, ho, hE, kx with
      | [x], ho, hE, kx =>
        have hx := kx x (List.mem_cons_of_mem _ List.mem_cons_self)
        rw [edA2, if_neg ci] at ho
        by_cases cp : u = "put"
        · subst cp
          rw [if_pos rfl] at ho
          cases ho
          unfold edPut at q
          cases c1 : ixB p (ns.length : Int) with
          | false =>
            rw [if_pos c1] at q
            exact iteY rfl ⟨p, rfl, lst2 (Same.refl H) q rfl⟩
          | true =>
            rw [if_neg (by rw [c1]; exact Bool.noConfusion)] at q
            refine iteN rfl ⟨.str "put", rfl, rfl, _, rfl, iteY rfl ?_⟩
            refine ⟨.ref t, rfl, t, _, _, _, rfl, rfl, hE, at2, x, 0, 5, rfl, hx, _, rfl, ?_⟩
            rw [wh_ar]
            cases c2 : arB x with
            | false =>
              rw [if_pos c2] at q
              exact iteY rfl ⟨.ref t, rfl, t, _, _, _, rfl, rfl, hE, at2, lst2 (Same.refl H) q rfl⟩
            | true =>
              rw [if_neg (by rw [c2]; exact Bool.noConfusion)] at q
              refine iteN rfl ⟨.str "put", rfl, rfl, _, rfl, iteN rfl ?_⟩
              refine ⟨.str "put", rfl, rfl, _, rfl, iteN rfl ?_⟩
              obtain ⟨n, rfl, hn⟩ := ix_of c1
              obtain ⟨i, rfl, _, _⟩ := tok_ar c2
              refine ⟨.ref a, rfl, .int (n : Int), rfl, (n : Int), rfl, slT_hi hT (by omega) fun H1 b1 s1 hb1 => ?_⟩
              refine ⟨.ref t, rfl, ((2 : Nat) : Int), rfl, ?_⟩
              dsimp only [tNoPart]
              refine slT_lo (p := 2) (same_seqT s1 hE) (by show 2 ≤ 3; decide) fun H2 b2 s2 hb2 => ?_
              refine catT (same_seqT s2 hb1) hb2 (by rw [List.length_take]; show _ + 1 ≤ _; omega) fun H3 b3 s3 hb3 => ?_
              refine ⟨.ref a, rfl, .int (n : Int), rfl, .str "put", rfl, rfl, .inr ⟨_, rfl, ?_⟩⟩
              refine ⟨_, _, rfl, rfl, ((n + 1 : Nat) : Int), rfl, ?_⟩
              dsimp only [tNoPart]
              refine slT_lo (p := n + 1) (same_seqT (s1.trans (s2.trans s3)) hT) (by omega) fun H4 b4 s4 hb4 => ?_
              refine catT (same_seqT s4 hb3) hb4 (by simp only [List.length_append, List.length_take, List.length_drop, List.length_map, List.length_cons, List.length_nil]; omega) fun H5 b5 s5 hb5 => ?_
              refine ⟨sz (by show 2 ≤ _; decide), fun l nl ml => ?_⟩
              obtain ⟨H6, e6, s6, hl⟩ := new_lst nl [V.str "ring", .ref b5]
              rw [e6]
              have s15 := s1.trans (s2.trans (s3.trans (s4.trans s5)))
              have hb5 : SqT K H5 b5 ((ns.map V.int).take n ++ [V.int i] ++ (ns.map V.int).drop (n + 1)) := hb5
              rw [mset_int' ns n i hn] at hb5
              exact q H6 l b5 (s15.trans s6) (s15.free nl) hl (same_seqT s6 hb5)
        · rw [if_neg cp] at ho
          cases ho
      | [], ho, hE, kx =>
        rw [edA1] at ho
        by_cases cr : u = "remove"
        · subst cr
          rw [if_pos rfl] at ho
          cases ho
          unfold edRem at q
          cases c1 : ixB p (ns.length : Int) with
          | false =>
            rw [if_pos c1] at q
            exact iteY rfl ⟨p, rfl, lst2 (Same.refl H) q rfl⟩
          | true =>
            rw [if_neg (by rw [c1]; exact Bool.noConfusion)] at q
            refine iteN rfl ⟨.str "remove", rfl, rfl, _, rfl, iteN rfl ?_⟩
            refine ⟨.str "remove", rfl, rfl, _, rfl, iteN rfl ?_⟩
            refine ⟨.str "remove", rfl, rfl, _, rfl, iteY rfl ?_⟩
            refine ⟨.ref a, rfl, a, _, rfl, .inr hT, rfl, _, rfl, ?_⟩
            rw [hln]
            by_cases c3 : ns.length = 1
            · rw [if_pos c3] at q
              exact iteY (decide_eq_true (by rw [c3]; rfl)) (lst2 (Same.refl H) q rfl)
            · rw [if_neg c3] at q
              refine iteN (decide_eq_false (fun z => c3 (Int.ofNat.inj (V.int.inj z)))) ?_
              obtain ⟨n, rfl, hn⟩ := ix_of c1
              refine ⟨.ref a, rfl, .int (n : Int), rfl, (n : Int), rfl, slT_hi hT (by omega) fun H1 b1 s1 hb1 => ?_⟩
              refine ⟨.ref t, rfl, ((2 : Nat) : Int), rfl, ?_⟩
              dsimp only [tNoPart]
              refine slT_lo (p := 2) (same_seqT s1 hE) (by show 2 ≤ 2; decide) fun H2 b2 s2 hb2 => ?_
              refine catT (same_seqT s2 hb1) hb2 (by rw [List.length_take]; show _ + 0 ≤ _; omega) fun H3 b3 s3 hb3 => ?_
              refine ⟨.ref a, rfl, .int (n : Int), rfl, .str "remove", rfl, rfl, .inr ⟨_, rfl, ?_⟩⟩
              refine ⟨_, _, rfl, rfl, ((n + 1 : Nat) : Int), rfl, ?_⟩
              dsimp only [tNoPart]
              refine slT_lo (p := n + 1) (same_seqT (s1.trans (s2.trans s3)) hT) (by omega) fun H4 b4 s4 hb4 => ?_
              refine catT (same_seqT s4 hb3) hb4 (by simp only [List.length_append, List.length_take, List.length_drop, List.length_map, List.length_cons, List.length_nil]; omega) fun H5 b5 s5 hb5 => ?_
              refine ⟨sz (by show 2 ≤ _; decide), fun l nl ml => ?_⟩
              obtain ⟨H6, e6, s6, hl⟩ := new_lst nl [V.str "ring", .ref b5]
              rw [e6]
              have s15 := s1.trans (s2.trans (s3.trans (s4.trans s5)))
              have hb5 : SqT K H5 b5 ((ns.map V.int).take n ++ [] ++ (ns.map V.int).drop (n + 1)) := hb5
              rw [remL_int] at hb5
              exact q H6 l b5 (s15.trans s6) (s15.free nl) hl (same_seqT s6 hb5)
        · rw [if_neg cr] at ho
          cases ho
      | _ :: _ :: _, ho, _, _ => cases ho
-- @@ _law_seen
/-- what is seen of a reel -/
def seenX (ns : List Int) (es : List PyData) (ss : List Int) : PyData := .list [rgD ns, .int (es.length : Int), rgD ss, .tuple es, .int (es.length : Int), .str (strR ns es.length)]
abbrev seenD (r : RS) (ns : List Int) : PyData := seenX ns r.es r.ss
def spSeen (K : PySem.W.Frag) : Sp := fun vs H Q _ => ∃ (x : Addr) (r : RS) (ns : List Int), vs = [.ref x] ∧ RO K H x (CR K) r ∧ r.rs.getLast? = some ns ∧ Ring ns ∧ r.es.length ≤ 60 ∧ Fit 100000 50 (seenD r ns) ∧
  ∀ H', Same H H' → Q (.str (seenD r ns).shown) H'
theorem ok__law_seen (T : Tx K mg) : OkG P w K mg base 10 "_law_seen" ["_law_reel"] (spSeen K) := by
  refine okG_of T.F__law_seen T.g__law_seen sc__law_seen (fun _ _ _ _ _ _ us hl => match us, hl with | [_], _ => rfl) (fun vs H Q E h => ?_) (fun cdv A outer s H vs Q E hg hr h => ?_)
  · obtain ⟨x, r, ns, rfl, _⟩ := h
    rfl
  · obtain ⟨x, r, ns, rfl, hR, hns, rg, le, ft, q⟩ := h
    refine ⟨_, (pss_one (ps_ret (pe_callB (call_repr hg hr.units) (by rfl) T.f_repr boot_repr (pa_cons (pe_lst (pa_cons (calP (ok_Reel_ring T) (hr.mono (by decide)) pass0 T.c_Reel T.p_Reel_ring (pv 0)) (pa_cons (calP (ok_Reel_version T) (hr.mono (by decide)) pass0 T.c_Reel T.p_Reel_version (pv 0)) (pa_cons (calP (ok_Reel_beginnings T) (hr.mono (by decide)) pass0 T.c_Reel T.p_Reel_beginnings (pv 0)) (pa_cons (calM0 (ok_Reel_edits T) (hr.mono (by decide)) pass0 T.c_Reel T.m_Reel_edits (pv 0)) (pa_cons (pe_callB (call_lenO (ok_Reel_len T) (hr.mono (by decide)) pass0 (ownM_of T.m_Reel___len__)) (by rfl) T.f_len PySem.boot_len (pa_cons (pv 0) pa_nil)) (pa_cons (pe_callTy (call_strOwn (ok_Reel_str T) (hr.mono (by decide)) pass0 (ownM_of T.m_Reel___str__)) (by rfl) T.f_str boot_str (pa_cons (pv 0) pa_nil)) pa_nil))))))) pa_nil)))), ?_⟩
    obtain ⟨dx, vr, vd, v1, hx, dr, dd, d1⟩ := id hR
    refine ⟨.ref x, rfl, x, dx, _, rfl, hx, x, r, ns, rfl, hR, hns, fun t1 ht1 => ?_⟩
    refine ⟨.ref x, rfl, x, dx, _, rfl, hx, x, r, rfl, hR, ?_⟩
    refine ⟨.ref x, rfl, x, dx, _, rfl, hx, x, r, rfl, hR, fun v3 h3 => ?_⟩
    refine ⟨.ref x, rfl, x, dx, _, rfl, hx, rfl, x, r, rfl, hR, fun v4 h4 => ?_⟩
    refine ⟨.ref x, rfl, x, dx, _, rfl, hx, x, r, rfl, hR, _, rfl, by omega, ?_⟩
    refine ⟨.ref x, rfl, x, dx, _, rfl, hx, x, r, ns, rfl, hR, hns, rg, le, _, rfl, ?_⟩
    refine ⟨sz (by show 6 ≤ _; decide), fun l nl => ?_⟩
    obtain ⟨H1, e1, s1, hl⟩ := new_lst nl [V.ref t1, .int (r.es.length : Int), v3, v4, .int (r.es.length : Int), .str (strR ns r.es.length)]
    rw [e1]
    refine ⟨false, .ref l, seenD r ns, rfl, ?_, ft, q H1 s1⟩
    refine .lst (lstI_of hl) (fun z => nomatch z) ?_
    exact .cons ((dt_rg (same_seqT s1 ht1)).dq) (.cons (.int _) (.cons ((h3.kt s1.kt).dq) (.cons ((h4.kt s1.kt).dq) (.cons (.int _) (.cons (.str _) .nil)))))
-- @@ _law_edit
def spEdit (K : PySem.W.Frag) : Sp := fun vs H Q _ => ∃ (S A B a : Addr) (k : Nat) (ns : List Int), vs = [.ref S, .ref a] ∧ Strm H S A B k ∧ k < 900000000 ∧ TupI K H a ns ∧ Ring ns ∧
  ∀ H' k' t, SameX S A H H' → Strm H' S A B k' → k' ≤ k + 10 → H t = none → EdG H' t → Q (.ref t) H'
theorem ok__law_edit (T : Tx K mg) : Ok P w K mg base CX0 5 "_law_edit" ["_law_stream_here", "_law_ring_here"] (spEdit K) := by
  refine ok_of T.F__law_edit T.g__law_edit sc__law_edit (fun _ _ _ _ _ _ us hl => match us, hl with | [_, _], _ => rfl) (fun vs H Q E h => ?_) (fun cdv A outer s H vs Q E hr h => ?_)
  · obtain ⟨S, A, B, a, k, ns, rfl, _⟩ := h
    rfl
  · obtain ⟨S, A', B, a, k, ns, rfl, st, hk, hT, rg, q⟩ := h
    refine ⟨_, (pss_cons (ps_par (i := 2) (j := 3) (by rfl) sc__law_edit.nd rfl rfl (by decide) rfl rfl (pa_cons (cal (ok__law_pick T) (hr.mono (by decide)) pass0 (pa_cons (pv 0) (pa_cons (pe_lst (pa_cons pe_str (pa_cons pe_str (pa_cons pe_str (pa_cons pe_str pa_nil))))) pa_nil))) (pa_cons (cal (ok__law_draw T) (hr.mono (by decide)) pass0 (pa_cons (pv 0) (pa_cons (pe_callB call_len_seq (by rfl) T.f_len PySem.boot_len (pa_cons (pv 1) pa_nil)) pa_nil))) pa_nil)) (by rfl))
    (pss_cons (ps_if (pt_cmpR op_eq (pv 2) pe_str (nomark _)) (pss_one (ps_ret (pe_tup (pa_cons (pv 2) (pa_cons (pv 3) pa_nil))))) pss_nil)
    (pss_cons (ps_if (pt_cmpR op_eq (pv 2) pe_str (nomark _)) (pss_one (ps_set (i := 3) sc__law_edit.nd rfl (.inl rfl) (cal (ok__law_draw T) (hr.mono (by decide)) pass0 (pa_cons (pv 0) (pa_cons (pe_op op_add (pe_callB call_len_seq (by rfl) T.f_len PySem.boot_len (pa_cons (pv 1) pa_nil)) pe_int) pa_nil))))) pss_nil)
    (pss_one (ps_ret (pe_tup (pa_cons (pv 2) (pa_cons (pv 3) (pa_cons (cal (ok__law_pick T) (hr.mono (by decide)) pass0 (pa_cons (pv 0) (pa_cons (pe_lst (pa_cons pe_int (pa_cons pe_int (pa_cons pe_int (pa_cons pe_int (pa_cons (cal (ok__law_draw T) (hr.mono (by decide)) pass0 (pa_cons (pv 0) (pa_cons pe_int pa_nil))) pa_nil)))))) pa_nil))) pa_nil))))))))), ?_⟩
    have ln : (((ns.map V.int).length : Nat) : Int) = (ns.length : Int) := by rw [List.length_map]
    obtain ⟨r1, r2, r3⟩ := id rg
    refine ⟨.ref S, rfl, sz (by show 4 ≤ _; decide), fun p1 n1 => ?_⟩
    obtain ⟨H1, e1, s1, hp1⟩ := new_lst n1 [V.str "put", .str "put", .str "insert", .str "remove"]
    rw [e1]
    have st1 := st.same s1
    obtain ⟨m1, m2, _⟩ := st.ne n1
    refine ⟨S, A', B, k, p1, _, rfl, st1, by omega, lstI_of hp1, m1, m2, by show 0 < 4; decide, by show 4 < 1000000; decide, fun H2 k2 v s2 st2 hk2 hv => ?_⟩
    have x2 := (Same.x (S := S) (A := A') s1).trans s2
    have hT2 : TupI K H2 a ns := SqT.kt (sx_kt st x2) hT
    refine ⟨.ref S, rfl, .ref a, rfl, a, _, rfl, .inr hT2, ?_⟩
    rw [ln]
    refine ⟨S, A', B, k2, _, rfl, st2, by omega, by omega, by omega, fun H3 k3 y s3 st3 hk3 y0 y1 => ?_⟩
    have x3 := x2.trans s3
    have hT3 : TupI K H3 a ns := SqT.kt (sx_kt st x3) hT
    refine ⟨_, _, rfl, ?_⟩
    obtain ⟨u, hu, rfl⟩ : ∃ u, (u = "put" ∨ u = "insert" ∨ u = "remove") ∧ v = V.str u := by
      simp only [List.mem_cons, List.not_mem_nil, or_false] at hv
      rcases hv with rfl | rfl | rfl | rfl
      · exact ⟨_, .inl rfl, rfl⟩
      · exact ⟨_, .inl rfl, rfl⟩
      · exact ⟨_, .inr (.inl rfl), rfl⟩
      · exact ⟨_, .inr (.inr rfl), rfl⟩
    rcases hu with rfl | rfl | rfl
    · refine ⟨.str "put", rfl, rfl, _, rfl, iteN rfl ?_⟩
      refine ⟨.str "put", rfl, rfl, _, rfl, iteN rfl ?_⟩
      have x4 := x3
      have st4 := st3
      obtain ⟨k4, hk4, ek4⟩ : ∃ k4, k4 ≤ k + 3 ∧ k4 = k3 := ⟨k3, by omega, rfl⟩
      rw [← ek4] at st4
      refine ⟨.str "put", rfl, .int y, rfl, .ref S, rfl, .ref S, rfl, ?_⟩
      refine ⟨S, A', B, k4, 6, rfl, st4, by decide, by decide, by omega, fun H5 k5 d s5 st5 hk5 d0 d1 => ?_⟩
      refine ⟨sz (by show 5 ≤ _; decide), fun l nl => ?_⟩
      obtain ⟨H6, e6, s6, hl⟩ := new_lst nl [V.int 0, .int 0, .int 1, .int 2, .int d]
      rw [e6]
      obtain ⟨m5, m6, _⟩ := st5.ne nl
      refine ⟨S, A', B, k5, l, _, rfl, st5.same s6, by omega, lstI_of hl, m5, m6, by show 0 < 5; decide, by show 5 < 1000000; decide, fun H7 k7 v s7 st7 hk7 hv => ?_⟩
      obtain ⟨i, rfl, i0, i5⟩ : ∃ i : Int, v = .int i ∧ 0 ≤ i ∧ i ≤ 5 := by
        simp only [List.mem_cons, List.not_mem_nil, or_false] at hv
        rcases hv with rfl | rfl | rfl | rfl | rfl
        · exact ⟨0, rfl, by decide, by decide⟩
        · exact ⟨0, rfl, by decide, by decide⟩
        · exact ⟨1, rfl, by decide, by decide⟩
        · exact ⟨2, rfl, by decide, by decide⟩
        · exact ⟨d, rfl, d0, by omega⟩
      refine ⟨sz (by show 3 ≤ _; decide), fun t nt => ?_⟩
      obtain ⟨H8, e8, s8, ht⟩ := new_tup nt [V.str "put", .int y, .int i]
      rw [e8]
      have x8 := x4.trans (s5.trans ((Same.x s6).trans (s7.trans (Same.x s8))))
      refine q H8 k7 t x8 (st7.same s8) (by omega) (SameX.free st7 (x4.trans (s5.trans ((Same.x s6).trans s7))) nt) ⟨"put", [y, i], ht, .inl ⟨rfl, .inl rfl⟩, fun j hj => ?_⟩
      simp only [List.mem_cons, List.not_mem_nil, or_false] at hj
      rcases hj with rfl | rfl
      · exact ⟨y0, by omega⟩
      · exact ⟨i0, by omega⟩
    · refine ⟨.str "insert", rfl, rfl, _, rfl, iteN rfl ?_⟩
      refine ⟨.str "insert", rfl, rfl, _, rfl, iteY rfl ?_⟩
      refine ⟨.ref S, rfl, .ref a, rfl, a, _, rfl, .inr hT3, _, _, rfl, rfl, ?_⟩
      rw [ln]
      refine ⟨S, A', B, k3, _, rfl, st3, by omega, by omega, by omega, fun H4 k4 y s4 st4 hk4 y0 y1 => ?_⟩
      have x4 := x3.trans s4
      refine ⟨.str "insert", rfl, .int y, rfl, .ref S, rfl, .ref S, rfl, ?_⟩
      refine ⟨S, A', B, k4, 6, rfl, st4, by decide, by decide, by omega, fun H5 k5 d s5 st5 hk5 d0 d1 => ?_⟩
      refine ⟨sz (by show 5 ≤ _; decide), fun l nl => ?_⟩
      obtain ⟨H6, e6, s6, hl⟩ := new_lst nl [V.int 0, .int 0, .int 1, .int 2, .int d]
      rw [e6]
      obtain ⟨m5, m6, _⟩ := st5.ne nl
      refine ⟨S, A', B, k5, l, _, rfl, st5.same s6, by omega, lstI_of hl, m5, m6, by show 0 < 5; decide, by show 5 < 1000000; decide, fun H7 k7 v s7 st7 hk7 hv => ?_⟩
      obtain ⟨i, rfl, i0, i5⟩ : ∃ i : Int, v = .int i ∧ 0 ≤ i ∧ i ≤ 5 := by
        simp only [List.mem_cons, List.not_mem_nil, or_false] at hv
        rcases hv with rfl | rfl | rfl | rfl | rfl
        · exact ⟨0, rfl, by decide, by decide⟩
        · exact ⟨0, rfl, by decide, by decide⟩
        · exact ⟨1, rfl, by decide, by decide⟩
        · exact ⟨2, rfl, by decide, by decide⟩
        · exact ⟨d, rfl, d0, by omega⟩
      refine ⟨sz (by show 3 ≤ _; decide), fun t nt => ?_⟩
      obtain ⟨H8, e8, s8, ht⟩ := new_tup nt [V.str "insert", .int y, .int i]
      rw [e8]
      have x8 := x4.trans (s5.trans ((Same.x s6).trans (s7.trans (Same.x s8))))
      refine q H8 k7 t x8 (st7.same s8) (by omega) (SameX.free st7 (x4.trans (s5.trans ((Same.x s6).trans s7))) nt) ⟨"insert", [y, i], ht, .inl ⟨rfl, .inr rfl⟩, fun j hj => ?_⟩
      simp only [List.mem_cons, List.not_mem_nil, or_false] at hj
      rcases hj with rfl | rfl
      · exact ⟨y0, by omega⟩
      · exact ⟨i0, by omega⟩
    · refine ⟨.str "remove", rfl, rfl, _, rfl, iteY rfl ?_⟩
      refine ⟨.str "remove", rfl, .int y, rfl, sz (by show 2 ≤ _; decide), fun t nt => ?_⟩
      obtain ⟨H8, e8, s8, ht⟩ := new_tup nt [V.str "remove", .int y]
      rw [e8]
      refine q H8 k3 t (x3.trans (Same.x s8)) (st3.same s8) (by omega) (SameX.free st3 x3 nt) ⟨"remove", [y], ht, .inr ⟨rfl, rfl⟩, fun j hj => ?_⟩
      rw [List.mem_singleton.mp hj]
      exact ⟨y0, by omega⟩
-- @@ _law_bent_edit
/-- an edit's row, its arguments apart from the stream -/
def EdO (K : PySem.W.Frag) (S A : Addr) (H : Hp) (t : Addr) : Prop := ∃ (u : Str) (xs : List V), SqT K H t (.str u :: xs) ∧ EdS u xs ∧ ∀ y ∈ xs, Odd K S A H y
theorem EdO.x {K : PySem.W.Frag} {S A B : Addr} {k : Nat} {H H' : Hp} {t : Addr} (h : EdO K S A H t) (st : Strm H S A B k) (s : SameX S A H H') : EdO K S A H' t := by
  obtain ⟨u, xs, h1, h2, h3⟩ := h
  exact ⟨u, xs, SqT.kt (sx_kt st s) h1, h2, fun y hy => (h3 y hy).x s⟩
theorem EdG.odd {K : PySem.W.Frag} {S A : Addr} {H : Hp} {t : Addr} (h : EdG H t) : EdO K S A H t := by
  obtain ⟨u, is, h1, h2, h3⟩ := h
  refine ⟨u, _, .inl (.inl h1), h2, fun y hy => ?_⟩
  obtain ⟨i, hm, rfl⟩ := List.mem_map.mp hy
  exact odd_int (small_of (h3 i hm).1 (by have := (h3 i hm).2; omega))
theorem EdO.zof {K : PySem.W.Frag} {S A : Addr} {H : Hp} {t : Addr} (h : EdO K S A H t) {r : RS} {ns : List Int} (rg : Ring ns) : ∃ u xs z, SqT K H t (.str u :: xs) ∧ ZOf K H r ns u xs z := by
  obtain ⟨u, xs, h1, h2, h3⟩ := h
  obtain ⟨z, hz⟩ := zof_ed (r := r) rg h2 fun y hy => ⟨(h3 y hy).kind, (h3 y hy).data⟩
  exact ⟨u, xs, z, h1, hz⟩
/-- the row of an edit, or of undo -/
def EdZ (K : PySem.W.Frag) (S A : Addr) (H : Hp) (y : V) : Prop := ∃ t, y = .ref t ∧ (EdO K S A H t ∨ SqT K H t [.str "undo"])
theorem EdZ.x {K : PySem.W.Frag} {S A B : Addr} {k : Nat} {H H' : Hp} {y : V} (h : EdZ K S A H y) (st : Strm H S A B k) (s : SameX S A H H') : EdZ K S A H' y := by
  obtain ⟨t, rfl, h | h⟩ := h
  · exact ⟨t, rfl, .inl (h.x st s)⟩
  · exact ⟨t, rfl, .inr (SqT.kt (sx_kt st s) h)⟩
theorem EdZ.zof {K : PySem.W.Frag} {S A : Addr} {H : Hp} {y : V} (h : EdZ K S A H y) {r : RS} {ns : List Int} (rg : Ring ns) : ∃ t u xs z, y = .ref t ∧ SqT K H t (.str u :: xs) ∧ ZOf K H r ns u xs z := by
  obtain ⟨t, rfl, h | h⟩ := h
  · obtain ⟨u, xs, z, h1, h2⟩ := h.zof (r := r) rg
    exact ⟨t, u, xs, z, rfl, h1, h2⟩
  · exact ⟨t, _, [], _, rfl, h, .inl ⟨rfl, rfl⟩⟩
def spBent (K : PySem.W.Frag) : Sp := fun vs H Q _ => ∃ (S A B t : Addr) (k : Nat), vs = [.ref S, .ref t] ∧ Strm H S A B k ∧ k < 900000000 ∧ EdO K S A H t ∧
  ∀ H' k' t', SameX S A H H' → Strm H' S A B k' → k' ≤ k + 10 → EdO K S A H' t' → Q (.ref t') H'
theorem ok__law_bent_edit (T : Tx K mg) : Ok P w K mg base CX0 5 "_law_bent_edit" ["_law_stream_here", "_law_edit_here"] (spBent K) := by
  refine ok_of T.F__law_bent_edit T.g__law_bent_edit sc__law_bent_edit (fun _ _ _ _ _ _ us hl => match us, hl with | [_, _], _ => rfl) (fun vs H Q E h => ?_) (fun cdv A outer s H vs Q E hr h => ?_)
  · obtain ⟨S, A, B, t, k, rfl, _⟩ := h
    rfl
  · obtain ⟨S, A', B, t, k, rfl, st, hk, ed, q⟩ := h
    refine ⟨_, (pss_cons (ps_for PassesOwn.never rfl (pi_range1 (by rfl) T.f_range (pa_cons (pe_op op_add pe_int (cal (ok__law_draw T) (hr.mono (by decide)) pass0 (pa_cons (pv 0) (pa_cons pe_int pa_nil)))) pa_nil)) (pg_name (i := 2) sc__law_bent_edit.nd rfl (.inl rfl))
    (pss_cons (ps_set (i := 3) sc__law_bent_edit.nd rfl (.inl rfl) (pe_op op_add pe_int (cal (ok__law_draw T) (hr.mono (by decide)) pass0 (pa_cons (pv 0) (pa_cons (pe_op op_sub (pe_callB call_len_seq (by rfl) T.f_len PySem.boot_len (pa_cons (pv 1) pa_nil)) pe_int) pa_nil)))))
    (pss_one (ps_set (i := 1) sc__law_bent_edit.nd rfl (.inl rfl) (pe_op op_catA (pe_op op_catA (pe_slice sl_tupA (pv 1) po_none (po_some (pv 3))) (pe_tup (pa_cons (cal (ok__law_odd T) (hr.mono (by decide)) pass0 (pa_cons (pv 0) pa_nil)) pa_nil))) (pe_slice sl_tupA (pv 1) (po_some (pe_op op_add (pv 3) pe_int)) po_none))))))
    (pss_one (ps_ret (pv 1)))), ?_⟩
    refine ⟨.ref S, rfl, S, A', B, k, 2, rfl, st, by decide, by decide, by omega, fun H1 k1 d sx1 st1 hk1 d0 d1 => ?_⟩
    obtain ⟨m, hm, hm2⟩ : ∃ m : Nat, 1 + d = (m : Int) ∧ m ≤ 2 := ⟨(1 + d).toNat, by omega, by omega⟩
    refine ⟨_, _, rfl, rfl, 1 + d, rfl, by omega, by omega, ?_⟩
    rw [hm, Int.toNat_natCast]
    refine for_range (lo := 0) (n := m) (fun j σ H2 => ∃ y2 y3 t2 k2, σ = [some (.ref S), some (.ref t2), y2, y3] ∧ SameX S A' H H2 ∧ Strm H2 S A' B k2 ∧ k2 ≤ k1 + 3 * j ∧ EdO K S A' H2 t2) ⟨_, _, t, k1, rfl, sx1, st1, by omega, ed.x st sx1⟩ ?_ ?_
    · rintro j σ H2 hj ⟨y2, y3, t2, k2, rfl, sx2, st2, hk2, u, xs, ht2, es, hy⟩
      have hl : 1 ≤ xs.length ∧ xs.length ≤ 2 := by
        rcases es with ⟨e, _⟩ | ⟨e, _⟩ <;> omega
      have hlu : (((V.str u :: xs).length : Nat) : Int) = (xs.length : Int) + 1 := rfl
      refine ⟨.ref S, rfl, .ref t2, rfl, t2, _, rfl, .inr ht2, _, _, rfl, rfl, ?_⟩
      refine ⟨S, A', B, k2, _, rfl, st2, by omega, by omega, by omega, fun H3 k3 z sx3 st3 hk3 z0 z1 => ?_⟩
      obtain ⟨n, hn, hn2⟩ : ∃ n : Nat, 1 + z = ((n + 1 : Nat) : Int) ∧ n < xs.length := ⟨z.toNat, by omega, by omega⟩
      refine ⟨_, _, rfl, rfl, ?_⟩
      dsimp only
      rw [hn]
      have ht3 := SqT.kt (sx_kt st2 sx3) ht2
      refine ⟨.ref t2, rfl, .int ((n + 1 : Nat) : Int), rfl, ((n + 1 : Nat) : Int), rfl, slT_hi ht3 (by show n + 1 ≤ xs.length + 1; omega) fun H4 b1 s4 hb1 => ?_⟩
      have st4 := st3.same s4
      refine ⟨.ref S, rfl, S, A', B, k3, rfl, st4, by omega, fun H5 k5 v sx5 st5 hk5 ov => ⟨sz (by show 1 ≤ _; decide), fun p1 np1 => ?_⟩⟩
      obtain ⟨H6, e6, s6, hp1⟩ := new_tup np1 [v]
      rw [e6]
      have hb6 := SqT.kt ((sx_kt st4 sx5).trans s6.kt) hb1
      refine catT hb6 (.inl (.inl hp1)) (by simp only [List.length_take, List.length_cons, List.length_nil]; omega) fun H7 b3 s7 hb3 => ?_
      have k37 : KT H3 H7 := s4.kt.trans ((sx_kt st4 sx5).trans (s6.kt.trans s7.kt))
      refine ⟨.ref t2, rfl, .int ((n + 1 : Nat) : Int), rfl, ?_⟩
      refine ⟨_, _, rfl, rfl, ((n + 1 + 1 : Nat) : Int), rfl, ?_⟩
      dsimp only [tNoPart]
      refine slT_lo (p := n + 1 + 1) (SqT.kt k37 ht3) (by show n + 1 + 1 ≤ xs.length + 1; omega) fun H8 b4 s8 hb4 => ?_
      refine catT (same_seqT s8 hb3) hb4 (by simp only [List.length_append, List.length_take, List.length_drop, List.length_cons, List.length_nil]; omega) fun H9 b5 s9 hb5 => ?_
      have hb5 : SqT K H9 b5 (.str u :: (xs.take n ++ [v] ++ xs.drop (n + 1))) := hb5
      have sx39 : SameX S A' H3 H9 := (Same.x s4).trans (sx5.trans (Same.x (s6.trans (s7.trans (s8.trans s9)))))
      have s59 := s6.trans (s7.trans (s8.trans s9))
      refine ⟨_, _, b5, k5, rfl, sx2.trans (sx3.trans sx39), st5.same s59, by omega, u, _, hb5, ?_, fun y hy1 => ?_⟩
      · have el : (xs.take n ++ [v] ++ xs.drop (n + 1)).length = xs.length := by
          simp only [List.length_append, List.length_take, List.length_drop, List.length_cons, List.length_nil]
          omega
        unfold EdS
        rw [el]
        exact es
      · rcases List.mem_append.mp hy1 with h | h
        · rcases List.mem_append.mp h with h | h
          · exact (hy y (List.mem_of_mem_take h)).x (sx3.trans sx39)
          · rw [List.mem_singleton.mp h]
            exact (ov.same s59).1
        · exact (hy y (List.mem_of_mem_drop h)).x (sx3.trans sx39)
    · rintro σ H2 ⟨y2, y3, t2, k2, rfl, sx2, st2, hk2, ed2⟩
      exact ⟨_, rfl, q H2 k2 t2 sx2 st2 (by omega) ed2⟩
-- @@ _law_ran
theorem fit_seen {ns : List Int} {es : List PyData} (rg : Ring ns) (le : es.length ≤ 60) (fe : ∀ e ∈ es, Fit 50 5 e) : Fit 100000 50 (seenX ns es (ofN (bgn ns))) := by
  obtain ⟨r1, r2, r3⟩ := id rg
  have hb := begs_small (ns := ns) r2
  have i1 := fit_int 0 5 (small_nat (n := es.length) (by omega))
  have f1 := fit_rg r2 (fun x hx => ⟨(r3 x hx).1, by have := (r3 x hx).2; omega⟩)
  have f3 := fit_rg hb.1 hb.2
  have f4 : Fit (51 * es.length) 6 (.tuple es) := fit_tuple (fitAll_of fe)
  have f6 := sok_fit (sok_strR rg le)
  have l := fitAll_cons (f1.mono (Nat.le_refl _) (show 5 ≤ 10 by decide)) (fitAll_cons (i1.mono (Nat.le_refl _) (show 5 ≤ 10 by decide)) (fitAll_cons (f3.mono (Nat.le_refl _) (show 5 ≤ 10 by decide)) (fitAll_cons (f4.mono (Nat.le_refl _) (show 6 ≤ 10 by decide)) (fitAll_cons (i1.mono (Nat.le_refl _) (show 5 ≤ 10 by decide)) (fitAll_cons (f6.mono (Nat.le_refl _) (show 0 ≤ 10 by decide)) (fitAll_nil 0 10))))))
  exact (fit_list l).mono (by omega) (by decide)
/-- the law's reel at x, its lists of rings and of edits -/
theorem errK_value (K : PySem.W.Frag) {c : Str} {j : Nat} {v : V} (h : nms[j]? = some c) (n : NameE K (He.ga K c) j) (k : KindE K (He.ga K c) 0) (m : exmB K (He.ga K c) = true) (f : FldE K (He.ga K c) "value") : ErrK K c (some ("value", v)) :=
  ⟨j, 0, h, n, k, m, by decide, rfl, f⟩
theorem errK_limit (K : PySem.W.Frag) {c : Str} {j : Nat} {v : V} (h : nms[j]? = some c) (n : NameE K (He.ga K c) j) (k : KindE K (He.ga K c) 2) (m : exmB K (He.ga K c) = true) (f : FldE K (He.ga K c) "limit") : ErrK K c (some ("limit", v)) :=
  ⟨j, 2, h, n, k, m, by decide, rfl, f⟩
theorem errK_none (K : PySem.W.Frag) {c : Str} {j : Nat} (h : nms[j]? = some c) (n : NameE K (He.ga K c) j) (k : KindE K (He.ga K c) 5) (m : exmB K (He.ga K c) = true) : ErrK K c none :=
  ⟨j, 5, h, n, k, m, by decide, rfl⟩
theorem errK_ed (T : Tx K mg) {ns : List Int} {u : Str} {xs : List V} {c : Str} {f : Option (Str × V)} (h : edA ns u xs = some (.bad c f)) : ErrK K c f := by
  rcases edA_bad h with ⟨rfl, y, _, rfl⟩ | ⟨rfl, y, _, rfl⟩ | ⟨rfl, rfl⟩ | ⟨rfl, rfl⟩
  · exact errK_value K (j := 13) rfl T.nm_NoPlace T.kd_NoPlace T.xm_NoPlace T.fl_NoPlace
  · exact errK_value K (j := 6) rfl T.nm_NoArity T.kd_NoArity T.xm_NoArity T.fl_NoArity
  · exact errK_limit K (j := 11) rfl T.nm_TooLong T.kd_TooLong T.xm_TooLong T.fl_TooLong
  · exact errK_none K (j := 5) rfl T.nm_LastToken T.kd_LastToken T.xm_LastToken
theorem zof_err (T : Tx K mg) {H : Hp} {r : RS} {ns : List Int} {u : Str} {xs : List V} {z : Rz} (h : ZOf K H r ns u xs z) : ∀ c f, z = .bad c f → ErrK K c f := by
  intro c f e
  rcases h with ⟨_, rfl⟩ | ⟨o, ds, _, _, _, ho, rfl⟩
  · unfold undoR at e
    split at e
    · cases e
      exact errK_none K (j := 9) rfl T.nm_NothingToUndo T.kd_NothingToUndo T.xm_NothingToUndo
    · cases e
  · rcases doR_bad e with ⟨rfl, rfl⟩ | rfl
    · exact errK_none K (j := 12) rfl T.nm_TooManyEdits T.kd_TooManyEdits T.xm_TooManyEdits
    · exact errK_ed T ho
/-- the reel behind a call -/
def EdN (e : Str × List V) : Prop := EdS e.1 e.2 ∧ ∃ is : List Int, e.2 = is.map V.int ∧ ∀ i ∈ is, 0 ≤ i ∧ i ≤ 100
theorem EdN.ed {e : Str × List V} (h : EdN e) : ∃ is : List Int, e.2 = is.map V.int ∧ edD e = .tuple (.str e.1 :: is.map PyData.int) ∧ Fit 50 5 (edD e) := by
  obtain ⟨hs, is, he, hb⟩ := h
  have : edD e = .tuple (.str e.1 :: is.map PyData.int) := by
    have := edD_ints e.1 is
    rw [← he] at this
    exact this
  refine ⟨is, he, this, ?_⟩
  rw [this]
  rw [he] at hs
  exact hs.fit hb
/-- the rings behind the edits L -/
inductive Hi (n0 : List Int) : List (Str × List V) → List (List Int) → Prop
  | nil : Hi n0 [] [n0]
  | snoc {L R ms e} : Hi n0 L R → EdN e → edA (R.getLastD []) e.1 e.2 = some (.ok ms) → L.length < 60 → Hi n0 (L ++ [e]) (R ++ [ms])
theorem Hi.inv {n0 : List Int} {L : List (Str × List V)} {e : Str × List V} {R : List (List Int)} (h : Hi n0 (L ++ [e]) R) : ∃ R1 ms, R = R1 ++ [ms] ∧ Hi n0 L R1 ∧ EdN e ∧ edA (R1.getLastD []) e.1 e.2 = some (.ok ms) ∧ L.length < 60 := by
  generalize hM : L ++ [e] = M at h
  cases h with
  | nil => simp at hM
  | @snoc L2 R2 ms e2 h1 h2 h3 h4 =>
    obtain ⟨rfl, h5⟩ := List.append_inj' hM rfl
    cases h5
    exact ⟨R2, ms, rfl, h1, h2, h3, h4⟩
theorem Hi.inv0 {n0 : List Int} {R : List (List Int)} (h : Hi n0 [] R) : R = [n0] := by
  generalize hM : ([] : List (Str × List V)) = M at h
  cases h with
  | nil => rfl
  | snoc => simp at hM
theorem snoc_cases {α : Type} (l : List α) : l = [] ∨ ∃ a b, l = a ++ [b] := by
  rcases List.eq_nil_or_concat l with h | ⟨a, b, h⟩
  · exact .inl h
  · exact .inr ⟨a, b, by rw [h, List.concat_eq_append]⟩
theorem Hi.uniq {n0 : List Int} {L : List (Str × List V)} {R : List (List Int)} (h : Hi n0 L R) : ∀ {R2}, Hi n0 L R2 → R = R2 := by
  induction h with
  | nil => intro R2 h2; exact h2.inv0.symm
  | @snoc L R ms e _ _ h3 _ ih =>
    intro R2 h2
    obtain ⟨R1, m1, rfl, a, _, b, _⟩ := h2.inv
    have := ih a
    subst this
    rw [h3] at b
    cases b
    rfl
theorem Hi.pre {n0 : List Int} {L : List (Str × List V)} : ∀ (n : Nat) (M : List (Str × List V)), M.length = n → ∀ {R}, Hi n0 (L ++ M) R → ∃ R2, Hi n0 L R2
  | 0, M, hn, R, h => by
    rw [List.length_eq_zero_iff.mp hn, List.append_nil] at h
    exact ⟨R, h⟩
  | n + 1, M, hn, R, h => by
    rcases snoc_cases M with rfl | ⟨a, b, rfl⟩
    · cases hn
    · rw [← List.append_assoc] at h
      obtain ⟨R1, _, _, h1, _⟩ := h.inv
      rw [List.length_append] at hn
      exact Hi.pre n a (Nat.succ.inj hn) h1
theorem Hi.len {n0 : List Int} {L : List (Str × List V)} {R : List (List Int)} (h : Hi n0 L R) : R.length = L.length + 1 ∧ L.length ≤ 60 ∧ R.head? = some n0 ∧ (∀ e ∈ L, EdN e) := by
  induction h with
  | nil => exact ⟨rfl, Nat.zero_le _, rfl, fun _ z => nomatch z⟩
  | @snoc L R ms e _ he _ hl ih =>
    obtain ⟨i1, i2, i3, i4⟩ := ih
    refine ⟨by rw [List.length_append, List.length_append, i1]; rfl, by rw [List.length_append]; show L.length + 1 ≤ 60; omega, ?_, ?_⟩
    · rw [List.head?_append, i3]; rfl
    · intro x hx
      rcases List.mem_append.mp hx with z | z
      · exact i4 x z
      · rw [List.mem_singleton.mp z]; exact he
theorem getLastD_snoc {α : Type} (l : List α) (a d : α) : (l ++ [a]).getLastD d = a := by simp
theorem Hi.rg {n0 : List Int} {L : List (Str × List V)} {R : List (List Int)} (r0 : Ring n0) (h : Hi n0 L R) : (∀ ns ∈ R, Ring ns) ∧ Ring (R.getLastD []) := by
  induction h with
  | nil => exact ⟨fun x hx => (by rw [List.mem_singleton.mp hx]; exact r0), r0⟩
  | @snoc L R ms e _ _ ho _ ih =>
    have rm := edA_ring ih.2 ho
    refine ⟨fun x hx => ?_, by rw [getLastD_snoc]; exact rm⟩
    rcases List.mem_append.mp hx with z | z
    · exact ih.1 x z
    · rw [List.mem_singleton.mp z]; exact rm
/-- a reel of the ring n0 with the edits L in effect -/
structure SH (n0 : List Int) (L : List (Str × List V)) (r : RS) : Prop where
  h : Hi n0 L r.rs
  es : r.es = L.map edD
  ss : r.ss = ofN (bgn (lastR r))
  b : r.b = false
theorem sh_new (n0 : List Int) : SH n0 [] ⟨[n0], [], ofN (bgn n0), none, false⟩ := ⟨.nil, rfl, rfl, rfl⟩
theorem SH.esl {n0 : List Int} {L : List (Str × List V)} {r : RS} (s : SH n0 L r) : r.es.length = L.length := by rw [s.es, List.length_map]
theorem SH.ok {n0 : List Int} {L : List (Str × List V)} {r : RS} (r0 : Ring n0) (s : SH n0 L r) : RsOk r := by
  obtain ⟨h1, h2, _⟩ := s.h.len
  exact ⟨by rw [h1, s.esl], (s.h.rg r0).1, by rw [s.esl]; exact h2⟩
theorem SH.last {n0 : List Int} {L : List (Str × List V)} {r : RS} (s : SH n0 L r) : r.rs.getLast? = some (lastR r) := by
  obtain ⟨h1, _⟩ := s.h.len
  unfold lastR
  rcases snoc_cases r.rs with e | ⟨a, b, e⟩
  · rw [e] at h1; cases h1
  · rw [e, getLast?_snoc, getLastD_snoc]
theorem SH.rg {n0 : List Int} {L : List (Str × List V)} {r : RS} (r0 : Ring n0) (s : SH n0 L r) : Ring (lastR r) := (s.h.rg r0).2
theorem SH.fe {n0 : List Int} {L : List (Str × List V)} {r : RS} (s : SH n0 L r) : ∀ e ∈ r.es, Fit 50 5 e := by
  intro e he
  rw [s.es] at he
  obtain ⟨x, hx, rfl⟩ := List.mem_map.mp he
  obtain ⟨_, _, _, f⟩ := (s.h.len.2.2.2 x hx).ed
  exact f
theorem SH.seen {n0 : List Int} {L : List (Str × List V)} {r : RS} (r0 : Ring n0) (s : SH n0 L r) : Fit 100000 50 (seenD r (lastR r)) := by
  show Fit 100000 50 (seenX (lastR r) r.es r.ss)
  rw [s.ss]
  exact fit_seen (s.rg r0) (s.ok r0).le s.fe
theorem SH.eqs {n0 : List Int} {L : List (Str × List V)} {r r2 : RS} (s : SH n0 L r) (t : SH n0 L r2) : r.rs = r2.rs ∧ r.es = r2.es ∧ r.ss = r2.ss := by
  have e := s.h.uniq t.h
  refine ⟨e, by rw [s.es, t.es], ?_⟩
  rw [s.ss, t.ss]
  unfold lastR
  rw [e]
theorem SH.add {n0 : List Int} {L : List (Str × List V)} {r : RS} {e : Str × List V} {ms : List Int} (s : SH n0 L r) (he : EdN e) (ho : edA (lastR r) e.1 e.2 = some (.ok ms)) (c : ¬ 60 ≤ r.es.length) : SH n0 (L ++ [e]) ⟨r.rs ++ [ms], r.es ++ [edD e], ofN (bgn ms), none, r.b⟩ := by
  refine ⟨.snoc s.h he ho (by rw [← s.esl]; omega), by rw [s.es, List.map_append]; rfl, ?_, s.b⟩
  show ofN (bgn ms) = ofN (bgn ((r.rs ++ [ms]).getLastD []))
  rw [getLastD_snoc]
theorem SH.undo {n0 : List Int} {L : List (Str × List V)} {r : RS} {e : Str × List V} (s : SH n0 (L ++ [e]) r) : ∃ r2, undoR r = .ok r2 ∧ SH n0 L r2 := by
  obtain ⟨R1, ms, e1, h1, _⟩ := s.h.inv
  have hl := s.esl
  rw [List.length_append] at hl
  refine ⟨_, if_neg (by rw [hl]; show ¬ L.length + 1 = 0; omega), ?_, ?_, ?_, s.b⟩
  · show Hi n0 L r.rs.dropLast
    rw [e1, List.dropLast_concat]
    exact h1
  · show r.es.dropLast = _
    rw [s.es, List.map_append]
    exact List.dropLast_concat
  · rfl
theorem dt_int {K : PySem.W.Frag} {H : Hp} {i : Int} {d : PyData} (h : Dt K H (.int i) d) : d = .int i := by
  cases h; rfl
theorem dtAll_ints_to {K : PySem.W.Frag} {H : Hp} : ∀ {is : List Int} {ds : List PyData}, DtAll K H (is.map V.int) ds → ds = is.map PyData.int
  | [], _, .nil => rfl
  | _ :: _, _, .cons a b => by rw [dt_int a, dtAll_ints_to b]; rfl
/-- a call of an editing method, or undo -/
theorem SH.did {K : PySem.W.Frag} {H : Hp} {n0 : List Int} {L : List (Str × List V)} {r : RS} {u : Str} {xs : List V} {z : Rz} (r0 : Ring n0) (s : SH n0 L r) (h : ZOf K H r (lastR r) u xs z) (hu : u = "undo" ∨ EdS u xs) : ∃ L2, SH n0 L2 (resOf z r) := by
  rcases h with ⟨_, rfl⟩ | ⟨o, ds, hw, hd, _, ho, rfl⟩
  · rcases snoc_cases L with rfl | ⟨a, b, rfl⟩
    · refine ⟨[], ?_⟩
      unfold undoR
      rw [if_pos (show r.es.length = 0 from s.esl)]
      exact s
    · obtain ⟨r2, e, s2⟩ := s.undo
      rw [e]
      exact ⟨a, s2⟩
  · cases hz : doR r o (.tuple (.str u :: ds)) with
    | bad c f => exact ⟨L, s⟩
    | ok r2 =>
      obtain ⟨c, ms, rfl, rfl⟩ := doR_ok hz
      obtain ⟨is, rfl, _, hb⟩ := edA_ints (s.rg r0).2.1 ho
      have e1 := dtAll_ints_to (hd ms rfl).1
      subst e1
      have he : EdN (u, is.map V.int) := by
        refine ⟨?_, is, rfl, hb⟩
        rcases hu with rfl | h
        · rcases hw with h | h | h <;> cases h
        · exact h
      refine ⟨L ++ [(u, is.map V.int)], ?_⟩
      have := s.add he ho c
      rw [edD_ints] at this
      exact this
/-- a batch that is done -/
theorem SH.run {n0 : List Int} : ∀ (M : List (Str × List V)) (k : Nat) {L : List (Str × List V)} {r r2 : RS}, SH n0 L r → (∀ e ∈ M, EdN e) → runL k r M = .inr r2 → SH n0 (L ++ M) r2
  | [], k, L, r, r2, s, _, h => by
    cases h
    rw [List.append_nil]
    exact s
  | e :: es, k, L, r, r2, s, hM, h => by
    unfold runL at h
    have he := hM e List.mem_cons_self
    cases hz : stepZ r e with
    | none => rw [hz] at h; cases h
    | some z =>
      rw [hz] at h
      cases z with
      | bad c f => cases h
      | ok r3 =>
        unfold stepZ at hz
        obtain ⟨o, ho, h3⟩ := Option.map_eq_some_iff.mp hz
        obtain ⟨c, ms, rfl, rfl⟩ := doR_ok h3
        have s3 := s.add he ho c
        have := SH.run es (k + 1) s3 (fun x hx => hM x (List.mem_cons_of_mem _ hx)) h
        rw [List.append_assoc] at this
        exact this
theorem SH.step {n0 : List Int} {L : List (Str × List V)} {r : RS} {e : Str × List V} {R : List (List Int)} (s : SH n0 L r) (h : Hi n0 (L ++ [e]) R) : ∃ ms r2, edA (lastR r) e.1 e.2 = some (.ok ms) ∧ doR r (.ok ms) (edD e) = .ok r2 ∧ SH n0 (L ++ [e]) r2 := by
  obtain ⟨R1, ms, _, h1, he, ho, hl⟩ := h.inv
  have e1 := s.h.uniq h1
  have ho2 : edA (lastR r) e.1 e.2 = some (.ok ms) := by
    unfold lastR
    rw [e1]
    exact ho
  have c : ¬ 60 ≤ r.es.length := by rw [s.esl]; omega
  refine ⟨ms, _, ho2, ?_, s.add he ho2 c⟩
  unfold doR
  rw [if_neg c]
theorem SH.redo {n0 : List Int} : ∀ (M : List (Str × List V)) (k : Nat) {L : List (Str × List V)} {r : RS} {R : List (List Int)}, SH n0 L r → Hi n0 (L ++ M) R → ∃ r2, runL k r M = .inr r2 ∧ SH n0 (L ++ M) r2
  | [], k, L, r, R, s, h => ⟨r, rfl, by rw [List.append_nil]; exact s⟩
  | e :: es, k, L, r, R, s, h => by
    have h2 : Hi n0 ((L ++ [e]) ++ es) R := by rw [List.append_assoc]; exact h
    obtain ⟨R2, h3⟩ := Hi.pre _ es rfl h2
    obtain ⟨ms, r2, ho, hd, s2⟩ := s.step h3
    obtain ⟨r3, e3, s3⟩ := SH.redo es (k + 1) s2 h2
    refine ⟨r3, ?_, by rw [List.append_assoc] at s3; exact s3⟩
    unfold runL
    have : stepZ r e = some (.ok r2) := by
      unfold stepZ
      rw [ho]
      show some (doR r (.ok ms) (edD e)) = _
      rw [hd]
    rw [this]
    exact e3
theorem bz_id {r : RS} (h : r.b = false) : bz r false = r := by
  cases r
  cases h
  rfl
theorem stepZ_bz (r : RS) (b : Bool) (e : Str × List V) : stepZ (bz r b) e = (stepZ r e).map fun z => match z with
    | .ok r2 => .ok (bz r2 b)
    | .bad c f => .bad c f := by
  unfold stepZ
  show (edA (lastR r) e.1 e.2).map (fun o => doR (bz r b) o (edD e)) = _
  rw [Option.map_map]
  congr 1
  funext o
  show doR (bz r b) o (edD e) = match doR r o (edD e) with
    | .ok r2 => .ok (bz r2 b)
    | .bad c f => .bad c f
  unfold doR
  show (if 60 ≤ r.es.length then _ else _) = _
  by_cases c : 60 ≤ r.es.length
  · rw [if_pos c, if_pos c]
  · rw [if_neg c, if_neg c]
    cases o <;> rfl
theorem runL_bz (b : Bool) : ∀ (L : List (Str × List V)) (k : Nat) (r : RS), runL k (bz r b) L = match runL k r L with
    | .inl i => .inl i
    | .inr r2 => .inr (bz r2 b)
  | [], k, r => rfl
  | e :: es, k, r => by
    unfold runL
    rw [stepZ_bz]
    cases h : stepZ r e with
    | none => rfl
    | some z =>
      cases z with
      | bad c f => rfl
      | ok r2 => exact runL_bz b es (k + 1) r2
theorem step_b {r r2 : RS} {e : Str × List V} (h : stepZ r e = some (.ok r2)) : r2.b = r.b := by
  unfold stepZ at h
  obtain ⟨o, _, h2⟩ := Option.map_eq_some_iff.mp h
  obtain ⟨_, ms, _, rfl⟩ := doR_ok h2
  rfl
theorem runL_b : ∀ (L : List (Str × List V)) (k : Nat) (r r2 : RS), runL k r L = .inr r2 → r2.b = r.b
  | [], k, r, r2, h => by cases h; rfl
  | e :: es, k, r, r2, h => by
    unfold runL at h
    cases hz : stepZ r e with
    | none => rw [hz] at h; cases h
    | some z =>
      rw [hz] at h
      cases z with
      | bad c f => cases h
      | ok r3 => rw [runL_b es (k + 1) r3 r2 h, step_b hz]
/-- what a batch does -/
def ranZ (r : RS) : BK → Rz
  | .notb => .bad "BadEdits" none
  | .bad i => .bad "BadEdit" (some ("index", .int (i : Nat)))
  | .ok L => match runL 0 r L with
    | .inl i => .bad "Rejected" (some ("index", .int (i : Nat)))
    | .inr r2 => .ok r2
theorem ranZ_ok (r : RS) (L : List (Str × List V)) : ranZ r (.ok L) = match runL 0 r L with
    | .inl i => .bad "Rejected" (some ("index", .int (i : Nat)))
    | .inr r2 => .ok r2 := rfl
theorem run_to {K : PySem.W.Frag} {H : Hp} {x : Addr} {r : RS} {k : BK} {Q : VK} {E : XK} (hb : r.b = false) (hR : RO K H x (CR K) r)
    (q1 : ∀ r2, ranZ r k = .ok r2 → ∀ H', KX x H H' → RO K H' x (CR K) r2 → Q (.int (r2.es.length : Nat)) H')
    (q2 : ∀ c f, ranZ r k = .bad c f → ∀ H' d, KX x H H' → RO K H' x (CR K) r → FldAt H' d f → E (.ref (He.ga K c)) d H') : RunTo K H x r k Q E := by
  refine ⟨fun h => (by rw [hb] at h; cases h), fun _ => ?_⟩
  cases k with
  | notb => exact fun H' s => q2 _ _ rfl H' none (s.kx x) (hR.same s) rfl
  | bad i => exact fun H' d s hd => q2 _ _ rfl H' (some d) (s.kx x) (hR.same s) ⟨d, rfl, hd⟩
  | ok L =>
    show (match runL 0 (bz r true) L with
      | .inl i => ∀ H' d, KX x H H' → RO K H' x (CR K) r → H' d = some (.xd [("index", .int (i : Nat))]) → E (.ref (He.ga K "Rejected")) (some d) H'
      | .inr r2 => ∀ H', KX x H H' → RO K H' x (CR K) (bz r2 false) → Q (.int (r2.es.length : Nat)) H')
    rw [runL_bz]
    cases h : runL 0 r L with
    | inl i => exact fun H' d k1 hR1 hd => q2 "Rejected" (some ("index", .int (i : Nat))) (by rw [ranZ_ok, h]) H' (some d) k1 hR1 ⟨d, rfl, hd⟩
    | inr r2 =>
      intro H' k1 hR1
      have hb2 : r2.b = false := (runL_b L 0 r r2 h).trans hb
      have e : bz (bz r2 true) false = r2 := bz_id hb2
      rw [e] at hR1
      exact q1 r2 (by rw [ranZ_ok, h]) H' k1 hR1
theorem ranZ_err (T : Tx K mg) {r : RS} {k : BK} : ∀ c f, ranZ r k = .bad c f → ErrK K c f := by
  intro c f h
  have fl : ∀ {c : Str} {j : Nat} {v : V}, nms[j]? = some c → NameE K (He.ga K c) j → KindE K (He.ga K c) 1 → exmB K (He.ga K c) = true → FldE K (He.ga K c) "index" → ErrK K c (some ("index", v)) := fun h n k m f => ⟨_, 1, h, n, k, m, by decide, rfl, f⟩
  cases k with
  | notb =>
    cases h
    exact errK_none K (j := 1) rfl T.nm_BadEdits T.kd_BadEdits T.xm_BadEdits
  | bad i =>
    cases h
    exact fl (j := 0) rfl T.nm_BadEdit T.kd_BadEdit T.xm_BadEdit T.fl_BadEdit
  | ok L =>
    rw [ranZ_ok] at h
    cases hr : runL 0 r L with
    | inl i =>
      rw [hr] at h
      cases h
      exact fl (j := 10) rfl T.nm_Rejected T.kd_Rejected T.xm_Rejected T.fl_Rejected
    | inr r2 => rw [hr] at h; cases h
def spRan (K : PySem.W.Frag) : Sp := fun vs H Q _ => ∃ (x : Addr) (r : RS) (v : V) (k : BK), vs = [.ref x, v] ∧ RO K H x (CR K) r ∧ RsOk r ∧ r.b = false ∧ BatK K H v k ∧
  ∀ H' l, KX x H H' → RO K H' x (CR K) (resOf (ranZ r k) r) → H l = none → l ≠ sysModules → H' l = some (.lst (told (ranZ r k))) → Q (.ref l) H'
theorem ok__law_ran (T : Tx K mg) : Ok P w K mg base CX0 24 "_law_ran" ["_law_reel", "_law_edits"] (spRan K) := by
  refine ok_of T.F__law_ran T.g__law_ran sc__law_ran (fun _ _ _ _ _ _ us hl => match us, hl with | [_, _], _ => rfl) (fun vs H Q E h => ?_) (fun cdv A outer s H vs Q E hr h => ?_)
  · obtain ⟨x, r, v, k, rfl, _⟩ := h
    rfl
  · obtain ⟨x, r, v, k, rfl, hR, ok, hb, hk, q⟩ := h
    obtain ⟨fd1, F1, hb1⟩ := kb_run1 T
    obtain ⟨fd0, mv0, F0, hb0⟩ := kb_run0 T
    refine ⟨_, (pss_one (ps_try_as2 (i := 2) (Wout := fun _ _ _ _ => False) rfl rfl sc__law_ran.nd rfl rfl ⟨rfl, by decide, Or.inl T.g_RingError⟩ ⟨rfl, by decide, Or.inl T.g_NoPlace⟩ takes0
      (fun W pn xe tk _ => (pss_one (ps_ret (pe_lst' (pa_cons pe_str (pa_cons (calMN (fn_Reel_run T F0) hb0 (hr.mono (by decide)) (fun σ => passAt tk σ) T.c_Reel T.m_Reel_run (pv 0) (pa_cons (pv 1) pa_nil) pk_nil) pa_nil))))))
      (fun a oe cls d pn hz hf => (pss_one (ps_ret (pe_lst' (pa_cons (calE (ok__law_name T) ⟨(hr.mono (j := 1) (by decide)).dp, (hr.mono (j := 1) (by decide)).un⟩ pass0 hz hf List.mem_cons_self (pa_cons (pv 2) pa_nil)) (pa_cons (calE (ok__law_field T) ⟨(hr.mono (j := 1) (by decide)).dp, (hr.mono (j := 1) (by decide)).un⟩ pass0 hz hf List.mem_cons_self (pa_cons (pv 2) pa_nil)) pa_nil)))))))), ?_⟩
    obtain ⟨dx, vr, vd, v1, hx, dr, dd, d1⟩ := id hR
    have fin := q
    refine ⟨.ref x, rfl, x, dx, _, rfl, hx, rfl, v, rfl, rfl, rfl, x, r, v, k, rfl, hR, ok, fun _ => hk, ?_⟩
    refine run_to hb hR (fun r2 hz H1 k1 hR1 => ?_) (fun c f hz H1 d k1 hR1 hd => ?_)
    · refine ⟨sz (by show 2 ≤ _; decide), fun l nl ml => ?_⟩
      obtain ⟨H2, e2, s2, hl⟩ := new_lst nl [V.str "ok", .int ((r2.es.length : Nat) : Int)]
      rw [e2]
      obtain ⟨_, _, _, _, hx1, _⟩ := id hR1
      exact fin H2 l (k1.trans (s2.kx x)) (by rw [hz]; exact hR1.same s2) (k1.free hx1 nl) ml (by rw [hz]; exact hl)
    · obtain ⟨j, k0, hj, nm, kd, xm, hk0, hf⟩ := ranZ_err T c f hz
      refine ⟨true, of_decide_eq_true xm, fun _ a na => ?_, fun z => nomatch z⟩
      have hh : HasD H1 d := by
        cases f with
        | none => exact .inl hd
        | some p =>
          obtain ⟨dd, e1, e2⟩ := hd
          exact .inr ⟨dd, _, e1, e2⟩
      refine ⟨.ref a, rfl, _, j, rfl, rfl, hh, nm, fun H2 u s2 hu => ?_⟩
      have eu : u = c := Option.some.inj (hu.symm.trans hj)
      subst eu
      have hf2 : FldOf K H2 (He.ga K u) d k0 (fV f) := by
        cases f with
        | none => exact .inl ⟨hf, rfl⟩
        | some p =>
          obtain ⟨dd, e1, e2⟩ := hd
          exact .inr ⟨dd, _, hf.1, e1, s2 _ _ e2, hf.2⟩
      refine ⟨.ref a, rfl, _, k0, _, rfl, rfl, hh.same s2, kd, hk0, hf2, fun H3 s3 => ?_⟩
      refine ⟨sz (by show 2 ≤ _; decide), fun l nl ml => ?_⟩
      obtain ⟨H4, e4, s4, hl⟩ := new_lst nl [V.str u, fV f]
      rw [e4]
      have s24 := s2.trans (s3.trans s4)
      obtain ⟨_, _, _, _, hx1, _⟩ := id hR1
      refine fin H4 l (k1.trans (s24.kx x)) (by rw [hz]; exact hR1.same s24) ?_ ml (by rw [hz]; exact hl)
      exact k1.free hx1 ((s2.trans s3).free nl)
-- @@ _law_batch
def spBatch (K : PySem.W.Frag) : Sp := fun vs H Q _ => ∃ (S A B a : Addr) (k m : Nat) (ns : List Int), vs = [.ref S, .ref a, .int (m : Int)] ∧ Strm H S A B k ∧ k < 800000000 ∧ m ≤ 7 ∧ TupI K H a ns ∧ Ring ns ∧
  ∀ H' k' l xs, SameX S A H H' → Strm H' S A B k' → k' ≤ k + 10 * m → H l = none → (l ≠ S ∧ l ≠ A ∧ l ≠ B) → l ≠ sysModules → H' l = some (.lst xs) → xs.length = m → (∀ y ∈ xs, EdY H' y) → Q (.ref l) H'
theorem ok__law_batch (T : Tx K mg) : Ok P w K mg base CX0 7 "_law_batch" ["_law_stream_here", "_law_ring_here", "_law_many"] (spBatch K) := by
  refine ok_of T.F__law_batch T.g__law_batch sc__law_batch (fun _ _ _ _ _ _ us hl => match us, hl with | [_, _, _], _ => rfl) (fun vs H Q E h => ?_) (fun cdv A outer s H vs Q E hr h => ?_)
  · obtain ⟨S, A, B, a, k, m, ns, rfl, _⟩ := h
    rfl
  · obtain ⟨S, A', B, a, k, m, ns, rfl, st, hk, hm, hT, rg, q⟩ := h
    refine ⟨_, (pss_cons (ps_set (i := 3) sc__law_batch.nd rfl (.inl rfl) (pe_lst' pa_nil))
    (pss_cons (ps_for PassesOwn.never rfl (pi_range1 (by rfl) T.f_range (pa_cons (pv 2) pa_nil)) (pg_name (i := 4) sc__law_batch.nd rfl (.inl rfl))
    (pss_cons (ps_expr (pe_bm PySem.F.plainAttrs_list PySem.F.slot_list_append PySem.F.type_list_append mt_append (pv 3) (pa_cons (cal (ok__law_edit T) (hr.mono (by decide)) pass0 (pa_cons (pv 0) (pa_cons (pv 1) pa_nil))) pa_nil)))
    (pss_cons (ps_set (i := 5) sc__law_batch.nd rfl (.inl rfl) (cal (ok__law_due T) (hr.mono (by decide)) pass0 (pa_cons (pv 1) (pa_cons (pe_ix ix_list (pv 3) (pe_un un_neg pe_int) (fun _ _ => rfl)) pa_nil))))
    (pss_one (ps_set (i := 1) sc__law_batch.nd rfl (.inl rfl) (pe_ifExp (pt_cmpR op_eq (pe_ix ix_list (pv 5) pe_int (fun _ _ => rfl)) pe_str (nomark _)) (pe_ix ix_list (pv 5) pe_int (fun _ _ => rfl)) (pv 1)))))))
    (pss_one (ps_ret (pv 3))))), ?_⟩
    refine ⟨sz (by show 0 ≤ _; decide), fun l nl ml => ?_⟩
    obtain ⟨H1, e1, s1, hl1⟩ := new_lst nl []
    rw [e1]
    have at0 : ∀ {v : V} {vs : List V}, atI (v :: vs) 0 = some v := fun {v vs} => atI_nat (j := 0) rfl
    have at1 : ∀ {v y : V} {vs : List V}, atI (v :: y :: vs) 1 = some y := fun {v y vs} => atI_nat (j := 1) rfl
    obtain ⟨m1, m2, m3⟩ := st.ne nl
    refine ⟨_, rfl, (m : Int), rfl, by omega, by omega, ?_⟩
    rw [Int.toNat_natCast]
    refine for_range (lo := 0) (n := m) (fun j σ H2 => ∃ y4 y5 a2 ns2 k2 xs, σ = [some (.ref S), some (.ref a2), some (.int (m : Int)), some (.ref l), y4, y5] ∧ SameX S A' H H2 ∧ Strm H2 S A' B k2 ∧ k2 ≤ k + 10 * j ∧ TupI K H2 a2 ns2 ∧ Ring ns2 ∧ H2 l = some (.lst xs) ∧ xs.length = j ∧ ∀ y ∈ xs, EdY H2 y) ⟨_, _, a, ns, k, [], rfl, Same.x s1, st.same s1, by omega, same_seqT s1 hT, rg, hl1, rfl, fun y hy => (nomatch hy)⟩ ?_ ?_
    · rintro j σ H2 hj ⟨y4, y5, a2, ns2, k2, xs, rfl, sx2, st2, hk2, hT2, rg2, hl2, hlx, hy⟩
      refine ⟨.ref l, rfl, .inl ⟨rfl, _, lstI_of hl2⟩, .ref S, rfl, .ref a2, rfl, S, A', B, a2, k2, ns2, rfl, st2, by omega, hT2, rg2, fun H3 k3 te sx3 st3 hk3 nte eg => ?_⟩
      have hl3 := sx3 _ _ hl2 m1 m2
      refine ⟨l, _, _, rfl, rfl, hl3, szl (by omega), ?_⟩
      have nH2l : ∀ b u, H2 b = some u → b ≠ l → H3 b = H3 b := fun _ _ _ _ => rfl
      obtain ⟨H4, e4, k4, hl4⟩ := new_put (H := H3) (l := l) (xs ++ [V.ref te])
      rw [e4]
      have kt34 := k4.kt_lst hl3
      have kt23 := sx_kt st2 sx3
      have sx24 : SameX S A' H H4 := fun b u e n1 n2 => k4 b u (fun z => by rw [z, nl] at e; cases e) (sx3 b u (sx2 b u e n1 n2) n1 n2)
      have st4 : Strm H4 S A' B k3 := by
        rw [← e4]
        exact st3.upd m1.symm m2.symm m3.symm
      have hT4 : TupI K H4 a2 ns2 := SqT.kt (kt23.trans kt34) hT2
      have eg4 : EdY H4 (.ref te) := ⟨te, rfl, eg.kt kt34⟩
      have hy4 : ∀ y ∈ xs ++ [V.ref te], EdY H4 y := fun y h => by
        rcases List.mem_append.mp h with h | h
        · exact (hy y h).kt (kt23.trans kt34)
        · rw [List.mem_singleton.mp h]
          exact eg4
      obtain ⟨te', e', u, is, hte, es, hi⟩ := id eg4
      cases e'
      obtain ⟨o, ho⟩ := es.ed ns2
      refine ⟨.ref a2, rfl, .ref l, rfl, _, rfl, l, _, _, _, rfl, rfl, lstI_of hl4, atI_last _ _, ?_⟩
      refine ⟨a2, te, ns2, u, is.map V.int, o, rfl, hT4, rg2, .inl (.inl hte), fun y hy => ?_, ho, ?_⟩
      · obtain ⟨i, _, rfl⟩ := List.mem_map.mp hy
        exact .int i
      cases o with
      | bad c f =>
        intro H5 d s5 nd md hd
        refine ⟨.ref d, rfl, d, _, _, _, rfl, rfl, lstI_of hd, at0, rfl, _, rfl, ?_⟩
        refine iteN (by rcases edA_bad ho with ⟨rfl, _⟩ | ⟨rfl, _⟩ | ⟨rfl, _⟩ | ⟨rfl, _⟩ <;> rfl) ?_
        exact ⟨_, rfl, _, _, a2, ns2, k3, _, rfl, sx24.trans (Same.x s5), st4.same s5, by omega, same_seqT s5 hT4, rg2, s5 _ _ hl4, by rw [List.length_append, hlx]; rfl, fun y h => (hy4 y h).kt s5.kt⟩
      | ok ms =>
        intro H5 d m5 s5 nd hd hm5
        refine ⟨.ref d, rfl, d, _, _, _, rfl, rfl, lstI_of hd, at0, rfl, _, rfl, ?_⟩
        refine iteY rfl ?_
        refine ⟨.ref d, rfl, d, _, _, _, rfl, rfl, lstI_of hd, at1, ?_⟩
        exact ⟨_, _, m5, ms, k3, _, rfl, sx24.trans (Same.x s5), st4.same s5, by omega, hm5, edA_ring rg2 ho, s5 _ _ hl4, by rw [List.length_append, hlx]; rfl, fun y h => (hy4 y h).kt s5.kt⟩
    · rintro σ H2 ⟨y4, y5, a2, ns2, k2, xs, rfl, sx2, st2, hk2, hT2, rg2, hl2, hlx, hy⟩
      exact ⟨_, rfl, q H2 k2 l xs sx2 st2 hk2 nl ⟨m1, m2, m3⟩ ml hl2 hlx hy⟩
-- @@ _law_all
def prD (d : PyData × Nat) : PyData := .tuple [.int (d.2 : Nat), d.1]
def wkD (rs : List (List Int)) : List PyData := (rs.map rgD).zipIdx.map prD
theorem fit_wk {rs : List (List Int)} (hr : ∀ ns ∈ rs, Ring ns) (hn : rs.length ≤ 100) : Fit 100000 50 (.list (wkD rs)) := by
  have h : ∀ (l : List (PyData × Nat)), (∀ x ∈ l, Fit 24 5 x.1 ∧ x.2 ≤ 1000) → FitAll (60 * l.length) 10 (l.map prD) := by
    intro l
    induction l with
    | nil => intro _; exact fitAll_nil _ _
    | cons x l ih =>
      intro hx
      have f1 := fit_int 0 5 (small_nat (n := x.2) (hx x List.mem_cons_self).2)
      have f2 := (hx x List.mem_cons_self).1
      have fp := fit_tuple (fitAll_cons (f1.mono (Nat.zero_le 0) (show 5 ≤ 9 by decide)) (fitAll_cons (f2.mono (Nat.le_refl _) (show 5 ≤ 9 by decide)) (fitAll_nil 0 9)))
      exact (fitAll_cons fp (ih fun y hy => hx y (List.mem_cons_of_mem _ hy))).mono (by rw [List.length_cons]; omega) (by decide)
  have l1 : (rs.map rgD).zipIdx.length = rs.length := by rw [List.length_zipIdx, List.length_map]
  refine (fit_list (h _ fun x hx => ?_)).mono (by omega) (by decide)
  obtain ⟨h1, h2, h3⟩ := List.mem_zipIdx hx
  have h2 : x.2 < rs.length := by rw [List.length_map] at h2; omega
  have e : x.1 = rgD rs[x.2] := by rw [h3]; simp
  rw [e]
  have rg := hr _ (List.getElem_mem h2)
  exact ⟨fit_rg rg.2.1 (fun y hy => ⟨(rg.2.2 y hy).1, by have := (rg.2.2 y hy).2; omega⟩), by omega⟩
def spAll (K : PySem.W.Frag) : Sp := fun vs H Q _ => ∃ (x : Addr) (r : RS) (ns : List Int), vs = [.ref x] ∧ RO K H x (CR K) r ∧ RsOk r ∧ r.rs.getLast? = some ns ∧ Ring ns ∧ Fit 100000 50 (seenD r ns) ∧
  ∀ H' l, Same H H' → H l = none → H' l = some (.lst [.str (seenD r ns).shown, .str (PyData.list (wkD r.rs)).shown]) → Q (.ref l) H'
theorem ok__law_all (T : Tx K mg) : OkG P w K mg base 20 "_law_all" ["_law_reel"] (spAll K) := by
  refine okG_of T.F__law_all T.g__law_all sc__law_all (fun _ _ _ _ _ _ us hl => match us, hl with | [_], _ => rfl) (fun vs H Q E h => ?_) (fun cdv A outer s H vs Q E hg hr h => ?_)
  · obtain ⟨x, r, ns, rfl, _⟩ := h
    rfl
  · obtain ⟨x, r, ns, rfl, hR, ok, hns, rg, fs, q⟩ := h
    refine ⟨_, (pss_one (ps_ret (pe_lst' (pa_cons (calG (ok__law_seen T) hg (hr.mono (by decide)) (pa_cons (pv 0) pa_nil)) (pa_cons (pe_callB (call_repr hg hr.units) (by rfl) T.f_repr boot_repr (pa_cons (GenP.pe_lcW (own := [("_law_version", 1), ("_law_ring_here", 2)]) (g := (gTup K 2 (gCons (gName 1) (gCons (gName 2) gNil)))) sc__law_all.nd (GenP.calMQ0 (ok_Reel_walk T) (hr.mono (by decide)) T.c_Reel T.m_Reel_walk (pv 0)) (hr.mono (by decide)) (blkOk_by (own := [("_law_version", 1), ("_law_ring_here", 2)]) (N := N__law_all) (sc := defScope s__law_all) (by decide +kernel)) (fun _ _ _ _ _ => (pg_tup rfl (pgs_cons (pg_name (i := 1) sc__law_all.nd rfl (.inl rfl)) (pgs_cons (pg_name (i := 2) sc__law_all.nd rfl (.inl rfl)) pgs_nil)))) (fun _ _ _ _ _ => pts_nil) (fun _ _ _ _ _ => (pe_tup (pa_cons (pv 1) (pa_cons (pv 2) pa_nil))))) pa_nil)) pa_nil))))), ?_⟩
    obtain ⟨dx, vr, vd, v1, hx, _⟩ := id hR
    have hle := ok.le
    have hle2 := ok.len
    refine ⟨.ref x, rfl, x, r, ns, rfl, hR, hns, rg, hle, fs, fun H1 s1 => ?_⟩
    have hR1 := hR.same s1
    refine ⟨.ref x, rfl, x, dx, _, rfl, s1 _ _ hx, rfl, x, r, rfl, hR1, by omega, fun H2 ra rvs s2 hra dra => fun D nD eD => ?_⟩
    have hnl : rvs.length = r.rs.length := by rw [dra.len, List.length_map]
    have fw : Fit 100000 50 (.list (wkD r.rs)) := fit_wk ok.rg (by omega)
    have lwk : (wkD r.rs).length = r.rs.length := by show ((r.rs.map rgD).zipIdx.map prD).length = _; rw [List.length_map, List.length_zipIdx, List.length_map]
    have nD0 : H D = none := s1.free nD
    refine ⟨fun i H3 => KX D H2 H3 ∧ ∃ zs, H3 D = some (.lst zs) ∧ DtAll K H3 zs ((wkD r.rs).take i), ⟨fun _ _ _ e => e, [], eD, .nil⟩, fun i H3 _ h => ⟨SqT.kt (KX.kt_lst h.1 eD) hra, h.2.elim fun zs q => ⟨zs, q.1⟩⟩, fun i x2 H3 H4 hi h y => ?_, fun H3 h => ?_⟩
    · obtain ⟨kx, zs, hz, dz⟩ := h
      obtain ⟨t5, y5, rfl, hy5, s5, ht5⟩ := y
      have hir : i < r.rs.length := by omega
      have dy1 := DtAll.nth dra hy5 (by rw [List.getElem?_map, List.getElem?_eq_getElem hir]; rfl)
      have hzl : zs.length = i := by rw [dz.len, List.length_take]; omega
      refine ⟨t5, _, rfl, ht5, rfl, _, _, rfl, _, _, rfl, rfl, rfl, ?_⟩
      refine ⟨_, rfl, _, rfl, sz (by show 2 ≤ _; decide), fun tp ntp => ?_⟩
      have s6 := s5.trans (same_upd (o := .tup [V.int (i : Nat), y5]) ntp)
      have htp := upd_same (H := H4) (a := tp) (o := .tup [V.int (i : Nat), y5])
      revert s6 htp
      generalize (upd H4 tp (.tup [V.int (i : Nat), y5])) = H5
      intro s6 htp
      have hz5 := s6 _ _ hz
      have k5 : KT H5 (upd H5 D (.lst (zs ++ [.ref tp]))) := KX.kt_lst kx_upd hz5
      have dy4 := ((dy1.kt (KX.kt_lst kx eD)).kt s6.kt)
      have dn : Dt K H5 (.ref tp) (prD (rgD r.rs[i], i)) := .tup (.inl (.inl htp)) (.cons (.int _) (.cons dy4 .nil))
      refine ⟨zs, hz5, szl (by omega), fun b o hb e => ?_, zs ++ [.ref tp], upd_same, ?_⟩
      · rw [upd_ne hb]
        exact s6 _ _ (kx b o hb e)
      · have ez2 : (wkD r.rs)[i]? = some (prD (rgD r.rs[i], i)) := by
          show ((r.rs.map rgD).zipIdx.map prD)[i]? = _
          rw [List.getElem?_map, List.getElem?_zipIdx, List.getElem?_map, List.getElem?_eq_getElem hir]
          simp
        rw [List.take_add_one, ez2]
        exact ((dz.kt s6.kt).snoc dn).kt k5
    obtain ⟨kx, zs, hz, dz⟩ := h
    rw [List.take_of_length_le (by omega)] at dz
    refine ⟨false, .ref D, _, rfl, .lst (lstI_of hz) (fun z => nomatch z) dz.dq, fw, ?_⟩
    refine ⟨sz (by show 2 ≤ _; decide), fun l nl ml => ?_⟩
    obtain ⟨H4, e4, s4, hl⟩ := new_lst nl [V.str (seenD r ns).shown, .str (PyData.list (wkD r.rs)).shown]
    rw [e4]
    have s24 : Same H1 H3 := fun b o e => kx b o (ne_of_none e nD) (s2 b o e)
    exact q H4 l (s1.trans (s24.trans s4)) ((s1.trans s24).free nl) hl
-- @@ _law_again
theorem BatE.of {K : PySem.W.Frag} {H : Hp} : ∀ {L : List (Str × List V)} {xs : List V}, DtAll K H xs (L.map edD) → (∀ e ∈ L, EdN e) → BatE K H xs L
  | [], [], _, _ => ⟨rfl, fun i y e h => nomatch h⟩
  | e :: es, x :: xs, .cons a b, h => by
    obtain ⟨i1, i2⟩ := BatE.of b fun w hw => h w (List.mem_cons_of_mem _ hw)
    refine ⟨congrArg Nat.succ i1, fun i y w h1 h2 => ?_⟩
    match i, h1, h2 with
    | 0, h1, h2 =>
      cases h1; cases h2
      have he := h e List.mem_cons_self
      obtain ⟨is, e2, ed, _⟩ := he.ed
      rw [ed] at a
      obtain ⟨t, ys, rfl, ht, dy⟩ := a.tuple_of
      cases dy with
      | cons d1 d2 =>
        cases d1
        rw [dtAll_ints_of d2, ← e2] at ht
        exact ⟨t, rfl, ht, he.1, fun y hy => (by rw [e2] at hy; obtain ⟨i, _, rfl⟩ := List.mem_map.mp hy; exact .int i)⟩
    | i + 1, h1, h2 => exact i2 i y w h1 h2
def spAgain (K : PySem.W.Frag) : Sp := fun vs H Q _ => ∃ (a d : Addr) (way : Int) (n0 : List Int) (L : List (Str × List V)) (R : List (List Int)) (ys : List V), vs = [.ref a, .ref d, .int way] ∧ TupI K H a n0 ∧ Ring n0 ∧ SqT K H d ys ∧ DtAll K H ys (L.map edD) ∧ Hi n0 L R ∧
  ∀ H' x r, Same H H' → H x = none → RO K H' x (CR K) r → SH n0 L r → Q (.ref x) H'
theorem ok__law_again (T : Tx K mg) : Ok P w K mg base CX0 40 "_law_again" ["_law_ring_here", "_law_edits", "_law_way"] (spAgain K) := by
  refine ok_of T.F__law_again T.g__law_again sc__law_again (fun _ _ _ _ _ _ us hl => match us, hl with | [_, _, _], _ => rfl) (fun vs H Q E h => ?_) (fun cdv A outer s H vs Q E hr h => ?_)
  · obtain ⟨a, d, way, n0, L, R, ys, rfl, _⟩ := h
    rfl
  · obtain ⟨a, d, way, n0, L, R, ys, rfl, hT, rg0, hd, dys, hi, q⟩ := h
    refine ⟨_, (pss_cons (ps_set (i := 3) sc__law_again.nd rfl (.inl rfl) (calI (ok_Reel_init T) (hr.mono (by decide)) passL T.mk_Reel T.g_Reel (pa_cons (pv 0) pa_nil)))
    (pss_cons (ps_if (pt_cmpR op_eq (pv 2) pe_int (nomark _)) (pss_cons (ps_for PassesOwn.never rfl (pi_tup (pv 1)) (pg_name (i := 4) sc__law_again.nd rfl (.inl rfl))
    (pss_one (ps_if (pt_cmpR op_ne (pe_ix ix_list (cal (ok__law_did T) (hr.mono (by decide)) pass0 (pa_cons (pv 3) (pa_cons (pv 4) pa_nil))) pe_int (fun _ _ => rfl)) pe_str (nomark _)) (pss_one (ps_ret pe_non)) pss_nil)))
    (pss_one (ps_ret (pv 3)))) pss_nil)
    (pss_cons (ps_for PassesOwn.never rfl (pi_range3 (by rfl) T.f_range (pa_cons pe_int (pa_cons (pe_callB call_len_seq (by rfl) T.f_len PySem.boot_len (pa_cons (pv 1) pa_nil)) (pa_cons pe_int pa_nil)))) (pg_name (i := 5) sc__law_again.nd rfl (.inl rfl))
    (pss_one (ps_if (pt_cmpR op_ne (pe_ix ix_list (cal (ok__law_ran T) (hr.mono (by decide)) pass0 (pa_cons (pv 3) (pa_cons (pe_slice sl_tupA (pv 1) (po_some (pv 5)) (po_some (pe_op op_add (pv 5) pe_int))) pa_nil))) pe_int (fun _ _ => rfl)) pe_str (nomark _)) (pss_one (ps_ret pe_non)) pss_nil)))
    (pss_one (ps_ret (pv 3)))))), ?_⟩
    have lys : ys.length = L.length := by rw [dys.len, List.length_map]
    obtain ⟨_, hL60, _, hEd⟩ := hi.len
    refine ⟨.ref a, rfl, fun x dx nx ndx nxd => ?_⟩
    have sm : Same H (upd (upd H dx (.own x)) x (.ins (CR K) dx [])) := (same_upd ndx).trans (same_upd (by rw [upd_ne (Ne.symm nxd)]; exact nx))
    refine ⟨x, a, dx, n0, rfl, upd_same, same_seqT sm hT, rg0, fun H5 k5 hR5 => ⟨rfl, ?_⟩⟩
    have s05 : Same H H5 := fun b o e => k5 b o (ne_of_none e nx) (sm b o e)
    have go : ∀ {H6 H7 : Hp}, Same H H6 → KX x H6 H7 → Same H H7 := fun s k b o e => k b o (ne_of_none e nx) (s b o e)
    have at0 : ∀ {v : V} {vs : List V}, atI (v :: vs) 0 = some v := fun {v vs} => atI_nat (j := 0) rfl
    have rgs : ∀ j : Fin 61, Builtin.Range.small 0 ((j.val : Nat) : Int) 20 = true ∧ Builtin.Range.rangeSize 0 ((j.val : Nat) : Int) 20 = (((j.val + 19) / 20 : Nat) : Int) := by decide +kernel
    refine ⟨_, rfl, rfl, _, rfl, ?_⟩
    by_cases hw : V.int way = V.int 0
    · refine iteY (decide_eq_true hw) ?_
      dsimp only
      refine seq_go ?_
      refine ⟨.ref d, rfl, d, rfl, ⟨_, same_seqT s05 hd⟩, for_tup (xs := ys) (fun i σ H6 => ∃ y4 y5 r, σ = [some (.ref a), some (.ref d), some (.int way), some (.ref x), y4, y5] ∧ Same H H6 ∧ RO K H6 x (CR K) r ∧ SH n0 (L.take i) r) ⟨_, _, _, rfl, s05, hR5, by rw [List.take_zero]; exact sh_new n0⟩ ?_ ?_ ?_⟩
      · rintro i σ H6 _ ⟨_, _, _, _, s6, _⟩
        exact same_seqT s6 hd
      · rintro i y σ H6 hy ⟨y4, y5, r, rfl, s6, hR6, sh6⟩
        have hil : i < L.length := by rw [← lys]; exact (List.getElem?_eq_some_iff.mp hy).1
        have hLi : L[i]? = some L[i] := List.getElem?_eq_getElem hil
        obtain ⟨t, rfl, ht, hes, kds⟩ := (BatE.of (dys.kt s6.kt) hEd).2 i y L[i] hy hLi
        have hpre : Hi n0 ((L.take i ++ [L[i]]) ++ L.drop (i + 1)) R := by
          have : L.take i ++ [L[i]] = L.take (i + 1) := by rw [List.take_add_one, hLi]; rfl
          rw [this, List.take_append_drop]
          exact hi
        obtain ⟨R2, hi2⟩ := Hi.pre _ _ rfl hpre
        obtain ⟨ms, r2, ho, hdo, sh7⟩ := sh6.step hi2
        have hLt : L.take i ++ [L[i]] = L.take (i + 1) := by rw [List.take_add_one, hLi]; rfl
        rw [hLt] at sh7
        obtain ⟨is, eis, _⟩ := (hEd _ (List.getElem_mem hil)).ed
        refine ⟨.ref x, rfl, .ref t, rfl, x, t, r, lastR r, L[i].1, L[i].2, .ok r2, rfl, ht, hR6, sh6.ok rg0, sh6.last, .inr ⟨.ok ms, L[i].2.map vD, fun _ _ => ?_, kds, ho, ?_⟩, fun H7 l k7 hR7 nl ml hl => ?_⟩
        · rw [eis, List.map_map]
          exact dtAll_ints is
        · unfold idR
          rw [if_neg (by rw [sh6.b]; exact Bool.false_ne_true)]
          exact hdo.symm
        refine ⟨l, _, _, _, rfl, rfl, lstI_of hl, at0, rfl, _, rfl, iteN rfl ?_⟩
        exact ⟨_, _, r2, rfl, go s6 k7, hR7, sh7⟩
      · rintro σ H6 ⟨y4, y5, r, rfl, s6, hR6, sh6⟩
        rw [List.take_of_length_le (by omega)] at sh6
        exact ⟨_, rfl, q H6 x r s6 nx hR6 sh6⟩
    · refine iteN (decide_eq_false hw) ?_
      obtain ⟨g1, g2⟩ := rgs ⟨L.length, by omega⟩
      dsimp only
      refine seq_go ?_
      refine ⟨.ref d, rfl, d, _, rfl, .inr (same_seqT s05 hd), ?_⟩
      rw [lys]
      refine ⟨_, _, _, (L.length + 19) / 20, rfl, ⟨by decide, by decide, g1, g2⟩, for_step (lo := 0) (c := 20) (n := (L.length + 19) / 20) (fun i σ H6 => ∃ y4 y5 r, σ = [some (.ref a), some (.ref d), some (.int way), some (.ref x), y4, y5] ∧ Same H H6 ∧ RO K H6 x (CR K) r ∧ SH n0 (L.take (20 * i)) r) ⟨_, _, _, rfl, s05, hR5, by rw [Nat.mul_zero, List.take_zero]; exact sh_new n0⟩ ?_ ?_⟩
      · rintro i σ H6 hi6 ⟨y4, y5, r, rfl, s6, hR6, sh6⟩
        have hle : 20 * i ≤ L.length := by omega
        have ek : (0 : Int) + (i : Nat) * 20 = ((20 * i : Nat) : Int) := by omega
        have ek2 : ((20 * i : Nat) : Int) + 20 = ((20 * i + 20 : Nat) : Int) := by omega
        have hall : L.take (20 * i) ++ (L.drop (20 * i)).take 20 = L.take (20 * (i + 1)) := by
          rw [show 20 * (i + 1) = 20 * i + 20 by omega, List.take_add]
        have hpre : Hi n0 ((L.take (20 * i) ++ (L.drop (20 * i)).take 20) ++ L.drop (20 * (i + 1))) R := by
          rw [hall, List.take_append_drop]
          exact hi
        obtain ⟨R2, hi2⟩ := Hi.pre _ _ rfl hpre
        obtain ⟨r2, er, sh7⟩ := SH.redo _ 0 sh6 hi2
        rw [hall] at sh7
        rw [ek]
        refine ⟨.ref x, rfl, .ref d, rfl, _, rfl, _, rfl, _, rfl, _, _, rfl, rfl, _, rfl, ?_⟩
        rw [ek2]
        refine slT_cut (p := 20 * i) (q := 20 * i + 20) (same_seqT s6 hd) (by omega) (by omega) fun H7 dc s7 hdc => ?_
        rw [show 20 * i + 20 - 20 * i = 20 by omega] at hdc
        have hR7 := RO.same (K := K) hR6 s7
        have hbe : BatE K H7 ((ys.drop (20 * i)).take 20) ((L.drop (20 * i)).take 20) := by
          have h0 := BatE.of (dys.kt (s6.trans s7).kt) hEd
          refine ⟨by rw [List.length_take, List.length_take, List.length_drop, List.length_drop, lys], fun j y e h1 h2 => ?_⟩
          rw [List.getElem?_take] at h1 h2
          split at h1
          · rename_i c
            rw [if_pos c] at h2
            rw [List.getElem?_drop] at h1 h2
            exact h0.2 _ _ _ h1 h2
          · cases h1
        have hl20 : ((ys.drop (20 * i)).take 20).length ≤ 20 := by rw [List.length_take]; exact Nat.min_le_left _ _
        refine ⟨x, r, .ref dc, .ok ((L.drop (20 * i)).take 20), rfl, hR7, sh6.ok rg0, sh6.b, ⟨_, ⟨dc, rfl, by omega, .inr ⟨hdc, tyX_tupS hdc⟩⟩, hl20, hbe⟩, fun H8 l k8 hR8 nl ml hl => ?_⟩
        rw [ranZ_ok, er] at hR8 hl
        refine ⟨l, _, _, _, rfl, rfl, lstI_of hl, at0, rfl, _, rfl, iteN rfl ?_⟩
        exact ⟨_, _, r2, rfl, go (s6.trans s7) k8, hR8, sh7⟩
      · rintro σ H6 ⟨y4, y5, r, rfl, s6, hR6, sh6⟩
        rw [List.take_of_length_le (by omega)] at sh6
        exact ⟨_, rfl, q H6 x r s6 nx hR6 sh6⟩
theorem edS_of {ns : List Int} {u : Str} {xs : List V} {o : EdR} (h : edA ns u xs = some o) : EdS u xs := by
  match xs, h with
  | [p, x], h =>
    rw [edA2] at h
    by_cases c1 : u = "put"
    · exact .inl ⟨rfl, .inl c1⟩
    · rw [if_neg c1] at h
      by_cases c2 : u = "insert"
      · exact .inl ⟨rfl, .inr c2⟩
      · rw [if_neg c2] at h; cases h
  | [p], h =>
    by_cases c1 : u = "remove"
    · exact .inr ⟨rfl, c1⟩
    · have h : (if u = "remove" then some (edRem ns p) else none) = some o := h
      rw [if_neg c1] at h; cases h
theorem zof_w {K : PySem.W.Frag} {H : Hp} {r : RS} {ns : List Int} {u : Str} {xs : List V} {z : Rz} (h : ZOf K H r ns u xs z) : u = "undo" ∨ EdS u xs := by
  rcases h with ⟨e, _⟩ | ⟨o, ds, _, _, _, ho, _⟩
  · exact .inl e
  · exact .inr (edS_of ho)
theorem zof_call {K : PySem.W.Frag} {H : Hp} {r : RS} {ns : List Int} {u : Str} {xs : List V} {z : Rz} (hb : r.b = false) (h : ZOf K H r ns u xs z) : CallOf K H r ns u xs z := by
  have e : ∀ z, idR r z = z := fun z => by unfold idR; rw [if_neg (by rw [hb]; exact Bool.false_ne_true)]
  rcases h with ⟨e1, rfl⟩ | ⟨o, ds, _, hd, kx, ho, rfl⟩
  · exact .inl ⟨e1, (e _).symm⟩
  · exact .inr ⟨o, ds, fun ms h => (hd ms h).1, fun y hy => (kx y hy).1, ho, (e _).symm⟩
theorem bat_edy {K : PySem.W.Frag} {H : Hp} : ∀ {xs : List V}, (∀ y ∈ xs, EdY H y) → ∃ M, BatE K H xs M ∧ ∀ e ∈ M, EdN e
  | [], _ => ⟨[], ⟨rfl, fun i y e h => nomatch h⟩, fun _ h => nomatch h⟩
  | x :: xs, h => by
    obtain ⟨M, h1, h2⟩ := bat_edy (K := K) fun y hy => h y (List.mem_cons_of_mem _ hy)
    obtain ⟨te, rfl, u, is, hte, hes, hb⟩ := h x List.mem_cons_self
    refine ⟨(u, is.map V.int) :: M, ⟨congrArg Nat.succ h1.1, fun i y e q1 q2 => ?_⟩, fun e he => ?_⟩
    · match i, q1, q2 with
      | 0, q1, q2 =>
        cases q1; cases q2
        exact ⟨te, rfl, .inl (.inl hte), hes, fun y hy => (by obtain ⟨i, _, rfl⟩ := List.mem_map.mp hy; exact .int i)⟩
      | i + 1, q1, q2 => exact h1.2 i y e q1 q2
    · rcases List.mem_cons.mp he with rfl | he
      · exact ⟨hes, is, rfl, hb⟩
      · exact h2 e he
theorem ran_sh {n0 : List Int} {L : List (Str × List V)} {r : RS} {M : List (Str × List V)} (s : SH n0 L r) (hM : ∀ e ∈ M, EdN e) : ∃ L2, SH n0 L2 (resOf (ranZ r (.ok M)) r) := by
  rw [ranZ_ok]
  cases h : runL 0 r M with
  | inl i => exact ⟨L, s⟩
  | inr r2 => exact ⟨_, SH.run M 0 s hM h⟩
theorem lay_seen {ns : List Int} {es : List PyData} {ss : List Int} (h : ∀ e ∈ es, e.canLay0 = true) : (seenX ns es ss).canLay0 = true := by
  refine lay_all (xs := [rgD ns, .int (es.length : Int), rgD ss, .tuple es, .int (es.length : Int), .str (strR ns es.length)]) fun x hx => ?_
  simp only [List.mem_cons, List.not_mem_nil, or_false] at hx
  rcases hx with rfl | rfl | rfl | rfl | rfl | rfl
  · exact lay_ints ns
  · rfl
  · exact lay_ints ss
  · exact lay_all h
  · rfl
  · exact strOk_lu (((((lu_ofString _).app (lu_ofString _)).app (lu_ofString _)).app (lu_ofString _)).app (lu_ofString _) |>.app (lu_ofString _))
theorem lay_wk (rs : List (List Int)) : (PyData.list (wkD rs)).canLay0 = true := by
  refine lay_all (xs := wkD rs) fun x hx => ?_
  obtain ⟨p, hp, rfl⟩ := List.mem_map.mp hx
  obtain ⟨_, _, h3⟩ := List.mem_zipIdx hp
  show (true && (p.1.canLay0 && true)) = true
  rw [h3, List.getElem_map]
  show (true && ((rgD _).canLay0 && true)) = true
  rw [show ∀ ns, (rgD ns).canLay0 = true from fun ns => lay_ints ns]
  rfl
theorem EdN.lay {e : Str × List V} (h : EdN e) : (edD e).canLay0 = true := by
  obtain ⟨is, _, e2, _⟩ := h.ed
  rw [e2]
  show (PyData.strOk e.1 && PyData.canLayAll0 (is.map PyData.int)) = true
  rw [lay_ints]
  rcases h.1.word with h | h | h <;> rw [h] <;> decide +kernel
theorem SH.lay {n0 : List Int} {L : List (Str × List V)} {r : RS} {ns : List Int} (s : SH n0 L r) : (seenD r ns).canLay0 = true := by
  refine lay_seen fun e he => ?_
  rw [s.es] at he
  obtain ⟨x, hx, rfl⟩ := List.mem_map.mp he
  exact (s.h.len.2.2.2 x hx).lay
-- @@ _law_new_right
def spNewR (K : PySem.W.Frag) : Sp := fun vs H Q _ => ∃ (x : Addr) (n0 : List Int) (L : List (Str × List V)) (r : RS), vs = [.ref x] ∧ RO K H x (CR K) r ∧ Ring n0 ∧ SH n0 L r ∧ ∀ H', Same H H' → Q (.bl true) H'
theorem ok__law_new_right (T : Tx K mg) : Ok P w K mg base CX0 40 "_law_new_right" ["_law_reel"] (spNewR K) := by
  refine ok_of T.F__law_new_right T.g__law_new_right sc__law_new_right (fun _ _ _ _ _ _ us hl => match us, hl with | [_], _ => rfl) (fun vs H Q E h => ?_) (fun cdv A outer s H vs Q E hr h => ?_)
  · obtain ⟨x, n0, L, r, rfl, _⟩ := h
    rfl
  · obtain ⟨x, n0, L, r, rfl, hR, rg0, sh, q⟩ := h
    refine ⟨_, (pss_cons (ps_set (i := 1) sc__law_new_right.nd rfl (.inl rfl) (calI (ok_Reel_init T) (hr.mono (by decide)) passL T.mk_Reel T.g_Reel (pa_cons (calP (ok_Reel_ring T) (hr.mono (by decide)) pass0 T.c_Reel T.p_Reel_ring (pv 0)) pa_nil)))
    (pss_cons (ps_if (PW.pt (pw_or (pt_not (pt_cmpR (op_eqO (ok_Reel_eq T) (hr.mono (by decide)) pass0 T.m_Reel___eq__) (pv 1) (pv 0) (nomark _))) (pw_or (pt_not (pt_cmpR (op_eqO (ok_Reel_eq T) (hr.mono (by decide)) pass0 T.m_Reel___eq__) (pv 0) (pv 1) (nomark _))) (pw_or (pt_cmpR (op_neD hr.units) (calP (ok_Reel_beginnings T) (hr.mono (by decide)) pass0 T.c_Reel T.p_Reel_beginnings (pv 1)) (calP (ok_Reel_beginnings T) (hr.mono (by decide)) pass0 T.c_Reel T.p_Reel_beginnings (pv 0)) (nomark _)) (pw_or1 (pt_cmpR op_ne (calP (ok_Reel_version T) (hr.mono (by decide)) pass0 T.c_Reel T.p_Reel_version (pv 1)) pe_int (nomark _))))))) (pss_one (ps_ret pe_bl)) pss_nil)
    (pss_cons (ps_for PassesOwn.never rfl (pi_list (pe_slice sl_list (GenP.pe_listW (GenP.calMQ0 (ok_Reel_walk T) (hr.mono (by decide)) T.c_Reel T.m_Reel_walk (pv 0)) (hr.mono (by decide)) (by rfl) T.f_list boot_list) (po_some (pe_un un_neg pe_int)) po_none)) (pg_tup rfl (pgs_cons (pg_name (i := 2) sc__law_new_right.nd rfl (.inl rfl)) (pgs_cons (pg_name (i := 3) sc__law_new_right.nd rfl (.inl rfl)) pgs_nil)))
    (pss_one (ps_if (PW.pt (pw_or (pt_cmpR (op_neD hr.units) (calP (ok_Reel_beginnings T) (hr.mono (by decide)) pass0 T.c_Reel T.p_Reel_beginnings (calI (ok_Reel_init T) (hr.mono (by decide)) passL T.mk_Reel T.g_Reel (pa_cons (pv 3) pa_nil))) (calAs (ok_beginnings T) T.g_beginnings_beginnings T.al_beginnings_beginnings (hr.mono (by decide)) pass0 (pa_cons (pv 3) pa_nil)) (nomark _)) (pw_or1 (pt_cmpR (op_neD hr.units) (calM (ok_Reel_ring_at T) (hr.mono (by decide)) passL T.c_Reel T.m_Reel_ring_at (pv 0) (pa_cons (pv 2) pa_nil)) (pv 3) (nomark _))))) (pss_one (ps_ret pe_bl)) pss_nil)))
    (pss_one (ps_ret (pe_cmpR (op_eqD hr.units) (calP (ok_Reel_beginnings T) (hr.mono (by decide)) pass0 T.c_Reel T.p_Reel_beginnings (pv 0)) (calAs (ok_beginnings T) T.g_beginnings_beginnings T.al_beginnings_beginnings (hr.mono (by decide)) pass0 (pa_cons (calP (ok_Reel_ring T) (hr.mono (by decide)) pass0 T.c_Reel T.p_Reel_ring (pv 0)) pa_nil)) (nomark _))))))), ?_⟩
    obtain ⟨dx, vr, vd, v1, hx, dr, dd, d1⟩ := id hR
    have rgl := sh.rg rg0
    refine ⟨.ref x, rfl, x, dx, _, rfl, hx, x, r, _, rfl, hR, sh.last, fun a hT => ?_⟩
    refine fun y dy ny ndy nyd => ?_
    have sm : Same H (upd (upd H dy (.own y)) y (.ins (CR K) dy [])) := (same_upd ndy).trans (same_upd (by rw [upd_ne (Ne.symm nyd)]; exact ny))
    refine ⟨y, a, dy, lastR r, rfl, upd_same, same_seqT sm hT, rgl, fun H5 k5 hR5 => ⟨rfl, ?_⟩⟩
    have s05 : Same H H5 := fun b o e => k5 b o (ne_of_none e ny) (sm b o e)
    have hRx := hR.same s05
    obtain ⟨dy5, _, _, _, hy5, _⟩ := id hR5
    have hx5 := s05 _ _ hx
    refine ⟨.ref y, rfl, .ref x, rfl, ⟨y, x, _, _, _, _, rfl, rfl, hy5, hx5, _, r, lastR r, hR5, hRx, rfl, sh.last⟩, fun H6 s6 => ?_⟩
    have s6' : Same H5 H6 := s6
    have hR6 := RO.same (K := K) hR5 s6'
    have hRx6 := RO.same (K := K) hRx s6'
    refine ⟨_, rfl, iteN rfl ?_⟩
    refine ⟨.ref x, rfl, .ref y, rfl, ⟨x, y, _, _, _, _, rfl, rfl, s6' _ _ hx5, s6' _ _ hy5, r, _, lastR r, hRx6, hR6, sh.last, rfl⟩, fun H7 s7 => ?_⟩
    have s7' : Same H6 H7 := s7
    have hR7 := RO.same (K := K) hR6 s7'
    have hRx7 := RO.same (K := K) hRx6 s7'
    have hy7 := s7' _ _ (s6' _ _ hy5)
    have hx7 := s7' _ _ (s6' _ _ hx5)
    have s07 := (s05.trans s6').trans s7'
    refine ⟨_, rfl, iteN rfl ?_⟩
    refine ⟨.ref y, rfl, y, dy5, _, rfl, hy7, y, _, rfl, hR7, fun v3 h3 => ?_⟩
    refine ⟨.ref x, rfl, x, dx, _, rfl, hx7, x, r, rfl, hRx7, fun v4 h4 => ?_⟩
    obtain ⟨t3, rfl, ht3⟩ := dt_rg_of h3
    obtain ⟨t4, rfl, ht4⟩ := dt_rg_of h4
    have hss := sh.ss
    refine ⟨_, _, dp_tup ht3, dp_tup ht4, shapedT_ints _, shapedT_ints _, _, rfl, iteN (by rw [hss]; rw [eqv_ints_self]; rfl) ?_⟩
    refine ⟨.ref y, rfl, y, dy5, _, rfl, hy7, y, _, rfl, hR7, rfl, _, rfl, iteN rfl ?_⟩
    have okr := sh.ok rg0
    have hle := okr.le
    have hll := okr.len
    dsimp only
    refine seq_go ?_
    have lwk : (wkD r.rs).length = r.rs.length := by show ((r.rs.map rgD).zipIdx.map prD).length = _; rw [List.length_map, List.length_zipIdx, List.length_map]
    have wki : ∀ (i : Nat) (h : i < r.rs.length), (wkD r.rs)[i]? = some (prD (rgD r.rs[i], i)) := fun i h => by
      show ((r.rs.map rgD).zipIdx.map prD)[i]? = _
      rw [List.getElem?_map, List.getElem?_zipIdx, List.getElem?_map, List.getElem?_eq_getElem h]
      simp
    refine ⟨.ref x, rfl, x, dx, _, rfl, hx7, rfl, x, r, rfl, hRx7, by omega, fun H8 ra rvs s8 hra dra => ?_⟩
    have hnl : rvs.length = r.rs.length := by rw [dra.len, List.length_map]
    refine ⟨fun i out H5 => Same H8 H5 ∧ DtAll K H5 out ((wkD r.rs).take i), ⟨Same.refl H8, .nil⟩, fun i out H5 _ h => same_seqT h.1 hra, fun i out x5 H5 H6 hi h y => ?_, fun out H9 h p np => ?_⟩
    · obtain ⟨s5, d5⟩ := h
      obtain ⟨t6, y6, rfl, hy6, s6, ht6⟩ := y
      have hir : i < r.rs.length := by omega
      have dy := DtAll.nth (dra.kt (s5.trans s6).kt) hy6 (by rw [List.getElem?_map, List.getElem?_eq_getElem hir]; rfl)
      have dn : Dt K H6 (.ref t6) (prD (rgD r.rs[i], i)) := .tup ht6 (.cons (.int _) (.cons dy .nil))
      refine ⟨s5.trans s6, ?_⟩
      rw [List.take_add_one, wki i hir]
      exact (d5.kt s6.kt).snoc dn
    obtain ⟨s9, d9⟩ := h
    rw [List.take_of_length_le (by omega)] at d9
    obtain ⟨Ha, ea, sa, hpa⟩ := new_lst np out
    rw [ea]
    refine ⟨3, rfl, _, rfl, p, _, rfl, lstI_of hpa, fun p2 np2 => ?_⟩
    obtain ⟨Hb, eb, sb, hpb⟩ := new_lst np2 (cutV out (some (-3)) none)
    rw [eb]
    have s7b : Same H7 Hb := s8.trans (s9.trans (sa.trans sb))
    have s0b : Same H Hb := s07.trans s7b
    have hel : ∀ v ∈ cutV out (some (-3)) none, ∃ (i : Nat) (hi : i < r.rs.length), Dt K Hb v (prD (rgD r.rs[i], i)) := by
      intro v hv
      have hv : v ∈ out := List.mem_of_mem_drop (List.mem_of_mem_take hv)
      obtain ⟨i, hi, rfl⟩ := List.getElem_of_mem hv
      have hir : i < r.rs.length := by rw [d9.len, lwk] at hi; exact hi
      exact ⟨i, hir, (DtAll.nth d9 (List.getElem?_eq_getElem hi) (wki i hir)).kt (sa.trans sb).kt⟩
    refine ⟨p2, rfl, ⟨_, lstI_of hpb⟩, ?_⟩
    refine for_list (xs := cutV out (some (-3)) none) (fun j σ H10 => ∃ y2 y3, σ = [some (.ref x), some (.ref y), y2, y3] ∧ Same Hb H10) ⟨_, _, rfl, Same.refl _⟩ ?_ ?_ ?_
    · rintro j σ H10 _ ⟨_, _, _, s10⟩
      exact lstI_of (s10 _ _ hpb)
    · rintro j v σ H10 hv ⟨y2, y3, rfl, s10⟩
      obtain ⟨i, hi, dv⟩ := hel v (List.mem_of_getElem? hv)
      obtain ⟨tp, ys, rfl, htp, dys⟩ := (dv.kt s10.kt).tuple_of
      cases dys with
      | cons dy1 dy2 =>
        cases dy2 with
        | cons dy2 dy3 =>
          cases dy3
          rename_i v1 v2
          have e1 : v1 = .int (i : Nat) := by cases dy1; rfl
          subst e1
          obtain ⟨ty, rfl, hty⟩ := dt_rg_of dy2
          have rgi := okr.rg _ (List.getElem_mem hi)
          refine ⟨tp, _, rfl, htp, rfl, _, _, rfl, _, _, rfl, rfl, ?_⟩
          refine ⟨.ref ty, rfl, fun z dz nz ndz nzd => ?_⟩
          have sm2 : Same H10 (upd (upd H10 dz (.own z)) z (.ins (CR K) dz [])) := (same_upd ndz).trans (same_upd (by rw [upd_ne (Ne.symm nzd)]; exact nz))
          refine ⟨z, ty, dz, r.rs[i], rfl, upd_same, same_seqT sm2 hty, rgi, fun H11 k11 hR11 => ⟨rfl, ?_⟩⟩
          have s11 : Same H10 H11 := fun b o e => k11 b o (ne_of_none e nz) (sm2 b o e)
          obtain ⟨dz5, _, _, _, hz5, _⟩ := id hR11
          refine ⟨z, dz5, _, rfl, hz5, z, _, rfl, hR11, fun v5 h5 => ?_⟩
          obtain ⟨t5, rfl, ht5⟩ := dt_rg_of h5
          have hty11 := same_seqT s11 hty
          refine ⟨.ref ty, rfl, ty, r.rs[i], rfl, hty11, rgi.2.1, fun H12 t6 s12 _ ht6 => ?_⟩
          refine ⟨_, _, dp_tup (same_seqT s12 ht5), dp_tup (.inl (.inl ht6)), shapedT_ints _, shapedT_ints _, _, rfl, iteN (by rw [eqv_ints_self]; rfl) ?_⟩
          have s012 := s7b.trans (s10.trans (s11.trans s12))
          have hR12 := RO.same (K := K) hRx7 s012
          refine ⟨.ref x, rfl, x, dx, _, rfl, s012 _ _ hx7, rfl, _, rfl, x, r, _, rfl, hR12, .int _, fun k2 ns t7 ek hns hT7 => ?_, fun hb => ?_⟩
          · injection ek with ek
            obtain rfl : i = k2 := by omega
            have ens : r.rs[i] = ns := by rw [List.getElem?_eq_getElem hi] at hns; exact Option.some.inj hns
            subst ens
            refine ⟨_, rfl, _, _, dp_tup hT7, dp_tup (same_seqT s12 hty11), shapedT_ints _, shapedT_ints _, _, rfl, iteN (by rw [eqv_ints_self]; rfl) ?_⟩
            exact ⟨_, _, rfl, s10.trans (s11.trans s12)⟩
          · rw [ix_int hi] at hb
            cases hb
    · rintro σ H10 ⟨y2, y3, rfl, s10⟩
      have s010 := s0b.trans s10
      have hR10 := RO.same (K := K) hR s010
      refine ⟨.ref x, rfl, x, dx, _, rfl, s010 _ _ hx, x, r, rfl, hR10, fun v5 h5 => ?_⟩
      obtain ⟨t5, rfl, ht5⟩ := dt_rg_of h5
      refine ⟨.ref x, rfl, x, dx, _, rfl, s010 _ _ hx, x, r, _, rfl, hR10, sh.last, fun a2 hT2 => ?_⟩
      refine ⟨a2, _, rfl, hT2, rgl.2.1, fun H12 t6 s12 _ ht6 => ?_⟩
      refine ⟨_, _, dp_tup (same_seqT s12 ht5), dp_tup (.inl (.inl ht6)), shapedT_ints _, shapedT_ints _, ?_⟩
      rw [hss, eqv_ints_self]
      exact q _ (s010.trans s12)
end
end K75
namespace K75
open PySem PySem.Spec PyProof.Rows My
open L2 hiding TupI
section
variable {P : Program} {w : World} {K : PySem.W.Frag} {mg : Str → Option Value} {base : Heap}
-- level 60
-- guards
-- static
-- owneq
-- bound 12000
-- interp
-- also x 02 29 38 39 40 q r 68 67
-- hot check_place check_gap check_arity put_token insert_token with_token without_token edited Reel_do_edit
-- plain turned heights need is_beginning beginnings
-- hookq value,limit,error,index
-- errs TooLong,LastToken,NoPlace,NoArity,TooManyEdits,NothingToUndo,Busy,BadRing,NoBeginning,BadEdit,BadEdits,Rejected,NoVersion
-- types .:rings=tup .:done=tup .:starts=tup .:chosen=any .:busy=bool .:rings[]=tup .:ring=tup .:version=int .:beginnings=tup .:edits()=tup check_place:raises=1 check_gap:raises=1 check_arity:raises=1 put_token:raises=1 put_token:ring=tup ->:put_token=tup insert_token:raises=1 insert_token:ring=tup ->:insert_token=tup with_arity:ring=tup ->:with_arity=tup with_token:raises=1 with_token:ring=tup ->:with_token=tup without_token:raises=1 without_token:ring=tup ->:without_token=tup edited:raises=1 edited:ring=tup edited:edit=tup edited:edit[0]=str edited:edit[]=any ->:edited=tup ring_error:value=tup Reel_init:raises=1 __init__:raises=1 Reel_init:ring=tup Reel_check_idle:raises=1 Reel_do_edit:raises=1 Reel_do_edit:ring=tup Reel_do_edit:edit=tup Reel_put:raises=1 Reel_insert:raises=1 Reel_remove:raises=1 Reel_undo:raises=1 Reel_settle:ring=tup Reel_ring:self.rings[]=tup Reel_settle:self.rings[]=tup Reel_do_edit:self.rings[]=tup Reel_str:self.rings[]=tup _law_name:_law_names=list _law_name:_law_flags=list _law_name:_law_bases=list _law_apply:raises=1 _law_apply:_law_reel=obj:Reel _law_apply:_law_edit_here=tup _law_did:_law_reel=obj:Reel _law_due:_law_ring_here=tup _law_due:_law_edit_here=tup _law_due:_law_word=str _law_seen:_law_reel=obj:Reel _law_due_seen:_law_done=list _law_due_seen:_law_numbers=list _law_due_seen:_law_numbers[]=str _law_due_seen:_law_text=str _law_edit:_law_ring_here=tup _law_seen:G=1 _law_due_seen:G=1 _law_went:_law_reel=obj:Reel _law_went:_law_rings=list _law_went:_law_rings[]=tup _law_went:_law_done=list _law_went:_law_edit_here=tup _law_went:_law_due_here=list _law_went:_law_due_here[1]=tup _law_went:G=1 _law_went:E=1 _law_went:'=1 _law_did:'=1 _law_due:'=1 .:start=any Reel_start_set:raises=1 start:raises=1 Reel_start_set:value=any Reel_choose:raises=1 Reel_choose:value=any Reel_choose:before=any _law_bent_edit:_law_edit_here=tup _law_started:_law_reel=obj:Reel _law_started:_law_value=any _law_started:'=1 _law_values_right:_law_reel=obj:Reel _law_values_right:_law_ring_here=tup _law_values_right:_law_done=list _law_values_right:_law_begins_here=list _law_values_right:_law_some=list _law_values_right:_law_due_here=list _law_values_right:_law_value=any _law_values_right:_law_start=any _law_values_right:'=1 _law_values_right:G=1 ->:_law_values_right=list Reel_is_edit:value=any ->:is_edit=bool Reel_is_edit:arguments=int Reel_checked_batch:raises=1 Reel_checked_batch:edits=any Reel_checked_batch:batch=tup Reel_checked_batch:item=any checked_batch:raises=1 do_step:raises=1 do_edit:raises=1 Reel_do_step:raises=1 Reel_do_step:edit=tup Reel_run:raises=1 Reel_run:nostep=1 Reel_run:edits=any Reel_run:batch=tup Reel_run:rings=tup Reel_run:done=tup Reel_run:starts=tup Reel_run:chosen=any Reel_run:version=any Reel_run:on_step=any ->:checked_batch=tup _law_ran:_law_reel=obj:Reel _law_batch:_law_found=list _law_batch:_law_due_here=list _law_batch:'=1 _law_rest:_law_found=list _law_rest:_law_rings=list _law_rest:_law_done=list _law_rest:_law_edits=list _law_rest:_law_due_here=list _law_rest:'=1 _law_batch_right:_law_reel=obj:Reel _law_batch_right:_law_rings=list _law_batch_right:_law_done=list _law_batch_right:_law_later=list _law_batch_right:_law_edits=list _law_batch_right:_law_due_here=list _law_batch_right:_law_broken=opt _law_batch_right:_law_kept=any _law_batch_right:'=1 _law_batch_right:G=1 _law_batch_right:E=1 _law_refused_right:_law_reel=obj:Reel _law_refused_right:_law_edits=list _law_refused_right:_law_some=list _law_refused_right:_law_cases=list _law_refused_right:_law_wrong=any _law_refused_right:_law_value=any _law_refused_right:_law_due_here=list _law_refused_right:'=1 _law_refused_right:G=1 ->:_law_rest=list ->:_law_batch=list ->:_law_seen=str ->:_law_begins=list _law_refused_right:_law_held=str Reel_ring_at:raises=1 _law_ran:_law_reel=obj:Reel _law_ran:_law_edits=any _law_all:_law_reel=obj:Reel _law_all:G=1 _law_all:'=1 _law_again:_law_reel=obj:Reel _law_again:_law_ring_here=tup _law_again:_law_edits=tup _law_new_right:_law_reel=obj:Reel _law_new_right:_law_new=obj:Reel _law_new_right:_law_ring_here=tup law:_law_ring_here=tup law:_law_reel=obj:Reel law:_law_other=obj:Reel law:_law_edit_here=tup law:G=1 ->:_law_all=list ->:_law_again=obj:Reel ->:_law_did=list ->:_law_ran=list Reel_eq:self.rings[]=tup Reel_eq:other.rings[]=tup Reel_eq:other=obj:Reel _law_ran:'=1
-- mine My0 My1 My2 My3 My4 My5 My6 My7 My8 My9 MyA MyB MyC MyD MyE MyF MyG MyH MyI MyJ MyK MyL MyM MyN MyO MyP MyQ MyR MyS MyT MyU MyV MyX MyY MyZ Mya Myb Myc Myd Mye Myf Myg Myh Myi Myj Myk Myl Mym Myn Myo Myp Myq Myr Mys Myt Myu Myv Myw Myx Myy Myz Myz1 Myz2 Myz3 Myz4 Myz5 Myz6 Myz7 Myz8 Myz9 Myza Myzb Myzc Myzd Myze Myzf Myzg Myzh Myzi Myzj Myzk Myzl Myzm Myzn Myzo Myzp Myzq Myzr Myzs Myzt Myzu Myzv Myzw Myzx Myzy Myzz Myzz1 Myzz2 Myzz3 Myzz4 Myzz5 Myzz6 Myzz7 Myzz8 Myzz9 Myzza Myzzb Myzzc Myzzd Myzze
def spLaw (K : PySem.W.Frag) : Sp := fun vs H Q _ => ∃ (a : Addr) (ns : List Int), vs = [.ref a] ∧ SqL K H a (ns.map V.int) ∧ ns.length ≤ 63 ∧ ∀ H', Q (.bl true) H'
theorem ok_law (T : Tx K mg) {fd : FuncData} (F : FunD K "law" "law" (defArgs s_law) (defBody s_law) (defScope s_law) [] [] (He.ga K "law") fd) : RunG P w K mg base 60 (He.ga K "law") fd ["_law_script"] (spLaw K) := by
  refine runG_of F sc_law (fun vs H Q E h => ?_) (fun cdv A0 outer s H vs Q E hg hr h => ?_)
  · obtain ⟨a, ns, rfl, _⟩ := h
    rfl
  · obtain ⟨a, ms, rfl, hS, hlen, q⟩ := h
    refine ⟨_, (pss_cons (ps_set (i := 1) sc_law.nd rfl (.inl rfl) (cal (ok__law_stream T) (hr.mono (by decide)) pass0 (pa_cons (pv 0) pa_nil)))
    (pss_cons (ps_set (i := 2) sc_law.nd rfl (.inl rfl) (cal (ok__law_ring T) (hr.mono (by decide)) pass0 (pa_cons (pv 1) (pa_cons pe_int pa_nil))))
    (pss_cons (ps_par (i := 3) (j := 4) (by rfl) sc_law.nd rfl rfl (by decide) rfl rfl (pa_cons (calI (ok_Reel_init T) (hr.mono (by decide)) passL T.mk_Reel T.g_Reel (pa_cons (pv 2) pa_nil)) (pa_cons (calI (ok_Reel_init T) (hr.mono (by decide)) passL T.mk_Reel T.g_Reel (pa_cons (pv 2) pa_nil)) pa_nil)) (by rfl))
    (pss_cons (ps_for PassesOwn.never rfl (pi_range1 (by rfl) T.f_range (pa_cons pe_int pa_nil)) (pg_name (i := 5) sc_law.nd rfl (.inl rfl))
    (pss_cons (ps_par (i := 6) (j := 7) (by rfl) sc_law.nd rfl rfl (by decide) rfl rfl (pa_cons (cal (ok__law_edit T) (hr.mono (by decide)) pass0 (pa_cons (pv 1) (pa_cons (calP (ok_Reel_ring T) (hr.mono (by decide)) pass0 T.c_Reel T.p_Reel_ring (pv 3)) pa_nil))) (pa_cons (cal (ok__law_draw T) (hr.mono (by decide)) pass0 (pa_cons (pv 1) (pa_cons pe_int pa_nil))) pa_nil)) (by rfl))
    (pss_cons (ps_if (pt_cmpR op_eq (pv 7) pe_int (nomark _)) (pss_one (ps_expr (cal (ok__law_ran T) (hr.mono (by decide)) pass0 (pa_cons (pv 3) (pa_cons (cal (ok__law_batch T) (hr.mono (by decide)) pass0 (pa_cons (pv 1) (pa_cons (calP (ok_Reel_ring T) (hr.mono (by decide)) pass0 T.c_Reel T.p_Reel_ring (pv 3)) (pa_cons (cal (ok__law_draw T) (hr.mono (by decide)) pass0 (pa_cons (pv 1) (pa_cons pe_int pa_nil))) pa_nil)))) pa_nil))))) (pss_one (ps_expr (cal (ok__law_did T) (hr.mono (by decide)) pass0 (pa_cons (pv 3) (pa_cons (pe_ix ix_list (pe_lst' (pa_cons (pe_tup (pa_cons pe_str pa_nil)) (pa_cons (cal (ok__law_bent_edit T) (hr.mono (by decide)) pass0 (pa_cons (pv 1) (pa_cons (pv 6) pa_nil))) (pa_cons (pv 6) (pa_cons (pv 6) pa_nil))))) (pe_op op_sub (pv 7) pe_int) (fun _ _ => rfl)) pa_nil))))))
    (pss_cons (ps_if (pt_not (pt_val (cal (ok__law_new_right T) (hr.mono (by decide)) pass0 (pa_cons (pv 3) pa_nil)))) (pss_one (ps_ret pe_bl)) pss_nil)
    (pss_cons (ps_set (i := 4) sc_law.nd rfl (.inl rfl) (cal (ok__law_again T) (hr.mono (by decide)) pass0 (pa_cons (pv 2) (pa_cons (calM0 (ok_Reel_edits T) (hr.mono (by decide)) pass0 T.c_Reel T.m_Reel_edits (pv 3)) (pa_cons (cal (ok__law_draw T) (hr.mono (by decide)) pass0 (pa_cons (pv 1) (pa_cons pe_int pa_nil))) pa_nil)))))
    (pss_one (ps_if (PW.pt (pw_or (pt_cmpR op_isN (pv 4) pe_non (nomark _)) (pw_or1 (pt_cmpR (op_neD hr.units) (calG (ok__law_all T) hg (hr.mono (by decide)) (pa_cons (pv 4) pa_nil)) (calG (ok__law_all T) hg (hr.mono (by decide)) (pa_cons (pv 3) pa_nil)) (nomark _))))) (pss_one (ps_ret pe_bl)) pss_nil)))))))
    (pss_cons (ps_for PassesOwn.never rfl (pi_range1 (by rfl) T.f_range (pa_cons (pe_callB (call_lenO (ok_Reel_len T) (hr.mono (by decide)) pass0 (ownM_of T.m_Reel___len__)) (by rfl) T.f_len PySem.boot_len (pa_cons (pv 3) pa_nil)) pa_nil)) (pg_name (i := 5) sc_law.nd rfl (.inl rfl))
    (pss_one (ps_if (PW.pt (pw_or (pt_cmpR op_ne (calM0 (ok_Reel_undo T) (hr.mono (by decide)) passL T.c_Reel T.m_Reel_undo (pv 3)) (calM0 (ok_Reel_undo T) (hr.mono (by decide)) passL T.c_Reel T.m_Reel_undo (pv 4)) (nomark _)) (pw_or (pt_cmpR (op_neD hr.units) (calG (ok__law_all T) hg (hr.mono (by decide)) (pa_cons (pv 3) pa_nil)) (calG (ok__law_all T) hg (hr.mono (by decide)) (pa_cons (pv 4) pa_nil)) (nomark _)) (pw_or1 (pt_not (pt_val (cal (ok__law_new_right T) (hr.mono (by decide)) pass0 (pa_cons (pv 3) pa_nil)))))))) (pss_one (ps_ret pe_bl)) pss_nil)))
    (pss_one (ps_ret (pe_and (pe_cmpR (op_eqD hr.units) (calP (ok_Reel_ring T) (hr.mono (by decide)) pass0 T.c_Reel T.p_Reel_ring (pv 3)) (pv 2) (nomark _)) (pe_one (pe_cmpR (op_eqD hr.units) (cal (ok__law_did T) (hr.mono (by decide)) pass0 (pa_cons (pv 3) (pa_cons (pe_tup (pa_cons pe_str pa_nil)) pa_nil))) (pe_lst' (pa_cons pe_str (pa_cons pe_non pa_nil))) (nomark _))))))))))), ?_⟩
    refine ⟨.ref a, rfl, a, ms, rfl, hS, hlen, fun H1 S A B s1 nS nA nB st => ?_⟩
    refine ⟨.ref S, rfl, S, A, B, 0, 20, rfl, st, by decide, by decide, by decide, fun H4 t4 r n0 sx4 st4 ht4 nr hr4 rg hle => ?_⟩
    refine ⟨.ref r, rfl, fun x dx nx ndx nxd => ?_⟩
    have sm : Same H4 (upd (upd H4 dx (.own x)) x (.ins (CR K) dx [])) := (same_upd ndx).trans (same_upd (by rw [upd_ne (Ne.symm nxd)]; exact nx))
    have nSx := strm_ne st4 nx
    refine ⟨x, r, dx, n0, rfl, upd_same, .inl (.inl (sm _ _ hr4)), rg, fun H5 k5 hR5 => ⟨rfl, ?_⟩⟩
    have s45 : Same H4 H5 := fun b o e => k5 b o (ne_of_none e nx) (sm b o e)
    have st5 := st4.same s45
    have hr5 := s45 _ _ hr4
    refine ⟨.ref r, rfl, fun y dy ny ndy nyd => ?_⟩
    have sm2 : Same H5 (upd (upd H5 dy (.own y)) y (.ins (CR K) dy [])) := (same_upd ndy).trans (same_upd (by rw [upd_ne (Ne.symm nyd)]; exact ny))
    refine ⟨y, r, dy, n0, rfl, upd_same, .inl (.inl (sm2 _ _ hr5)), rg, fun H6 k6 hR6 => ⟨rfl, ?_⟩⟩
    have s56 : Same H5 H6 := fun b o e => k6 b o (ne_of_none e ny) (sm2 b o e)
    have st6 := st5.same s56
    have hr6 := s56 _ _ hr5
    have hRx6 := hR5.same s56
    refine ⟨_, _, rfl, ?_⟩
    dsimp only
    refine seq_go ?_
    refine ⟨11, rfl, by decide, by decide, for_range (lo := 0) (n := 11) (fun j σ H7 => ∃ y1 y5 y6 y7 L rx ry t, σ = [some (.ref a), some (.ref S), some (.ref r), some (.ref x), some (.ref y1), y5, y6, y7] ∧
        Strm H7 S A B t ∧ t ≤ t4 + 1000 * j ∧ TupI K H7 r n0 ∧ RO K H7 x (CR K) rx ∧ RO K H7 y1 (CR K) ry ∧ SH n0 L rx ∧ SH n0 L ry ∧ x ≠ y1) ⟨y, _, _, _, [], _, _, t4, rfl, st6, by omega, .inl (.inl hr6), hRx6, hR6, sh_new n0, sh_new n0, ?_⟩ ?_ ?_⟩
    · obtain ⟨_, _, _, _, hx, _⟩ := id hR5
      intro z
      rw [z, ny] at hx
      cases hx
    · rintro j σ H7 hj ⟨y1, y5, y6, y7, L, rx, ry, t, rfl, st7, ht7, hr7, hRx, hRy, shx, shy, nxy⟩
      have ro_sx : ∀ {Ha Hb : Hp} {z : Addr} {rz : RS} {tt : Nat}, Strm Ha S A B tt → SameX S A Ha Hb → RO K Ha z (CR K) rz → RO K Hb z (CR K) rz := fun {Ha Hb z rz tt} sta sx h => by
        obtain ⟨_, _, _, _, hz, _⟩ := id h
        exact h.kt (sx_kt sta sx) fun C dx fs e => sx _ _ e (fun q => by rw [q, sta.s] at hz; cases hz) (fun q => by obtain ⟨as, ha, _⟩ := sta.a; rw [q, ha] at hz; cases hz)
      have nins : ∀ {Ha : Hp} {z : Addr} {rz : RS} {tt : Nat}, Strm Ha S A B tt → RO K Ha z (CR K) rz → ∀ b, (b = S ∨ b = A ∨ b = B) → b ≠ z := fun {Ha z rz tt} sta h b hb q => by
        obtain ⟨_, _, _, _, hz, _⟩ := h
        subst q
        obtain ⟨as, ha, _⟩ := sta.a
        obtain ⟨bs, hb2, _⟩ := sta.b
        rcases hb with rfl | rfl | rfl
        · rw [sta.s] at hz; cases hz
        · rw [ha] at hz; cases hz
        · rw [hb2] at hz; cases hz
      obtain ⟨dx7, vr7, vd7, v17, hx7, _⟩ := id hRx
      refine ⟨.ref S, rfl, .ref x, rfl, x, dx7, _, rfl, hx7, x, rx, _, rfl, hRx, shx.last, fun rt hT => ?_⟩
      refine ⟨S, A, B, rt, t, _, rfl, st7, by omega, hT, shx.rg rg, fun H8 t8 te sx8 st8 ht8 nte eg => ?_⟩
      refine ⟨.ref S, rfl, S, A, B, t8, 5, rfl, st8, by decide, by decide, by omega, fun H9 t9 way sx9 st9 ht9 v0 v1 => ?_⟩
      refine ⟨_, _, rfl, ?_⟩
      have sx79 := sx8.trans sx9
      have hRx9 := ro_sx st7 sx79 hRx
      have hr9 := SqT.kt (sx_kt st7 sx79) hr7
      have rgx := shx.rg rg
      dsimp only
      refine seq_go ?_
      refine cut_st (fun σ H10 => ∃ y1 y5 y6 y7 L rx t, σ = [some (.ref a), some (.ref S), some (.ref r), some (.ref x), y1, y5, y6, y7] ∧ Strm H10 S A B t ∧ t ≤ t9 + 100 ∧ TupI K H10 r n0 ∧ RO K H10 x (CR K) rx ∧ SH n0 L rx) (fun D' hD => ?_) ?_
      · have edo := EdO.x (K := K) (EdG.odd (K := K) (S := S) (A := A) eg) st8 sx9
        refine ⟨_, rfl, rfl, _, rfl, ?_⟩
        by_cases hw : V.int way = V.int 0
        · refine iteY (decide_eq_true hw) ?_
          obtain ⟨dx9, _, _, _, hx9, _⟩ := id hRx9
          refine ⟨.ref x, rfl, .ref S, rfl, .ref x, rfl, x, dx9, _, rfl, hx9, x, rx, _, rfl, hRx9, shx.last, fun rt9 hT9 => ?_⟩
          refine ⟨.ref S, rfl, S, A, B, t9, 6, rfl, st9, by decide, by decide, by omega, fun H10 t10 m sx10 st10 ht10 m0 m1 => ?_⟩
          obtain ⟨mn, rfl⟩ := Int.eq_ofNat_of_zero_le m0
          refine ⟨S, A, B, rt9, t10, mn, _, rfl, st10, by omega, by omega, SqT.kt (sx_kt st9 sx10) hT9, rgx, fun H11 t11 l xs sx11 st11 ht11 nl nlS ml hl lxs hys => ?_⟩
          obtain ⟨M, hbe, hM⟩ := bat_edy (K := K) hys
          have hRx11 := ro_sx st10 sx11 (ro_sx st9 sx10 hRx9)
          have hr11 := SqT.kt (sx_kt st10 sx11) (SqT.kt (sx_kt st9 sx10) hr9)
          obtain ⟨L2, sh2⟩ := ran_sh shx hM
          obtain ⟨dx11, _, _, _, hx11, _⟩ := id hRx11
          refine ⟨x, rx, .ref l, .ok M, rfl, hRx11, shx.ok rg, shx.b, ⟨xs, ⟨l, rfl, by omega, .inl ⟨lstI_of hl, .base (.lst hl)⟩⟩, by omega, hbe⟩, fun H12 l2 k12 hR12 _ _ _ => ?_⟩
          exact hD _ _ ⟨_, _, _, _, L2, _, t11, rfl, KX.strm k12 st11 (nins st11 hRx11), by omega, SqT.kt (k12.kt hx11) hr11, hR12, sh2⟩
        · refine iteN (decide_eq_false hw) ?_
          refine ⟨.ref x, rfl, sz (by show 1 ≤ _; decide), fun pu npu => ?_⟩
          obtain ⟨H10, e10, s10, hpu⟩ := new_tup npu [V.str "undo"]
          rw [e10]
          have st10 := st9.same s10
          have edo10 := EdO.x (K := K) edo st9 (Same.x s10)
          refine ⟨.ref S, rfl, .ref te, rfl, S, A, B, te, t9, rfl, st10, by omega, edo10, fun H11 t11 tb sx11 st11 ht11 edb => ?_⟩
          refine ⟨_, rfl, _, rfl, sz (by show 4 ≤ _; decide), fun pl npl mpl => ?_⟩
          obtain ⟨H12, e12, s12, hpl⟩ := new_lst npl [V.ref pu, .ref tb, .ref te, .ref te]
          rw [e12]
          have st12 := st11.same s12
          have npuS := strm_ne st9 npu
          have hpu12 := s12 _ _ (sx11 _ _ hpu (npuS S (.inl rfl)).symm (npuS A (.inr (.inl rfl))).symm)
          have hw2 : (1 : Int) ≤ way ∧ way ≤ 4 := ⟨by
            rcases Int.lt_or_le 0 way with h | h
            · omega
            · exact absurd (show V.int way = V.int 0 by congr 1; omega) hw, by omega⟩
          obtain ⟨u, hu, mu⟩ := atI_in (xs := [V.ref pu, .ref tb, .ref te, .ref te]) (z := way - 1) (by omega) (by show way - 1 < 4; omega)
          refine ⟨_, rfl, _, _, rfl, rfl, pl, _, _, _, rfl, rfl, lstI_of hpl, hu, ?_⟩
          have ez : EdZ K S A H12 u := by
            simp only [List.mem_cons, List.not_mem_nil, or_false] at mu
            rcases mu with rfl | rfl | rfl | rfl
            · exact ⟨pu, rfl, .inr (.inl (.inl hpu12))⟩
            · exact ⟨tb, rfl, .inl (EdO.x (K := K) edb st11 (Same.x s12))⟩
            · exact ⟨te, rfl, .inl (EdO.x (K := K) (EdO.x (K := K) edo10 st10 sx11) st11 (Same.x s12))⟩
            · exact ⟨te, rfl, .inl (EdO.x (K := K) (EdO.x (K := K) edo10 st10 sx11) st11 (Same.x s12))⟩
          obtain ⟨tz, uz, xz, z, rfl, htz, hz⟩ := ez.zof (r := rx) rgx
          have hRx12 := (ro_sx st10 sx11 (hRx9.same s10)).same s12
          have hr12 := same_seqT s12 (SqT.kt (sx_kt st10 sx11) (same_seqT s10 hr9))
          obtain ⟨L2, sh2⟩ := shx.did rg hz (zof_w hz)
          obtain ⟨dx12, _, _, _, hx12, _⟩ := id hRx12
          refine ⟨x, tz, rx, lastR rx, uz, xz, z, rfl, htz, hRx12, shx.ok rg, shx.last, zof_call shx.b hz, did_to (zof_err T hz) hRx12 fun H13 l3 k13 _ hR13 _ _ => ?_⟩
          exact hD _ _ ⟨_, _, _, _, L2, _, t11, rfl, KX.strm k13 st12 (nins st12 hRx12), by omega, SqT.kt (k13.kt hx12) hr12, hR13, sh2⟩
      · rintro σ H10 ⟨y2, y5, y6, y7, L2, rx2, t10, rfl, st10, ht10, hr10, hRx10, sh10⟩
        refine ⟨.ref x, rfl, x, n0, L2, rx2, rfl, hRx10, rg, sh10, fun H11 s11 => ⟨_, rfl, iteN rfl ?_⟩⟩
        have hRx11 := hRx10.same s11
        have st11 := st10.same s11
        have hr11 := same_seqT s11 hr10
        obtain ⟨dx11, vr11, vd11, v111, hx11, _⟩ := id hRx11
        refine ⟨.ref r, rfl, .ref x, rfl, x, dx11, _, rfl, hx11, rfl, x, rx2, rfl, hRx11, fun vd hvd => ?_⟩
        obtain ⟨da, ys, rfl, hda, dys⟩ := hvd.tuple_of
        refine ⟨.ref S, rfl, S, A, B, t10, 2, rfl, st11, by decide, by decide, by omega, fun H12 t12 w2 sx12 st12 ht12 w0 w1 => ?_⟩
        have kt12 := sx_kt st11 sx12
        rw [sh10.es] at dys
        refine ⟨r, da, w2, n0, L2, rx2.rs, ys, rfl, SqT.kt kt12 hr11, rg, SqT.kt kt12 hda, dys.kt kt12, sh10.h, fun H13 y3 r3 s13 ny3 hR3 sh3 => ?_⟩
        have hRx13 := (ro_sx st11 sx12 hRx11).same s13
        have st13 := st12.same s13
        have hr13 := same_seqT s13 (SqT.kt kt12 hr11)
        obtain ⟨q1, q2, q3⟩ := sh3.eqs sh10
        have ok3 := sh3.ok rg
        have lre : lastR r3 = lastR rx2 := by unfold lastR; rw [q1]
        have sde : seenD r3 (lastR r3) = seenD rx2 (lastR rx2) := by show seenX _ r3.es r3.ss = seenX _ rx2.es rx2.ss; rw [lre, q2, q3]
        refine ⟨_, rfl, rfl, _, rfl, iteN rfl ?_⟩
        refine ⟨.ref y3, rfl, y3, r3, lastR r3, rfl, hR3, ok3, sh3.last, sh3.rg rg, sh3.seen rg, fun H14 l4 s14 nl4 hl4 => ?_⟩
        refine ⟨.ref x, rfl, x, rx2, lastR rx2, rfl, hRx13.same s14, sh10.ok rg, sh10.last, sh10.rg rg, sh10.seen rg, fun H15 l5 s15 nl5 hl5 => ?_⟩
        rw [sde, q1] at hl4
        have oka : PyData.strOk (seenD rx2 (lastR rx2)).shown = true := strOk_shown sh10.lay
        have okb : PyData.strOk (PyData.list (wkD rx2.rs)).shown = true := strOk_shown (lay_wk _)
        have hl4' := s15 _ _ hl4
        generalize (seenD rx2 (lastR rx2)).shown = ta at hl4' hl5 oka
        generalize (PyData.list (wkD rx2.rs)).shown = tb at hl4' hl5 okb
        refine ⟨.list [.str ta, .str tb], .list [.str ta, .str tb], .lst (lstI_of hl4') (.cons (.str _) (.cons (.str _) .nil)), .lst (lstI_of hl5) (.cons (.str _) (.cons (.str _) .nil)), shaped_two oka okb, shaped_two oka okb, _, rfl, iteN (by rw [eqv_two]; rfl) ?_⟩
        have s315 := s14.trans s15
        exact ⟨_, _, _, _, L2, rx2, r3, t12, rfl, st13.same s315, by omega, same_seqT s315 hr13, hRx13.same s315, hR3.same s315, sh10, sh3, fun z => by rw [← z] at ny3; obtain ⟨_, _, _, _, h, _⟩ := ro_sx st11 sx12 hRx11; rw [h] at ny3; cases ny3⟩
    · rintro σ H7 ⟨y1, y5, y6, y7, L, rx, ry, t, rfl, st7, ht7, hr7, hRx, hRy, shx, shy, nxy⟩
      obtain ⟨dx7, vr7, vd7, v17, hx7, _⟩ := id hRx
      have okx := shx.ok rg
      have lex := okx.le
      have lel := shx.esl
      dsimp only
      refine seq_go ?_
      refine ⟨.ref x, rfl, x, dx7, _, rfl, hx7, x, rx, rfl, hRx, _, rfl, by omega, ((rx.es.length : Nat) : Int), rfl, by omega, by omega, ?_⟩
      rw [Int.toNat_natCast, lel]
      refine for_range (lo := 0) (n := L.length) (fun j σ H8 => ∃ y5 y6 y7 rx ry, σ = [some (.ref a), some (.ref S), some (.ref r), some (.ref x), some (.ref y1), y5, y6, y7] ∧
        TupI K H8 r n0 ∧ RO K H8 x (CR K) rx ∧ RO K H8 y1 (CR K) ry ∧ SH n0 (L.take (L.length - j)) rx ∧ SH n0 (L.take (L.length - j)) ry) ⟨_, _, _, rx, ry, rfl, hr7, hRx, hRy, by rw [Nat.sub_zero, List.take_length]; exact shx, by rw [Nat.sub_zero, List.take_length]; exact shy⟩ ?_ ?_
      · rintro j σ H8 hj ⟨y5, y6, y7, rx, ry, rfl, hr8, hRx, hRy, shx, shy⟩
        have hm : L.length - (j + 1) < L.length := by omega
        have hsp : L.take (L.length - j) = L.take (L.length - (j + 1)) ++ [L[L.length - (j + 1)]] := by
          rw [show L.length - j = L.length - (j + 1) + 1 by omega, List.take_add_one, List.getElem?_eq_getElem hm]
          rfl
        have okx := shx.ok rg
        have oky := shy.ok rg
        rw [hsp] at shx shy
        obtain ⟨rx2, ex, sx2⟩ := shx.undo
        obtain ⟨ry2, ey, sy2⟩ := shy.undo
        have idx : idR rx (undoR rx) = .ok rx2 := by unfold idR; rw [if_neg (by rw [shx.b]; exact Bool.false_ne_true), ex]
        have idy : idR ry (undoR ry) = .ok ry2 := by unfold idR; rw [if_neg (by rw [shy.b]; exact Bool.false_ne_true), ey]
        obtain ⟨dx8, _, _, _, hx8, _⟩ := id hRx
        obtain ⟨dy8, _, _, _, hy8, _⟩ := id hRy
        refine ⟨.ref x, rfl, x, dx8, _, rfl, hx8, rfl, x, rx, rfl, hRx, okx, ?_⟩
        rw [idx]
        intro H9 k9 hRx9
        have hRy9 : RO K H9 y1 (CR K) ry := hRy.kt (k9.kt hx8) fun C dx fs e => k9 _ _ nxy.symm e
        obtain ⟨dy9, _, _, _, hy9, _⟩ := id hRy9
        refine ⟨.ref y1, rfl, y1, dy9, _, rfl, hy9, rfl, y1, ry, rfl, hRy9, oky, ?_⟩
        rw [idy]
        intro H10 k10 hRy10
        obtain ⟨dx9, _, _, _, hx9, _⟩ := id hRx9
        have hRx10 : RO K H10 x (CR K) rx2 := hRx9.kt (k10.kt hy9) fun C dx fs e => k10 _ _ nxy e
        have hr10 := SqT.kt (k10.kt hy9) (SqT.kt (k9.kt hx8) hr8)
        rw [sx2.esl, sy2.esl]
        refine ⟨rfl, _, rfl, iteN (by simp) ?_⟩
        obtain ⟨q1, q2, q3⟩ := sy2.eqs sx2
        have lre : lastR ry2 = lastR rx2 := by unfold lastR; rw [q1]
        have sde : seenD ry2 (lastR ry2) = seenD rx2 (lastR rx2) := by show seenX _ ry2.es ry2.ss = seenX _ rx2.es rx2.ss; rw [lre, q2, q3]
        refine ⟨.ref x, rfl, x, rx2, lastR rx2, rfl, hRx10, sx2.ok rg, sx2.last, sx2.rg rg, sx2.seen rg, fun H14 l4 s14 nl4 hl4 => ?_⟩
        refine ⟨.ref y1, rfl, y1, ry2, lastR ry2, rfl, RO.same (K := K) hRy10 s14, sy2.ok rg, sy2.last, sy2.rg rg, sy2.seen rg, fun H15 l5 s15 nl5 hl5 => ?_⟩
        rw [sde, q1] at hl5
        have oka : PyData.strOk (seenD rx2 (lastR rx2)).shown = true := strOk_shown sx2.lay
        have okb : PyData.strOk (PyData.list (wkD rx2.rs)).shown = true := strOk_shown (lay_wk _)
        have hl4' := s15 _ _ hl4
        generalize (seenD rx2 (lastR rx2)).shown = ta at hl4' hl5 oka
        generalize (PyData.list (wkD rx2.rs)).shown = tb at hl4' hl5 okb
        refine ⟨.list [.str ta, .str tb], .list [.str ta, .str tb], .lst (lstI_of hl4') (.cons (.str _) (.cons (.str _) .nil)), .lst (lstI_of hl5) (.cons (.str _) (.cons (.str _) .nil)), shaped_two oka okb, shaped_two oka okb, _, rfl, iteN (by rw [eqv_two]; rfl) ?_⟩
        have s1015 := s14.trans s15
        refine ⟨.ref x, rfl, x, n0, _, rx2, rfl, RO.same (K := K) hRx10 s1015, rg, sx2, fun H16 s16 => ⟨_, rfl, iteN rfl ?_⟩⟩
        have s1016 := s1015.trans s16
        exact ⟨_, _, _, rx2, ry2, rfl, same_seqT s1016 hr10, RO.same (K := K) hRx10 s1016, RO.same (K := K) hRy10 s1016, sx2, sy2⟩
      · rintro σ H8 ⟨y5, y6, y7, rx, ry, rfl, hr8, hRx, hRy, shx, shy⟩
        rw [Nat.sub_self, List.take_zero] at shx
        obtain ⟨dx8, _, _, _, hx8, _⟩ := id hRx
        have ers : rx.rs = [n0] := shx.h.inv0
        have ees : rx.es.length = 0 := shx.esl
        refine ⟨.ref x, rfl, x, dx8, _, rfl, hx8, x, rx, n0, rfl, hRx, by rw [ers]; rfl, fun t5 hT5 => ?_⟩
        refine ⟨.ref r, rfl, _, _, dp_tup hT5, dp_tup hr8, shapedT_ints _, shapedT_ints _, ?_⟩
        rw [eqv_ints_self]
        refine ⟨_, rfl, iteY rfl ?_⟩
        refine ⟨.ref x, rfl, sz (by show 1 ≤ _; decide), fun pu npu => ?_⟩
        obtain ⟨H9, e9, s9, hpu⟩ := new_tup npu [V.str "undo"]
        rw [e9]
        have hz : ZOf K H9 rx (lastR rx) "undo" [] (undoR rx) := .inl ⟨rfl, rfl⟩
        have eu : undoR rx = .bad "NothingToUndo" none := if_pos ees
        refine ⟨x, pu, rx, lastR rx, "undo", [], _, rfl, .inl (.inl hpu), RO.same (K := K) hRx s9, shx.ok rg, shx.last, zof_call shx.b hz, did_to (zof_err T hz) (RO.same (K := K) hRx s9) fun H10 l3 k10 _ hR10 _ hl3 => ?_⟩
        rw [eu] at hl3
        refine ⟨sz (by show 2 ≤ _; decide), fun l6 nl6 ml6 => ?_⟩
        obtain ⟨H11, e11, s11, hl6⟩ := new_lst nl6 [V.str "NothingToUndo", .non]
        rw [e11]
        refine ⟨.list [.str "NothingToUndo", .none], .list [.str "NothingToUndo", .none], .lst (lstI_of (s11 _ _ hl3)) (.cons (.str _) (.cons .non .nil)), .lst (lstI_of hl6) (.cons (.str _) (.cons .non .nil)), by decide +kernel, by decide +kernel, ?_⟩
        rw [SeqAt.eqv_refl_plain _ rfl]
        exact q _
end
end K75
set_option maxHeartbeats 0
namespace K75
open PySem PySem.Spec PyProof.Rows My
open L2 hiding TupI
theorem facts {P : Program} {w : World} {K : PySem.W.Frag} {h : Heap} {mg : Str → Option Value} {f : Addr} (X : K.In h) (G : h.Ns mainGlobals mg) (hfa : mg ("law" : Str) = some (.ref f)) (c : SaysP fa fn exq gs w h K) :
    ∃ fd : FuncData, (∀ (s : Shared) (v : Value), BindsTo s fd ⟨[v], []⟩ [("_law_script", v)]) ∧ ∀ base : Heap, K.In base → base.Ns mainGlobals mg → RunG P w K mg base 60 f fd ["_law_script"] (spLaw K) := by
  have T : Tx K mg := ⟨⟨h, X, G⟩, c.x.t.d, c.x.more, c.g⟩
  obtain ⟨fd, F⟩ := T.F_law
  have e := hfa.symm.trans T.g_law
  cases e
  have b := FunD.bindsA (ps := ["_law_script"]) F fun _ _ _ _ _ _ us hl => match us, hl with | [_], _ => rfl
  refine ⟨fd, fun s v => b s [v] rfl, fun base _ _ => ?_⟩
  exact ok_law T F
end K75
open PySem PySem.W PySem.Calls PyProof.Rows
theorem PySem.Challenge.cw_ringpostfix_k75_whole_histories_and_new_holds : PySem.Challenge.rw_ringpostfix_k75_whole_histories_and_new.Holds := by
  w_on; o_law
  refine HandSHeadRun.head_any (r := OpenLaw.row PySem.Challenge.rw_ringpostfix_k75_whole_histories_and_new) (q := view (OpenLaw.row PySem.Challenge.rw_ringpostfix_k75_whole_histories_and_new).prog [70]) (H := K75.hk) (ob := K75.ob) (M := 12000) (loose := K75.loose) (d := HandSHeadRun.topDef (OpenLaw.row PySem.Challenge.rw_ringpostfix_k75_whole_histories_and_new).prog 70) (kwd := []) K75.ob_eq
    (by kernel_rfl) (fun s => by kernel_rfl) K75.run (by kernel_rfl) (by kernel_rfl) (by kernel_rfl) (by rfl) (by first | assumption | decide +kernel) (by decide +kernel) ⟨rfl, rfl, rfl, rfl, rfl, by decide +kernel⟩ ?hw ?hc
  case hw => w_witness2
  case hc =>
    refine My.walk_ofG (l := PySem.Challenge.rw_ringpostfix_k75_whole_histories_and_new) (n := 63) (k := 60) (x := "_law_script") rfl (by decide) (by kernel_rfl) ⟨rfl, by decide, by decide⟩ ?F
    intro w mg fa h Y G hmg0
    obtain ⟨K, KX, c⟩ := Y
    have hmg : mg ("law" : PySem.Str) = some (.ref fa) := by
      have e : (HandSHeadRun.topDef (OpenLaw.row PySem.Challenge.rw_ringpostfix_k75_whole_histories_and_new).prog 70).name = ("law" : PySem.Str) := by kernel_rfl
      rw [← e]
      exact hmg0
    obtain ⟨fd, hb, hF⟩ := K75.facts (P := (PySem.Challenge.rw_ringpostfix_k75_whole_histories_and_new).prog) (w := w) KX G hmg c
    exact ⟨K, fd, K75.spLaw K, KX, hb, fun H a ns hl _ hS => ⟨a, ns, rfl, hS, hl, fun _ => rfl⟩, hF⟩
#print axioms PySem.Challenge.cw_ringpostfix_k75_whole_histories_and_new_holds
