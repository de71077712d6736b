import PyProof.Rows.All
import Wide.All
import OpenK.AllK
import Wide.FinOn
import HandS.ForMost
import HandS.Wide
import HandS.IsInst
import HandS.StrMore
import HandS.Style
import HandS.Walk
import HandS.List
import HandS.Dict
import HandS.Ends
import HandS.Words
import PyProof.ReprRoads
import PyProof.ListStr
import PyProof.TupleOfStr
import PyProof.StrOps2
import PyProof.ReprLen
import KE.DataEq
import HandS.Codes
import HandS.TupAny
import HandS.SortKw
import KE.DatumOrd
import PySem.Challenge.RW_sparecount_k57_places_that_are_needed
set_option Elab.async false
set_option linter.all false
set_option maxRecDepth 100000
set_option maxHeartbeats 16000000
namespace SP
open PySem PySem.Spec PyProof.Rows L2
/-! ### data with flat dicts, and repr of it -/
def flatD : V → Option PyData
  | .non => some .none
  | .bl b => some (.bool b)
  | .int i => some (.int i)
  | .str x => some (.str x)
  | _ => none
def keyD : Key → PyData
  | .inl i => .int i
  | .inr x => .str x
inductive Dq (K : PySem.W.Frag) (H : Hp) : V → PyData → Prop
  | dp {v : V} {d : PyData} : Dp K H v d → d.hasDict = false → Dq K H v d
  | dct {a : Addr} {kvs : List (Key × V)} {es : List (PyData × PyData)} : H a = some (.dK kvs) → Paired (fun (p : Key × V) (q : PyData × PyData) => q.1 = keyD p.1 ∧ flatD p.2 = some q.2) kvs es → Dq K H (.ref a) (.dict es)
theorem reads_flat {h : Heap} {v : V} {u : Value} {d : PyData} (f : flatD v = some d) (r : RelV v u) : Reads h u d [] := by
  cases v with
  | non => cases f; cases r; exact Reads.none
  | bl b => cases f; cases r; exact Reads.bool b
  | int i => cases f; obtain ⟨t, rfl⟩ := r; exact Reads.int i t
  | str x => cases f; obtain ⟨t, rfl⟩ := r; exact Reads.str x t
  | _ => cases f
theorem reads_keys {P : Program} {w : World} {h : Heap} : ∀ {ds : List DictEntry} {vs : List (Key × Value)} {kvs : List (Key × V)} {es : List (PyData × PyData)}, Pairs (mixKind P w) ds vs → KV kvs vs →
    Paired (fun (p : Key × V) (q : PyData × PyData) => q.1 = keyD p.1 ∧ flatD p.2 = some q.2) kvs es →
      ReadsAll h (ds.map (·.key)) (es.map (·.1)) [] ∧ ReadsAll h (ds.map (·.val)) (es.map (·.2)) []
  | _, _, _, _, .nil, .nil, .nil => ⟨ReadsAll.nil, ReadsAll.nil⟩
  | e :: ds, kv :: vs, p :: kvs, q :: es, .cons hk hv tp, .cons hr tr, .cons hf tf => by
    obtain ⟨i1, i2⟩ := reads_keys (h := h) tp tr tf
    obtain ⟨k1, r1⟩ := hr
    obtain ⟨f1, f2⟩ := hf
    have hk' : keyIs kv.1 e.key = true := hk
    rw [← k1] at hk'
    refine ⟨?_, ?_⟩
    · have : Reads h e.key q.1 [] := by
        rw [f1]
        rcases keyIs_shape hk' with ⟨i, t, e1, e2⟩ | ⟨x, t, e1, e2⟩
        · rw [e1, e2]; exact Reads.int i t
        · rw [e1, e2]; exact Reads.str x t
      exact ReadsAll.cons this i1
    · have : Reads h e.val q.2 [] := by
        rw [hv]
        exact reads_flat f2 r1
      exact ReadsAll.cons this i2
section
variable {X : Cx} {pins : List (Addr × Obj)} {σ : L2.St} {H : Hp} {s : Shared}
theorem Dq.reads (I : Inv X pins σ H s) {v : V} {d : PyData} {u : Value} (h : Dq X.K H v d) (r : RelV v u) : ∃ as, Reads s.heap u d as ∧ (d.hasDict = true → sysModules ∉ as) := by
  cases h with
  | dp h hn =>
    obtain ⟨as, R⟩ := Dp.reads I d v u h r
    exact ⟨as, R, fun e => by rw [hn] at e; cases e⟩
  | dct ha hf =>
    rename_i a kvs es
    cases r
    obtain ⟨_, hs, vs, kv, o, ds, ep, e1, e2, e3, _, tp, _⟩ := I.hok a _ ha
    obtain ⟨i1, i2⟩ := reads_keys (h := s.heap) tp kv hf
    refine ⟨_, Reads.dict e1 e2.1 e3 i1 i2, fun _ hm => ?_⟩
    have := beq_eq_false_iff_ne.mp hs
    simp only [List.append_nil, List.mem_singleton] at hm
    exact this hm.symm
/-- what repr of a thing tells -/
def shows (d : PyData) : Bool := d.showable && decide (d.shown.length ≤ sizeLine) && decide (d.depth ≤ 8)
def rReprD (K : PySem.W.Frag) : List V → Hp → VK → Prop := fun xs H Q => ∃ (x : V) (d : PyData), xs = [x] ∧ Dq K H x d ∧ shows d = true ∧ Q (.str d.shown) H
theorem call_reprD {X : Cx} (hg : X.A.guards = some []) (hu : X.A.units + 64 < cLine) : CallR X (.builtin "repr") (rReprD X.K) := by
  intro pins s σ H xs us Q I r h
  obtain ⟨x, d, rfl, hd, hs, q⟩ := h
  obtain ⟨u, rfl, rx⟩ := vals1 r
  unfold shows at hs
  simp only [Bool.and_eq_true, decide_eq_true_eq] at hs
  obtain ⟨⟨h1, h2⟩, h3⟩ := hs
  obtain ⟨as, R, hsm⟩ := hd.reads I rx
  cases R with
  | none => exact PySem.P.repr_of_none ⟨.str _, H, I.tok _, ⟨_, rfl⟩, q⟩
  | bool b => exact PySem.P.repr_of_bool ⟨.str _, H, I.tok _, ⟨_, rfl⟩, q⟩
  | int i t => exact PySem.P.repr_of_int (by simpa [PyData.showable] using h1) ⟨.str _, H, I.tok _, ⟨_, rfl⟩, q⟩
  | str z t => exact PySem.P.repr_of_str ⟨.str _, H, I.tok _, ⟨_, rfl⟩, q⟩ h2
  | list a1 a2 a3 a4 => exact repr_of_reads' (.list a1 a2 a3 a4) h1 hsm hg (by omega) (fun _ _ e => e) (fun h' u tk hk => ⟨.str _, H, I.kept hk, ⟨_, rfl⟩, q⟩) h2
  | tuple a1 a2 a3 a4 => exact repr_of_reads' (.tuple a1 a2 a3 a4) h1 hsm hg (by omega) (fun _ _ e => e) (fun h' u tk hk => ⟨.str _, H, I.kept hk, ⟨_, rfl⟩, q⟩) h2
  | dict a1 a2 a3 a4 a5 => exact repr_of_reads' (.dict a1 a2 a3 a4 a5) h1 hsm hg (by omega) (fun _ _ e => e) (fun h' u tk hk => ⟨.str _, H, I.kept hk, ⟨_, rfl⟩, q⟩) h2
end
/-! ### list(text), tuple(text), text * int -/
def signs (x : Str) : List V := x.cps.toList.map fun c => V.str ⟨#[c]⟩
theorem vals_signs {x : Str} {acc : Array Value} (h : ItemsOf (SignAt x) acc x.cps.size) : Vals (signs x) acc.toList := by
  obtain ⟨hz, hi⟩ := h
  obtain ⟨l⟩ := acc
  obtain ⟨⟨cs⟩⟩ := x
  have hz' : l.length = cs.length := hz
  have hi' : ∀ (j : Nat) (v : Value), l[j]? = some v → ∃ (c : Nat) (u : Tok), cs[j]? = some c ∧ v = .str ⟨#[c]⟩ u := by
    intro j v e
    obtain ⟨c, u, e1, e2⟩ := hi j v (by simpa using e)
    exact ⟨c, u, by simpa using e1, e2⟩
  clear hi hz
  show Paired RelV (cs.map fun c => V.str ⟨#[c]⟩) l
  induction cs generalizing l with
  | nil =>
    cases l with
    | nil => exact .nil
    | cons _ _ => simp at hz'
  | cons c cs ih =>
    cases l with
    | nil => simp at hz'
    | cons v l =>
      refine .cons ?_ (ih l (by simpa using hz') fun j v e => hi' (j + 1) v (by simpa using e))
      obtain ⟨c', u, e1, e2⟩ := hi' 0 v rfl
      have : c = c' := by simpa using e1
      subst this
      exact ⟨u, e2⟩
section
variable {X : Cx}
theorem call_list_text (hc : X.calm = true) : CallR X (.type "list") (fun xs H Q => ∃ x : Str, xs = [.str x] ∧ x.length ≤ sizeLine ∧ ∀ l, H l = none → Q (.ref l) (upd H l (.lst (signs x)))) := by
  intro pins s σ H xs us Q I r h
  obtain ⟨x, rfl, hz, q⟩ := h
  obtain ⟨u, rfl, t, rfl⟩ := vals1 r
  refine call_list_str (I.ok.hd hc) x t (fun h' tk acc' c' hk e hi => ?_) hz
  refine ⟨.ref s.heap.objs.size, _, I.laid (t' := tk) hk (Nat.le_refl _) (show ObjOk X.prog X.w _ h' _ (.lst (signs x)) from ⟨?_, acc'.toList, c', vals_signs hi, ?_⟩), rfl, q _ (I.hok.fresh (Nat.le_refl _))⟩
  · show ((x.cps.toList.map _).length) ≤ sizeLine
    rw [List.length_map]
    exact hz
  · rw [e]
theorem call_tuple_text (hc : X.calm = true) : CallR X (.type "tuple") (fun xs H Q => ∃ x : Str, xs = [.str x] ∧ x.length ≤ sizeLine ∧ ∀ l, H l = none → Q (.ref l) (upd H l (.tup (signs x)))) := by
  intro pins s σ H xs us Q I r h
  obtain ⟨x, rfl, hz, q⟩ := h
  obtain ⟨u, rfl, t, rfl⟩ := vals1 r
  refine call_tuple_str (I.ok.hd hc) x t (fun h' tk acc' hk hi => ?_) hz
  have I1 : Inv X pins σ H { s with heap := h', toks := tk } := I.kept hk
  refine ⟨.ref h'.objs.size, _, I1.laid (h' := h'.push { cls := .type "tuple", data := .seq acc' }) (t' := tk) (fun b o e => Heap.get?_push_of_some _ e) (Nat.le_refl _) (show ObjOk X.prog X.w _ _ _ (.tup (signs x)) from ⟨?_, acc'.toList, vals_signs hi, ?_⟩), rfl, q _ (I1.hok.fresh (Nat.le_refl _))⟩
  · show ((x.cps.toList.map _).length) ≤ sizeLine
    rw [List.length_map]
    exact hz
  · show IsTup _ _ acc'.toList.toArray
    rw [Array.toArray_toList]
    exact IsTup.new _ _
def repS (x : Str) (n : Nat) : Str := if n = 1 then x else ⟨(List.replicate n x.cps).foldl (· ++ ·) #[]⟩
theorem op_rep_str : OpR X (binaryOp .Mult) (fun x y H Q => ∃ (a : Str) (n : Nat), x = .str a ∧ y = .int (n : Int) ∧ 1 ≤ n ∧ n ≤ 1000 ∧ 1 ≤ a.length ∧ a.length ≤ 1000 ∧ (repS a n).length ≤ sizeLine ∧ Q (.str (repS a n)) H) := by
  intro pins s σ H x y v u Q I rx ry h
  obtain ⟨a, n, rfl, rfl, h1, h2, h3, h4, h5, q⟩ := h
  obtain ⟨t, rfl⟩ := rx
  obtain ⟨t', rfl⟩ := ry
  have hm : a.length * n ≤ 1000 * 1000 := Nat.mul_le_mul h4 h2
  refine PySem.P.mul_str ?_ (fun _ _ => ?_) (fun _ _ => ?_) ?_
  · rw [decide_eq_false (by omega), decide_eq_false (by omega)]
    rfl
  · have e : ((a.length : Nat) : Int) ≤ 1000 := by omega
    have : (1000 : Int) ≤ (2 ^ 63 - 1) / (n : Int) := by
      apply (Int.le_ediv_iff_mul_le (by omega)).mpr
      omega
    omega
  · have hs := sizeLine_eq
    unfold Builtin.Str.tooLong
    rw [Int.toNat_natCast]
    exact decide_eq_false (by omega)
  · rw [if_neg (by omega)]
    by_cases e : n = 1
    · subst e
      have : ((((1 : Nat) : Int) == 1 || a.length == 0) = true) := rfl
      rw [if_pos this]
      have q' : Q (.str a) H := by simpa [repS] using q
      exact ⟨.str a, H, I, ⟨t, rfl⟩, q'⟩
    · have h6 : (((n : Int) == 1 || a.length == 0)) = false := by
        rw [beq_eq_false_iff_ne.mpr (by omega), beq_eq_false_iff_ne.mpr (by omega)]
        rfl
      rw [h6, if_neg Bool.false_ne_true]
      rw [Int.toNat_natCast]
      unfold repS at q h5
      rw [if_neg e] at q h5
      exact ⟨h5, .str _, H, I.tok _, ⟨_, rfl⟩, q⟩
end
end SP

namespace SP
open PySem PySem.Spec PyProof.Rows L2
theorem ite_T {b : Bool} {A B : Prop} (hb : b = true) (h : A) : if b = true then A else B := by
  rw [if_pos hb]
  exact h
theorem ite_F {b : Bool} {A B : Prop} (hb : b = false) (h : B) : if b = true then A else B := by
  rw [if_neg (by rw [hb]; exact Bool.false_ne_true)]
  exact h
/-! ### a def that may be called -/
structure Callee (P : Program) (w : World) (K : PySem.W.Frag) (mg : Str → Option Value) (base : Heap) (x : Str) (ps : List Str) (k : Nat) (sp : Sp) : Prop where
  ex : ∃ (f : Addr) (fd : FuncData), FnOk P w K mg base CX0 k f fd ps sp ∧ mg x = some (.ref f) ∧ PySem.W.keepIn K (.ref f) = true ∧ Binds K fd ps []
theorem Callee.mono {P : Program} {w : World} {K : PySem.W.Frag} {mg : Str → Option Value} {base : Heap} {x : Str} {ps : List Str} {k j : Nat} {sp : Sp} (C : Callee P w K mg base x ps k sp) (h : k ≤ j) : Callee P w K mg base x ps j sp := by
  obtain ⟨f, fd, G, r⟩ := C.ex
  exact ⟨f, fd, G.mono h, r⟩
theorem pe_fn {X : Cx} {x : Str} {ps : List Str} {k j : Nat} {sp : Sp} {e : Expr} {es : List Expr} {p pos : Pos} {t : TA} (C : Callee X.prog X.w X.K X.mg X.base x ps k sp) (hr : Room j X.A) (hg : Gl X x) (ha : PA X (e :: es) t)
    (hk : k ≤ j := by decide) (h2 : (x == ("__debug__" : Str)) = false := by decide) (hs : starEach (e :: es) X.env = (false, eval e X.env) :: starEach es X.env := by rfl) (hp : (backTo pos (starEach es X.env)).any (·.1) = false := by rfl) :
    PE X (.Call (.Name x p) (e :: es) [] pos) (tCall sp [] E0 t) := by
  obtain ⟨f, fd, G, g, kp, b⟩ := C.ex
  exact pe_call G (hr.mono hk) hg g kp b .nil pass0 ha (hdb := h2) (he := hs) (hpl := hp)
/-! ### what the module has of the built-in names -/
structure Txt (mg : Str → Option Value) : Prop where
  n_isinstance : mg "isinstance" = none
  n_str : mg "str" = none
  n_bool : mg "bool" = none
  n_int : mg "int" = none
  n_len : mg "len" = none
  n_abs : mg "abs" = none
  n_range : mg "range" = none
  n_all : mg "all" = none
  n_any : mg "any" = none
  n_repr : mg "repr" = none
  n_max : mg "max" = none
  n_min : mg "min" = none
  n_tuple : mg "tuple" = none
  n_list : mg "list" = none
  n_dict : mg "dict" = none
  n_set : mg "set" = none
  n_zip : mg "zip" = none
  n_enumerate : mg "enumerate" = none
  n_reversed : mg "reversed" = none
  n_sum : mg "sum" = none
  n_sorted : mg "sorted" = none
/-! ### small things -/
theorem lcYes {A B : Hp → Prop} {σ : L2.St} {H : Hp} (h : A H) : tYes σ H (fun b H3 => if b = true then A H3 else B H3) := by
  show if true = true then A H else B H
  rw [if_pos rfl]
  exact h
theorem same_upd {H : Hp} {p : Addr} {o : HO} (h : H p = none) : Same H (upd H p o) := fun b x e => by
  rw [upd_ne (ne_of_none e h)]
  exact e
theorem same_put {H0 H : Hp} {t : Addr} {o : HO} (s : Same H0 H) (h : H0 t = none) : Same H0 (upd H t o) := fun b u e => by
  rw [upd_ne (ne_of_none e h)]
  exact s b u e
/-- an item of a list by a rest -/
theorem item_at {α : Type} (xs : List α) (n : Int) (m : Nat) (hm : xs.length = m) (h0 : 0 < m) : ∃ (i : Nat) (hi : i < xs.length), n % (m : Int) = (i : Int) ∧ (n % (m : Int)).toNat = i ∧ atI xs (n % (m : Int)) = some xs[i] := by
  have h1 : 0 ≤ n % (m : Int) := Int.emod_nonneg _ (by omega)
  have h2 : n % (m : Int) < (m : Int) := Int.emod_lt_of_pos _ (by omega)
  obtain ⟨i, hi⟩ := Int.eq_ofNat_of_zero_le h1
  have h3 : i < xs.length := by omega
  refine ⟨i, h3, hi, by omega, ?_⟩
  rw [hi]
  exact atI_nat (List.getElem?_eq_getElem h3)
section
variable {K : PySem.W.Frag} {H H' : Hp}
theorem Same.seqT {a : Addr} {xs : List V} (e : Same H H') (h : SqT K H a xs) : SqT K H' a xs := by
  rcases h with (h | ⟨o, h⟩) | h
  · exact .inl (.inl (e _ _ h))
  · exact .inl (.inr ⟨o, e _ _ h⟩)
  · exact .inr h
end
end SP

namespace SP
open PySem PySem.Spec PyProof.Rows L2
def topS (i : Nat) : Stmt := PySem.Challenge.pw_sparecount_k57_places_that_are_needed.main.body.getD i (.Pass ⟨0, 0, 0, 0⟩)
abbrev s_places_needed : Stmt := topS 1
theorem sc_places_needed : FnScope ["trail", "deed"] ["trail"] (defScope s_places_needed) := ⟨rfl, rfl, rfl, by decide +kernel, rfl, by decide +kernel, by decide +kernel⟩
abbrev s_law_cell_at : Stmt := topS 3
theorem sc_law_cell_at : FnScope ["script", "k"] ["script", "k"] (defScope s_law_cell_at) := ⟨rfl, rfl, rfl, by decide +kernel, rfl, by decide +kernel, by decide +kernel⟩
abbrev s_law_tape : Stmt := topS 4
theorem sc_law_tape : FnScope ["script", "k", "cell", "p", "one", "found", "turn"] ["script", "k"] (defScope s_law_tape) := ⟨rfl, rfl, rfl, by decide +kernel, rfl, by decide +kernel, by decide +kernel⟩
abbrev s_law_digit : Stmt := topS 5
theorem sc_law_digit : FnScope ["tape", "many", "found"] ["tape", "many"] (defScope s_law_digit) := ⟨rfl, rfl, rfl, by decide +kernel, rfl, by decide +kernel, by decide +kernel⟩
abbrev s_law_words : Stmt := topS 6
theorem sc_law_words : FnScope ["tape", "many", "letters", "way", "turn", "ends", "some", "flip", "step", "k", "sign"] ["tape", "many"] (defScope s_law_words) := ⟨rfl, rfl, rfl, by decide +kernel, rfl, by decide +kernel, by decide +kernel⟩
abbrev s_law_many_times : Stmt := topS 7
theorem sc_law_many_times : FnScope ["trail", "many", "found", "turn", "step"] ["trail", "many"] (defScope s_law_many_times) := ⟨rfl, rfl, rfl, by decide +kernel, rfl, by decide +kernel, by decide +kernel⟩
abbrev s_law : Stmt := topS 8
theorem sc_law : FnScope ["script", "k", "tape", "words", "trail", "due", "turn", "way", "number", "many", "handed", "found"] ["script"] (defScope s_law) := ⟨rfl, rfl, rfl, by decide +kernel, rfl, by decide +kernel, by decide +kernel⟩
end SP

namespace SP
open PySem PySem.Spec PyProof.Rows L2
theorem int_eq_of {i j : Int} (h : decide (V.int i = V.int j) = true) : i = j := V.int.inj (of_decide_eq_true h)
theorem int_ne_of {i j : Int} (h : ¬ decide (V.int i = V.int j) = true) : ¬ i = j := fun e => h (by rw [e]; exact decide_eq_true rfl)
/-- all but the tape is as it was -/
def But (t : Addr) (H H' : Hp) : Prop := ∀ b o, b ≠ t → H b = some o → H' b = some o
theorem But.refl (t : Addr) (H : Hp) : But t H H := fun _ _ _ e => e
theorem But.trans {t : Addr} {H H1 H2 : Hp} (a : But t H H1) (b : But t H1 H2) : But t H H2 := fun c o n e => b c o n (a c o n e)
theorem But.put {t : Addr} {H H1 : Hp} {o : HO} (a : But t H H1) : But t H (upd H1 t o) := fun c u n e => by
  rw [upd_ne n]
  exact a c u n e
theorem But.of {t : Addr} {H H1 : Hp} (a : Same H H1) : But t H H1 := fun c o _ e => a c o e
theorem But.same {t : Addr} {H0 H H1 : Hp} (a : But t H H1) (s : Same H0 H) (h : H0 t = none) : Same H0 H1 := fun b o e => a b o (ne_of_none e h) (s b o e)
/-- what is new behind the tape's turn was new ahead of it -/
theorem But.free {t : Addr} {H H1 : Hp} {n : Int} {l : Addr} (a : But t H H1) (ht : H1 t = some (.lst [.int n])) (h : H1 l = none) (hb : ∀ b, H b = none ∨ ∃ o, H b = some o := fun b => by cases H b with | none => exact .inl rfl | some o => exact .inr ⟨o, rfl⟩) : H l = none := by
  rcases hb l with e | ⟨o, e⟩
  · exact e
  · by_cases hl : l = t
    · rw [hl, ht] at h
      cases h
    · rw [a l o hl e] at h
      cases h
/-- a comprehension over range(n) whose items leave all as it is -/
theorem comp_range {j n : Nat} {te : TE} {vs : List Nat} {σ : L2.St} {H1 : Hp} {D : Addr} {Qd : Hp → Prop} (f : Nat → V) (hD : H1 D = none) (hn : n ≤ 1000) (hw : ∀ x, wipe ((wipe σ vs).set j (some x)) vs = wipe σ vs)
    (hs : ∀ (i : Nat) (H : Hp) (Q : VK), i < n → Same H1 H → (∀ H', Same H H' → Q (f i) H') → te ((wipe σ vs).set j (some (.int (0 + (i : Int))))) H Q)
    (hd : ∀ H', Same H1 H' → H' D = some (.lst ((List.range n).map f)) → Qd H') :
    ∃ W : Nat → Nat → Hp → Prop, (∃ m, W 0 m (upd H1 D (.lst []))) ∧ ∀ i m H, W i m H →
      ((Itr 0 n).stop i H ∧ Qd H) ∨ ((Itr 0 n).go i H ∧ ∃ Nx : Hp → Prop, (∀ H', Nx H' → ∃ m', m' < m ∧ W (i + 1) m' H') ∧ ∀ x H', (Itr 0 n).yld i H x H' → gName j x (wipe σ vs) H' fun σ2 H2 => wipe σ2 vs = wipe σ vs ∧ tYes σ2 H2 fun b H3 =>
        if b = true then te σ2 H3 fun y H4 => ∃ acc, H4 D = some (.lst acc) ∧ acc.length < sizeLine ∧ Nx (upd H4 D (.lst (acc ++ [y]))) else Nx H3) := by
  refine lc_range (lo := 0) (n := n) (fun i H' => Same H1 H' ∧ H' D = some (.lst ((List.range i).map f))) ⟨same_upd hD, upd_same⟩ ?_ (fun H' h => hd H' h.1 h.2)
  intro i H hi hp
  obtain ⟨s1, d1⟩ := hp
  refine ⟨hw _, ?_⟩
  refine lcYes ?_
  refine hs i H _ hi s1 fun H' s2 => ⟨_, s2 _ _ d1, ?_, same_put (s1.trans s2) hD, ?_⟩
  · rw [List.length_map, List.length_range]
    exact small1000 (by omega)
  · rw [upd_same, List.range_succ, List.map_append]
    rfl
/-- a comprehension over a list whose items leave all as it is -/
theorem comp_list {K : PySem.W.Frag} {a : Addr} {xs ys : List V} {j : Nat} {te : TE} {vs : List Nat} {σ : L2.St} {H1 : Hp} {D : Addr} {Qd : Hp → Prop} (hS : SqL K H1 a xs) (hD : H1 D = none) (hn : xs.length ≤ 1000) (hl : ys.length = xs.length) (hw : ∀ x, wipe ((wipe σ vs).set j (some x)) vs = wipe σ vs)
    (hs : ∀ (i : Nat) (x y : V) (H : Hp) (Q : VK), xs[i]? = some x → ys[i]? = some y → Same H1 H → (∀ H', Same H H' → Q y H') → te ((wipe σ vs).set j (some x)) H Q)
    (hd : ∀ H', Same H1 H' → H' D = some (.lst ys) → Qd H') :
    ∃ W : Nat → Nat → Hp → Prop, (∃ m, W 0 m (upd H1 D (.lst []))) ∧ ∀ i m H, W i m H →
      ((Itl K a).stop i H ∧ Qd H) ∨ ((Itl K a).go i H ∧ ∃ Nx : Hp → Prop, (∀ H', Nx H' → ∃ m', m' < m ∧ W (i + 1) m' H') ∧ ∀ x H', (Itl K a).yld i H x H' → gName j x (wipe σ vs) H' fun σ2 H2 => wipe σ2 vs = wipe σ vs ∧ tYes σ2 H2 fun b H3 =>
        if b = true then te σ2 H3 fun y H4 => ∃ acc, H4 D = some (.lst acc) ∧ acc.length < sizeLine ∧ Nx (upd H4 D (.lst (acc ++ [y]))) else Nx H3) := by
  refine lc_list (K := K) (a := a) (xs := xs) (fun i H' => Same H1 H' ∧ H' D = some (.lst (ys.take i))) ⟨same_upd hD, upd_same⟩ (fun i H' _ h => h.1.seq hS) ?_ (fun H' h => hd H' h.1 (by rw [h.2, List.take_of_length_le (by omega)]))
  intro i x H hx hp
  obtain ⟨s1, d1⟩ := hp
  have hi : i < xs.length := (List.getElem?_eq_some_iff.mp hx).1
  have hy : ys[i]? = some ys[i] := List.getElem?_eq_getElem (by omega)
  refine ⟨hw _, ?_⟩
  refine lcYes ?_
  refine hs i x _ H _ hx hy s1 fun H' s2 => ⟨_, s2 _ _ d1, ?_, same_put (s1.trans s2) hD, ?_⟩
  · rw [List.length_take]
    exact small1000 (by omega)
  · rw [upd_same, List.take_add_one, hy]
    rfl
/-- a comprehension over enumerate(list) whose items leave all as it is -/
theorem comp_enum {K : PySem.W.Frag} {a : Addr} {xs ys : List V} {ja jb : Nat} {te : TE} {vs : List Nat} {σ : L2.St} {H1 : Hp} {D : Addr} {Qd : Hp → Prop} (hS : SqL K H1 a xs) (hD : H1 D = none) (hn : xs.length ≤ 1000) (hl : ys.length = xs.length)
    (hw : ∀ x y, wipe (((wipe σ vs).set ja (some x)).set jb (some y)) vs = wipe σ vs)
    (hs : ∀ (i : Nat) (x y : V) (H : Hp) (Q : VK), xs[i]? = some x → ys[i]? = some y → Same H1 H → (∀ H', Same H H' → Q y H') → te (((wipe σ vs).set ja (some (.int (i : Nat)))).set jb (some x)) H Q)
    (hd : ∀ H', Same H1 H' → H' D = some (.lst ys) → Qd H') :
    ∃ W : Nat → Nat → Hp → Prop, (∃ m, W 0 m (upd H1 D (.lst []))) ∧ ∀ i m H, W i m H →
      ((Ite K a).stop i H ∧ Qd H) ∨ ((Ite K a).go i H ∧ ∃ Nx : Hp → Prop, (∀ H', Nx H' → ∃ m', m' < m ∧ W (i + 1) m' H') ∧ ∀ x H', (Ite K a).yld i H x H' → gTup K 2 (gCons (gName ja) (gCons (gName jb) gNil)) x (wipe σ vs) H' fun σ2 H2 => wipe σ2 vs = wipe σ vs ∧ tYes σ2 H2 fun b H3 =>
        if b = true then te σ2 H3 fun y H4 => ∃ acc, H4 D = some (.lst acc) ∧ acc.length < sizeLine ∧ Nx (upd H4 D (.lst (acc ++ [y]))) else Nx H3) := by
  refine lc_it (walk_enum (xs := xs)) (fun i H' => Same H1 H' ∧ H' D = some (.lst (ys.take i))) ⟨same_upd hD, upd_same⟩ (fun i H' _ h => h.1.seq hS) ?_ (fun H' h => hd H' h.1 (by rw [h.2, List.take_of_length_le (by omega)]))
  intro i v H H' hi hp hy
  obtain ⟨s1, d1⟩ := hp
  obtain ⟨T, x1, x2, rfl, hT, rfl, e1, e2⟩ := hy
  cases e1
  have hyi : ys[i]? = some ys[i] := List.getElem?_eq_getElem (by omega)
  have sT : Same H (upd H T (.tup [.int (i : Nat), x2])) := same_upd hT
  refine ⟨T, _, rfl, .inl (.inl upd_same), rfl, _, _, rfl, _, _, rfl, rfl, hw _ _, ?_⟩
  refine lcYes ?_
  refine hs i x2 _ _ _ e2 hyi (s1.trans sT) fun H2 s2 => ⟨_, s2 _ _ (sT _ _ d1), ?_, same_put (s1.trans (sT.trans s2)) hD, ?_⟩
  · rw [List.length_take]
    exact small1000 (by omega)
  · rw [upd_same, List.take_add_one, hyi]
    rfl
def rLenS (K : PySem.W.Frag) : List V → Hp → VK → Prop := fun xs H Q => ∃ p ys, xs = [.ref p] ∧ (SqL K H p ys ∨ SqT K H p ys) ∧ Q (.int ys.length) H
theorem call_lenS {X : Cx} : CallR X (.builtin "len") (rLenS X.K) := call_len_seq
def rListS (K : PySem.W.Frag) : List V → Hp → VK → Prop := fun xs H Q => ∃ p ys, xs = [.ref p] ∧ (SqL K H p ys ∨ SqT K H p ys) ∧ ∀ l, H l = none → Q (.ref l) (upd H l (.lst ys))
theorem call_listS {X : Cx} : CallR X (.type "list") (rListS X.K) := call_list_of
def rTupleS (K : PySem.W.Frag) : List V → Hp → VK → Prop := fun xs H Q => ∃ p ys, xs = [.ref p] ∧ ((SqL K H p ys ∧ ∀ l, H l = none → Q (.ref l) (upd H l (.tup ys))) ∨ (SqT K H p ys ∧ Q (.ref p) H))
theorem call_tupleS {X : Cx} : CallR X (.type "tuple") (rTupleS X.K) := call_tuple_of
/-! ### text * int, also none -/
def repS0 (a : Str) (n : Nat) : Str := if n = 0 then Str.empty else repS a n
theorem op_rep_str0 {X : Cx} : OpR X (binaryOp .Mult) (fun x y H Q => ∃ (a : Str) (n : Nat), x = .str a ∧ y = .int (n : Int) ∧ n ≤ 1000 ∧ 1 ≤ a.length ∧ a.length ≤ 1000 ∧ (repS0 a n).length ≤ sizeLine ∧ Q (.str (repS0 a n)) H) := by
  intro pins s σ H x y v u Q I rx ry h
  obtain ⟨a, n, rfl, rfl, h2, h3, h4, h5, q⟩ := h
  by_cases e : n = 0
  · subst e
    obtain ⟨t, rfl⟩ := rx
    obtain ⟨t', rfl⟩ := ry
    exact PySem.P.mul_str_none (by show (0 : Int) < 1; decide) (by show ¬ (0 : Int) < -(2 ^ 63); decide) ⟨.str _, H, I.tok _, ⟨_, rfl⟩, by simpa [repS0] using q⟩
  · unfold repS0 at h5 q
    rw [if_neg e] at h5 q
    exact op_rep_str pins s σ H _ _ v u Q I rx ry ⟨a, n, rfl, rfl, by omega, h2, h3, h4, h5, q⟩
end SP

namespace SP
open PySem PySem.Spec PyProof.Rows L2
section
variable {K : PySem.W.Frag} {H H' : Hp}
mutual
theorem dp_mono (s : Same H H') : ∀ {v : V} {d : PyData}, Dp K H v d → Dp K H' v d
  | _, _, .non => .non
  | _, _, .bl b => .bl b
  | _, _, .int i => .int i
  | _, _, .str x => .str x
  | _, _, .lst h a => .lst (Same.seq s h) (dpAll_mono s a)
  | _, _, .tup h a => .tup (Same.seqT s h) (dpAll_mono s a)
theorem dpAll_mono (s : Same H H') : ∀ {vs : List V} {ds : List PyData}, DpAll K H vs ds → DpAll K H' vs ds
  | _, _, .nil => .nil
  | _, _, .cons h t => .cons (dp_mono s h) (dpAll_mono s t)
end
theorem dp_tup {v : V} {ds : List PyData} (h : Dp K H v (.tuple ds)) : ∃ a xs, v = .ref a ∧ SqT K H a xs ∧ DpAll K H xs ds := by
  cases h with
  | tup h a => exact ⟨_, _, rfl, h, a⟩
theorem dp_lst {v : V} {ds : List PyData} (h : Dp K H v (.list ds)) : ∃ a xs, v = .ref a ∧ SqL K H a xs ∧ DpAll K H xs ds := by
  cases h with
  | lst h a => exact ⟨_, _, rfl, h, a⟩
theorem dp_str {v : V} {x : Str} (h : Dp K H v (.str x)) : v = .str x := by
  cases h
  rfl
theorem dp_int {v : V} {x : Int} (h : Dp K H v (.int x)) : v = .int x := by
  cases h
  rfl
theorem dp_bl {v : V} {x : Bool} (h : Dp K H v (.bool x)) : v = .bl x := by
  cases h
  rfl
theorem dp_non {v : V} (h : Dp K H v .none) : v = .non := by
  cases h
  rfl
theorem dpAll_len : ∀ {xs : List V} {ds : List PyData}, DpAll K H xs ds → xs.length = ds.length
  | _, _, .nil => rfl
  | _, _, .cons _ t => congrArg (· + 1) (dpAll_len t)
theorem dpAll_get : ∀ {xs : List V} {ds : List PyData} {i : Nat} {d : PyData}, DpAll K H xs ds → ds[i]? = some d → ∃ v, xs[i]? = some v ∧ Dp K H v d
  | _, _, _, _, .nil, e => by simp at e
  | _, _, 0, d, .cons h _, e => by
    rw [List.getElem?_cons_zero] at e
    cases e
    exact ⟨_, rfl, h⟩
  | _, _, i + 1, _, .cons _ t, e => by
    obtain ⟨v, e1, h1⟩ := dpAll_get (i := i) t (by simpa using e)
    exact ⟨v, by simpa using e1, h1⟩
theorem dpAll_at : ∀ {xs : List V} {ds : List PyData} {i : Nat} {v : V}, DpAll K H xs ds → xs[i]? = some v → ∃ d, ds[i]? = some d ∧ Dp K H v d
  | _, _, _, _, .nil, e => by simp at e
  | _, _, 0, v, .cons h _, e => by
    rw [List.getElem?_cons_zero] at e
    cases e
    exact ⟨_, rfl, h⟩
  | _, _, i + 1, _, .cons _ t, e => by
    obtain ⟨d, e1, h1⟩ := dpAll_at (i := i) t (by simpa using e)
    exact ⟨d, by simpa using e1, h1⟩
theorem dpAll_append : ∀ {xs ys : List V} {ds es : List PyData}, DpAll K H xs ds → DpAll K H ys es → DpAll K H (xs ++ ys) (ds ++ es)
  | _, _, _, _, .nil, h => h
  | _, _, _, _, .cons a t, h => .cons a (dpAll_append t h)
theorem dpAll_take : ∀ (n : Nat) {xs : List V} {ds : List PyData}, DpAll K H xs ds → DpAll K H (xs.take n) (ds.take n)
  | 0, _, _, _ => by simpa using DpAll.nil
  | n + 1, _, _, .nil => by simpa using DpAll.nil
  | n + 1, _, _, .cons a t => .cons a (dpAll_take n t)
theorem dpAll_drop : ∀ (n : Nat) {xs : List V} {ds : List PyData}, DpAll K H xs ds → DpAll K H (xs.drop n) (ds.drop n)
  | 0, _, _, h => by simpa using h
  | n + 1, _, _, .nil => by simpa using DpAll.nil
  | n + 1, _, _, .cons a t => dpAll_drop n t
theorem dpAll_strs : ∀ l : List Str, DpAll K H (l.map V.str) (l.map PyData.str)
  | [] => .nil
  | x :: l => .cons (.str x) (dpAll_strs l)
theorem dpAll_ints : ∀ l : List Int, DpAll K H (l.map V.int) (l.map PyData.int)
  | [] => .nil
  | x :: l => .cons (.int x) (dpAll_ints l)
theorem strs_of : ∀ {xs : List V} (l : List Str), DpAll K H xs (l.map PyData.str) → xs = l.map V.str
  | _, [], .nil => rfl
  | _, x :: l, .cons h t => by rw [dp_str h, strs_of l t] <;> rfl
theorem dpAll_snoc {xs : List V} {ds : List PyData} {x : V} {d : PyData} (h : DpAll K H xs ds) (hx : Dp K H x d) : DpAll K H (xs ++ [x]) (ds ++ [d]) := dpAll_append h (.cons hx .nil)
end
theorem plain_strs (l : List Str) : PyData.plainAll (l.map .str) = true := by
  induction l with
  | nil => rfl
  | cons x l ih =>
    show (PyData.plain (.str x) && PyData.plainAll (l.map .str)) = true
    rw [ih]
    rfl
/-! ### == and != of data, `in`, with the room that their depth asks -/
section
variable {X : Cx}
def rEqP (K : PySem.W.Frag) (m : Nat) : R2 := fun x y H Q => ∃ d e, Dp K H x d ∧ Dp K H y e ∧ d.plain = true ∧ e.plain = true ∧ min d.depth e.depth ≤ m ∧ Q (.bl (PyData.eqv d e)) H
def rNeP (K : PySem.W.Frag) (m : Nat) : R2 := fun x y H Q => ∃ d e, Dp K H x d ∧ Dp K H y e ∧ d.plain = true ∧ e.plain = true ∧ min d.depth e.depth ≤ m ∧ Q (.bl (!PyData.eqv d e)) H
theorem op_eqP {m : Nat} (hu : X.A.units + m < cLine) : OpR X (compareOp .Eq) (rEqP X.K m) := by
  intro pins s σ H x y v u Q I rx ry h
  obtain ⟨d, e, hd, he, sd, se, hm, q⟩ := h
  obtain ⟨as, r1⟩ := Dp.reads I d x v hd rx
  obtain ⟨bs, r2⟩ := Dp.reads I e y u he ry
  exact SeqAt.eq_plain r1 r2 sd se (by omega) ⟨.bl _, H, I, rfl, q⟩
theorem op_neP {m : Nat} (hu : X.A.units + m < cLine) : OpR X (compareOp .NotEq) (rNeP X.K m) := by
  intro pins s σ H x y v u Q I rx ry h
  obtain ⟨d, e, hd, he, sd, se, hm, q⟩ := h
  obtain ⟨as, r1⟩ := Dp.reads I d x v hd rx
  obtain ⟨bs, r2⟩ := Dp.reads I e y u he ry
  exact SeqAt.ne_plain r1 r2 sd se (by omega) ⟨.bl _, H, I, rfl, q⟩
end
theorem room_units {k : Nat} {A : Around} (r : Room k A) : A.units + (16 * k + 200) < cLine := by
  have := r.un
  omega
end SP

namespace SP
open PySem PySem.Spec PyProof.Rows L2
/-! ### what stays: all but some lists (the tape, a list of words) -/
def Kp (M : Addr → Prop) (H H' : Hp) : Prop := ∀ b o, ¬ M b → H b = some o → H' b = some o
theorem Kp.refl (M : Addr → Prop) (H : Hp) : Kp M H H := fun _ _ _ e => e
theorem Kp.trans {M : Addr → Prop} {H H1 H2 : Hp} (a : Kp M H H1) (b : Kp M H1 H2) : Kp M H H2 := fun c o n e => b c o n (a c o n e)
theorem Kp.of {M : Addr → Prop} {H H1 : Hp} (a : Same H H1) : Kp M H H1 := fun c o _ e => a c o e
theorem Kp.mono {M N : Addr → Prop} {H H1 : Hp} (a : Kp M H H1) (h : ∀ b, M b → N b) : Kp N H H1 := fun c o n e => a c o (fun m => n (h c m)) e
theorem Kp.but {M : Addr → Prop} {t : Addr} {H H1 : Hp} (a : But t H H1) (h : M t) : Kp M H H1 := fun c o n e => a c o (fun m => n (m ▸ h)) e
theorem Kp.put {M : Addr → Prop} {H H1 : Hp} {t : Addr} {o : HO} (a : Kp M H H1) (h : M t) : Kp M H (upd H1 t o) := fun c u n e => by
  rw [upd_ne (fun z => n (by rw [z]; exact h))]
  exact a c u n e
theorem Kp.alloc {M : Addr → Prop} {p : Addr} {H H1 : Hp} {o : HO} (b : Kp M H H1) (hp : H1 p = none) : Kp M H (upd H1 p o) := b.trans (Kp.of (same_upd hp))
/-- an object that may be changed -/
def isMut : HO → Bool
  | .lst _ => true
  | .dK _ => true
  | _ => false
/-- what can't be changed stays -/
def Tk (H H' : Hp) : Prop := ∀ a o, isMut o = false → H a = some o → H' a = some o
theorem Tk.refl (H : Hp) : Tk H H := fun _ _ _ e => e
theorem Tk.trans {H H1 H2 : Hp} (a : Tk H H1) (b : Tk H1 H2) : Tk H H2 := fun c o n e => b c o n (a c o n e)
theorem Tk.of {H H1 : Hp} (a : Same H H1) : Tk H H1 := fun c o _ e => a c o e
theorem Kp.tk {M : Addr → Prop} {H H1 : Hp} (a : Kp M H H1) (h : ∀ b, M b → ∃ o, H b = some o ∧ isMut o = true) : Tk H H1 := fun c o n e => a c o (fun m => by
  obtain ⟨u, e1, e2⟩ := h c m
  rw [e] at e1
  cases e1
  rw [n] at e2
  cases e2) e
theorem But.tk {t : Addr} {xs : List V} {H H1 : Hp} (a : But t H H1) (h : H t = some (.lst xs)) : Tk H H1 := fun c o n e => a c o (fun m => by
  rw [m, h] at e
  cases e
  cases n) e
/-! data without lists: what it is can't change -/
mutual
def imm : PyData → Bool
  | .none | .bool _ | .int _ | .str _ => true
  | .tuple xs => immAll xs
  | .list _ | .dict _ => false
def immAll : List PyData → Bool
  | [] => true
  | x :: xs => imm x && immAll xs
end
section
variable {K : PySem.W.Frag} {H H' : Hp}
theorem Tk.seqT {a : Addr} {xs : List V} (e : Tk H H') (h : SqT K H a xs) : SqT K H' a xs := by
  rcases h with (h | ⟨o, h⟩) | h
  · exact .inl (.inl (e _ _ rfl h))
  · exact .inl (.inr ⟨o, e _ _ rfl h⟩)
  · exact .inr h
mutual
theorem dp_tk (s : Tk H H') : ∀ {v : V} {d : PyData}, imm d = true → Dp K H v d → Dp K H' v d
  | _, _, _, .non => .non
  | _, _, _, .bl b => .bl b
  | _, _, _, .int i => .int i
  | _, _, _, .str x => .str x
  | _, _, i, .lst h a => by cases i
  | _, _, i, .tup h a => .tup (Tk.seqT s h) (dpAll_tk s i a)
theorem dpAll_tk (s : Tk H H') : ∀ {vs : List V} {ds : List PyData}, immAll ds = true → DpAll K H vs ds → DpAll K H' vs ds
  | _, _, _, .nil => .nil
  | _, _, i, .cons h t => by
    have i' := Bool.and_eq_true_iff.mp i
    exact .cons (dp_tk s i'.1 h) (dpAll_tk s i'.2 t)
end
end
/-! ### pairs of texts -/
def prD (p : Str × Str) : PyData := .tuple [.str p.1, .str p.2]
theorem imm_prs (al : List (Str × Str)) : immAll (al.map prD) = true := by
  induction al with
  | nil => rfl
  | cons p al ih =>
    show (imm (prD p) && immAll (al.map prD)) = true
    rw [ih]
    rfl
/-- a list of pairs of texts, apart from what may be changed -/
def Prs (K : PySem.W.Frag) (H : Hp) (a : Addr) (al : List (Str × Str)) : Prop := ∃ xs, H a = some (.lst xs) ∧ DpAll K H xs (al.map prD)
theorem Prs.same {K : PySem.W.Frag} {H H' : Hp} {a : Addr} {al : List (Str × Str)} (s : Same H H') (h : Prs K H a al) : Prs K H' a al := by
  obtain ⟨xs, h1, h2⟩ := h
  exact ⟨xs, s _ _ h1, dpAll_mono s h2⟩
theorem Prs.kp {K : PySem.W.Frag} {M : Addr → Prop} {H H' : Hp} {a : Addr} {al : List (Str × Str)} (s : Kp M H H') (t : Tk H H') (n : ¬ M a) (h : Prs K H a al) : Prs K H' a al := by
  obtain ⟨xs, h1, h2⟩ := h
  exact ⟨xs, s _ _ n h1, dpAll_tk t (imm_prs al) h2⟩
theorem Prs.at {K : PySem.W.Frag} {H : Hp} {al : List (Str × Str)} {xs : List V} {i : Nat} {v : V} (h2 : DpAll K H xs (al.map prD)) (e : xs[i]? = some v) : ∃ p b, al[i]? = some p ∧ v = .ref b ∧ SqT K H b [.str p.1, .str p.2] := by
  obtain ⟨d, e1, e2⟩ := dpAll_at h2 e
  rw [List.getElem?_map] at e1
  obtain ⟨p, hp, rfl⟩ := Option.map_eq_some_iff.mp e1
  obtain ⟨b, ys, rfl, e3, e4⟩ := dp_tup e2
  have := strs_of [p.1, p.2] e4
  subst this
  exact ⟨p, b, hp, rfl, e3⟩
end SP
namespace SP
open PySem PySem.Spec PyProof.Rows L2
theorem tk_put {H : Hp} {D : Addr} {ys : List V} {o : HO} (h : H D = some (.lst ys)) : Tk H (upd H D o) := fun b u n e => by
  have : b ≠ D := fun z => by
    rw [z, h] at e
    cases e
    cases n
  rw [upd_ne this]
  exact e
/-- a comprehension that leaves all as it is, its items data -/
theorem comp_dp {K : PySem.W.Frag} {a : Addr} {xs : List V} {g : TG} {tt : TT} {te : TE} {vs : List Nat} {σ : L2.St} {H1 : Hp} {D : Addr} {Qd : Hp → Prop} (acc : Nat → List PyData) (hS : SqL K H1 a xs) (hD : H1 D = none) (hn : xs.length ≤ 1000) (h0 : acc 0 = []) (him : ∀ i, immAll (acc i) = true)
    (hs : ∀ (i : Nat) (x : V) (H : Hp) (Y : V → Hp → Prop) (N : Hp → Prop), xs[i]? = some x → Same H1 H → (∀ y H4 d, Same H H4 → Dp K H4 y d → acc (i + 1) = acc i ++ [d] → Y y H4) → (∀ H3, Same H H3 → acc (i + 1) = acc i → N H3) →
      g x (wipe σ vs) H fun σ2 H2 => wipe σ2 vs = wipe σ vs ∧ tt σ2 H2 fun b H3 => if b = true then te σ2 H3 Y else N H3)
    (hd : ∀ H' ys, Same H1 H' → H' D = some (.lst ys) → DpAll K H' ys (acc xs.length) → Qd H') :
    ∃ W : Nat → Nat → Hp → Prop, (∃ m, W 0 m (upd H1 D (.lst []))) ∧ ∀ i m H, W i m H →
      ((Itl K a).stop i H ∧ Qd H) ∨ ((Itl K a).go i H ∧ ∃ Nx : Hp → Prop, (∀ H', Nx H' → ∃ m', m' < m ∧ W (i + 1) m' H') ∧ ∀ x H', (Itl K a).yld i H x H' → g x (wipe σ vs) H' fun σ2 H2 => wipe σ2 vs = wipe σ vs ∧ tt σ2 H2 fun b H3 =>
        if b = true then te σ2 H3 fun y H4 => ∃ acc, H4 D = some (.lst acc) ∧ acc.length < sizeLine ∧ Nx (upd H4 D (.lst (acc ++ [y]))) else Nx H3) := by
  refine lc_list (K := K) (a := a) (xs := xs) (fun i H' => Same H1 H' ∧ ∃ ys, ys.length ≤ i ∧ H' D = some (.lst ys) ∧ DpAll K H' ys (acc i)) ⟨same_upd hD, [], Nat.le_refl _, upd_same, by rw [h0]; exact .nil⟩ (fun i H' _ h => h.1.seq hS) ?_ (fun H' h => by
    obtain ⟨s, ys, _, d, p⟩ := h
    exact hd H' ys s d p)
  intro i x H hx hp
  obtain ⟨s1, ys, hl, d1, p1⟩ := hp
  have hi : i < xs.length := (List.getElem?_eq_some_iff.mp hx).1
  refine hs i x H _ _ hx s1 ?_ ?_
  · intro y H4 d s4 hy he
    have n1 : ys.length < sizeLine := small1000 (by omega)
    have pn := dpAll_snoc (dpAll_mono s4 p1) hy
    refine ⟨_, s4 _ _ d1, n1, same_put (s1.trans s4) hD, ys ++ [y], ?_, upd_same, ?_⟩
    · rw [List.length_append]
      exact Nat.succ_le_succ hl
    · rw [he]
      exact dpAll_tk (tk_put (s4 _ _ d1)) (he ▸ him (i + 1)) pn
  · intro H3 s3 he
    exact ⟨s1.trans s3, ys, Nat.le_succ_of_le hl, s3 _ _ d1, by rw [he]; exact dpAll_mono s3 p1⟩
end SP

namespace SP
open PySem PySem.Spec PyProof.Rows L2
theorem seven {x : Int} (h0 : 0 ≤ x) (h : x < 7) (xs : List V) (hl : xs.length = 7) : ∃ v, atI xs x = some v ∧ v ∈ xs := by
  obtain ⟨n, rfl⟩ := Int.eq_ofNat_of_zero_le h0
  have hn : n < xs.length := by omega
  exact ⟨xs[n], atI_nat (List.getElem?_eq_getElem hn), List.getElem_mem hn⟩
section
variable {P : Program} {w : World} {K : PySem.W.Frag} {mg : Str → Option Value} {base : Heap}
def spDigit (K : PySem.W.Frag) : Sp := fun vs H Q _ => ∃ (t : Addr) (n m : Int), vs = [.ref t, .int m] ∧ H t = some (.lst [.int n]) ∧ 0 < m ∧ m < 2 ^ 62 ∧ Q (.int (n % m)) (upd H t (.lst [.int (n / m)]))
theorem ok_law_digit {f : Addr} {fd : FuncData} (F : Fun K "_law_digit" "_law_digit" s_law_digit f fd) (T : Txt mg)  : FnOk P w K mg base CX0 1 f fd ["tape", "many"] (spDigit K) := by
  refine F.ok sc_law_digit (fun vs H Q E h => ?_) (fun cdv A outer s H vs Q E hr h => ?_)
  · obtain ⟨t, n, m, rfl, _⟩ := h
    rfl
  · obtain ⟨t, n, m, rfl, ht, h0, h1, q⟩ := h
    refine ⟨_, (pss_cons (ps_set (i := 2) sc_law_digit.nd rfl (Or.inl rfl) (pe_op op_mod (pe_ix ix_list (pv 0) pe_int (fun _ _ => rfl)) (pv 1)))
      (pss_cons (ps_asg (pe_op op_fdivW (pe_ix ix_list (pv 0) pe_int (fun _ _ => rfl)) (pv 1)) (pg_sub (pv 0) pe_int set_list))
      (pss_one (ps_ret (pv 2))))), ?_⟩
    have hS : SqL K H t [.int n] := .inl (.inl ht)
    refine ⟨_, rfl, t, [.int n], 0, .int n, rfl, rfl, hS, atI_nat (j := 0) rfl, _, rfl, n, m, rfl, rfl, h0, ?_⟩
    refine ⟨_, rfl, t, [.int n], 0, .int n, rfl, rfl, hS, atI_nat (j := 0) rfl, _, rfl, n, m, rfl, rfl, wide_div (b := 62) h0 (by omega) (by decide) (by decide), ?_⟩
    refine ⟨_, rfl, t, [.int n], 0, 0, rfl, rfl, ht, rfl, ?_⟩
    exact ⟨_, rfl, q⟩
/-! ### _law_cell_at -/
def cellF (ns : List Int) (k : Nat) : Int := ns.getD k 0
def spCell (K : PySem.W.Frag) : Sp := fun vs H Q _ => ∃ (a : Addr) (ns : List Int) (k : Nat), vs = [.ref a, .int (k : Int)] ∧ SqL K H a (ns.map V.int) ∧ k < 1000 ∧ Q (.int (cellF ns k)) H
theorem ok_law_cell_at {f : Addr} {fd : FuncData} (F : Fun K "_law_cell_at" "_law_cell_at" s_law_cell_at f fd) (T : Txt mg)  : FnOk P w K mg base CX0 1 f fd ["script", "k"] (spCell K) := by
  refine F.ok sc_law_cell_at (fun vs H Q E h => ?_) (fun cdv A outer s H vs Q E hr h => ?_)
  · obtain ⟨a, ns, k, rfl, _⟩ := h
    rfl
  · obtain ⟨a, ns, k, rfl, hS, hk, q⟩ := h
    refine ⟨_, (pss_cons (ps_if (pt_cmpR op_lt (pv 1) (pe_callB call_len_seq (by rfl) T.n_len (by decide +kernel) (pa_cons (pv 0) pa_nil)) (nomark _)) (pss_one (ps_ret (pe_ix ix_list (pv 0) (pv 1) (fun _ _ => rfl)))) pss_nil)
      (pss_one (ps_ret pe_int))), ?_⟩
    refine ⟨_, rfl, _, rfl, a, ns.map V.int, rfl, .inl hS, _, _, rfl, rfl, _, rfl, ?_⟩
    rw [List.length_map]
    by_cases h : k < ns.length
    · refine ite_T (decide_eq_true (by omega)) ?_
      refine ⟨_, rfl, _, rfl, a, ns.map V.int, k, .int (cellF ns k), rfl, rfl, hS, atI_nat ?_, q⟩
      unfold cellF
      rw [List.getElem?_map, List.getD_eq_getElem?_getD, List.getElem?_eq_getElem h]
      rfl
    · refine ite_F (decide_eq_false (by omega)) ?_
      have e : cellF ns k = 0 := by
        unfold cellF
        rw [List.getD_eq_getElem?_getD, List.getElem?_eq_none (by omega)]
        rfl
      rw [e] at q
      exact q
def spTape (K : PySem.W.Frag) : Sp := fun vs H Q _ => ∃ (a : Addr) (ns : List Int) (k : Nat), vs = [.ref a, .int (k : Int)] ∧ SqL K H a (ns.map V.int) ∧ k < 1000 ∧
  ∀ (H' : Hp) (t : Addr) (n : Int), Same H H' → H t = none → H' t = some (.lst [.int n]) → Q (.ref t) H'
def primes : List V := [.int 2147483647, .int 998244353, .int 1000000007, .int 1000003, .int 10000000019, .int 67280421310721, .int 1000000000039]
theorem primes_in : ∀ v ∈ primes, ∃ p : Int, v = .int p ∧ 0 < p ∧ p < 2 ^ 62 := by
  intro v hv
  simp only [primes, List.mem_cons, List.not_mem_nil, or_false] at hv
  rcases hv with rfl | rfl | rfl | rfl | rfl | rfl | rfl <;> exact ⟨_, rfl, by decide, by decide⟩
theorem ok_law_tape {f : Addr} {fd : FuncData} (F : Fun K "_law_tape" "_law_tape" s_law_tape f fd) (T : Txt mg) (C_law_cell_at : Callee P w K mg base "_law_cell_at" ["script", "k"] 1 (spCell K)) : FnOk P w K mg base CX0 2 f fd ["script", "k"] (spTape K) := by
  refine F.ok sc_law_tape (fun vs H Q E h => ?_) (fun cdv A outer s H vs Q E hr h => ?_)
  · obtain ⟨a, ns, k, rfl, _⟩ := h
    rfl
  · obtain ⟨a, ns, k, rfl, hS, hk, q⟩ := h
    refine ⟨_, (pss_cons (ps_set (i := 2) sc_law_tape.nd rfl (Or.inl rfl) (pe_fn C_law_cell_at hr (by rfl) (pa_cons (pv 0) (pa_cons (pv 1) pa_nil))))
      (pss_cons (ps_if (pt_cmpR op_eq (pv 2) pe_int (nomark _)) (pss_one (ps_ret (pe_lst (pa_cons pe_int pa_nil)))) pss_nil)
      (pss_cons (ps_if (pt_cmpR op_ge (pv 2) (pe_op op_pow pe_int pe_int) (nomark _)) (pss_one (ps_ret (pe_lst (pa_cons (pe_op op_sub (pv 2) (pe_op op_pow pe_int pe_int)) pa_nil)))) pss_nil)
      (pss_cons (ps_set (i := 3) sc_law_tape.nd rfl (Or.inl rfl) (pe_ix (r := rIxL K) ix_list (pe_lst (pa_cons pe_int (pa_cons pe_int (pa_cons pe_int (pa_cons pe_int (pa_cons pe_int (pa_cons pe_int (pa_cons pe_int pa_nil)))))))) (pe_op op_mod (pv 1) pe_int) (fun _ _ => rfl)))
      (pss_cons (ps_set (i := 4) sc_law_tape.nd rfl (Or.inl rfl) (pe_op op_mod (pe_op op_pow (pe_op op_mul (pe_op op_add (pe_op op_mod (pe_callB call_abs (by rfl) T.n_abs (by decide +kernel) (pa_cons (pv 2) pa_nil)) pe_int) pe_int) (pe_op op_add (pe_op op_mul pe_int (pv 1)) pe_int)) pe_int) (pv 3)))
      (pss_cons (ps_set (i := 5) sc_law_tape.nd rfl (Or.inl rfl) (pv 4))
      (pss_cons (ps_for PassesOwn.never rfl (pi_range1 rfl T.n_range (pa_cons pe_int pa_nil)) (pg_name (i := 6) sc_law_tape.nd rfl (Or.inl rfl))
      (pss_cons (ps_set (i := 4) sc_law_tape.nd rfl (Or.inl rfl) (pe_op op_mod (pe_op op_add (pe_op op_add (pe_op op_mul (pv 4) (pv 4)) (pe_op op_mul (pe_op op_mul pe_int (pe_op op_add (pv 6) pe_int)) (pe_op op_add (pv 1) pe_int))) (pv 2)) pe_int))
      (pss_one (ps_set (i := 5) sc_law_tape.nd rfl (Or.inl rfl) (pe_op op_add (pe_op op_mul (pv 5) pe_int) (pv 4))))))
      (pss_one (ps_ret (pe_lst (pa_cons (pv 5) pa_nil))))))))))), ?_⟩
    -- cell = _law_cell_at(script, k)
    refine ⟨_, rfl, _, rfl, a, ns, k, rfl, hS, hk, ?_⟩
    generalize cellF ns k = cell
    -- if cell == 0
    refine ⟨_, rfl, rfl, _, rfl, ?_⟩
    refine ite2 (fun _ => ⟨by show 1 ≤ sizeLine; decide, fun p hp => q _ p 0 (same_upd hp) hp upd_same⟩) (fun _ => ?_)
    -- if cell >= 10 ** 18
    refine ⟨_, rfl, _, _, rfl, rfl, ⟨by decide, by decide, by decide⟩, _, _, rfl, rfl, _, rfl, ?_⟩
    refine ite2 (fun _ => ⟨_, rfl, _, _, rfl, rfl, ⟨by decide, by decide, by decide⟩, _, _, rfl, rfl, by show 1 ≤ sizeLine; decide, fun p hp => q _ p _ (same_upd hp) hp upd_same⟩) (fun _ => ?_)
    -- p
    refine ⟨by show 7 ≤ sizeLine; decide, fun l hl => ?_⟩
    obtain ⟨v, hv, hm⟩ := seven (x := (k : Int) % 7) (by omega) (by omega) primes rfl
    obtain ⟨p, rfl, hp0, hp1⟩ := primes_in v hm
    refine ⟨_, rfl, _, _, rfl, rfl, by show (0 : Int) < 7; decide, l, primes, (k : Int) % 7, .int p, rfl, rfl, .inl (.inl upd_same), hv, ?_⟩
    -- one
    have habs : 0 ≤ (if cell < 0 then -cell else cell) % 1000000009 ∧ (if cell < 0 then -cell else cell) % 1000000009 < 1000000009 := by omega
    generalize hx : (if cell < 0 then -cell else cell) % 1000000009 = x at habs
    refine ⟨_, rfl, cell, rfl, _, _, rfl, rfl, by show (0 : Int) < 1000000009; decide, _, _, rfl, rfl, _, rfl, _, _, rfl, rfl, .inl ⟨by decide, by decide⟩, _, _, rfl, rfl, _, _, rfl, rfl, .inl ?_, _, _, rfl, rfl, ⟨by decide, by decide, ?_⟩, _, rfl, _, _, rfl, rfl, hp0, ?_⟩
    · omega
    · rw [hx]
      have h1 : (x + 1) * (2 * (k : Int) + 3) ≤ 1000000009 * 2003 := Int.mul_le_mul (by omega) (by omega) (by omega) (by omega)
      have h2 : 0 ≤ (x + 1) * (2 * (k : Int) + 3) := Int.mul_nonneg (by omega) (by omega)
      show ((x + 1) * (2 * (k : Int) + 3)).natAbs < 2 ^ 64
      generalize (x + 1) * (2 * (k : Int) + 3) = z at h1 h2
      omega
    have hb : ∀ z : Int, 0 ≤ z % p ∧ z % p < 2 ^ 62 := fun z => ⟨Int.emod_nonneg _ (by omega), Int.lt_trans (Int.emod_lt_of_pos _ hp0) hp1⟩
    -- found = one
    refine ⟨_, rfl, ?_⟩
    have s1 : Same H (upd H l (.lst primes)) := same_upd hl
    -- the loop
    refine ⟨24, rfl, by decide, by decide, for_range (n := 24) (fun i σ H3 => ∃ (one found : Int) (y : Option V), σ = [some (.ref a), some (.int k), some (.int cell), some (.int p), some (.int one), some (.int found), y] ∧ 0 ≤ one ∧ one < 2 ^ 62 ∧ H3 = upd H l (.lst primes))
      ⟨_, _, none, rfl, (hb _).1, (hb _).2, rfl⟩ ?_ ?_⟩
    · rintro i σ H3 hi ⟨one, found, y, rfl, h0, h1, rfl⟩
      refine ⟨_, rfl, _, rfl, _, _, rfl, rfl, .inl ⟨by omega, by omega⟩, _, rfl, _, _, rfl, rfl, _, _, rfl, rfl, .inl ⟨by decide, by decide⟩, _, rfl, _, _, rfl, rfl, _, _, rfl, rfl, .inl ⟨by omega, by omega⟩, _, _, rfl, rfl, _, rfl, _, _, rfl, rfl, _, _, rfl, rfl, by show (0 : Int) < 2305843009213693951; decide, ?_⟩
      refine ⟨_, rfl, _, _, rfl, rfl, .inr ⟨by decide, by decide⟩, _, rfl, _, _, rfl, rfl, ?_⟩
      exact ⟨_, _, some (.int (0 + (i : Int))), rfl, Int.emod_nonneg _ (by decide), Int.lt_trans (Int.emod_lt_of_pos _ (by decide)) (by decide), rfl⟩
    · rintro σ H3 ⟨one, found, y, rfl, h0, h1, rfl⟩
      refine ⟨_, rfl, by show 1 ≤ sizeLine; decide, fun t ht => ?_⟩
      exact q _ t found (s1.trans (same_upd ht)) (s1.free ht) upd_same
end
end SP

namespace SP
open PySem PySem.Spec PyProof.Rows L2
def abcS : Str := "abcdefghijklmnopqrstuvwxyz"
theorem abc_len : abcS.length = 26 := by decide +kernel
theorem abc_at : ∀ i, i < 26 → abcS.cps[i]? = some (97 + i) := by decide +kernel
/-- the letter of a number -/
def chI (n : Int) : Str := ⟨#[97 + (n % 26).toNat]⟩
theorem letter_at (n : Int) : 0 ≤ n % 26 ∧ n % 26 < 2 ^ 63 ∧ n % 26 < (abcS.length : Int) ∧ abcS.cps[(n % 26).toNat]? = some (97 + (n % 26).toNat) := by
  refine ⟨by omega, by omega, ?_, abc_at _ (by omega)⟩
  rw [abc_len]
  omega
theorem str_item (l : List Str) (n : Int) (m : Nat) (hm : l.length = m) (h0 : 0 < m) : atI (l.map V.str) (n % (m : Int)) = some (.str (l.getD (n % (m : Int)).toNat "")) := by
  obtain ⟨i, hi, _, e2, e3⟩ := item_at (l.map V.str) n m (by rw [List.length_map]; exact hm) h0
  rw [e3, e2, List.getElem_map, List.getD_eq_getElem?_getD, List.getElem?_eq_getElem (by rw [List.length_map] at hi; exact hi)]
  rfl
theorem int_item (l : List Int) (n : Int) (m : Nat) (hm : l.length = m) (h0 : 0 < m) : atI (l.map V.int) (n % (m : Int)) = some (.int (l.getD (n % (m : Int)).toNat 0)) := by
  obtain ⟨i, hi, _, e2, e3⟩ := item_at (l.map V.int) n m (by rw [List.length_map]; exact hm) h0
  rw [e3, e2, List.getElem_map, List.getD_eq_getElem?_getD, List.getElem?_eq_getElem (by rw [List.length_map] at hi; exact hi)]
  rfl
theorem getD_mem {α : Type} (l : List α) (i : Nat) (d : α) (P : α → Prop) (h : ∀ x ∈ l, P x) (hd : P d) : P (l.getD i d) := by
  rw [List.getD_eq_getElem?_getD]
  cases e : l[i]? with
  | none => exact hd
  | some x => exact h x (List.mem_of_getElem? e)
/-! ### _law_words: what it tells of a tape -/
def endsL : List Str := ["", "a", "omelons"]
def someT : Str := "qa qb qc qd again name number akeep aloose ask zeros lent keeps done run made counted freed"
def moreT : Str := " x y q boxes qaa w nil cons plus less much stuck long broken fewest book"
def someL : List Str := (["qa", "qb", "qc", "qd", "again", "name", "number", "akeep", "aloose", "ask", "zeros", "lent", "keeps", "done", "run", "made", "counted", "freed", "x", "y", "q", "boxes", "qaa", "w", "nil", "cons", "plus", "less", "much", "stuck", "long", "broken", "fewest", "book"] : List String).map Str.ofString
theorem some_split : Txt.split (someT ++ moreT) " " = someL := by decide +kernel
theorem some_len : someT.length + moreT.length ≤ 400 := by decide +kernel
def stepL : List Int := [1, 3, 5, 7]
def wordsF (n : Int) (many : Nat) : List Str × Int :=
  if n % 4 = 0 then
    ((List.range many).map (fun (k : Nat) => [chI (n / 4 % 26 + (0 + (k : Int))) ++ endsL.getD (n / 4 / 26 % 3).toNat "", endsL.getD (n / 4 / 26 % 3).toNat "" ++ chI (n / 4 % 26 + (0 + (k : Int)))].getD (n / 4 / 26 / 3 % 2).toNat ""), n / 4 / 26 / 3 / 2)
  else if n % 4 = 1 then ((List.range many).map (fun (k : Nat) => repS0 (chI (n / 4 % 26 + (0 + (k : Int)) / 8)) (1 + k % 8)), n / 4 / 26)
  else if n % 4 = 2 then ((List.range many).map (fun (k : Nat) => chI (n / 4 % 26 - stepL.getD (n / 4 / 26 % 4).toNat 0 * (0 + (k : Int))) ++ repS0 "q" (k % 3)), n / 4 / 26 / 4)
  else ((List.range many).map (fun (k : Nat) => someL.getD ((n / 4 % 26 + (0 + (k : Int))) % 34).toNat ""), n / 4 / 26)
theorem rep_len (c n : Nat) (h : n ≤ 8) : (repS0 ⟨#[c]⟩ n).length = n := by
  rcases (by omega : n = 0 ∨ n = 1 ∨ n = 2 ∨ n = 3 ∨ n = 4 ∨ n = 5 ∨ n = 6 ∨ n = 7 ∨ n = 8) with rfl | rfl | rfl | rfl | rfl | rfl | rfl | rfl | rfl <;> rfl
theorem ends_len (i : Nat) : (endsL.getD i "").length ≤ 7 := getD_mem endsL i "" (fun x => x.length ≤ 7) (by decide +kernel) (by decide)
theorem step_le (i : Nat) : 0 ≤ stepL.getD i 0 ∧ stepL.getD i 0 ≤ 7 := getD_mem stepL i 0 (fun x => 0 ≤ x ∧ x ≤ 7) (by decide) (by decide)
theorem words_len (n : Int) (many : Nat) : (wordsF n many).1.length = many := by
  unfold wordsF
  split
  · simp
  · split
    · simp
    · split <;> simp
theorem But.alloc {t p : Addr} {H H1 : Hp} {o : HO} (b : But t H H1) (hp : H1 p = none) : But t H (upd H1 p o) := b.trans (But.of (same_upd hp))
theorem ne_t {H : Hp} {t p : Addr} {o : HO} (ht : H t = some o) (hp : H p = none) : p ≠ t := fun e => by
  rw [e, ht] at hp
  cases hp
section
variable {P : Program} {w : World} {K : PySem.W.Frag} {mg : Str → Option Value} {base : Heap}
def spWords (K : PySem.W.Frag) : Sp := fun vs H Q _ => ∃ (t : Addr) (n : Int) (many : Nat), vs = [.ref t, .int (many : Int)] ∧ H t = some (.lst [.int n]) ∧ many ≤ 30 ∧
  ∀ (H' : Hp) (l : Addr), But t H H' → H' t = some (.lst [.int (wordsF n many).2]) → H l = none → H' l = some (.lst ((wordsF n many).1.map V.str)) → Q (.ref l) H'
theorem ok_law_words {f : Addr} {fd : FuncData} (F : Fun K "_law_words" "_law_words" s_law_words f fd) (T : Txt mg) (C_law_digit : Callee P w K mg base "_law_digit" ["tape", "many"] 1 (spDigit K)) : FnOk P w K mg base CX0 2 f fd ["tape", "many"] (spWords K) := by
  refine F.ok sc_law_words (fun vs H Q E h => ?_) (fun cdv A outer s H vs Q E hr h => ?_)
  · obtain ⟨t, n, m, rfl, _⟩ := h
    rfl
  · obtain ⟨t, n, many, rfl, ht, hm, q⟩ := h
    refine ⟨_, (pss_cons (ps_set (i := 2) sc_law_words.nd rfl (Or.inr rfl) pe_str)
      (pss_cons (ps_set (i := 3) sc_law_words.nd rfl (Or.inl rfl) (pe_fn C_law_digit hr (by rfl) (pa_cons (pv 0) (pa_cons pe_int pa_nil))))
      (pss_cons (ps_set (i := 4) sc_law_words.nd rfl (Or.inr rfl) (pe_fn C_law_digit hr (by rfl) (pa_cons (pv 0) (pa_cons pe_int pa_nil))))
      (pss_cons (ps_if (pt_cmpR op_eq (pv 3) pe_int (nomark _)) (pss_cons (ps_set (i := 5) sc_law_words.nd rfl (Or.inr rfl) (pe_ix (r := rIxL K) ix_list (pe_lst (pa_cons pe_str (pa_cons pe_str (pa_cons pe_str pa_nil)))) (pe_fn C_law_digit hr (by rfl) (pa_cons (pv 0) (pa_cons pe_int pa_nil))) (fun _ _ => rfl)))
      (pss_cons (ps_set (i := 6) sc_law_words.nd rfl (Or.inr rfl) (pe_lc (own := [("k", 9)]) (g := gName 9) (tt := tYes) rfl sc_law_words.nd (pi_range1 rfl T.n_range (pa_cons (pv 1) pa_nil)) (blkOk_by (own := [("k", 9)]) (N := ["tape", "many", "letters", "way", "turn", "ends", "some", "flip", "step", "k", "sign"]) (sc := defScope s_law_words) (by decide +kernel)) (fun _ _ _ _ _ => (pg_name (i := 9) sc_law_words.nd rfl (Or.inl rfl))) (fun _ _ _ _ _ => pts_nil) (fun _ _ _ _ _ => (pe_item_str (pv 2) (pe_op op_mod (pe_op op_add (pv 4) (pv 9)) pe_int) (fun _ _ => rfl)))))
      (pss_cons (ps_set (i := 7) sc_law_words.nd rfl (Or.inr rfl) (pe_fn C_law_digit hr (by rfl) (pa_cons (pv 0) (pa_cons pe_int pa_nil))))
      (pss_one (ps_ret (pe_lc (own := [("sign", 10)]) (g := gName 10) (tt := tYes) rfl sc_law_words.nd (pi_list (pv 6)) (blkOk_by (own := [("sign", 10)]) (N := ["tape", "many", "letters", "way", "turn", "ends", "some", "flip", "step", "k", "sign"]) (sc := defScope s_law_words) (by decide +kernel)) (fun _ _ _ _ _ => (pg_name (i := 10) sc_law_words.nd rfl (Or.inl rfl))) (fun _ _ _ _ _ => pts_nil) (fun _ _ _ _ _ => (pe_ix (r := rIxL K) ix_list (pe_lst (pa_cons (pe_op op_add_str (pv 10) (pv 5)) (pa_cons (pe_op op_add_str (pv 5) (pv 10)) pa_nil))) (pv 7) (fun _ _ => rfl))))))))) pss_nil)
      (pss_cons (ps_if (pt_cmpR op_eq (pv 3) pe_int (nomark _)) (pss_one (ps_ret (pe_lc (own := [("k", 9)]) (g := gName 9) (tt := tYes) rfl sc_law_words.nd (pi_range1 rfl T.n_range (pa_cons (pv 1) pa_nil)) (blkOk_by (own := [("k", 9)]) (N := ["tape", "many", "letters", "way", "turn", "ends", "some", "flip", "step", "k", "sign"]) (sc := defScope s_law_words) (by decide +kernel)) (fun _ _ _ _ _ => (pg_name (i := 9) sc_law_words.nd rfl (Or.inl rfl))) (fun _ _ _ _ _ => pts_nil) (fun _ _ _ _ _ => (pe_op op_rep_str0 (pe_item_str (pv 2) (pe_op op_mod (pe_op op_add (pv 4) (pe_op op_fdiv (pv 9) pe_int)) pe_int) (fun _ _ => rfl)) (pe_op op_add pe_int (pe_op op_mod (pv 9) pe_int))))))) pss_nil)
      (pss_cons (ps_if (pt_cmpR op_eq (pv 3) pe_int (nomark _)) (pss_cons (ps_set (i := 8) sc_law_words.nd rfl (Or.inr rfl) (pe_ix (r := rIxL K) ix_list (pe_lst (pa_cons pe_int (pa_cons pe_int (pa_cons pe_int (pa_cons pe_int pa_nil))))) (pe_fn C_law_digit hr (by rfl) (pa_cons (pv 0) (pa_cons pe_int pa_nil))) (fun _ _ => rfl)))
      (pss_cons (ps_set (i := 6) sc_law_words.nd rfl (Or.inr rfl) (pe_lc (own := [("k", 9)]) (g := gName 9) (tt := tYes) rfl sc_law_words.nd (pi_range1 rfl T.n_range (pa_cons (pv 1) pa_nil)) (blkOk_by (own := [("k", 9)]) (N := ["tape", "many", "letters", "way", "turn", "ends", "some", "flip", "step", "k", "sign"]) (sc := defScope s_law_words) (by decide +kernel)) (fun _ _ _ _ _ => (pg_name (i := 9) sc_law_words.nd rfl (Or.inl rfl))) (fun _ _ _ _ _ => pts_nil) (fun _ _ _ _ _ => (pe_item_str (pv 2) (pe_op op_mod (pe_op op_sub (pv 4) (pe_op op_mul (pv 8) (pv 9))) pe_int) (fun _ _ => rfl)))))
      (pss_one (ps_ret (pe_lc (own := [("k", 9), ("sign", 10)]) (g := gTup K 2 (gCons (gName 9) (gCons (gName 10) gNil))) (tt := tYes) rfl sc_law_words.nd (pi_enum (by rfl) T.n_enumerate (pa_cons (pv 6) pa_nil)) (blkOk_by (own := [("k", 9), ("sign", 10)]) (N := ["tape", "many", "letters", "way", "turn", "ends", "some", "flip", "step", "k", "sign"]) (sc := defScope s_law_words) (by decide +kernel)) (fun _ _ _ _ _ => (pg_tup rfl (pgs_cons (pg_name (i := 9) sc_law_words.nd rfl (Or.inl rfl)) (pgs_cons (pg_name (i := 10) sc_law_words.nd rfl (Or.inl rfl)) pgs_nil)))) (fun _ _ _ _ _ => pts_nil) (fun _ _ _ _ _ => (pe_op op_add_str (pv 10) (pe_op op_rep_str0 pe_str (pe_op op_mod (pv 9) pe_int))))))))) pss_nil)
      (pss_cons (ps_set (i := 6) sc_law_words.nd rfl (Or.inr rfl) pe_str)
      (pss_cons (ps_set (i := 6) sc_law_words.nd rfl (Or.inr rfl) (pe_bm PySem.F.plainAttrs_str PySem.F.slot_str_split PySem.F.type_str_split mt_split (pe_op op_add_str (pv 6) pe_str) (pa_cons pe_str pa_nil)))
      (pss_one (ps_ret (pe_lc (own := [("k", 9)]) (g := gName 9) (tt := tYes) rfl sc_law_words.nd (pi_range1 rfl T.n_range (pa_cons (pv 1) pa_nil)) (blkOk_by (own := [("k", 9)]) (N := ["tape", "many", "letters", "way", "turn", "ends", "some", "flip", "step", "k", "sign"]) (sc := defScope s_law_words) (by decide +kernel)) (fun _ _ _ _ _ => (pg_name (i := 9) sc_law_words.nd rfl (Or.inl rfl))) (fun _ _ _ _ _ => pts_nil) (fun _ _ _ _ _ => (pe_ix (r := rIxL K) ix_list (pv 6) (pe_op op_mod (pe_op op_add (pv 4) (pv 9)) (pe_callB (r := rLenS K) call_lenS (by rfl) T.n_len (by decide +kernel) (pa_cons (pv 6) pa_nil))) (fun _ _ => rfl)))))))))))))), ?_⟩
    refine ⟨_, rfl, t, n, 4, rfl, ht, by decide, by decide, ?_⟩
    refine ⟨_, rfl, t, n / 4, 26, rfl, upd_same, by decide, by decide, ?_⟩
    rw [upd_upd]
    have b1 : But t H (upd H t (.lst [.int (n / 4 / 26)])) := (But.refl t H).put
    have t1 : (upd H t (.lst [.int (n / 4 / 26)])) t = some (.lst [.int (n / 4 / 26)]) := upd_same
    generalize upd H t (.lst [.int (n / 4 / 26)]) = H1 at b1 t1 ⊢
    have f1 : ∀ l, H1 l = none → H l = none := fun l e => b1.free t1 e
    unfold wordsF at q
    refine ⟨_, rfl, rfl, _, rfl, ite2 (fun e => ?_) (fun e => ?_)⟩
    · rw [if_pos (int_eq_of e)] at q
      clear e
      generalize n / 4 % 26 = turn at q ⊢
      generalize n / 4 / 26 = n2 at q t1 ⊢
      refine ⟨by show 3 ≤ sizeLine; decide, fun l1 hl1 => ?_⟩
      have nl := ne_t t1 hl1
      have b2 : But t H (upd (upd H1 l1 (.lst (endsL.map V.str))) t (.lst [.int (n2 / 3)])) := (b1.alloc hl1).put
      have t2 : (upd (upd H1 l1 (.lst (endsL.map V.str))) t (.lst [.int (n2 / 3)])) t = some (.lst [.int (n2 / 3)]) := upd_same
      refine ⟨_, rfl, t, n2, 3, rfl, same_upd hl1 _ _ t1, by decide, by decide, l1, endsL.map V.str, n2 % 3, _, rfl, rfl, .inl (.inl (by rw [upd_ne nl]; exact upd_same)), str_item endsL _ 3 rfl (by decide), ?_⟩
      generalize hz : endsL.getD (n2 % 3).toNat "" = ends at q ⊢
      have hends : ends.length ≤ 7 := by
        rw [← hz]
        exact ends_len _
      change tNext _ _ (upd (upd H1 l1 (.lst (endsL.map V.str))) t (.lst [.int (n2 / 3)]))
      generalize upd (upd H1 l1 (.lst (endsL.map V.str))) t (.lst [.int (n2 / 3)]) = H2 at b2 t2 ⊢
      clear b1 t1 f1 hl1 nl hz
      -- the letters
      refine ⟨_, rfl, many, rfl, by omega, by omega, fun D hD => comp_range (n := many) (fun k => .str (chI (turn + (0 + (k : Int))))) hD (by omega) (fun _ => rfl) ?_ ?_⟩
      · intro i H' Q' hi s' hq
        obtain ⟨h0, h1, h2, h3⟩ := letter_at (turn + (0 + (i : Int)))
        exact ⟨_, rfl, _, rfl, _, rfl, _, _, rfl, rfl, _, _, rfl, rfl, (by show (0 : Int) < 26; decide), abcS, _, _, rfl, rfl, h0, h1, h2, h3, hq _ (Same.refl _)⟩
      intro H3 s3 d3
      have t3 := s3 _ _ t2
      have nD := ne_t t2 hD
      refine ⟨_, rfl, t, n2 / 3, 2, rfl, t3, by decide, by decide, ?_⟩
      have b4 : But t H (upd H3 t (.lst [.int (n2 / 3 / 2)])) := (b2.trans (But.of s3)).put
      have t4 : (upd H3 t (.lst [.int (n2 / 3 / 2)])) t = some (.lst [.int (n2 / 3 / 2)]) := upd_same
      have d4 : (upd H3 t (.lst [.int (n2 / 3 / 2)])) D = some (.lst ((List.range many).map fun (k : Nat) => .str (chI (turn + (0 + (k : Int)))))) := by
        rw [upd_ne nD]
        exact d3
      generalize upd H3 t (.lst [.int (n2 / 3 / 2)]) = H4 at b4 t4 d4 ⊢
      refine ⟨_, rfl, D, rfl, ⟨_, .inl (.inl d4)⟩, fun D2 hD2 => comp_list (K := K) (ys := ((List.range many).map fun (k : Nat) => [chI (turn + (0 + (k : Int))) ++ ends, ends ++ chI (turn + (0 + (k : Int)))].getD (n2 / 3 % 2).toNat "").map V.str) (.inl (.inl d4)) hD2 ?_ ?_ (fun _ => rfl) ?_ ?_⟩
      · rw [List.length_map, List.length_range]
        omega
      · simp
      · intro i x y H' Q' hx hy s' hq
        have hi : i < many := by
          have := (List.getElem?_eq_some_iff.mp hx).1
          simpa using this
        rw [List.getElem?_map, List.getElem?_range hi] at hx
        rw [List.getElem?_map, List.getElem?_map, List.getElem?_range hi] at hy
        cases hx
        cases hy
        have l1 : (chI (turn + (0 + (i : Int)))).length = 1 := rfl
        have hs := sizeLine_eq
        refine ⟨_, rfl, _, rfl, _, _, rfl, rfl, by omega, _, rfl, _, rfl, _, _, rfl, rfl, by omega, by show 2 ≤ sizeLine; decide, fun p hp => ?_⟩
        exact ⟨_, rfl, p, _, n2 / 3 % 2, _, rfl, rfl, .inl (.inl upd_same), str_item [chI (turn + (0 + (i : Int))) ++ ends, ends ++ chI (turn + (0 + (i : Int)))] _ 2 rfl (by decide), hq _ (same_upd hp)⟩
      intro H5 s5 d5
      exact q H5 D2 (b4.trans (But.of s5)) (s5 _ _ t4) (b4.free t4 hD2) d5
    have e0 := int_ne_of e
    rw [if_neg e0] at q
    clear e e0
    refine ⟨_, rfl, rfl, _, rfl, ite2 (fun e => ?_) (fun e => ?_)⟩
    · rw [if_pos (int_eq_of e)] at q
      clear e
      generalize n / 4 % 26 = turn at q ⊢
      generalize n / 4 / 26 = n2 at q t1 ⊢
      refine ⟨_, rfl, many, rfl, by omega, by omega, fun D hD => comp_range (n := many) (fun k => .str (repS0 (chI (turn + (0 + (k : Int)) / 8)) (1 + k % 8))) hD (by omega) (fun _ => rfl) ?_ ?_⟩
      · intro i H' Q' hi s' hq
        obtain ⟨h0, h1, h2, h3⟩ := letter_at (turn + (0 + (i : Int)) / 8)
        have hr8 : (repS0 (chI (turn + (0 + (i : Int)) / 8)) (1 + i % 8)).length = 1 + i % 8 := rep_len _ _ (by omega)
        have hs := sizeLine_eq
        exact ⟨_, rfl, _, rfl, _, rfl, _, _, rfl, rfl, ⟨by decide, by decide⟩, _, _, rfl, rfl, _, _, rfl, rfl, (by show (0 : Int) < 26; decide), abcS, _, _, rfl, rfl, h0, h1, h2, h3, _, rfl, _, _, rfl, rfl, (by show (0 : Int) < 8; decide), _, _, rfl, rfl,
          _, 1 + i % 8, rfl, congrArg V.int (by omega), by omega, Nat.le_refl 1, (by show 1 ≤ 1000; decide), Nat.le_trans (Nat.le_of_eq hr8) (by omega), hq _ (Same.refl _)⟩
      intro H3 s3 d3
      refine q H3 D (b1.trans (But.of s3)) (s3 _ _ t1) (b1.free t1 hD) ?_
      rw [d3, List.map_map]
      rfl
    have e0 := int_ne_of e
    rw [if_neg e0] at q
    clear e e0
    refine ⟨_, rfl, rfl, _, rfl, ite2 (fun e => ?_) (fun e => ?_)⟩
    · rw [if_pos (int_eq_of e)] at q
      clear e
      generalize n / 4 % 26 = turn at q ⊢
      generalize n / 4 / 26 = n2 at q t1 ⊢
      refine ⟨by show 4 ≤ sizeLine; decide, fun l1 hl1 => ?_⟩
      have nl := ne_t t1 hl1
      have b2 : But t H (upd (upd H1 l1 (.lst (stepL.map V.int))) t (.lst [.int (n2 / 4)])) := (b1.alloc hl1).put
      have t2 : (upd (upd H1 l1 (.lst (stepL.map V.int))) t (.lst [.int (n2 / 4)])) t = some (.lst [.int (n2 / 4)]) := upd_same
      refine ⟨_, rfl, t, n2, 4, rfl, same_upd hl1 _ _ t1, by decide, by decide, l1, stepL.map V.int, n2 % 4, _, rfl, rfl, .inl (.inl (by rw [upd_ne nl]; exact upd_same)), int_item stepL _ 4 rfl (by decide), ?_⟩
      have hstep := step_le (n2 % 4).toNat
      generalize stepL.getD (n2 % 4).toNat 0 = step at q hstep ⊢
      change tNext _ _ (upd (upd H1 l1 (.lst (stepL.map V.int))) t (.lst [.int (n2 / 4)]))
      generalize upd (upd H1 l1 (.lst (stepL.map V.int))) t (.lst [.int (n2 / 4)]) = H2 at b2 t2 ⊢
      clear b1 t1 f1 hl1 nl
      refine ⟨_, rfl, many, rfl, by omega, by omega, fun D hD => comp_range (n := many) (fun k => .str (chI (turn - step * (0 + (k : Int))))) hD (by omega) (fun _ => rfl) ?_ ?_⟩
      · intro i H' Q' hi s' hq
        obtain ⟨h0, h1, h2, h3⟩ := letter_at (turn - step * (0 + (i : Int)))
        exact ⟨_, rfl, _, rfl, _, rfl, _, rfl, _, _, rfl, rfl, .inl ⟨by omega, by omega⟩, _, _, rfl, rfl, _, _, rfl, rfl, (by show (0 : Int) < 26; decide), abcS, _, _, rfl, rfl, h0, h1, h2, h3, hq _ (Same.refl _)⟩
      intro H3 s3 d3
      have t3 := s3 _ _ t2
      refine ⟨_, rfl, D, _, rfl, .inl (.inl d3), fun D2 hD2 => comp_enum (K := K) (ys := ((List.range many).map fun (k : Nat) => chI (turn - step * (0 + (k : Int))) ++ repS0 "q" (k % 3)).map V.str) (.inl (.inl d3)) hD2 ?_ ?_ (fun _ _ => rfl) ?_ ?_⟩
      · rw [List.length_map, List.length_range]
        omega
      · simp
      · intro i x y H' Q' hx hy s' hq
        have hi : i < many := by
          have := (List.getElem?_eq_some_iff.mp hx).1
          simpa using this
        rw [List.getElem?_map, List.getElem?_range hi] at hx
        rw [List.getElem?_map, List.getElem?_map, List.getElem?_range hi] at hy
        cases hx
        cases hy
        have l1 : (chI (turn - step * (0 + (i : Int)))).length = 1 := rfl
        have hr8 : (repS0 "q" (i % 3)).length = i % 3 := rep_len 113 _ (by omega)
        have hs := sizeLine_eq
        exact ⟨_, rfl, _, rfl, _, _, rfl, rfl, (by show (0 : Int) < 3; decide), _, i % 3, rfl, congrArg V.int (by omega), by omega, Nat.le_refl 1, (by show 1 ≤ 1000; decide), Nat.le_trans (Nat.le_of_eq hr8) (by omega), _, _, rfl, rfl, (by omega), hq _ (Same.refl _)⟩
      intro H5 s5 d5
      exact q H5 D2 ((b2.trans (But.of s3)).trans (But.of s5)) (s5 _ _ t3) ((b2.trans (But.of s3)).free t3 hD2) d5
    have e0 := int_ne_of e
    rw [if_neg e0] at q
    clear e e0
    generalize n / 4 % 26 = turn at q ⊢
    generalize n / 4 / 26 = n2 at q t1 ⊢
    have hsl := some_len
    have hz := sizeLine_eq
    have hal : (someT ++ moreT).length = someT.length + moreT.length := strLen_append _ _
    refine ⟨_, rfl, someT, moreT, rfl, rfl, by omega, rfl, someT ++ moreT, _, rfl, rfl, rfl, by omega, ?_⟩
    rw [some_split]
    intro p hp
    have b2 : But t H (upd H1 p (.lst (someL.map V.str))) := b1.alloc hp
    have t2 := same_upd (o := HO.lst (someL.map V.str)) hp _ _ t1
    have p2 : (upd H1 p (.lst (someL.map V.str))) p = some (.lst (someL.map V.str)) := upd_same
    generalize upd H1 p (.lst (someL.map V.str)) = H2 at b2 t2 p2 ⊢
    refine ⟨_, rfl, many, rfl, by omega, by omega, fun D hD => comp_range (n := many) (fun k => .str (someL.getD ((turn + (0 + (k : Int))) % 34).toNat "")) hD (by omega) (fun _ => rfl) ?_ ?_⟩
    · intro i H' Q' hi s' hq
      exact ⟨_, rfl, _, rfl, _, rfl, _, _, rfl, rfl, _, rfl, p, _, rfl, .inl (.inl (.inl (s' _ _ p2))), _, _, rfl, rfl, (by show (0 : Int) < 34; decide), p, someL.map V.str, _, _, rfl, rfl, .inl (.inl (s' _ _ p2)), str_item someL _ 34 rfl (by decide), hq _ (Same.refl _)⟩
    intro H3 s3 d3
    refine q H3 D (b2.trans (But.of s3)) (s3 _ _ t2) (b2.free t2 hD) ?_
    rw [d3, List.map_map]
    rfl
end
end SP

namespace SP
open PySem PySem.Spec PyProof.Rows L2
/-! ### max(list of ints, default=d) -/
theorem maxOf_spec (xs : List Int) : ∀ x : Int, (PySem.W.maxOf x xs = x ∨ PySem.W.maxOf x xs ∈ xs) ∧ x ≤ PySem.W.maxOf x xs ∧ ∀ y ∈ xs, y ≤ PySem.W.maxOf x xs := by
  induction xs with
  | nil => exact fun x => ⟨.inl rfl, Int.le_refl _, fun y hy => by cases hy⟩
  | cons z xs ih =>
    intro x
    have e : PySem.W.maxOf x (z :: xs) = PySem.W.maxOf (if decide (x < z) = true then z else x) xs := rfl
    rw [e]
    by_cases h : x < z
    · rw [if_pos (decide_eq_true h)]
      obtain ⟨a, b, c⟩ := ih z
      refine ⟨.inr ?_, by omega, fun y hy => ?_⟩
      · rcases a with a | a
        · rw [a]
          exact .head _
        · exact .tail _ a
      · rcases List.mem_cons.mp hy with rfl | hy
        · exact b
        · exact c y hy
    · rw [if_neg (by simpa using h)]
      obtain ⟨a, b, c⟩ := ih x
      refine ⟨?_, b, fun y hy => ?_⟩
      · rcases a with a | a
        · exact .inl a
        · exact .inr (.tail _ a)
      · rcases List.mem_cons.mp hy with rfl | hy
        · omega
        · exact c y hy
def rMaxD (K : PySem.W.Frag) : List V → List V → Hp → VK → Prop := fun xs zs H Q => ∃ (a : Addr) (ns : List Int) (d : V), xs = [.ref a] ∧ zs = [d] ∧ SqL K H a (ns.map V.int) ∧ (ns = [] → Q d H) ∧ ∀ m, m ∈ ns → (∀ y ∈ ns, y ≤ m) → Q (.int m) H
theorem call_maxD {X : Cx} (hc : X.calm = true) (hu : X.A.units + 8 < cLine) : CallRK X (.builtin "max") ["default"] (rMaxD X.K) := by
  intro pins s σ H xs zs us ws Q I r1 r2 h
  obtain ⟨a, ns, d, rfl, rfl, hs, q0, q⟩ := h
  obtain ⟨its, rv, hl, _⟩ := I.list hs
  rw [Vals.ref1 r1]
  obtain ⟨u, rfl, ru⟩ := vals1 r2
  refine PySem.W.max_list_datum_default (α := Int) (xs := ns) (I.ok.hd hc) hl.isList (PySem.W.HoldAll.of_ints rv.ints) (by show X.A.units + 1 + 0 < cLine; omega) (fun e h' tk k => ⟨d, H, I.kept k, ru, q0 e⟩) fun y ys i v h' tk e hv ho k => ?_
  subst e
  obtain ⟨e1, e2, e3⟩ := maxOf_spec ys y
  have hm : PySem.W.maxOf y ys ∈ y :: ys := by
    rcases e1 with e1 | e1
    · rw [e1]
      exact .head _
    · exact .tail _ e1
  have hi : ∃ t, v = Value.int (PySem.W.maxOf y ys) t := by
    obtain ⟨as, ho⟩ := ho
    generalize PySem.W.maxOf y ys = m at ho
    change Reads h' v (.int m) as at ho
    cases ho with
    | int n t => exact ⟨t, rfl⟩
  obtain ⟨t, rfl⟩ := hi
  exact ⟨.int _, H, I.kept k, ⟨_, rfl⟩, q _ hm fun z hz => by
    rcases List.mem_cons.mp hz with rfl | hz
    · exact e2
    · exact e3 z hz⟩
theorem room4 {k : Nat} {A : Around} (r : Room k A) : A.units + 4 < cLine := by
  have := room_units r
  omega
theorem room8 {k : Nat} {A : Around} (r : Room k A) : A.units + 8 < cLine := by
  have := room_units r
  omega
/-! ### deeds -/
inductive Deed
  | ask (w : Str) (n : Int)
  | made (n : Int)
  | freed (n : Int)
def dD : Deed → PyData
  | .ask w n => .tuple [.str "ask", .str w, .int n]
  | .made n => .tuple [.str "made", .int n]
  | .freed n => .tuple [.str "freed", .int n]
def sh (t : Int) : Deed → Deed
  | .ask w n => .ask w (n + t * 0)
  | .made n => .made (n + t * 1)
  | .freed n => .freed (n + t * 1)
def madeN : Deed → Option Int
  | .made n => some (n + 1)
  | _ => none
/-- the greatest number of a made one, and one; 0 where none is made -/
def Mx (ds : List Deed) (m : Int) : Prop := (∀ n, .made n ∈ ds → n + 1 ≤ m) ∧ (m = 0 ∨ ∃ n, .made n ∈ ds ∧ m = n + 1)
def NN (ds : List Deed) : Prop := ∀ n, .made n ∈ ds → 0 ≤ n
theorem mx_one {ds : List Deed} {m k : Int} (hn : NN ds) (a : Mx ds m) (b : Mx ds k) : m = k := by
  obtain ⟨a1, a2⟩ := a
  obtain ⟨b1, b2⟩ := b
  rcases a2 with rfl | ⟨n, hn1, rfl⟩ <;> rcases b2 with rfl | ⟨n', hn2, rfl⟩
  · rfl
  · have := a1 n' hn2
    have := hn n' hn2
    omega
  · have := b1 n hn1
    have := hn n hn1
    omega
  · have := a1 n' hn2
    have := b1 n hn1
    omega
theorem mx_nums {ds : List Deed} : ∀ m, m ∈ ds.filterMap madeN ↔ ∃ n, .made n ∈ ds ∧ m = n + 1 := by
  intro m
  rw [List.mem_filterMap]
  constructor
  · rintro ⟨d, hd, e⟩
    cases d with
    | made n =>
      cases e
      exact ⟨n, hd, rfl⟩
    | ask w n => cases e
    | freed n => cases e
  · rintro ⟨n, hd, rfl⟩
    exact ⟨_, hd, rfl⟩
end SP

namespace SP
open PySem PySem.Spec PyProof.Rows L2
theorem imm_deeds (ds : List Deed) : immAll (ds.map dD) = true := by
  induction ds with
  | nil => rfl
  | cons d ds ih =>
    show (imm (dD d) && immAll (ds.map dD)) = true
    rw [ih]
    cases d <;> rfl
theorem map_at {α β : Type} {f : α → β} {l : List α} {i : Nat} {y : β} (h : (l.map f)[i]? = some y) : ∃ x, l[i]? = some x ∧ y = f x := by
  rw [List.getElem?_map] at h
  cases e : l[i]? with
  | none =>
    rw [e] at h
    cases h
  | some x =>
    rw [e] at h
    cases h
    exact ⟨x, rfl, rfl⟩
theorem deed_parts {K : PySem.W.Frag} {H : Hp} {x : V} {t : Int} (dd : Deed) (hv : Dp K H x (dD dd)) : ∃ (p : Addr) (kd : Str) (fr : List V) (n : Int), x = .ref p ∧ SqT K H p ((.str kd :: fr) ++ [.int n]) ∧ fr.length ≤ 1 ∧
    ∀ (Hx : Hp) (b : Addr), Hx b = some (.tup ((.str kd :: fr) ++ [.int (n + t * (if (!decide (V.str kd = V.str "ask")) = true then 1 else 0))])) → Dp K Hx (.ref b) (dD (sh t dd)) := by
  cases dd with
  | made n =>
    obtain ⟨p, zs, rfl, hT, hz1⟩ := dp_tup hv
    cases hz1 with
    | cons z1 hz1 =>
    cases hz1 with
    | cons z2 hz1 =>
    cases hz1
    cases dp_str z1
    cases dp_int z2
    exact ⟨p, _, [], n, rfl, hT, (by simp), fun Hx b hb => .tup (.inl (.inl hb)) (.cons (.str _) (.cons (.int _) .nil))⟩
  | freed n =>
    obtain ⟨p, zs, rfl, hT, hz1⟩ := dp_tup hv
    cases hz1 with
    | cons z1 hz1 =>
    cases hz1 with
    | cons z2 hz1 =>
    cases hz1
    cases dp_str z1
    cases dp_int z2
    exact ⟨p, _, [], n, rfl, hT, (by simp), fun Hx b hb => .tup (.inl (.inl hb)) (.cons (.str _) (.cons (.int _) .nil))⟩
  | ask w n =>
    obtain ⟨p, zs, rfl, hT, hz1⟩ := dp_tup hv
    cases hz1 with
    | cons z1 hz1 =>
    cases hz1 with
    | cons z2 hz1 =>
    cases hz1 with
    | cons z3 hz1 =>
    cases hz1
    cases dp_str z1
    cases dp_str z2
    cases dp_int z3
    exact ⟨p, _, [.str w], n, rfl, hT, (by simp), fun Hx b hb => .tup (.inl (.inl hb)) (.cons (.str _) (.cons (.str _) (.cons (.int _) .nil)))⟩
section
variable {P : Program} {w : World} {K : PySem.W.Frag} {mg : Str → Option Value} {base : Heap}
def spNeed (K : PySem.W.Frag) : Sp := fun vs H Q _ => ∃ (a : Addr) (xs : List V) (ds : List Deed), vs = [.ref a] ∧ SqL K H a xs ∧ DpAll K H xs (ds.map dD) ∧ xs.length ≤ 4000 ∧ ∀ (H' : Hp) (m : Int), Same H H' → Mx ds m → Q (.int m) H'
theorem ok_places_needed {f : Addr} {fd : FuncData} (F : Fun K "places_needed" "places_needed" s_places_needed f fd) (T : Txt mg)  : FnOk P w K mg base CX0 1 f fd ["trail"] (spNeed K) := by
  refine F.ok sc_places_needed (fun vs H Q E h => ?_) (fun cdv A outer s H vs Q E hr h => ?_)
  · obtain ⟨a, xs, ds, rfl, _⟩ := h
    rfl
  · obtain ⟨a, xs, ds, rfl, hS, hD, hl, q⟩ := h
    refine ⟨_, (pss_one (ps_ret (pe_callBK (r := rMaxD K) (call_maxD rfl (room8 hr)) (by rfl) T.n_max (by decide +kernel) (pa_cons (pe_lc (own := [("deed", 1)]) (g := gName 1) rfl sc_places_needed.nd (pi_list (pv 0)) (blkOk_by (own := [("deed", 1)]) (N := ["trail", "deed"]) (sc := defScope s_places_needed) (by decide +kernel)) (fun _ _ _ _ _ => (pg_name (i := 1) sc_places_needed.nd rfl (Or.inl rfl))) (fun _ _ _ _ _ => (pts_one (pt_cmpR op_eq (pe_ix (r := rIxT K) ix_tup (pv 1) pe_int (fun _ _ => rfl)) pe_str (nomark _)))) (fun _ _ _ _ _ => (pe_op op_add (pe_ix (r := rIxT K) ix_tup (pv 1) pe_int (fun _ _ => rfl)) pe_int))) pa_nil) (pk_cons pe_int pk_nil)))), ?_⟩
    have h0 : Same H H := Same.refl H
    refine ⟨_, rfl, a, rfl, ⟨_, hS⟩, fun D hDf => ?_⟩
    refine lc_list (K := K) (a := a) (xs := xs) (fun i H' => Same H H' ∧ H' D = some (.lst (((ds.take i).filterMap madeN).map V.int))) ⟨same_upd hDf, upd_same⟩ (fun i H' _ h => h.1.seq hS) ?_ ?_
    · rintro i x H' hx ⟨s1, d1⟩
      refine ⟨rfl, ?_⟩
      obtain ⟨e, he, hv⟩ := dpAll_at hD hx
      obtain ⟨dd, hd, rfl⟩ := map_at he
      have tk : (ds.take (i + 1)).filterMap madeN = (ds.take i).filterMap madeN ++ [dd].filterMap madeN := by
        rw [List.take_add_one, hd, List.filterMap_append]
        rfl
      rw [tk]
      have hz := sizeLine_eq
      have hil : i < ds.length := (List.getElem?_eq_some_iff.mp hd).1
      have hxl := dpAll_len hD
      rw [List.length_map] at hxl
      have hle : ((ds.take i).filterMap madeN).length ≤ i := Nat.le_trans (List.length_filterMap_le _ _) (by rw [List.length_take]; omega)
      have other : [dd].filterMap madeN = [] → Same H H' ∧ H' D = some (HO.lst (List.map V.int (List.filterMap madeN (ds.take i) ++ [dd].filterMap madeN))) := fun e0 => ⟨s1, by rw [e0, List.append_nil]; exact d1⟩
      cases dd with
      | made n =>
        obtain ⟨p, zs, rfl, hT, hz1⟩ := dp_tup hv
        cases hz1 with
        | cons z1 hz1 =>
        cases hz1 with
        | cons z2 hz1 =>
        cases hz1
        cases dp_str z1
        cases dp_int z2
        have hT' := Same.seqT s1 hT
        refine ⟨_, rfl, p, _, 0, _, rfl, rfl, hT', atI_nat (j := 0) rfl, rfl, _, rfl, ite_T rfl ?_⟩
        refine ⟨_, rfl, p, _, 1, _, rfl, rfl, hT', atI_nat (j := 1) rfl, _, _, rfl, rfl, _, d1, ?_, same_put s1 hDf, ?_⟩
        · rw [List.length_map]
          omega
        · rw [upd_same, List.map_append]
          rfl
      | ask w n =>
        obtain ⟨p, zs, rfl, hT, hz1⟩ := dp_tup hv
        cases hz1 with
        | cons z1 hz1 =>
        cases dp_str z1
        exact ⟨_, rfl, p, _, 0, _, rfl, rfl, Same.seqT s1 hT, atI_nat (j := 0) rfl, rfl, _, rfl, ite_F (by decide +kernel) (other rfl)⟩
      | freed n =>
        obtain ⟨p, zs, rfl, hT, hz1⟩ := dp_tup hv
        cases hz1 with
        | cons z1 hz1 =>
        cases dp_str z1
        exact ⟨_, rfl, p, _, 0, _, rfl, rfl, Same.seqT s1 hT, atI_nat (j := 0) rfl, rfl, _, rfl, ite_F (by decide +kernel) (other rfl)⟩
    · rintro H' ⟨s1, d1⟩
      have hxl := dpAll_len hD
      rw [List.length_map] at hxl
      rw [List.take_of_length_le (by omega)] at d1
      refine ⟨D, _, _, rfl, rfl, .inl (.inl d1), fun e => q H' 0 s1 ⟨fun n hn => ?_, .inl rfl⟩, fun m h1 h2 => q H' m s1 ⟨fun n hn => h2 _ (mx_nums _ |>.mpr ⟨n, hn, rfl⟩), .inr (mx_nums _ |>.mp h1)⟩⟩
      have := (mx_nums (ds := ds) (n + 1)).mpr ⟨n, hn, rfl⟩
      rw [e] at this
      cases this
def timesF (many : Nat) (ds : List Deed) : List Deed := (List.range many).flatMap fun (t : Nat) => ds.map (sh (0 + (t : Int)))
theorem times_len (many : Nat) (ds : List Deed) : (timesF many ds).length = many * ds.length := by
  unfold timesF
  induction many with
  | zero => simp
  | succ n ih =>
    rw [List.range_succ, List.flatMap_append, List.length_append, ih]
    simp [Nat.succ_mul]
def spMany (K : PySem.W.Frag) : Sp := fun vs H Q _ => ∃ (a : Addr) (xs : List V) (ds : List Deed) (many : Nat), vs = [.ref a, .int (many : Int)] ∧ SqL K H a xs ∧ DpAll K H xs (ds.map dD) ∧ many ≤ 60 ∧ ds.length ≤ 60 ∧
  ∀ (H' : Hp) (l : Addr) (ys : List V), Same H H' → H l = none → H' l = some (.lst ys) → DpAll K H' ys ((timesF many ds).map dD) → Q (.ref l) H'
theorem ok_law_many_times {f : Addr} {fd : FuncData} (F : Fun K "_law_many_times" "_law_many_times" s_law_many_times f fd) (T : Txt mg)  : FnOk P w K mg base CX0 1 f fd ["trail", "many"] (spMany K) := by
  refine F.ok sc_law_many_times (fun vs H Q E h => ?_) (fun cdv A outer s H vs Q E hr h => ?_)
  · obtain ⟨a, xs, ds, many, rfl, _⟩ := h
    rfl
  · obtain ⟨a, xs, ds, many, rfl, hS, hD, hm, hl, q⟩ := h
    refine ⟨_, (pss_cons (ps_set (i := 2) sc_law_many_times.nd rfl (Or.inl rfl) (pe_lst pa_nil))
      (pss_cons (ps_for PassesOwn.never rfl (pi_range1 rfl T.n_range (pa_cons (pv 1) pa_nil)) (pg_name (i := 3) sc_law_many_times.nd rfl (Or.inl rfl))
      (pss_one (ps_for PassesOwn.never rfl (pi_list (pv 0)) (pg_name (i := 4) sc_law_many_times.nd rfl (Or.inl rfl))
      (pss_one (ps_expr (pe_bm PySem.F.plainAttrs_list PySem.F.slot_list_append PySem.F.type_list_append mt_append (pv 2) (pa_cons (pe_op (r := rCatA K) op_catA (pe_slice (r := rSlT K) sl_tup (pv 4) po_none (po_some (pe_un un_neg pe_int))) (pe_tup (pa_cons (pe_op op_add (pe_ix (r := rIxT K) ix_tup (pv 4) (pe_un un_neg pe_int) (fun _ _ => rfl)) (pe_op op_mul (pv 3) (pe_callTy call_int1 (by rfl) T.n_int (by decide +kernel) (pa_cons (pe_cmpR op_ne (pe_ix (r := rIxT K) ix_tup (pv 4) pe_int (fun _ _ => rfl)) pe_str (nomark _)) pa_nil)))) pa_nil))) pa_nil)))))))
      (pss_one (ps_ret (pv 2))))), ?_⟩
    refine ⟨by show 0 ≤ sizeLine; decide, fun D hDf => ?_⟩
    refine ⟨_, rfl, many, rfl, by omega, by omega, for_range (n := many) (fun i σ H' => ∃ (y1 y2 : Option V) (ys : List V), σ = [some (.ref a), some (.int (many : Int)), some (.ref D), y1, y2] ∧ Same H H' ∧ H' D = some (.lst ys) ∧ DpAll K H' ys ((timesF i ds).map dD)) ⟨none, none, [], rfl, same_upd hDf, upd_same, .nil⟩ ?_ ?_⟩
    · rintro i σ H1 hi ⟨y1, y2, ys, rfl, s1, d1, p1⟩
      have hxl := dpAll_len hD
      rw [List.length_map] at hxl
      refine ⟨_, rfl, a, rfl, ⟨xs, s1.seq hS⟩, for_list (K := K) (a := a) (xs := xs) (fun j σ H' => ∃ (y2 : Option V) (ys : List V), σ = [some (.ref a), some (.int (many : Int)), some (.ref D), some (.int (0 + (i : Int))), y2] ∧ Same H H' ∧ H' D = some (.lst ys) ∧ DpAll K H' ys ((timesF i ds ++ (ds.take j).map (sh (0 + (i : Int)))).map dD)) ⟨y2, ys, rfl, s1, d1, by simpa using p1⟩ (fun j σ H' _ h => by obtain ⟨y2, ys, _, s2, _⟩ := h; exact s2.seq hS) ?_ ?_⟩
      · rintro j x σ H2 hx ⟨y3, zs, rfl, s2, d2, p2⟩
        obtain ⟨e, he, hv⟩ := dpAll_at hD hx
        obtain ⟨dd, hd, rfl⟩ := map_at he
        obtain ⟨p, kd, fr, n, rfl, hT, hf, hw⟩ := deed_parts (t := 0 + (i : Int)) dd hv
        refine ⟨_, rfl, .inl ⟨rfl, _, .inl (.inl d2)⟩, _, rfl, ?_⟩
        have hT2 := Same.seqT s2 hT
        have hl1 : ((V.str kd :: fr) ++ [V.int n]).length = fr.length + 2 := by simp
        have hneg : HT.sIx ((V.str kd :: fr) ++ [V.int n]).length ((V.str kd :: fr) ++ [V.int n]).length (some (-1)) = fr.length + 1 := by
          rw [hl1]
          show (if (-1 : Int) < 0 then ((-1 : Int) + ((fr.length + 2 : Nat) : Int)).toNat else min (-1 : Int).toNat (fr.length + 2)) = _
          rw [if_pos (by decide)]
          omega
        have hcut : cutV ((V.str kd :: fr) ++ [V.int n]) none (some (-1)) = V.str kd :: fr := by
          unfold cutV
          rw [hneg]
          show List.take (fr.length + 1 - 0) (List.drop 0 ((V.str kd :: fr) ++ [V.int n])) = _
          rw [List.drop_zero, List.take_append_of_le_length (by simp)]
          exact List.take_of_length_le (by simp)
        refine ⟨_, rfl, _, rfl, p, _, rfl, hT2, ?_, fun p1 h1 => ?_⟩
        · rw [hneg, hl1]
          omega
        rw [hcut]
        have s3 := same_upd (o := HO.tup (V.str kd :: fr)) h1
        have hT3 := Same.seqT s3 hT2
        have hz := sizeLine_eq
        refine ⟨_, rfl, _, rfl, p, _, -1, _, rfl, rfl, hT3, atI_last _ _, _, rfl, _, rfl, p, _, 0, _, rfl, rfl, hT3, atI_nat (j := 0) rfl, rfl, .inr ⟨_, rfl, _, _, rfl, rfl, .inl ⟨by omega, by omega⟩, _, _, rfl, rfl, by show 1 ≤ sizeLine; decide, fun c2 h2 => ?_⟩⟩
        have s4 := s3.trans (same_upd (o := HO.tup [V.int (n + (0 + (i : Int)) * (if (!decide (V.str kd = V.str "ask")) = true then 1 else 0))]) h2)
        refine ⟨p1, c2, V.str kd :: fr, _, rfl, rfl, .inl (.inl (by rw [upd_ne (ne_of_none upd_same h2)]; exact upd_same)), .inl (.inl upd_same), ?_, ?_⟩
        · show (V.str kd :: fr).length + 1 ≤ sizeLine
          rw [List.length_cons]
          omega
        refine ⟨nofun, fun _ => nofun, fun _ _ p3 h3 => ?_⟩
        have s5 := s4.trans (same_upd (o := HO.tup ((V.str kd :: fr) ++ [V.int (n + (0 + (i : Int)) * (if (!decide (V.str kd = V.str "ask")) = true then 1 else 0))])) h3)
        have d5 := s5 _ _ d2
        have hzl := dpAll_len p2
        rw [List.length_map, List.length_append, List.length_map, List.length_take, times_len] at hzl
        have hml : i * ds.length ≤ 60 * 60 := Nat.mul_le_mul (by omega) hl
        refine ⟨D, zs, _, rfl, rfl, d5, by omega, _, _, rfl, same_put (s2.trans s5) hDf, upd_same, ?_⟩
        have tk : ds.take (j + 1) = ds.take j ++ [dd] := by
          rw [List.take_add_one, hd]
          rfl
        have e1 : timesF i ds ++ (ds.take j ++ [dd]).map (sh (0 + (i : Int))) = (timesF i ds ++ (ds.take j).map (sh (0 + (i : Int)))) ++ [sh (0 + (i : Int)) dd] := by
          rw [List.map_append, List.append_assoc]
          rfl
        rw [tk, e1, List.map_append]
        refine dpAll_tk (tk_put d5) ?_ (dpAll_append (dpAll_mono s5 p2) (.cons (hw _ p3 upd_same) .nil))
        rw [← List.map_append]
        exact imm_deeds _
      · rintro σ H2 ⟨y3, zs, rfl, s2, d2, p2⟩
        refine ⟨_, _, _, rfl, s2, d2, ?_⟩
        rw [List.take_of_length_le (by omega)] at p2
        have e : timesF (i + 1) ds = timesF i ds ++ ds.map (sh (0 + (i : Int))) := by
          unfold timesF
          rw [List.range_succ, List.flatMap_append]
          simp
        rw [e]
        exact p2
    · rintro σ H1 ⟨y1, y2, ys, rfl, s1, d1, p1⟩
      exact ⟨_, rfl, q H1 D ys s1 hDf d1 p1⟩
end
end SP

/-! defs that are called where nothing is being shown -/
namespace SP
open PySem PySem.Spec PyProof.Rows L2
section
variable {P : Program} {w : World} {K : PySem.W.Frag} {mg : Str → Option Value} {base : Heap}
structure FnG (P : Program) (w : World) (K : PySem.W.Frag) (mg : Str → Option Value) (base : Heap) (k : Nat) (f : Addr) (fd : FuncData) (ps : List Str) (sp : Sp) : Prop where
  count : ∀ vs H Q, sp vs H Q E0 → vs.length = ps.length
  goes : ∀ (A : Around) (outer : List Env) (s : Shared) (H : Hp) (args : Args) (us : List Value) (vs : List V) (Q : VK), A.guards = some [] → Room k A → Env0 P w K mg base A outer s H → BindsTo s fd args (ps.zip us) → Vals vs us → sp vs H Q E0 →
    codeAny (model P w) A (.call (.ref f) args) (CR CX0 outer P w H s Q E0) s
/-- the body of a def, run where it is called -/
theorem body_any {x qual : Str} {st : Stmt} {f : Addr} {fd : FuncData} {N ps : List Str} {k : Nat} {A : Around} {outer : List Env} {s : Shared} {H : Hp} {args : Args} {us : List Value} {zs : List V} {Q : VK}
    (F : Fun K x qual st f fd) (S : FnScope N ps (defScope st)) (room : Room (k + 1) A) (e0 : Env0 P w K mg base A outer s H) (bnd : BindsTo s fd args (ps.zip us)) (r : Vals zs us) (len : zs.length = ps.length)
    (body : ∀ cdv : Value, Room k (A.deeper (envOfC qual (defScope st) s.heap.objs.size f cdv)) →
      ∃ t, PSs (cxOf CX0 P w K mg base N qual (defScope st) f cdv A outer s H E0).nox (defBody st) t ∧ t { nx := fun _ H' => Q .non H', rt := Q } (start N zs) H) :
    codeAny (model P w) A (.call (.ref f) args) (CR CX0 outer P w H s Q E0) s := by
  obtain ⟨oc, od, kV, doc, pm, an, cdv, ct, osl, rfl, lk, hcd⟩ := F.ex
  have here : K.In s.heap := e0.mod.kin.keeps fun b o e => (e0.bs b o e).1
  have limit : s.heap.NoLimit := e0.mod.nolimit.keeps fun b o e => (e0.bs b o e).1
  have kinds : ∀ y ∈ ps.zip us, (defScope st).names.lookup y.1 = some .local ∨ ((defScope st).names.lookup y.1 = some .cell ∧ ((cellsFrom (s.heap.objs.size + 1) (defScope st).names []).lookup y.1).isSome = true) := by
    rintro ⟨n, v⟩ hy
    rcases S.par n (List.of_mem_zip hy).1 with q | q
    · exact .inl q
    · exact .inr ⟨q, PySem.W.cellsFrom_some _ _ _ (.inl q)⟩
  refine codeAny_call_function room.depth (here _ _ lk) rfl S.co S.gen rfl (PySem.W.codeRec_of here hcd) (bnd _ _ _ _ ?_)
  refine wpAny_newFunctionEnv_cells S.kind kinds ?_
  intro env he s1 x1
  subst he
  refine ⟨limit.keeps x1.toInCall.keep, codeAny_func ?_⟩
  obtain ⟨t, ht, hq⟩ := body cdv (room.deeper _)
  have I : Inv (cxOf CX0 P w K mg base N qual (defScope st) f cdv A outer s H E0) [] (start N zs) H s1 := inv_start S room.hd e0 len r x1
  refine wpAny_mono ((ht.nox).run [] s1 (start N zs) H _ I hq) (fun fl s' hs => ?_) (fun e s' hs => hs)
  cases fl with
  | ret u =>
    obtain ⟨v, σ', H', J, rv, q⟩ := hs
    exact ⟨v, H', J.os, J.bare, J.base, J.hok, rv, q⟩
  | next =>
    obtain ⟨σ', H', J, q⟩ := hs
    exact ⟨V.non, H', J.os, J.bare, J.base, J.hok, rfl, q⟩
  | brk => exact hs.elim fun _ z => z.elim fun _ z => z.2.elim
  | cont => exact hs.elim fun _ z => z.elim fun _ z => z.2.elim
theorem okG_of {x qual : Str} {st : Stmt} {f : Addr} {fd : FuncData} {N ps : List Str} {k : Nat} {sp : Sp} (F : Fun K x qual st f fd) (S : FnScope N ps (defScope st)) (len : ∀ vs H Q, sp vs H Q E0 → vs.length = ps.length)
    (body : ∀ (cdv : Value) (A : Around) (outer : List Env) (s : Shared) (H : Hp) (vs : List V) (Q : VK), A.guards = some [] → Room k (A.deeper (envOfC qual (defScope st) s.heap.objs.size f cdv)) → sp vs H Q E0 →
      ∃ t, PSs (cxOf CX0 P w K mg base N qual (defScope st) f cdv A outer s H E0).nox (defBody st) t ∧ t { nx := fun _ H' => Q .non H', rt := Q } (start N vs) H) : FnG P w K mg base (k + 1) f fd ps sp :=
  ⟨len, fun A outer s H args us vs Q hg hr e0 hb r hs => body_any F S hr e0 hb r (len _ _ _ hs) fun cdv h => body cdv A outer s H vs Q hg h hs⟩
structure CalleeG (P : Program) (w : World) (K : PySem.W.Frag) (mg : Str → Option Value) (base : Heap) (x : Str) (ps : List Str) (k : Nat) (sp : Sp) : Prop where
  ex : ∃ (f : Addr) (fd : FuncData), FnG P w K mg base k f fd ps sp ∧ mg x = some (.ref f) ∧ PySem.W.keepIn K (.ref f) = true ∧ Binds K fd ps []
theorem run_g {X : Cx} {k : Nat} {f : Addr} {fd : FuncData} {ps : List Str} {sp : Sp} {pins : List (Addr × Obj)} {σ : L2.St} {H : Hp} {s : Shared} {Q : VK} {us : List Value} {vs : List V} (F : FnG X.prog X.w X.K X.mg X.base k f fd ps sp) (hg : X.A.guards = some []) (room : Room k X.A) (bn : Binds X.K fd ps [])
    (I : Inv X pins σ H s) (r : Vals vs us) (h : sp vs H Q E0) : wpAny (model X.prog X.w) X.A (call (.ref f) us) (EP X pins σ Q) X.xe s := by
  have lu : us.length = ps.length := by
    rw [← r.length]
    exact F.count _ _ _ h
  have bd := bn s us I.kIn (by rw [List.append_nil]; exact lu)
  rw [List.append_nil] at bd
  refine wpAny_call (codeAny_mono (F.goes X.A X.stack s H ⟨us, []⟩ us vs Q hg room I.env0 bd r h) ?_)
  rintro (e | fl) s' hq
  · exact hq.elim
  · cases fl with
    | ret u => exact I.after hq
    | next => exact hq.elim
    | brk => exact hq.elim
    | cont => exact hq.elim
theorem pe_fnG {X : Cx} {x : Str} {ps : List Str} {k j : Nat} {sp : Sp} {e : Expr} {es : List Expr} {p pos : Pos} {t : TA} (C : CalleeG X.prog X.w X.K X.mg X.base x ps k sp) (hgd : X.A.guards = some []) (hr : Room j X.A) (hg : Gl X x) (ha : PA X (e :: es) t)
    (hk : k ≤ j := by decide) (h2 : (x == ("__debug__" : Str)) = false := by decide) (hs : starEach (e :: es) X.env = (false, eval e X.env) :: starEach es X.env := by rfl) (hp : (backTo pos (starEach es X.env)).any (·.1) = false := by rfl) :
    PE X (.Call (.Name x p) (e :: es) [] pos) (tCall sp [] E0 t) := by
  obtain ⟨f, fd, G, g, kp, b⟩ := C.ex
  refine ⟨fun pins s σ H Q I h => ?_⟩
  refine wpAny_Call_Name_kw (ld_glob I hg g ?_ h2)
  refine PySem.W.callWith_K (h₀ := X.base) I.ok.mod.kin kp (thn (ha.run pos pins s σ H _ I h) ?_) hs hp
  rintro us s1 ⟨vs, H1, I1, r, q⟩
  refine ⟨I1.kIn, run_g G hgd (hr.mono hk) b I1 r ?_⟩
  have q' : sp (vs ++ []) H1 Q E0 := q
  rw [List.append_nil] at q'
  exact q'
end
end SP

/-! from what the top leaves to the law's own def -/
namespace SP
open PySem PySem.Spec PyProof.Rows L2
section
variable {P : Program} {w : World} {K : PySem.W.Frag} {mg : Str → Option Value}
/-- from the concrete heap to the abstract one: only the script may be tracked -/
theorem top_call {mb : Str → Option Value} {fa a : Addr} {s₁ : Shared} {vs : List Value} {ns : List Int} (KX : K.In s₁.heap) (n1 : s₁.heap.Ns mainGlobals mg) (n2 : s₁.heap.Ns builtinsNs mb)
    (n3 : ∀ x : Str, x ≠ "__name__" → mb x = bootBuiltins x) (lim : s₁.heap.NoLimit) (gens : s₁.gens = #[]) (ha : s₁.heap.get? a = some { cls := .type "list", data := .seq vs.toArray }) (iv : IntsAre vs ns) (many : ns.length ≤ sizeLine)
    (F : ∀ (base : Heap) (H : Hp), K.In base → base.Ns mainGlobals mg → Env0 P w K mg base callerA [] s₁ H → SqL K H a (ns.map V.int) →
      codeAny (model P w) callerA (.call (.ref fa) ⟨[.ref a], []⟩) (CR CX0 [] P w H s₁ (fun v _ => v = .bl true) E0) s₁) :
    codeAny (model P w) callerA (.call (.ref fa) ⟨[.ref a], []⟩) (fun r s' => r = .ok (.ret (.bool true)) ∧ OldK s₁.heap s'.heap ∧ s'.os = s₁.os ∧ AllBare s'.gens) s₁ := by
  have rv := vals_ints iv
  have main : ∀ H : Hp, Only H → SqL K H a (ns.map V.int) → HOk P w H s₁.heap → (∀ b, H b ≠ none → b = a ∧ K.lookup a = none) →
      codeAny (model P w) callerA (.call (.ref fa) ⟨[.ref a], []⟩) (fun r s' => r = .ok (.ret (.bool true)) ∧ OldK s₁.heap s'.heap ∧ s'.os = s₁.os ∧ AllBare s'.gens) s₁ := by
    intro H only sq ok at_a
    have free_dict : ∀ (b : Addr) (o : Obj) (es : Array DictEntry) (ep : Nat), s₁.heap.get? b = some o → o.data = .dict es ep → H b = none := by
      intro b o es ep e d
      by_cases z : H b = none
      · exact z
      · have hb := (at_a b z).1
        rw [hb, ha] at e
        cases e
        cases d
    have ns_hid : ∀ (b : Addr) (m : Str → Option Value), s₁.heap.Ns b m → (hidT s₁.heap H).Ns b m := by
      rintro b m ⟨o, es, ep, e, d, r⟩
      exact ⟨o, es, ep, hidT_get e (free_dict b o es ep e d), d, r⟩
    have k_hid : K.In (hidT s₁.heap H) := by
      intro b o e
      refine hidT_get (KX b o e) ?_
      by_cases z : H b = none
      · exact z
      · obtain ⟨h1, h2⟩ := at_a b z
        rw [h1, h2] at e
        cases e
    obtain ⟨mc, l1, l2⟩ := lim
    have e0 : Env0 P w K mg (hidT s₁.heap H) callerA [] s₁ H :=
      { frames := rfl
        mod := ⟨k_hid, ns_hid _ _ n1, ⟨mb, ns_hid _ _ n2, n3⟩, ⟨mc, ns_hid _ _ l1, l2⟩⟩
        bs := fun b o e => of_hidT e
        bsz := Nat.le_of_eq (hidT_size _ _)
        funs := trivial
        frf := fun b hb => by cases hb
        hok := ok
        bare := .of_eq gens }
    refine codeAny_mono (F _ H k_hid (ns_hid _ _ n1) e0 sq) ?_
    rintro (e | fl) s' h
    · exact False.elim h
    · cases fl with
      | ret u =>
        obtain ⟨v, H', os, bare, un, ok', ru, q⟩ := h
        have hv : v = .bl true := q
        rw [hv] at ru
        have hu : u = Value.bool true := ru
        rw [hu]
        refine ⟨rfl, OldK.of_keep ?_, os, bare⟩
        intro b o e
        rcases only b with z | ⟨ob, xs, z⟩
        · exact un.keep b o e z (by intro m; cases m) (by intro m; cases m)
        · have z2 := un.frzs b ob _ z
          have o1 : s₁.heap.get? b = some ob := (ok b _ z).1
          have o2 : s'.heap.get? b = some ob := (ok' b _ z2).1
          rw [e] at o1
          rw [o2, ← o1]
      | next => exact False.elim h
      | brk => exact False.elim h
      | cont => exact False.elim h
  cases hk : K.lookup a with
  | some o =>
    have e := KX a o hk
    rw [ha] at e
    cases e
    refine main (fun _ => none) (fun _ => .inl rfl) (.inr ⟨_, vs.toArray, _, hk, rfl, rfl, rfl, ?_, by simpa using rv⟩) (fun b u z => ?_) (fun b z => absurd rfl z)
    · have := iv.length
      rw [List.size_toArray]
      omega
    · have z' : (none : Option HO) = some u := z
      cases z'
  | none =>
    have at_b : ∀ b, b ≠ a → (fun b => if b = a then some (HO.frz { cls := .type "list", data := .seq vs.toArray } (.lst (ns.map V.int))) else none) b = none := fun b hb => if_neg hb
    refine main (fun b => if b = a then some (HO.frz { cls := .type "list", data := .seq vs.toArray } (.lst (ns.map V.int))) else none) (fun b => ?_) (.inl (.inr ⟨_, if_pos rfl⟩)) (fun b u z => ?_) (fun b z => ?_)
    · by_cases hb : b = a
      · exact .inr ⟨_, _, if_pos hb⟩
      · exact .inl (at_b b hb)
    · by_cases hb : b = a
      · have z' := (if_pos hb).symm.trans z
        cases z'
        rw [hb]
        exact ⟨ha, by rw [List.length_map]; exact many, vs, _, rv, ha⟩
      · exact absurd ((at_b b hb).symm.trans z) (by intro q; cases q)
    · by_cases hb : b = a
      · exact ⟨hb, hk⟩
      · exact absurd (at_b b hb) z
/-- what k_head leaves, from the body of the law's def -/
theorem walk_top {l : PySem.W.OpenLaw} {n : Nat} {q : Program} {loose : List Str} {XP : (Str → Option Value) → Heap → Prop} {YP : World → Heap → Prop} {d : DefRec} {Kp : Params → PySem.W.Frag}
    (hn : l.most = some n) (hn2 : n ≤ sizeLine) (hdf : d.params.defaults = []) (hY : ∀ (w : World) (h : Heap), YP w h → (Kp w.params).In h)
    (F : ∀ (w : World) (mg : Str → Option Value) (fa : Addr) (h : Heap), (Kp w.params).In h → h.Ns mainGlobals mg → mg d.name = some (.ref fa) →
      ∀ (base : Heap) (H : Hp) (s : Shared) (a : Addr) (ns : List Int), ns.length ≤ n → (Kp w.params).In base → base.Ns mainGlobals mg → Env0 l.prog w (Kp w.params) mg base callerA [] s H → SqL (Kp w.params) H a (ns.map V.int) →
        codeAny (model l.prog w) callerA (.call (.ref fa) ⟨[.ref a], []⟩) (CR CX0 [] l.prog w H s (fun v _ => v = .bl true) E0) s) :
    PySem.W.WalkO q loose XP YP l.row.toRowW d [] (fun f vs => PySem.call f vs) := by
  refine Att.attach_call hn hdf ?_
  intro w s₀ s₁ mg mb fa o pm cd doc a vs ns G Y ho hd hcd hmg hobj hints hlen hg
  have KX := hY w _ Y
  exact top_call KX G.T.g G.T.b G.T.builtins G.T.nolimit hg hobj hints (Nat.le_trans hlen hn2) fun base H k1 k2 e0 sq => F w mg fa _ KX G.T.g hmg base H s₁ a ns hlen k1 k2 e0 sq
end
end SP

namespace SP
open PySem PySem.Spec PyProof.Rows L2
open C8 (pss_cut tCut)
theorem plain_deeds (ds : List Deed) : PyData.plain (.list (ds.map dD)) = true := by
  show PyData.plainAll (ds.map dD) = true
  induction ds with
  | nil => rfl
  | cons d ds ih =>
    show (PyData.plain (dD d) && PyData.plainAll (ds.map dD)) = true
    rw [ih]
    cases d <;> rfl
theorem depth_deeds (ds : List Deed) : PyData.depth (.list (ds.map dD)) ≤ 4 := by
  have h : PyData.depthAll (ds.map dD) ≤ 3 := by
    induction ds with
    | nil => exact Nat.zero_le _
    | cons d ds ih =>
      rw [List.map_cons, PyData.depthAll]
      have : PyData.depth (dD d) ≤ 3 := by
        cases d <;> simp only [dD, PyData.depth, PyData.depthAll] <;> omega
      omega
  rw [PyData.depth]
  omega
/-- the tape, the words, the trail -/
structure Stt (K : PySem.W.Frag) (H0 H : Hp) (t wl tr : Addr) (wsl : List V) (n : Int) (ds : List Deed) : Prop where
  sm : Same H0 H
  ht : H t = some (.lst [.int n])
  hw : H wl = some (.lst wsl)
  hd : ∃ vs, H tr = some (.lst vs) ∧ DpAll K H vs (ds.map dD)
structure Apart (H0 : Hp) (t wl tr : Addr) : Prop where
  ft : H0 t = none
  fr : H0 tr = none
  tw : t ≠ wl
  tt : t ≠ tr
  wt : wl ≠ tr
section
variable {K : PySem.W.Frag} {H0 H H' : Hp} {t wl tr : Addr} {wsl : List V} {n m : Int} {ds : List Deed} {d : Deed}
theorem Stt.same (h : Stt K H0 H t wl tr wsl n ds) (s : Same H H') : Stt K H0 H' t wl tr wsl n ds := by
  obtain ⟨a, b, c, vs, d, e⟩ := h
  exact ⟨a.trans s, s _ _ b, s _ _ c, vs, s _ _ d, dpAll_mono s e⟩
theorem Stt.digit (A : Apart H0 t wl tr) (h : Stt K H0 H t wl tr wsl n ds) : Stt K H0 (upd H t (.lst [.int m])) t wl tr wsl m ds := by
  obtain ⟨a, b, c, vs, d, e⟩ := h
  refine ⟨same_put a A.ft, upd_same, by rw [upd_ne A.tw.symm]; exact c, vs, by rw [upd_ne A.tt.symm]; exact d, dpAll_tk (tk_put b) (imm_deeds _) e⟩
theorem Stt.app (A : Apart H0 t wl tr) (h : Stt K H0 H t wl tr wsl n ds) {v : V} (hv : Dp K H v (dD d)) : ∃ vs, H tr = some (.lst vs) ∧ vs.length = ds.length ∧ Stt K H0 (upd H tr (.lst (vs ++ [v]))) t wl tr wsl n (ds ++ [d]) := by
  obtain ⟨a, b, c, vs, dd, e⟩ := h
  refine ⟨vs, dd, by have := dpAll_len e; rw [List.length_map] at this; exact this, same_put a A.fr, by rw [upd_ne A.tt]; exact b, by rw [upd_ne A.wt]; exact c, _, upd_same, ?_⟩
  rw [List.map_append]
  refine dpAll_tk (tk_put dd) ?_ (dpAll_snoc e hv)
  rw [← List.map_append (f := dD) (l₂ := [d])]
  exact imm_deeds _
end
def waysL : List Str := ["ask", "made", "freed", "made", "freed"]
theorem ways_is : ∀ i : Nat, i < 5 → (waysL.getD i "") = "ask" ∨ (waysL.getD i "") = "made" ∨ (waysL.getD i "") = "freed" := by decide +kernel
def dOf (way : Str) (n : Int) (d : Deed) : Prop := (way = "ask" ∧ ∃ w, d = .ask w n) ∨ (way = "made" ∧ d = .made n) ∨ (way = "freed" ∧ d = .freed n)
theorem mx_snoc {ds : List Deed} {d : Deed} {way : Str} {n due : Int} (h : dOf way n d) (hn : 0 ≤ n) (hd : 0 ≤ due) (hN : NN ds) (hm : Mx ds due) : NN (ds ++ [d]) ∧
    ((¬ way = "made" → Mx (ds ++ [d]) due) ∧ (way = "made" → Mx (ds ++ [d]) (if n + 1 > due then n + 1 else due))) := by
  obtain ⟨m1, m2⟩ := hm
  have mem : ∀ k, Deed.made k ∈ ds ++ [d] ↔ (Deed.made k ∈ ds ∨ Deed.made k = d) := fun k => by rw [List.mem_append, List.mem_singleton]
  rcases h with ⟨rfl, w, rfl⟩ | ⟨rfl, rfl⟩ | ⟨rfl, rfl⟩
  · have mem' : ∀ k, Deed.made k ∈ ds ++ [Deed.ask w n] ↔ Deed.made k ∈ ds := fun k => (mem k).trans ⟨fun h => h.elim id (fun e => by cases e), .inl⟩
    refine ⟨fun k hk => hN k ((mem' k).mp hk), fun _ => ⟨fun k hk => m1 k ((mem' k).mp hk), ?_⟩, fun e => absurd e (by decide +kernel)⟩
    rcases m2 with e | ⟨k, hk, e⟩
    · exact .inl e
    · exact .inr ⟨k, (mem' k).mpr hk, e⟩
  · have mem' : ∀ k, Deed.made k ∈ ds ++ [Deed.made n] ↔ (Deed.made k ∈ ds ∨ k = n) := fun k => (mem k).trans ⟨fun h => h.imp_right (fun e => by cases e; rfl), fun h => h.imp_right (fun e => by rw [e])⟩
    refine ⟨fun k hk => ((mem' k).mp hk).elim (hN k) (fun e => by omega), fun e => absurd rfl e, fun _ => ⟨fun k hk => ?_, ?_⟩⟩
    · rcases (mem' k).mp hk with h | h
      · have := m1 k h
        split <;> omega
      · split <;> omega
    · by_cases h : n + 1 > due
      · rw [if_pos h]
        exact .inr ⟨n, (mem' n).mpr (.inr rfl), rfl⟩
      · rw [if_neg h]
        rcases m2 with e | ⟨k, hk, e⟩
        · omega
        · exact .inr ⟨k, (mem' k).mpr (.inl hk), e⟩
  · have mem' : ∀ k, Deed.made k ∈ ds ++ [Deed.freed n] ↔ Deed.made k ∈ ds := fun k => (mem k).trans ⟨fun h => h.elim id (fun e => by cases e), .inl⟩
    refine ⟨fun k hk => hN k ((mem' k).mp hk), fun _ => ⟨fun k hk => m1 k ((mem' k).mp hk), ?_⟩, fun e => absurd e (by decide +kernel)⟩
    rcases m2 with e | ⟨k, hk, e⟩
    · exact .inl e
    · exact .inr ⟨k, (mem' k).mpr hk, e⟩
/-- the same again and again -/
theorem mx_times {ds : List Deed} {due : Int} {many : Nat} (h1 : 1 ≤ many) (hN : NN ds) (hm : Mx ds due) : NN (timesF many ds) ∧ Mx (timesF many ds) (due + ((many : Int) - 1) * (if due > 0 then 1 else 0)) := by
  have mem : ∀ k, Deed.made k ∈ timesF many ds ↔ ∃ t, t < many ∧ ∃ n, Deed.made n ∈ ds ∧ k = n + t := fun k => by
    unfold timesF
    rw [List.mem_flatMap]
    constructor
    · rintro ⟨t, ht, h⟩
      obtain ⟨d, hd, e⟩ := List.mem_map.mp h
      rw [List.mem_range] at ht
      cases d with
      | made n =>
        injection e with e
        exact ⟨t, ht, n, hd, by omega⟩
      | ask w n => cases e
      | freed n => cases e
    · rintro ⟨t, ht, n, hn, rfl⟩
      refine ⟨t, List.mem_range.mpr ht, List.mem_map.mpr ⟨_, hn, ?_⟩⟩
      show Deed.made _ = Deed.made _
      congr 1
      omega
  obtain ⟨m1, m2⟩ := hm
  refine ⟨fun k hk => ?_, fun k hk => ?_, ?_⟩
  · obtain ⟨t, _, n, hn, rfl⟩ := (mem k).mp hk
    have := hN n hn
    omega
  · obtain ⟨t, ht, n, hn, rfl⟩ := (mem k).mp hk
    have h2 := m1 n hn
    have := hN n hn
    rw [if_pos (by omega)]
    omega
  · rcases m2 with rfl | ⟨n, hn, rfl⟩
    · exact .inl (by rw [if_neg (by omega)]; omega)
    · have := hN n hn
      refine .inr ⟨n + (many - 1 : Nat), (mem _).mpr ⟨many - 1, by omega, n, hn, rfl⟩, ?_⟩
      rw [if_pos (by omega)]
      omega
section
variable {P : Program} {w : World} {K : PySem.W.Frag} {mg : Str → Option Value} {base : Heap}
theorem law_body {f a : Addr} {s : Shared} {H : Hp} {ns : List Int} {Q : VK} (T : Txt mg) (C_places_needed : Callee P w K mg base "places_needed" ["trail"] 1 (spNeed K)) (C_law_tape : Callee P w K mg base "_law_tape" ["script", "k"] 2 (spTape K)) (C_law_digit : Callee P w K mg base "_law_digit" ["tape", "many"] 1 (spDigit K)) (C_law_words : Callee P w K mg base "_law_words" ["tape", "many"] 2 (spWords K)) (C_law_many_times : Callee P w K mg base "_law_many_times" ["trail", "many"] 1 (spMany K))
    (hS : SqL K H a (ns.map V.int)) (hlen : ns.length ≤ 63) (q : ∀ H', Q (.bl true) H') (cdv : Value) (hr : Room 3 (callerA.deeper (envOfC "law" (defScope s_law) s.heap.objs.size f cdv))) :
    ∃ t, PSs (cxOf CX0 P w K mg base ["script", "k", "tape", "words", "trail", "due", "turn", "way", "number", "many", "handed", "found"] "law" (defScope s_law) f cdv callerA [] s H E0).nox (defBody s_law) t ∧ t { nx := fun _ H' => Q .non H', rt := Q } (start ["script", "k", "tape", "words", "trail", "due", "turn", "way", "number", "many", "handed", "found"] [.ref a]) H := by
  refine ⟨_, (pss_cons (ps_for PassesOwn.never rfl (pi_range2 rfl T.n_range (pa_cons pe_int (pa_cons (pe_callB (call_max2 rfl) (by rfl) T.n_max (by decide +kernel) (pa_cons pe_int (pa_cons (pe_callB (call_min2 rfl) (by rfl) T.n_min (by decide +kernel) (pa_cons pe_int (pa_cons (pe_callB (r := rLenS K) call_lenS (by rfl) T.n_len (by decide +kernel) (pa_cons (pv 0) pa_nil)) pa_nil))) pa_nil))) pa_nil))) (pg_name (i := 1) sc_law.nd rfl (Or.inl rfl))
      (pss_cons (ps_set (i := 2) sc_law.nd rfl (Or.inl rfl) (pe_fn C_law_tape hr (by rfl) (pa_cons (pv 0) (pa_cons (pv 1) pa_nil))))
      (pss_cons (ps_set (i := 3) sc_law.nd rfl (Or.inl rfl) (pe_op op_cat (pe_fn C_law_words hr (by rfl) (pa_cons (pv 2) (pa_cons pe_int pa_nil))) (pe_lst (pa_cons pe_str (pa_cons pe_str pa_nil)))))
      (pss_cons (ps_set (i := 4) sc_law.nd rfl (Or.inl rfl) (pe_lst pa_nil))
      (pss_cons (ps_set (i := 5) sc_law.nd rfl (Or.inl rfl) pe_int)
      (pss_cons (ps_for PassesOwn.never rfl (pi_range1 rfl T.n_range (pa_cons (pe_fn C_law_digit hr (by rfl) (pa_cons (pv 2) (pa_cons pe_int pa_nil))) pa_nil)) (pg_name (i := 6) sc_law.nd rfl (Or.inl rfl))
      (pss_cons (ps_set (i := 7) sc_law.nd rfl (Or.inl rfl) (pe_ix (r := rIxL K) ix_list (pe_lst (pa_cons pe_str (pa_cons pe_str (pa_cons pe_str (pa_cons pe_str (pa_cons pe_str pa_nil)))))) (pe_fn C_law_digit hr (by rfl) (pa_cons (pv 2) (pa_cons pe_int pa_nil))) (fun _ _ => rfl)))
      (pss_cons (ps_set (i := 8) sc_law.nd rfl (Or.inl rfl) (pe_ix (r := rIxL K) ix_list (pe_lst (pa_cons (pe_fn C_law_digit hr (by rfl) (pa_cons (pv 2) (pa_cons pe_int pa_nil))) (pa_cons (pe_fn C_law_digit hr (by rfl) (pa_cons (pv 2) (pa_cons pe_int pa_nil))) (pa_cons (pe_fn C_law_digit hr (by rfl) (pa_cons (pv 2) (pa_cons pe_int pa_nil))) pa_nil)))) (pe_fn C_law_digit hr (by rfl) (pa_cons (pv 2) (pa_cons pe_int pa_nil))) (fun _ _ => rfl)))
      (pss_cut (ps_if (pt_cmpR op_eq (pv 7) pe_str (nomark _)) (pss_one (ps_expr (pe_bm PySem.F.plainAttrs_list PySem.F.slot_list_append PySem.F.type_list_append mt_append (pv 4) (pa_cons (pe_tup (pa_cons pe_str (pa_cons (pe_ix (r := rIxL K) ix_list (pv 3) (pe_fn C_law_digit hr (by rfl) (pa_cons (pv 2) (pa_cons pe_int pa_nil))) (fun _ _ => rfl)) (pa_cons (pv 8) pa_nil)))) pa_nil)))) (pss_one (ps_expr (pe_bm PySem.F.plainAttrs_list PySem.F.slot_list_append PySem.F.type_list_append mt_append (pv 4) (pa_cons (pe_tup (pa_cons (pv 7) (pa_cons (pv 8) pa_nil))) pa_nil)))))
      (pss_one (ps_if (pt_cmpR op_eq (pv 7) pe_str (nomark _)) (pss_one (ps_set (i := 5) sc_law.nd rfl (Or.inl rfl) (pe_callB (call_max2 rfl) (by rfl) T.n_max (by decide +kernel) (pa_cons (pv 5) (pa_cons (pe_op op_add (pv 8) pe_int) pa_nil))))) pss_nil))))))
      (pss_cons (ps_set (i := 9) sc_law.nd rfl (Or.inl rfl) (pe_ix (r := rIxL K) ix_list (pe_lst (pa_cons pe_int (pa_cons pe_int (pa_cons (pe_op op_add pe_int (pe_fn C_law_digit hr (by rfl) (pa_cons (pv 2) (pa_cons pe_int pa_nil)))) pa_nil)))) (pe_fn C_law_digit hr (by rfl) (pa_cons (pv 2) (pa_cons pe_int pa_nil))) (fun _ _ => rfl)))
      (pss_cons (ps_set (i := 4) sc_law.nd rfl (Or.inl rfl) (pe_fn C_law_many_times hr (by rfl) (pa_cons (pv 4) (pa_cons (pv 9) pa_nil))))
      (pss_cons (ps_set (i := 5) sc_law.nd rfl (Or.inl rfl) (pe_op op_add (pv 5) (pe_op op_mul (pe_op op_sub (pv 9) pe_int) (pe_callTy call_int1 (by rfl) T.n_int (by decide +kernel) (pa_cons (pe_cmpR op_gt (pv 5) pe_int (nomark _)) pa_nil)))))
      (pss_cons (ps_set (i := 10) sc_law.nd rfl (Or.inl rfl) (pe_callTy (r := rListS K) call_listS (by rfl) T.n_list (by decide +kernel) (pa_cons (pv 4) pa_nil)))
      (pss_cons (ps_set (i := 11) sc_law.nd rfl (Or.inl rfl) (pe_fn C_places_needed hr (by rfl) (pa_cons (pv 10) pa_nil)))
      (pss_cons (ps_if (PW.pt (pw_or (pt_not (pt_val (pe_callB (r := rIsi K) call_isi (by rfl) T.n_isinstance (by decide +kernel) (pa_cons (pv 11) (pa_cons (pe_bltn (v := .ty "int") (by rfl) T.n_int (by decide +kernel) rfl) pa_nil))))) (pw_or1 (pt_val (pe_callB (r := rIsi K) call_isi (by rfl) T.n_isinstance (by decide +kernel) (pa_cons (pv 11) (pa_cons (pe_bltn (v := .ty "bool") (by rfl) T.n_bool (by decide +kernel) rfl) pa_nil))))))) (pss_one (ps_ret pe_bl)) pss_nil)
      (pss_one (ps_if (PW.pt (pw_or (pt_cmpR op_ne (pv 11) (pv 5) (nomark _)) (pw_or1 (pt_cmpR (r := rNeP K 4) (op_neP (m := 4) (room4 hr)) (pv 10) (pv 4) (nomark _))))) (pss_one (ps_ret pe_bl)) pss_nil))))))))))))))
      (pss_one (ps_ret pe_bl))), ?_⟩
  refine ⟨_, rfl, a, _, rfl, .inl hS, 6, _, rfl, 2, _, rfl, 0, _, rfl, ⟨by decide, by decide, ?_, ?_⟩, ?_⟩
  · split <;> split <;> omega
  · rw [List.length_map]
    split <;> split <;> omega
  generalize hT : ((if (if ((List.map V.int ns).length : Int) < 6 then ((List.map V.int ns).length : Int) else 6) > 2 then (if ((List.map V.int ns).length : Int) < 6 then ((List.map V.int ns).length : Int) else 6) else 2) - 0).toNat = turns
  have ht : turns ≤ 100 := by
    rw [← hT, List.length_map]
    split <;> split <;> omega
  clear hT
  refine for_range (lo := 0) (n := turns) (fun i σ H' => ∃ y1 y2 y3 y4 y5 y6 y7 y8 y9 y10 y11 : Option V, σ = [some (V.ref a), y1, y2, y3, y4, y5, y6, y7, y8, y9, y10, y11] ∧ Same H H') ⟨none, none, none, none, none, none, none, none, none, none, none, rfl, Same.refl _⟩ ?_ (fun σ H' _ => q H')
  rintro i σ H5 hi ⟨y1, y2, y3, y4, y5, y6, y7, y8, y9, y10, y11, rfl, s5⟩
  have hS5 := s5.seq hS
  refine ⟨_, rfl, _, rfl, a, ns, i, by rw [Int.zero_add]; rfl, hS5, by omega, fun H6 t n s6 ht6 t6 => ?_⟩
  refine ⟨_, rfl, t, n, 2, rfl, t6, by decide, fun H7 l b7 t7 hl l7 => ?_⟩
  have S7 : Same H5 H7 := b7.same s6 ht6
  have hL := words_len (wordsF n 2).2 2
  have hL := words_len n 2
  generalize (wordsF n 2).1 = L at l7 hL
  generalize (wordsF n 2).2 = n1 at t7
  have hlt : l ≠ t := fun e => by rw [e] at hl; have := s6 ; rw [t6] at hl; cases hl
  refine ⟨by show 2 ≤ sizeLine; decide, fun p hp => ⟨l, p, L.map V.str, _, rfl, rfl, same_upd hp _ _ l7, upd_same, ?_, fun wl hwl => ⟨by show 0 ≤ sizeLine; decide, fun tr htr => ?_⟩⟩⟩
  · rw [List.length_map, hL]
    show 2 + 2 ≤ sizeLine
    decide
  have S8 := same_upd (o := HO.lst [V.str "made", V.str "freed"]) hp
  have S9 := S8.trans (same_upd (o := HO.lst (L.map V.str ++ [V.str "made", V.str "freed"])) hwl)
  have S10 := S9.trans (same_upd (o := HO.lst []) htr)
  have t10 := S10 _ _ t7
  have w10 : (upd (upd (upd H7 p (HO.lst [V.str "made", V.str "freed"])) wl (HO.lst (L.map V.str ++ [V.str "made", V.str "freed"]))) tr (HO.lst [])) wl = some (HO.lst ((L ++ (["made", "freed"] : List Str)).map V.str)) := by
    rw [upd_ne (ne_of_none upd_same htr), upd_same, List.map_append]
    rfl
  have AP : Apart H5 t wl tr := ⟨ht6, (S7.trans S9).free htr, (ne_t (S8 _ _ t7) hwl).symm, (ne_t (S9 _ _ t7) htr).symm, (ne_t upd_same htr).symm⟩
  have st0 : Stt K H5 (upd (upd (upd H7 p (HO.lst [V.str "made", V.str "freed"])) wl (HO.lst (L.map V.str ++ [V.str "made", V.str "freed"]))) tr (HO.lst [])) t wl tr ((L ++ (["made", "freed"] : List Str)).map V.str) n1 [] := ⟨S7.trans S10, t10, w10, [], upd_same, .nil⟩
  have hLL : (L ++ (["made", "freed"] : List Str)).length = 4 := by rw [List.length_append, hL]; rfl
  generalize L ++ (["made", "freed"] : List Str) = LL at st0 hLL w10
  generalize L.map V.str ++ [V.str "made", V.str "freed"] = lv at st0 w10 htr t10 ⊢
  clear S7 S8 S9 S10 t10 w10 l7 b7 t7 hl hlt hL
  generalize upd (upd (upd H7 p (HO.lst [V.str "made", V.str "freed"])) wl (HO.lst lv)) tr (HO.lst []) = H10 at st0 ⊢
  clear htr hwl hp
  refine ⟨_, rfl, t, n1, 61, rfl, st0.ht, by decide, by decide, ?_⟩
  have st1 := st0.digit AP (m := n1 / 61)
  generalize upd H10 t (.lst [.int (n1 / 61)]) = H11 at st1
  have h61 : 0 ≤ n1 % 61 ∧ n1 % 61 < 61 := by omega
  generalize n1 % 61 = m61 at h61
  generalize n1 / 61 = n2 at st1
  clear st0
  refine ⟨m61, rfl, by omega, by omega, ?_⟩
  have hj : (m61 - 0).toNat ≤ 60 := by omega
  have hj : m61.toNat ≤ 60 := by omega
  refine for_range (n := m61.toNat) (fun j σ H' => ∃ (n : Int) (ds : List Deed) (due : Int) (y6 y7 y8 y9 y10 y11 : Option V), σ = [some (V.ref a), some (.int (0 + (i : Int))), some (.ref t), some (.ref wl), some (.ref tr), some (.int due), y6, y7, y8, y9, y10, y11] ∧ Stt K H5 H' t wl tr (LL.map V.str) n ds ∧ ds.length = j ∧ NN ds ∧ Mx ds due ∧ 0 ≤ due)
    ⟨n2, [], 0, y6, y7, y8, y9, y10, y11, rfl, st1, rfl, nofun, ⟨nofun, .inl rfl⟩, by decide⟩ ?_ ?_
  · rintro j σ H1 hjj ⟨n, ds, due, y6, y7, y8, y9, y10, y11, rfl, st, hdl, hN, hM, hdu⟩
    refine ⟨by show 5 ≤ sizeLine; decide, fun p5 h5 => ?_⟩
    have st2 := st.same (same_upd (o := HO.lst (waysL.map V.str)) h5)
    have n5 : p5 ≠ t := ne_t st.ht h5
    refine ⟨_, rfl, t, n, 5, rfl, st2.ht, by decide, by decide, p5, waysL.map V.str, n % 5, _, rfl, rfl, .inl (.inl (by rw [upd_ne n5]; exact upd_same)), str_item waysL n 5 rfl (by decide), ?_⟩
    have st3 := st2.digit AP (m := n / 5)
    have hway := ways_is (n % ((5 : Nat) : Int)).toNat (by omega)
    generalize waysL.getD (n % ((5 : Nat) : Int)).toNat "" = way at hway ⊢
    change tSeq _ _ _ _ (upd (upd H1 p5 (HO.lst (waysL.map V.str))) t (HO.lst [V.int (n / 5)]))
    generalize upd (upd H1 p5 (HO.lst (waysL.map V.str))) t (HO.lst [V.int (n / 5)]) = H2 at st3 ⊢
    generalize n / 5 = n3 at st3
    clear st2 st h5 n5
    refine ⟨_, rfl, t, n3, 9, rfl, st3.ht, by decide, by decide, ?_⟩
    have st4 := st3.digit AP (m := n3 / 9)
    refine ⟨_, rfl, t, n3 / 9, 400, rfl, st4.ht, by decide, by decide, ?_⟩
    have st5 := st4.digit AP (m := n3 / 9 / 400)
    refine ⟨_, rfl, t, n3 / 9 / 400, 9000, rfl, st5.ht, by decide, by decide, ?_⟩
    have st6 := st5.digit AP (m := n3 / 9 / 400 / 9000)
    have e1 : 0 ≤ n3 % 9 := by omega
    have e2 : 0 ≤ n3 / 9 % 400 := by omega
    have e3 : 0 ≤ n3 / 9 / 400 % 9000 := by omega
    generalize upd (upd (upd H2 t (HO.lst [V.int (n3 / 9)])) t (HO.lst [V.int (n3 / 9 / 400)])) t (HO.lst [V.int (n3 / 9 / 400 / 9000)]) = H3 at st6 ⊢
    generalize n3 % 9 = x1 at e1 ⊢
    generalize n3 / 9 % 400 = x2 at e2 ⊢
    generalize n3 / 9 / 400 % 9000 = x3 at e3 ⊢
    generalize n3 / 9 / 400 / 9000 = n4 at st6 ⊢
    clear st3 st4 st5
    refine ⟨by show 3 ≤ sizeLine; decide, fun p6 h6 => ?_⟩
    have st7 := st6.same (same_upd (o := HO.lst [V.int x1, V.int x2, V.int x3]) h6)
    have n6 : p6 ≠ t := ne_t st6.ht h6
    refine ⟨_, rfl, t, n4, 3, rfl, st7.ht, by decide, by decide, p6, [x1, x2, x3].map V.int, n4 % 3, _, rfl, rfl, .inl (.inl (by rw [upd_ne n6]; exact upd_same)), int_item [x1, x2, x3] n4 3 rfl (by decide), ?_⟩
    have st8 := st7.digit AP (m := n4 / 3)
    have hnum : 0 ≤ [x1, x2, x3].getD (n4 % ((3 : Nat) : Int)).toNat 0 := getD_mem [x1, x2, x3] _ 0 (fun x => 0 ≤ x) (by simp [e1, e2, e3]) (by decide)
    generalize [x1, x2, x3].getD (n4 % ((3 : Nat) : Int)).toNat 0 = num at hnum ⊢
    refine ⟨fun σ H' => ∃ (n : Int) (d : Deed), σ = [some (V.ref a), some (.int (0 + (i : Int))), some (.ref t), some (.ref wl), some (.ref tr), some (.int due), some (.int (0 + (j : Int))), some (.str way), some (.int num), y9, y10, y11] ∧ Stt K H5 H' t wl tr (LL.map V.str) n (ds ++ [d]) ∧ dOf way num d, ?_, ?_⟩
    · generalize upd (upd H3 p6 (HO.lst [V.int x1, V.int x2, V.int x3])) t (HO.lst [V.int (n4 / 3)]) = H4 at st8 ⊢
      have hz := sizeLine_eq
      refine ⟨_, rfl, rfl, _, rfl, ite2 (fun e => ?_) (fun e => ?_)⟩
      · have e : way = "ask" := V.str.inj (of_decide_eq_true e)
        obtain ⟨vs, hv0, _⟩ := st8.hd
        refine ⟨_, rfl, .inl ⟨rfl, vs, .inl (.inl hv0)⟩, _, rfl, _, rfl, t, n4 / 3, 4, rfl, st8.ht, by decide, by decide, wl, LL.map V.str, n4 / 3 % 4, _, rfl, rfl, .inl (.inl ?_), str_item LL (n4 / 3) 4 hLL (by decide), _, rfl, by show 3 ≤ sizeLine; decide, fun q9 h9 => ?_⟩
        · exact (st8.digit AP (m := n4 / 3 / 4)).hw
        have st9 := (st8.digit AP (m := n4 / 3 / 4)).same (same_upd (o := HO.tup [V.str "ask", V.str (LL.getD (n4 / 3 % ((4 : Nat) : Int)).toNat ""), V.int num]) h9)
        obtain ⟨vs, hv, hvl, st10⟩ := st9.app AP (v := .ref q9) (d := .ask (LL.getD (n4 / 3 % ((4 : Nat) : Int)).toNat "") num) (.tup (.inl (.inl upd_same)) (.cons (.str _) (.cons (.str _) (.cons (.int _) .nil))))
        exact ⟨tr, vs, _, rfl, rfl, hv, by omega, _, _, rfl, st10, .inl ⟨e, _, rfl⟩⟩
      · have e : ¬ way = "ask" := fun z => e (by rw [z]; exact decide_eq_true rfl)
        obtain ⟨vs, hv0, _⟩ := st8.hd
        refine ⟨_, rfl, .inl ⟨rfl, vs, .inl (.inl hv0)⟩, _, rfl, _, rfl, by show 2 ≤ sizeLine; decide, fun q9 h9 => ?_⟩
        have st9 := st8.same (same_upd (o := HO.tup [V.str way, V.int num]) h9)
        rcases hway with rfl | rfl | rfl
        · exact absurd rfl e
        · obtain ⟨vs, hv, hvl, st10⟩ := st9.app AP (v := .ref q9) (d := .made num) (.tup (.inl (.inl upd_same)) (.cons (.str _) (.cons (.int _) .nil)))
          exact ⟨tr, vs, _, rfl, rfl, hv, by omega, _, _, rfl, st10, .inr (.inl ⟨rfl, rfl⟩)⟩
        · obtain ⟨vs, hv, hvl, st10⟩ := st9.app AP (v := .ref q9) (d := .freed num) (.tup (.inl (.inl upd_same)) (.cons (.str _) (.cons (.int _) .nil)))
          exact ⟨tr, vs, _, rfl, rfl, hv, by omega, _, _, rfl, st10, .inr (.inr ⟨rfl, rfl⟩)⟩
    · rintro σ H6 ⟨n9, d, rfl, st9, hdo⟩
      obtain ⟨hN2, hM2, hM3⟩ := mx_snoc hdo hnum hdu hN hM
      have hl2 : (ds ++ [d]).length = j + 1 := by rw [List.length_append, hdl]; rfl
      refine ⟨_, rfl, rfl, _, rfl, ite2 (fun e => ?_) (fun e => ?_)⟩
      · have e : way = "made" := V.str.inj (of_decide_eq_true e)
        refine ⟨_, rfl, _, rfl, _, _, rfl, rfl, due, num + 1, rfl, ?_⟩
        exact ⟨n9, ds ++ [d], _, _, _, _, _, _, _, rfl, st9, hl2, hN2, hM3 e, by split <;> omega⟩
      · have e : ¬ way = "made" := fun z => e (by rw [z]; exact decide_eq_true rfl)
        exact ⟨n9, ds ++ [d], due, _, _, _, _, _, _, rfl, st9, hl2, hN2, hM2 e, hdu⟩
  · rintro σ H1 ⟨n, ds, due, y6, y7, y8, y9, y10, y11, rfl, st, hdl, hN, hM, hdu⟩
    refine ⟨_, rfl, t, n, 60, rfl, st.ht, by decide, by decide, _, _, rfl, rfl, by show 3 ≤ sizeLine; decide, fun p7 h7 => ?_⟩
    have sa := st.digit AP (m := n / 60)
    have sb := sa.same (same_upd (o := HO.lst [V.int 1, V.int 1, V.int (1 + n % 60)]) h7)
    have n7 : p7 ≠ t := ne_t sa.ht h7
    refine ⟨_, rfl, t, n / 60, 3, rfl, sb.ht, by decide, by decide, p7, [1, 1, 1 + n % 60].map V.int, n / 60 % 3, _, rfl, rfl, .inl (.inl (by rw [upd_ne n7]; exact upd_same)), int_item [1, 1, 1 + n % 60] (n / 60) 3 rfl (by decide), ?_⟩
    have sc := sb.digit AP (m := n / 60 / 3)
    have hMm : 1 ≤ [1, 1, 1 + n % 60].getD (n / 60 % ((3 : Nat) : Int)).toNat 0 ∧ [1, 1, 1 + n % 60].getD (n / 60 % ((3 : Nat) : Int)).toNat 0 ≤ 60 := by
      rcases (by omega : (n / 60 % ((3 : Nat) : Int)).toNat = 0 ∨ (n / 60 % ((3 : Nat) : Int)).toNat = 1 ∨ (n / 60 % ((3 : Nat) : Int)).toNat = 2) with e | e | e
      · rw [e]
        show (1 : Int) ≤ 1 ∧ (1 : Int) ≤ 60
        omega
      · rw [e]
        show (1 : Int) ≤ 1 ∧ (1 : Int) ≤ 60
        omega
      · rw [e]
        show 1 ≤ 1 + n % 60 ∧ 1 + n % 60 ≤ 60
        omega
    generalize [1, 1, 1 + n % 60].getD (n / 60 % ((3 : Nat) : Int)).toNat 0 = M at hMm ⊢
    change tSeq _ _ _ _ (upd (upd (upd H1 t (HO.lst [V.int (n / 60)])) p7 (HO.lst [V.int 1, V.int 1, V.int (1 + n % 60)])) t (HO.lst [V.int (n / 60 / 3)]))
    generalize upd (upd (upd H1 t (HO.lst [V.int (n / 60)])) p7 (HO.lst [V.int 1, V.int 1, V.int (1 + n % 60)])) t (HO.lst [V.int (n / 60 / 3)]) = H2 at sc ⊢
    clear sb sa h7 n7
    obtain ⟨m, rfl⟩ := Int.eq_ofNat_of_zero_le (show 0 ≤ M by omega)
    obtain ⟨vs, hv, hvd⟩ := sc.hd
    refine ⟨_, rfl, _, rfl, tr, vs, ds, m, rfl, .inl (.inl hv), hvd, by omega, by omega, fun H3 l2 ys s3 hl2 l3 dpy => ?_⟩
    refine ⟨_, rfl, _, rfl, _, _, rfl, rfl, _, rfl, _, _, rfl, rfl, .inr ⟨_, rfl, _, _, rfl, rfl, .inl ⟨by omega, by omega⟩, _, _, rfl, rfl, ?_⟩⟩
    have hyl := dpAll_len dpy
    rw [List.length_map, times_len, hdl] at hyl
    have hml : m * m61.toNat ≤ 60 * 60 := Nat.mul_le_mul (by omega) hj
    refine ⟨_, rfl, l2, ys, rfl, .inl (.inl (.inl l3)), fun l4 hl4 => ?_⟩
    have s4 := same_upd (o := HO.lst ys) hl4
    obtain ⟨hN9, hM9⟩ := mx_times (many := m) (by omega) hN hM
    refine ⟨_, rfl, l4, ys, timesF m ds, rfl, .inl (.inl upd_same), dpAll_mono s4 dpy, by omega, fun H5' mx s5' hmx => ?_⟩
    have emx := mx_one hN9 hmx hM9
    have S9 := (sc.sm.trans s3).trans (s4.trans s5')
    have g1 := (s4.trans s5') _ _ l3
    have g2 := s5' _ _ (upd_same (H := H3) (a := l4) (o := HO.lst ys))
    have g3 := dpAll_mono (s4.trans s5') dpy
    have e4 : due + ((m : Int) - 1) * (if decide (0 < due) = true then 1 else 0) = mx := by
      rw [emx]
      by_cases h : due > 0
      · rw [if_pos h, if_pos (decide_eq_true h)]
      · rw [if_neg h, if_neg (by simpa using h)]
    have hpl : PyData.plain (.list ((timesF m ds).map dD)) = true := plain_deeds _
    refine ⟨_, rfl, .int mx, .ty "int", _, .type "int", true, rfl, .ty _, .base (.int mx), kit_ty (r := true) (by decide +kernel), true, rfl, ite_F rfl ?_⟩
    refine ⟨_, rfl, .int mx, .ty "bool", _, .type "bool", false, rfl, .ty _, .base (.int mx), kit_ty (r := false) (by decide +kernel), false, rfl, ite_F rfl ?_⟩
    refine ⟨_, rfl, _, rfl, rfl, _, rfl, ?_⟩
    refine ite_F ?_ ?_
    · show (!decide (V.int mx = V.int (due + ((m : Int) - 1) * (if decide (0 < due) = true then 1 else 0)))) = false
      rw [e4, decide_eq_true rfl]
      rfl
    refine ⟨_, rfl, _, rfl, .list ((timesF m ds).map dD), .list ((timesF m ds).map dD), .lst (.inl (.inl g2)) g3, .lst (.inl (.inl g1)) g3, hpl, hpl, ?_, _, rfl, ite_F ?_ ?_⟩
    · rw [Nat.min_self]
      exact depth_deeds _
    · rw [SeqAt.eqv_refl_plain _ hpl]
      rfl
    exact ⟨_, _, _, _, _, _, _, _, _, _, _, rfl, s5.trans S9⟩
end
end SP

namespace SP
open PySem PySem.Spec PyProof.Rows L2
theorem all_mk {l : PySem.W.OpenLaw} {w : World} {K : PySem.W.Frag} {h : Heap} {mg : Str → Option Value} {fa f0 f1 f2 f3 f4 f5 f6 : Addr} (X : K.In h) (G : h.Ns mainGlobals mg) (hfa : mg "law" = some (.ref fa))
    {od0 an0 od1 an1 od2 an2 od3 an3 od4 an4 od5 an5 od6 an6 : Option Addr} {sl0 sl1 sl2 sl3 sl4 sl5 sl6 : Array (Option Value)} {oc0 kV0 dc0 pm0 cd0 ct0 oc1 kV1 dc1 pm1 cd1 ct1 oc2 kV2 dc2 pm2 cd2 ct2 oc3 kV3 dc3 pm3 cd3 ct3 oc4 kV4 dc4 pm4 cd4 ct4 oc5 kV5 dc5 pm5 cd5 ct5 oc6 kV6 dc6 pm6 cd6 ct6 : Value}
    (a0 : PySem.W.nsIn K mainGlobals "places_needed" = some (some (.ref f0))) (l0 : K.lookup f0 = some ⟨oc0, od0, .func (PySem.W.fnOf "places_needed" "places_needed" (defArgs s_places_needed) (defBody s_places_needed) (defScope s_places_needed) .none kV0 dc0 pm0 an0 cd0 ct0), sl0⟩) (c0 : PySem.W.codeIn K cd0 "places_needed" = true) (k0 : PySem.W.keepIn K (.ref f0) = true)
    (a1 : PySem.W.nsIn K mainGlobals "_law_cell_at" = some (some (.ref f1))) (l1 : K.lookup f1 = some ⟨oc1, od1, .func (PySem.W.fnOf "_law_cell_at" "_law_cell_at" (defArgs s_law_cell_at) (defBody s_law_cell_at) (defScope s_law_cell_at) .none kV1 dc1 pm1 an1 cd1 ct1), sl1⟩) (c1 : PySem.W.codeIn K cd1 "_law_cell_at" = true) (k1 : PySem.W.keepIn K (.ref f1) = true)
    (a2 : PySem.W.nsIn K mainGlobals "_law_tape" = some (some (.ref f2))) (l2 : K.lookup f2 = some ⟨oc2, od2, .func (PySem.W.fnOf "_law_tape" "_law_tape" (defArgs s_law_tape) (defBody s_law_tape) (defScope s_law_tape) .none kV2 dc2 pm2 an2 cd2 ct2), sl2⟩) (c2 : PySem.W.codeIn K cd2 "_law_tape" = true) (k2 : PySem.W.keepIn K (.ref f2) = true)
    (a3 : PySem.W.nsIn K mainGlobals "_law_digit" = some (some (.ref f3))) (l3 : K.lookup f3 = some ⟨oc3, od3, .func (PySem.W.fnOf "_law_digit" "_law_digit" (defArgs s_law_digit) (defBody s_law_digit) (defScope s_law_digit) .none kV3 dc3 pm3 an3 cd3 ct3), sl3⟩) (c3 : PySem.W.codeIn K cd3 "_law_digit" = true) (k3 : PySem.W.keepIn K (.ref f3) = true)
    (a4 : PySem.W.nsIn K mainGlobals "_law_words" = some (some (.ref f4))) (l4 : K.lookup f4 = some ⟨oc4, od4, .func (PySem.W.fnOf "_law_words" "_law_words" (defArgs s_law_words) (defBody s_law_words) (defScope s_law_words) .none kV4 dc4 pm4 an4 cd4 ct4), sl4⟩) (c4 : PySem.W.codeIn K cd4 "_law_words" = true) (k4 : PySem.W.keepIn K (.ref f4) = true)
    (a5 : PySem.W.nsIn K mainGlobals "_law_many_times" = some (some (.ref f5))) (l5 : K.lookup f5 = some ⟨oc5, od5, .func (PySem.W.fnOf "_law_many_times" "_law_many_times" (defArgs s_law_many_times) (defBody s_law_many_times) (defScope s_law_many_times) .none kV5 dc5 pm5 an5 cd5 ct5), sl5⟩) (c5 : PySem.W.codeIn K cd5 "_law_many_times" = true) (k5 : PySem.W.keepIn K (.ref f5) = true)
    (a6 : PySem.W.nsIn K mainGlobals "law" = some (some (.ref f6))) (l6 : K.lookup f6 = some ⟨oc6, od6, .func (PySem.W.fnOf "law" "law" (defArgs s_law) (defBody s_law) (defScope s_law) .none kV6 dc6 pm6 an6 cd6 ct6), sl6⟩) (c6 : PySem.W.codeIn K cd6 "law" = true) (k6 : PySem.W.keepIn K (.ref f6) = true)
    (z0 : PySem.W.nsIn K mainGlobals "isinstance" = some none)
    (z1 : PySem.W.nsIn K mainGlobals "str" = some none)
    (z2 : PySem.W.nsIn K mainGlobals "bool" = some none)
    (z3 : PySem.W.nsIn K mainGlobals "int" = some none)
    (z4 : PySem.W.nsIn K mainGlobals "len" = some none)
    (z5 : PySem.W.nsIn K mainGlobals "abs" = some none)
    (z6 : PySem.W.nsIn K mainGlobals "range" = some none)
    (z7 : PySem.W.nsIn K mainGlobals "all" = some none)
    (z8 : PySem.W.nsIn K mainGlobals "any" = some none)
    (z9 : PySem.W.nsIn K mainGlobals "repr" = some none)
    (z10 : PySem.W.nsIn K mainGlobals "max" = some none)
    (z11 : PySem.W.nsIn K mainGlobals "min" = some none)
    (z12 : PySem.W.nsIn K mainGlobals "tuple" = some none)
    (z13 : PySem.W.nsIn K mainGlobals "list" = some none)
    (z14 : PySem.W.nsIn K mainGlobals "dict" = some none)
    (z15 : PySem.W.nsIn K mainGlobals "set" = some none)
    (z16 : PySem.W.nsIn K mainGlobals "zip" = some none)
    (z17 : PySem.W.nsIn K mainGlobals "enumerate" = some none)
    (z18 : PySem.W.nsIn K mainGlobals "reversed" = some none)
    (z19 : PySem.W.nsIn K mainGlobals "sum" = some none)
    (z20 : PySem.W.nsIn K mainGlobals "sorted" = some none)
    : ∀ (base : Heap) (H : Hp) (s : Shared) (a : Addr) (ns : List Int), ns.length ≤ 63 → K.In base → base.Ns mainGlobals mg → Env0 l.prog w K mg base callerA [] s H → SqL K H a (ns.map V.int) →
      codeAny (model l.prog w) callerA (.call (.ref fa) ⟨[.ref a], []⟩) (CR CX0 [] l.prog w H s (fun v _ => v = .bl true) E0) s := by
  intro base H s a ns hlen _ _ e0 hS
  have e := hfa.symm.trans (PySem.W.mg_of X G a6)
  cases e
  have T : Txt mg := { n_isinstance := PySem.W.mg_none_of X G z0, n_str := PySem.W.mg_none_of X G z1, n_bool := PySem.W.mg_none_of X G z2, n_int := PySem.W.mg_none_of X G z3, n_len := PySem.W.mg_none_of X G z4, n_abs := PySem.W.mg_none_of X G z5, n_range := PySem.W.mg_none_of X G z6, n_all := PySem.W.mg_none_of X G z7, n_any := PySem.W.mg_none_of X G z8, n_repr := PySem.W.mg_none_of X G z9, n_max := PySem.W.mg_none_of X G z10, n_min := PySem.W.mg_none_of X G z11, n_tuple := PySem.W.mg_none_of X G z12, n_list := PySem.W.mg_none_of X G z13, n_dict := PySem.W.mg_none_of X G z14, n_set := PySem.W.mg_none_of X G z15, n_zip := PySem.W.mg_none_of X G z16, n_enumerate := PySem.W.mg_none_of X G z17, n_reversed := PySem.W.mg_none_of X G z18, n_sum := PySem.W.mg_none_of X G z19, n_sorted := PySem.W.mg_none_of X G z20 }
  have F0 := fun_mk (st := s_places_needed) l0 c0 k0
  have b0 := F0.binds (ps := ["trail"]) fun _ _ _ _ _ _ us hl => match us, hl with | [_], _ => rfl
  have F1 := fun_mk (st := s_law_cell_at) l1 c1 k1
  have b1 := F1.binds (ps := ["script", "k"]) fun _ _ _ _ _ _ us hl => match us, hl with | [_, _], _ => rfl
  have F2 := fun_mk (st := s_law_tape) l2 c2 k2
  have b2 := F2.binds (ps := ["script", "k"]) fun _ _ _ _ _ _ us hl => match us, hl with | [_, _], _ => rfl
  have F3 := fun_mk (st := s_law_digit) l3 c3 k3
  have b3 := F3.binds (ps := ["tape", "many"]) fun _ _ _ _ _ _ us hl => match us, hl with | [_, _], _ => rfl
  have F4 := fun_mk (st := s_law_words) l4 c4 k4
  have b4 := F4.binds (ps := ["tape", "many"]) fun _ _ _ _ _ _ us hl => match us, hl with | [_, _], _ => rfl
  have F5 := fun_mk (st := s_law_many_times) l5 c5 k5
  have b5 := F5.binds (ps := ["trail", "many"]) fun _ _ _ _ _ _ us hl => match us, hl with | [_, _], _ => rfl
  have F6 := fun_mk (st := s_law) l6 c6 k6
  have C_places_needed : Callee l.prog w K mg base "places_needed" ["trail"] 1 (spNeed K) := ⟨_, _, ok_places_needed F0 T , PySem.W.mg_of X G a0, k0, b0⟩
  have C_law_cell_at : Callee l.prog w K mg base "_law_cell_at" ["script", "k"] 1 (spCell K) := ⟨_, _, ok_law_cell_at F1 T , PySem.W.mg_of X G a1, k1, b1⟩
  have C_law_tape : Callee l.prog w K mg base "_law_tape" ["script", "k"] 2 (spTape K) := ⟨_, _, ok_law_tape F2 T C_law_cell_at, PySem.W.mg_of X G a2, k2, b2⟩
  have C_law_digit : Callee l.prog w K mg base "_law_digit" ["tape", "many"] 1 (spDigit K) := ⟨_, _, ok_law_digit F3 T , PySem.W.mg_of X G a3, k3, b3⟩
  have C_law_words : Callee l.prog w K mg base "_law_words" ["tape", "many"] 2 (spWords K) := ⟨_, _, ok_law_words F4 T C_law_digit, PySem.W.mg_of X G a4, k4, b4⟩
  have C_law_many_times : Callee l.prog w K mg base "_law_many_times" ["trail", "many"] 1 (spMany K) := ⟨_, _, ok_law_many_times F5 T , PySem.W.mg_of X G a5, k5, b5⟩
  refine body_any (k := 3) (zs := [.ref a]) (us := [.ref a]) (ps := ["script"]) F6 sc_law ⟨rfl, by decide, by decide⟩ e0 (.of_eq rfl) (.cons rfl .nil) rfl fun cdv hr => ?_
  exact law_body (Q := fun v _ => v = .bl true) T C_places_needed C_law_tape C_law_digit C_law_words C_law_many_times hS hlen (fun _ => rfl) cdv hr
end SP
open PySem PySem.W PyProof.Rows
set_option maxHeartbeats 0 in
theorem PySem.Challenge.cw_sparecount_k57_places_that_are_needed_holds : PySem.Challenge.rw_sparecount_k57_places_that_are_needed.Holds := by
  w_on; o_law; k_head; (case hw => w_witness2)
  k_fill
  refine SP.walk_top (l := PySem.Challenge.rw_sparecount_k57_places_that_are_needed) (n := 63) rfl (by decide) rfl (fun w h Y => PySem.W.kIn_of Y) ?F
  case F =>
    intro w mg fa h KX G hmg
    refine' SP.all_mk KX G hmg ?a0 ?l0 ?c0 ?k0 ?a1 ?l1 ?c1 ?k1 ?a2 ?l2 ?c2 ?k2 ?a3 ?l3 ?c3 ?k3 ?a4 ?l4 ?c4 ?k4 ?a5 ?l5 ?c5 ?k5 ?a6 ?l6 ?c6 ?k6 ?z0 ?z1 ?z2 ?z3 ?z4 ?z5 ?z6 ?z7 ?z8 ?z9 ?z10 ?z11 ?z12 ?z13 ?z14 ?z15 ?z16 ?z17 ?z18 ?z19 ?z20
    (case a0 => k_is); (case l0 => k_is); (case c0 => k_is); (case k0 => k_is); (case a1 => k_is); (case l1 => k_is); (case c1 => k_is); (case k1 => k_is); (case a2 => k_is); (case l2 => k_is); (case c2 => k_is); (case k2 => k_is); (case a3 => k_is); (case l3 => k_is); (case c3 => k_is); (case k3 => k_is); (case a4 => k_is); (case l4 => k_is); (case c4 => k_is); (case k4 => k_is); (case a5 => k_is); (case l5 => k_is); (case c5 => k_is); (case k5 => k_is); (case a6 => k_is); (case l6 => k_is); (case c6 => k_is); (case k6 => k_is); (case z0 => k_is); (case z1 => k_is); (case z2 => k_is); (case z3 => k_is); (case z4 => k_is); (case z5 => k_is); (case z6 => k_is); (case z7 => k_is); (case z8 => k_is); (case z9 => k_is); (case z10 => k_is); (case z11 => k_is); (case z12 => k_is); (case z13 => k_is); (case z14 => k_is); (case z15 => k_is); (case z16 => k_is); (case z17 => k_is); (case z18 => k_is); (case z19 => k_is); (case z20 => k_is)
