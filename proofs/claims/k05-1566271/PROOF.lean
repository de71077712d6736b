import PyProof.Rows.All
import Wide.All
import OpenK.AllK
import Wide.FinOn
import HandS.ForMost
import HandS.Wide
import HandS.IsInst
import HandS.StrMore
import HandS.Style
import HandS.Walk
import HandS.List
import HandS.Dict
import HandS.Ends
import HandS.Words
import PyProof.ReprRoads
import PyProof.ListStr
import PyProof.TupleOfStr
import PyProof.StrOps2
import PyProof.ReprLen
import KE.DataEq
import HandS.Codes
import HandS.TupAny
import KE.GoesEnum
import KE.KRevSl
import HandS.More
import HandS.NoneIn
import HandS.RevRange
import HandS.Deep
import PySem.Challenge.RW_sparecount_k05_places_and_terms
set_option Elab.async false
set_option linter.all false
set_option maxRecDepth 100000
set_option maxHeartbeats 16000000
namespace SP
open PySem PySem.Spec PyProof.Rows L2
/-! ### data with flat dicts, and repr of it -/
def flatD : V → Option PyData
  | .non => some .none
  | .bl b => some (.bool b)
  | .int i => some (.int i)
  | .str x => some (.str x)
  | _ => none
def keyD : Key → PyData
  | .inl i => .int i
  | .inr x => .str x
inductive Dq (K : PySem.W.Frag) (H : Hp) : V → PyData → Prop
  | dp {v : V} {d : PyData} : Dp K H v d → d.hasDict = false → Dq K H v d
  | dct {a : Addr} {kvs : List (Key × V)} {es : List (PyData × PyData)} : H a = some (.dK kvs) → Paired (fun (p : Key × V) (q : PyData × PyData) => q.1 = keyD p.1 ∧ flatD p.2 = some q.2) kvs es → Dq K H (.ref a) (.dict es)
theorem reads_flat {h : Heap} {v : V} {u : Value} {d : PyData} (f : flatD v = some d) (r : RelV v u) : Reads h u d [] := by
  cases v with
  | non => cases f; cases r; exact Reads.none
  | bl b => cases f; cases r; exact Reads.bool b
  | int i => cases f; obtain ⟨t, rfl⟩ := r; exact Reads.int i t
  | str x => cases f; obtain ⟨t, rfl⟩ := r; exact Reads.str x t
  | _ => cases f
theorem reads_keys {P : Program} {w : World} {h : Heap} : ∀ {ds : List DictEntry} {vs : List (Key × Value)} {kvs : List (Key × V)} {es : List (PyData × PyData)}, Pairs (mixKind P w) ds vs → KV kvs vs →
    Paired (fun (p : Key × V) (q : PyData × PyData) => q.1 = keyD p.1 ∧ flatD p.2 = some q.2) kvs es →
      ReadsAll h (ds.map (·.key)) (es.map (·.1)) [] ∧ ReadsAll h (ds.map (·.val)) (es.map (·.2)) []
  | _, _, _, _, .nil, .nil, .nil => ⟨ReadsAll.nil, ReadsAll.nil⟩
  | e :: ds, kv :: vs, p :: kvs, q :: es, .cons hk hv tp, .cons hr tr, .cons hf tf => by
    obtain ⟨i1, i2⟩ := reads_keys (h := h) tp tr tf
    obtain ⟨k1, r1⟩ := hr
    obtain ⟨f1, f2⟩ := hf
    have hk' : keyIs kv.1 e.key = true := hk
    rw [← k1] at hk'
    refine ⟨?_, ?_⟩
    · have : Reads h e.key q.1 [] := by
        rw [f1]
        rcases keyIs_shape hk' with ⟨i, t, e1, e2⟩ | ⟨x, t, e1, e2⟩
        · rw [e1, e2]; exact Reads.int i t
        · rw [e1, e2]; exact Reads.str x t
      exact ReadsAll.cons this i1
    · have : Reads h e.val q.2 [] := by
        rw [hv]
        exact reads_flat f2 r1
      exact ReadsAll.cons this i2
section
variable {X : Cx} {pins : List (Addr × Obj)} {σ : L2.St} {H : Hp} {s : Shared}
theorem Dq.reads (I : Inv X pins σ H s) {v : V} {d : PyData} {u : Value} (h : Dq X.K H v d) (r : RelV v u) : ∃ as, Reads s.heap u d as ∧ (d.hasDict = true → sysModules ∉ as) := by
  cases h with
  | dp h hn =>
    obtain ⟨as, R⟩ := Dp.reads I d v u h r
    exact ⟨as, R, fun e => by rw [hn] at e; cases e⟩
  | dct ha hf =>
    rename_i a kvs es
    cases r
    obtain ⟨_, hs, vs, kv, o, ds, ep, e1, e2, e3, _, tp, _⟩ := I.hok a _ ha
    obtain ⟨i1, i2⟩ := reads_keys (h := s.heap) tp kv hf
    refine ⟨_, Reads.dict e1 e2.1 e3 i1 i2, fun _ hm => ?_⟩
    have := beq_eq_false_iff_ne.mp hs
    simp only [List.append_nil, List.mem_singleton] at hm
    exact this hm.symm
/-- what repr of a thing tells -/
def shows (d : PyData) : Bool := d.showable && decide (d.shown.length ≤ sizeLine) && decide (d.depth ≤ 8)
def rReprD (K : PySem.W.Frag) : List V → Hp → VK → Prop := fun xs H Q => ∃ (x : V) (d : PyData), xs = [x] ∧ Dq K H x d ∧ shows d = true ∧ Q (.str d.shown) H
theorem call_reprD {X : Cx} (hg : X.A.guards = some []) (hu : X.A.units + 64 < cLine) : CallR X (.builtin "repr") (rReprD X.K) := by
  intro pins s σ H xs us Q I r h
  obtain ⟨x, d, rfl, hd, hs, q⟩ := h
  obtain ⟨u, rfl, rx⟩ := vals1 r
  unfold shows at hs
  simp only [Bool.and_eq_true, decide_eq_true_eq] at hs
  obtain ⟨⟨h1, h2⟩, h3⟩ := hs
  obtain ⟨as, R, hsm⟩ := hd.reads I rx
  cases R with
  | none => exact PySem.P.repr_of_none ⟨.str _, H, I.tok _, ⟨_, rfl⟩, q⟩
  | bool b => exact PySem.P.repr_of_bool ⟨.str _, H, I.tok _, ⟨_, rfl⟩, q⟩
  | int i t => exact PySem.P.repr_of_int (by simpa [PyData.showable] using h1) ⟨.str _, H, I.tok _, ⟨_, rfl⟩, q⟩
  | str z t => exact PySem.P.repr_of_str ⟨.str _, H, I.tok _, ⟨_, rfl⟩, q⟩ h2
  | list a1 a2 a3 a4 => exact repr_of_reads' (.list a1 a2 a3 a4) h1 hsm hg (by omega) (fun _ _ e => e) (fun h' u tk hk => ⟨.str _, H, I.kept hk, ⟨_, rfl⟩, q⟩) h2
  | tuple a1 a2 a3 a4 => exact repr_of_reads' (.tuple a1 a2 a3 a4) h1 hsm hg (by omega) (fun _ _ e => e) (fun h' u tk hk => ⟨.str _, H, I.kept hk, ⟨_, rfl⟩, q⟩) h2
  | dict a1 a2 a3 a4 a5 => exact repr_of_reads' (.dict a1 a2 a3 a4 a5) h1 hsm hg (by omega) (fun _ _ e => e) (fun h' u tk hk => ⟨.str _, H, I.kept hk, ⟨_, rfl⟩, q⟩) h2
end
/-! ### list(text), tuple(text), text * int -/
def signs (x : Str) : List V := x.cps.toList.map fun c => V.str ⟨#[c]⟩
theorem vals_signs {x : Str} {acc : Array Value} (h : ItemsOf (SignAt x) acc x.cps.size) : Vals (signs x) acc.toList := by
  obtain ⟨hz, hi⟩ := h
  obtain ⟨l⟩ := acc
  obtain ⟨⟨cs⟩⟩ := x
  have hz' : l.length = cs.length := hz
  have hi' : ∀ (j : Nat) (v : Value), l[j]? = some v → ∃ (c : Nat) (u : Tok), cs[j]? = some c ∧ v = .str ⟨#[c]⟩ u := by
    intro j v e
    obtain ⟨c, u, e1, e2⟩ := hi j v (by simpa using e)
    exact ⟨c, u, by simpa using e1, e2⟩
  clear hi hz
  show Paired RelV (cs.map fun c => V.str ⟨#[c]⟩) l
  induction cs generalizing l with
  | nil =>
    cases l with
    | nil => exact .nil
    | cons _ _ => simp at hz'
  | cons c cs ih =>
    cases l with
    | nil => simp at hz'
    | cons v l =>
      refine .cons ?_ (ih l (by simpa using hz') fun j v e => hi' (j + 1) v (by simpa using e))
      obtain ⟨c', u, e1, e2⟩ := hi' 0 v rfl
      have : c = c' := by simpa using e1
      subst this
      exact ⟨u, e2⟩
section
variable {X : Cx}
theorem call_list_text (hc : X.calm = true) : CallR X (.type "list") (fun xs H Q => ∃ x : Str, xs = [.str x] ∧ x.length ≤ sizeLine ∧ ∀ l, H l = none → Q (.ref l) (upd H l (.lst (signs x)))) := by
  intro pins s σ H xs us Q I r h
  obtain ⟨x, rfl, hz, q⟩ := h
  obtain ⟨u, rfl, t, rfl⟩ := vals1 r
  refine call_list_str (I.ok.hd hc) x t (fun h' tk acc' c' hk e hi => ?_) hz
  refine ⟨.ref s.heap.objs.size, _, I.laid (t' := tk) hk (Nat.le_refl _) (show ObjOk X.prog X.w _ h' _ (.lst (signs x)) from ⟨?_, acc'.toList, c', vals_signs hi, ?_⟩), rfl, q _ (I.hok.fresh (Nat.le_refl _))⟩
  · show ((x.cps.toList.map _).length) ≤ sizeLine
    rw [List.length_map]
    exact hz
  · rw [e]
theorem call_tuple_text (hc : X.calm = true) : CallR X (.type "tuple") (fun xs H Q => ∃ x : Str, xs = [.str x] ∧ x.length ≤ sizeLine ∧ ∀ l, H l = none → Q (.ref l) (upd H l (.tup (signs x)))) := by
  intro pins s σ H xs us Q I r h
  obtain ⟨x, rfl, hz, q⟩ := h
  obtain ⟨u, rfl, t, rfl⟩ := vals1 r
  refine call_tuple_str (I.ok.hd hc) x t (fun h' tk acc' hk hi => ?_) hz
  have I1 : Inv X pins σ H { s with heap := h', toks := tk } := I.kept hk
  refine ⟨.ref h'.objs.size, _, I1.laid (h' := h'.push { cls := .type "tuple", data := .seq acc' }) (t' := tk) (fun b o e => Heap.get?_push_of_some _ e) (Nat.le_refl _) (show ObjOk X.prog X.w _ _ _ (.tup (signs x)) from ⟨?_, acc'.toList, vals_signs hi, ?_⟩), rfl, q _ (I1.hok.fresh (Nat.le_refl _))⟩
  · show ((x.cps.toList.map _).length) ≤ sizeLine
    rw [List.length_map]
    exact hz
  · show IsTup _ _ acc'.toList.toArray
    rw [Array.toArray_toList]
    exact IsTup.new _ _
def repS (x : Str) (n : Nat) : Str := if n = 1 then x else ⟨(List.replicate n x.cps).foldl (· ++ ·) #[]⟩
theorem op_rep_str : OpR X (binaryOp .Mult) (fun x y H Q => ∃ (a : Str) (n : Nat), x = .str a ∧ y = .int (n : Int) ∧ 1 ≤ n ∧ n ≤ 1000 ∧ 1 ≤ a.length ∧ a.length ≤ 1000 ∧ (repS a n).length ≤ sizeLine ∧ Q (.str (repS a n)) H) := by
  intro pins s σ H x y v u Q I rx ry h
  obtain ⟨a, n, rfl, rfl, h1, h2, h3, h4, h5, q⟩ := h
  obtain ⟨t, rfl⟩ := rx
  obtain ⟨t', rfl⟩ := ry
  have hm : a.length * n ≤ 1000 * 1000 := Nat.mul_le_mul h4 h2
  refine PySem.P.mul_str ?_ (fun _ _ => ?_) (fun _ _ => ?_) ?_
  · rw [decide_eq_false (by omega), decide_eq_false (by omega)]
    rfl
  · have e : ((a.length : Nat) : Int) ≤ 1000 := by omega
    have : (1000 : Int) ≤ (2 ^ 63 - 1) / (n : Int) := by
      apply (Int.le_ediv_iff_mul_le (by omega)).mpr
      omega
    omega
  · have hs := sizeLine_eq
    unfold Builtin.Str.tooLong
    rw [Int.toNat_natCast]
    exact decide_eq_false (by omega)
  · rw [if_neg (by omega)]
    by_cases e : n = 1
    · subst e
      have : ((((1 : Nat) : Int) == 1 || a.length == 0) = true) := rfl
      rw [if_pos this]
      have q' : Q (.str a) H := by simpa [repS] using q
      exact ⟨.str a, H, I, ⟨t, rfl⟩, q'⟩
    · have h6 : (((n : Int) == 1 || a.length == 0)) = false := by
        rw [beq_eq_false_iff_ne.mpr (by omega), beq_eq_false_iff_ne.mpr (by omega)]
        rfl
      rw [h6, if_neg Bool.false_ne_true]
      rw [Int.toNat_natCast]
      unfold repS at q h5
      rw [if_neg e] at q h5
      exact ⟨h5, .str _, H, I.tok _, ⟨_, rfl⟩, q⟩
end
end SP

namespace SP
open PySem PySem.Spec PyProof.Rows L2
theorem ite_T {b : Bool} {A B : Prop} (hb : b = true) (h : A) : if b = true then A else B := by
  rw [if_pos hb]
  exact h
theorem ite_F {b : Bool} {A B : Prop} (hb : b = false) (h : B) : if b = true then A else B := by
  rw [if_neg (by rw [hb]; exact Bool.false_ne_true)]
  exact h
/-! ### a def that may be called -/
structure Callee (P : Program) (w : World) (K : PySem.W.Frag) (mg : Str → Option Value) (base : Heap) (x : Str) (ps : List Str) (k : Nat) (sp : Sp) : Prop where
  ex : ∃ (f : Addr) (fd : FuncData), FnOk P w K mg base CX0 k f fd ps sp ∧ mg x = some (.ref f) ∧ PySem.W.keepIn K (.ref f) = true ∧ Binds K fd ps []
theorem Callee.mono {P : Program} {w : World} {K : PySem.W.Frag} {mg : Str → Option Value} {base : Heap} {x : Str} {ps : List Str} {k j : Nat} {sp : Sp} (C : Callee P w K mg base x ps k sp) (h : k ≤ j) : Callee P w K mg base x ps j sp := by
  obtain ⟨f, fd, G, r⟩ := C.ex
  exact ⟨f, fd, G.mono h, r⟩
theorem pe_fn {X : Cx} {x : Str} {ps : List Str} {k j : Nat} {sp : Sp} {e : Expr} {es : List Expr} {p pos : Pos} {t : TA} (C : Callee X.prog X.w X.K X.mg X.base x ps k sp) (hr : Room j X.A) (hg : Gl X x) (ha : PA X (e :: es) t)
    (hk : k ≤ j := by decide) (h2 : (x == ("__debug__" : Str)) = false := by decide) (hs : starEach (e :: es) X.env = (false, eval e X.env) :: starEach es X.env := by rfl) (hp : (backTo pos (starEach es X.env)).any (·.1) = false := by rfl) :
    PE X (.Call (.Name x p) (e :: es) [] pos) (tCall sp [] E0 t) := by
  obtain ⟨f, fd, G, g, kp, b⟩ := C.ex
  exact pe_call G (hr.mono hk) hg g kp b .nil pass0 ha (hdb := h2) (he := hs) (hpl := hp)
/-! ### what the module has of the built-in names -/
structure Txt (mg : Str → Option Value) : Prop where
  n_isinstance : mg "isinstance" = none
  n_str : mg "str" = none
  n_bool : mg "bool" = none
  n_int : mg "int" = none
  n_len : mg "len" = none
  n_abs : mg "abs" = none
  n_range : mg "range" = none
  n_all : mg "all" = none
  n_any : mg "any" = none
  n_repr : mg "repr" = none
  n_max : mg "max" = none
  n_min : mg "min" = none
  n_tuple : mg "tuple" = none
  n_list : mg "list" = none
  n_dict : mg "dict" = none
  n_set : mg "set" = none
  n_zip : mg "zip" = none
  n_enumerate : mg "enumerate" = none
  n_reversed : mg "reversed" = none
  n_sum : mg "sum" = none
  n_sorted : mg "sorted" = none
/-! ### small things -/
theorem lcYes {A B : Hp → Prop} {σ : L2.St} {H : Hp} (h : A H) : tYes σ H (fun b H3 => if b = true then A H3 else B H3) := by
  show if true = true then A H else B H
  rw [if_pos rfl]
  exact h
theorem same_upd {H : Hp} {p : Addr} {o : HO} (h : H p = none) : Same H (upd H p o) := fun b x e => by
  rw [upd_ne (ne_of_none e h)]
  exact e
theorem same_put {H0 H : Hp} {t : Addr} {o : HO} (s : Same H0 H) (h : H0 t = none) : Same H0 (upd H t o) := fun b u e => by
  rw [upd_ne (ne_of_none e h)]
  exact s b u e
/-- an item of a list by a rest -/
theorem item_at {α : Type} (xs : List α) (n : Int) (m : Nat) (hm : xs.length = m) (h0 : 0 < m) : ∃ (i : Nat) (hi : i < xs.length), n % (m : Int) = (i : Int) ∧ (n % (m : Int)).toNat = i ∧ atI xs (n % (m : Int)) = some xs[i] := by
  have h1 : 0 ≤ n % (m : Int) := Int.emod_nonneg _ (by omega)
  have h2 : n % (m : Int) < (m : Int) := Int.emod_lt_of_pos _ (by omega)
  obtain ⟨i, hi⟩ := Int.eq_ofNat_of_zero_le h1
  have h3 : i < xs.length := by omega
  refine ⟨i, h3, hi, by omega, ?_⟩
  rw [hi]
  exact atI_nat (List.getElem?_eq_getElem h3)
section
variable {K : PySem.W.Frag} {H H' : Hp}
theorem Same.seqT {a : Addr} {xs : List V} (e : Same H H') (h : SqT K H a xs) : SqT K H' a xs := by
  rcases h with (h | ⟨o, h⟩) | h
  · exact .inl (.inl (e _ _ h))
  · exact .inl (.inr ⟨o, e _ _ h⟩)
  · exact .inr h
end
end SP

namespace SP
open PySem PySem.Spec PyProof.Rows L2
def topS (i : Nat) : Stmt := PySem.Challenge.pw_sparecount_k05_places_and_terms.main.body.getD i (.Pass ⟨0, 0, 0, 0⟩)
abbrev s_parts_of : Stmt := topS 1
theorem sc_parts_of : FnScope ["term", "kind", "case"] ["term"] (defScope s_parts_of) := ⟨rfl, rfl, rfl, by decide +kernel, rfl, by decide +kernel, by decide +kernel⟩
abbrev s_placed_terms : Stmt := topS 2
theorem sc_placed_terms : FnScope ["errand", "told", "todo", "place", "term", "parts", "at"] ["errand"] (defScope s_placed_terms) := ⟨rfl, rfl, rfl, by decide +kernel, rfl, by decide +kernel, by decide +kernel⟩
abbrev s_all_places : Stmt := topS 3
theorem sc_all_places : FnScope ["book", "errand", "place", "term"] ["book"] (defScope s_all_places) := ⟨rfl, rfl, rfl, by decide +kernel, rfl, by decide +kernel, by decide +kernel⟩
abbrev s_find_errand : Stmt := topS 4
theorem sc_find_errand : FnScope ["book", "word", "errand"] ["book", "word"] (defScope s_find_errand) := ⟨rfl, rfl, rfl, by decide +kernel, rfl, by decide +kernel, by decide +kernel⟩
abbrev s_term_at : Stmt := topS 5
theorem sc_term_at : FnScope ["book", "place", "term", "at"] ["book", "place"] (defScope s_term_at) := ⟨rfl, rfl, rfl, by decide +kernel, rfl, by decide +kernel, by decide +kernel⟩
abbrev s_law_cell_at : Stmt := topS 7
theorem sc_law_cell_at : FnScope ["script", "k"] ["script", "k"] (defScope s_law_cell_at) := ⟨rfl, rfl, rfl, by decide +kernel, rfl, by decide +kernel, by decide +kernel⟩
abbrev s_law_tape : Stmt := topS 8
theorem sc_law_tape : FnScope ["script", "k", "cell", "p", "one", "found", "turn"] ["script", "k"] (defScope s_law_tape) := ⟨rfl, rfl, rfl, by decide +kernel, rfl, by decide +kernel, by decide +kernel⟩
abbrev s_law_digit : Stmt := topS 9
theorem sc_law_digit : FnScope ["tape", "many", "found"] ["tape", "many"] (defScope s_law_digit) := ⟨rfl, rfl, rfl, by decide +kernel, rfl, by decide +kernel, by decide +kernel⟩
abbrev s_law_words : Stmt := topS 10
theorem sc_law_words : FnScope ["tape", "many", "letters", "way", "turn", "ends", "some", "flip", "step", "k", "sign"] ["tape", "many"] (defScope s_law_words) := ⟨rfl, rfl, rfl, by decide +kernel, rfl, by decide +kernel, by decide +kernel⟩
abbrev s_law_number : Stmt := topS 11
theorem sc_law_number : FnScope ["tape"] ["tape"] (defScope s_law_number) := ⟨rfl, rfl, rfl, by decide +kernel, rfl, by decide +kernel, by decide +kernel⟩
abbrev s_law_shares : Stmt := topS 12
theorem sc_law_shares : FnScope ["tape", "room", "many", "found", "left", "k", "more"] ["tape", "room", "many"] (defScope s_law_shares) := ⟨rfl, rfl, rfl, by decide +kernel, rfl, by decide +kernel, by decide +kernel⟩
abbrev s_law_pick : Stmt := topS 13
theorem sc_law_pick : FnScope ["tape", "around", "kind", "some", "x", "other"] ["tape", "around", "kind"] (defScope s_law_pick) := ⟨rfl, rfl, rfl, by decide +kernel, rfl, by decide +kernel, by decide +kernel⟩
abbrev s_law_leaf : Stmt := topS 14
theorem sc_law_leaf : FnScope ["tape", "known", "around", "kind", "some", "way", "word", "w", "kinds", "x", "names", "one"] ["tape", "known", "around", "kind"] (defScope s_law_leaf) := ⟨rfl, rfl, rfl, by decide +kernel, rfl, by decide +kernel, by decide +kernel⟩
abbrev s_law_cases : Stmt := topS 15
theorem sc_law_cases : FnScope ["tape", "known", "around", "kind", "room", "deep", "many", "turn", "shapes", "shares", "found", "k", "w", "kinds", "ys", "more", "part", "one", "y"] ["tape", "known", "around", "kind", "room", "deep"] (defScope s_law_cases) := ⟨rfl, rfl, rfl, by decide +kernel, rfl, by decide +kernel, by decide +kernel⟩
abbrev s_law_term : Stmt := topS 16
theorem sc_law_term : FnScope ["tape", "known", "around", "kind", "room", "deep", "way", "x", "given", "one", "two", "first", "more", "second"] ["tape", "known", "around", "kind", "room", "deep"] (defScope s_law_term) := ⟨rfl, rfl, rfl, by decide +kernel, rfl, by decide +kernel, by decide +kernel⟩
abbrev s_law_shapes : Stmt := topS 17
theorem sc_law_shapes : FnScope ["tape", "many", "found", "k", "w", "kinds"] ["tape"] (defScope s_law_shapes) := ⟨rfl, rfl, rfl, by decide +kernel, rfl, by decide +kernel, by decide +kernel⟩
abbrev s_law_known : Stmt := topS 18
theorem sc_law_known : FnScope ["script", "start", "head", "many", "words", "known", "k", "kinds"] ["script", "start"] (defScope s_law_known) := ⟨rfl, rfl, rfl, by decide +kernel, rfl, by decide +kernel, by decide +kernel⟩
abbrev s_law_book : Stmt := topS 19
theorem sc_law_book : FnScope ["script", "start", "known", "found", "k", "tape", "f", "kinds", "given", "names", "room", "around", "body", "x", "kind"] ["script", "start"] (defScope s_law_book) := ⟨rfl, rfl, rfl, by decide +kernel, rfl, by decide +kernel, by decide +kernel⟩
abbrev s_law_parts : Stmt := topS 20
theorem sc_law_parts : FnScope ["term", "case"] ["term"] (defScope s_law_parts) := ⟨rfl, rfl, rfl, by decide +kernel, rfl, by decide +kernel, by decide +kernel⟩
abbrev s_law_all : Stmt := topS 21
theorem sc_law_all : FnScope ["term", "place", "found", "k", "part"] ["term", "place"] (defScope s_law_all) := ⟨rfl, rfl, rfl, by decide +kernel, rfl, by decide +kernel, by decide +kernel⟩
abbrev s_law_bound_words : Stmt := topS 22
theorem sc_law_bound_words : FnScope ["term", "case", "part"] ["term"] (defScope s_law_bound_words) := ⟨rfl, rfl, rfl, by decide +kernel, rfl, by decide +kernel, by decide +kernel⟩
abbrev s_law_simple_leaf : Stmt := topS 23
theorem sc_law_simple_leaf : FnScope ["tape", "around", "heads", "way", "x", "y", "z", "f", "many", "k"] ["tape", "around", "heads"] (defScope s_law_simple_leaf) := ⟨rfl, rfl, rfl, by decide +kernel, rfl, by decide +kernel, by decide +kernel⟩
abbrev s_law_simple_term : Stmt := topS 24
theorem sc_law_simple_term : FnScope ["tape", "heads", "around", "words", "room", "deep", "way", "one", "two", "x", "more", "first", "second", "cases", "order", "w", "share", "many", "ys", "part", "k"] ["tape", "heads", "around", "words", "room", "deep"] (defScope s_law_simple_term) := ⟨rfl, rfl, rfl, by decide +kernel, rfl, by decide +kernel, by decide +kernel⟩
abbrev s_law_simple_book : Stmt := topS 25
theorem sc_law_simple_book : FnScope ["script", "start", "head", "some", "heads", "found", "k", "f", "many", "tape", "names", "room", "around", "words", "body"] ["script", "start"] (defScope s_law_simple_book) := ⟨rfl, rfl, rfl, by decide +kernel, rfl, by decide +kernel, by decide +kernel⟩
abbrev s_law_said_term : Stmt := topS 26
theorem sc_law_said_term : FnScope ["tape", "term", "around", "opened", "way", "word", "more", "parts", "part", "words", "made", "cases", "turn", "x", "case"] ["tape", "term", "around", "opened"] (defScope s_law_said_term) := ⟨rfl, rfl, rfl, by decide +kernel, rfl, by decide +kernel, by decide +kernel⟩
abbrev s_law_said : Stmt := topS 27
theorem sc_law_said : FnScope ["tape", "book", "opened", "found", "f", "names", "body", "lent", "term", "name"] ["tape", "book", "opened"] (defScope s_law_said) := ⟨rfl, rfl, rfl, by decide +kernel, rfl, by decide +kernel, by decide +kernel⟩
abbrev s_law_right : Stmt := topS 28
theorem sc_law_right : FnScope ["book", "due", "errand", "turn", "found", "place", "term", "parts"] ["book"] (defScope s_law_right) := ⟨rfl, rfl, rfl, by decide +kernel, rfl, by decide +kernel, by decide +kernel⟩
abbrev s_law_deep : Stmt := topS 29
theorem sc_law_deep : FnScope ["many", "term", "k"] ["many"] (defScope s_law_deep) := ⟨rfl, rfl, rfl, by decide +kernel, rfl, by decide +kernel, by decide +kernel⟩
abbrev s_law : Stmt := topS 30
theorem sc_law : FnScope ["script", "start", "book", "tape", "other"] ["script"] (defScope s_law) := ⟨rfl, rfl, rfl, by decide +kernel, rfl, by decide +kernel, by decide +kernel⟩
end SP

namespace SP
open PySem PySem.Spec PyProof.Rows L2
theorem int_eq_of {i j : Int} (h : decide (V.int i = V.int j) = true) : i = j := V.int.inj (of_decide_eq_true h)
theorem int_ne_of {i j : Int} (h : ¬ decide (V.int i = V.int j) = true) : ¬ i = j := fun e => h (by rw [e]; exact decide_eq_true rfl)
/-- all but the tape is as it was -/
def But (t : Addr) (H H' : Hp) : Prop := ∀ b o, b ≠ t → H b = some o → H' b = some o
theorem But.refl (t : Addr) (H : Hp) : But t H H := fun _ _ _ e => e
theorem But.trans {t : Addr} {H H1 H2 : Hp} (a : But t H H1) (b : But t H1 H2) : But t H H2 := fun c o n e => b c o n (a c o n e)
theorem But.put {t : Addr} {H H1 : Hp} {o : HO} (a : But t H H1) : But t H (upd H1 t o) := fun c u n e => by
  rw [upd_ne n]
  exact a c u n e
theorem But.of {t : Addr} {H H1 : Hp} (a : Same H H1) : But t H H1 := fun c o _ e => a c o e
theorem But.same {t : Addr} {H0 H H1 : Hp} (a : But t H H1) (s : Same H0 H) (h : H0 t = none) : Same H0 H1 := fun b o e => a b o (ne_of_none e h) (s b o e)
/-- what is new behind the tape's turn was new ahead of it -/
theorem But.free {t : Addr} {H H1 : Hp} {n : Int} {l : Addr} (a : But t H H1) (ht : H1 t = some (.lst [.int n])) (h : H1 l = none) (hb : ∀ b, H b = none ∨ ∃ o, H b = some o := fun b => by cases H b with | none => exact .inl rfl | some o => exact .inr ⟨o, rfl⟩) : H l = none := by
  rcases hb l with e | ⟨o, e⟩
  · exact e
  · by_cases hl : l = t
    · rw [hl, ht] at h
      cases h
    · rw [a l o hl e] at h
      cases h
/-- a comprehension over range(n) whose items leave all as it is -/
theorem comp_range {j n : Nat} {te : TE} {vs : List Nat} {σ : L2.St} {H1 : Hp} {D : Addr} {Qd : Hp → Prop} (f : Nat → V) (hD : H1 D = none) (hn : n ≤ 1000) (hw : ∀ x, wipe ((wipe σ vs).set j (some x)) vs = wipe σ vs)
    (hs : ∀ (i : Nat) (H : Hp) (Q : VK), i < n → Same H1 H → (∀ H', Same H H' → Q (f i) H') → te ((wipe σ vs).set j (some (.int (0 + (i : Int))))) H Q)
    (hd : ∀ H', Same H1 H' → H' D = some (.lst ((List.range n).map f)) → Qd H') :
    ∃ W : Nat → Nat → Hp → Prop, (∃ m, W 0 m (upd H1 D (.lst []))) ∧ ∀ i m H, W i m H →
      ((Itr 0 n).stop i H ∧ Qd H) ∨ ((Itr 0 n).go i H ∧ ∃ Nx : Hp → Prop, (∀ H', Nx H' → ∃ m', m' < m ∧ W (i + 1) m' H') ∧ ∀ x H', (Itr 0 n).yld i H x H' → gName j x (wipe σ vs) H' fun σ2 H2 => wipe σ2 vs = wipe σ vs ∧ tYes σ2 H2 fun b H3 =>
        if b = true then te σ2 H3 fun y H4 => ∃ acc, H4 D = some (.lst acc) ∧ acc.length < sizeLine ∧ Nx (upd H4 D (.lst (acc ++ [y]))) else Nx H3) := by
  refine lc_range (lo := 0) (n := n) (fun i H' => Same H1 H' ∧ H' D = some (.lst ((List.range i).map f))) ⟨same_upd hD, upd_same⟩ ?_ (fun H' h => hd H' h.1 h.2)
  intro i H hi hp
  obtain ⟨s1, d1⟩ := hp
  refine ⟨hw _, ?_⟩
  refine lcYes ?_
  refine hs i H _ hi s1 fun H' s2 => ⟨_, s2 _ _ d1, ?_, same_put (s1.trans s2) hD, ?_⟩
  · rw [List.length_map, List.length_range]
    exact small1000 (by omega)
  · rw [upd_same, List.range_succ, List.map_append]
    rfl
/-- a comprehension over a list whose items leave all as it is -/
theorem comp_list {K : PySem.W.Frag} {a : Addr} {xs ys : List V} {j : Nat} {te : TE} {vs : List Nat} {σ : L2.St} {H1 : Hp} {D : Addr} {Qd : Hp → Prop} (hS : SqL K H1 a xs) (hD : H1 D = none) (hn : xs.length ≤ 1000) (hl : ys.length = xs.length) (hw : ∀ x, wipe ((wipe σ vs).set j (some x)) vs = wipe σ vs)
    (hs : ∀ (i : Nat) (x y : V) (H : Hp) (Q : VK), xs[i]? = some x → ys[i]? = some y → Same H1 H → (∀ H', Same H H' → Q y H') → te ((wipe σ vs).set j (some x)) H Q)
    (hd : ∀ H', Same H1 H' → H' D = some (.lst ys) → Qd H') :
    ∃ W : Nat → Nat → Hp → Prop, (∃ m, W 0 m (upd H1 D (.lst []))) ∧ ∀ i m H, W i m H →
      ((Itl K a).stop i H ∧ Qd H) ∨ ((Itl K a).go i H ∧ ∃ Nx : Hp → Prop, (∀ H', Nx H' → ∃ m', m' < m ∧ W (i + 1) m' H') ∧ ∀ x H', (Itl K a).yld i H x H' → gName j x (wipe σ vs) H' fun σ2 H2 => wipe σ2 vs = wipe σ vs ∧ tYes σ2 H2 fun b H3 =>
        if b = true then te σ2 H3 fun y H4 => ∃ acc, H4 D = some (.lst acc) ∧ acc.length < sizeLine ∧ Nx (upd H4 D (.lst (acc ++ [y]))) else Nx H3) := by
  refine lc_list (K := K) (a := a) (xs := xs) (fun i H' => Same H1 H' ∧ H' D = some (.lst (ys.take i))) ⟨same_upd hD, upd_same⟩ (fun i H' _ h => h.1.seq hS) ?_ (fun H' h => hd H' h.1 (by rw [h.2, List.take_of_length_le (by omega)]))
  intro i x H hx hp
  obtain ⟨s1, d1⟩ := hp
  have hi : i < xs.length := (List.getElem?_eq_some_iff.mp hx).1
  have hy : ys[i]? = some ys[i] := List.getElem?_eq_getElem (by omega)
  refine ⟨hw _, ?_⟩
  refine lcYes ?_
  refine hs i x _ H _ hx hy s1 fun H' s2 => ⟨_, s2 _ _ d1, ?_, same_put (s1.trans s2) hD, ?_⟩
  · rw [List.length_take]
    exact small1000 (by omega)
  · rw [upd_same, List.take_add_one, hy]
    rfl
/-- a comprehension over enumerate(list) whose items leave all as it is -/
theorem comp_enum {K : PySem.W.Frag} {a : Addr} {xs ys : List V} {ja jb : Nat} {te : TE} {vs : List Nat} {σ : L2.St} {H1 : Hp} {D : Addr} {Qd : Hp → Prop} (hS : SqL K H1 a xs) (hD : H1 D = none) (hn : xs.length ≤ 1000) (hl : ys.length = xs.length)
    (hw : ∀ x y, wipe (((wipe σ vs).set ja (some x)).set jb (some y)) vs = wipe σ vs)
    (hs : ∀ (i : Nat) (x y : V) (H : Hp) (Q : VK), xs[i]? = some x → ys[i]? = some y → Same H1 H → (∀ H', Same H H' → Q y H') → te (((wipe σ vs).set ja (some (.int (i : Nat)))).set jb (some x)) H Q)
    (hd : ∀ H', Same H1 H' → H' D = some (.lst ys) → Qd H') :
    ∃ W : Nat → Nat → Hp → Prop, (∃ m, W 0 m (upd H1 D (.lst []))) ∧ ∀ i m H, W i m H →
      ((Ite K a).stop i H ∧ Qd H) ∨ ((Ite K a).go i H ∧ ∃ Nx : Hp → Prop, (∀ H', Nx H' → ∃ m', m' < m ∧ W (i + 1) m' H') ∧ ∀ x H', (Ite K a).yld i H x H' → gTup K 2 (gCons (gName ja) (gCons (gName jb) gNil)) x (wipe σ vs) H' fun σ2 H2 => wipe σ2 vs = wipe σ vs ∧ tYes σ2 H2 fun b H3 =>
        if b = true then te σ2 H3 fun y H4 => ∃ acc, H4 D = some (.lst acc) ∧ acc.length < sizeLine ∧ Nx (upd H4 D (.lst (acc ++ [y]))) else Nx H3) := by
  refine lc_it (walk_enum (xs := xs)) (fun i H' => Same H1 H' ∧ H' D = some (.lst (ys.take i))) ⟨same_upd hD, upd_same⟩ (fun i H' _ h => h.1.seq hS) ?_ (fun H' h => hd H' h.1 (by rw [h.2, List.take_of_length_le (by omega)]))
  intro i v H H' hi hp hy
  obtain ⟨s1, d1⟩ := hp
  obtain ⟨T, x1, x2, rfl, hT, rfl, e1, e2⟩ := hy
  cases e1
  have hyi : ys[i]? = some ys[i] := List.getElem?_eq_getElem (by omega)
  have sT : Same H (upd H T (.tup [.int (i : Nat), x2])) := same_upd hT
  refine ⟨T, _, rfl, .inl (.inl upd_same), rfl, _, _, rfl, _, _, rfl, rfl, hw _ _, ?_⟩
  refine lcYes ?_
  refine hs i x2 _ _ _ e2 hyi (s1.trans sT) fun H2 s2 => ⟨_, s2 _ _ (sT _ _ d1), ?_, same_put (s1.trans (sT.trans s2)) hD, ?_⟩
  · rw [List.length_take]
    exact small1000 (by omega)
  · rw [upd_same, List.take_add_one, hyi]
    rfl
def rLenS (K : PySem.W.Frag) : List V → Hp → VK → Prop := fun xs H Q => ∃ p ys, xs = [.ref p] ∧ (SqL K H p ys ∨ SqT K H p ys) ∧ Q (.int ys.length) H
theorem call_lenS {X : Cx} : CallR X (.builtin "len") (rLenS X.K) := call_len_seq
def rListS (K : PySem.W.Frag) : List V → Hp → VK → Prop := fun xs H Q => ∃ p ys, xs = [.ref p] ∧ (SqL K H p ys ∨ SqT K H p ys) ∧ ∀ l, H l = none → Q (.ref l) (upd H l (.lst ys))
theorem call_listS {X : Cx} : CallR X (.type "list") (rListS X.K) := call_list_of
def rTupleS (K : PySem.W.Frag) : List V → Hp → VK → Prop := fun xs H Q => ∃ p ys, xs = [.ref p] ∧ ((SqL K H p ys ∧ ∀ l, H l = none → Q (.ref l) (upd H l (.tup ys))) ∨ (SqT K H p ys ∧ Q (.ref p) H))
theorem call_tupleS {X : Cx} : CallR X (.type "tuple") (rTupleS X.K) := call_tuple_of
/-! ### text * int, also none -/
def repS0 (a : Str) (n : Nat) : Str := if n = 0 then Str.empty else repS a n
theorem op_rep_str0 {X : Cx} : OpR X (binaryOp .Mult) (fun x y H Q => ∃ (a : Str) (n : Nat), x = .str a ∧ y = .int (n : Int) ∧ n ≤ 1000 ∧ 1 ≤ a.length ∧ a.length ≤ 1000 ∧ (repS0 a n).length ≤ sizeLine ∧ Q (.str (repS0 a n)) H) := by
  intro pins s σ H x y v u Q I rx ry h
  obtain ⟨a, n, rfl, rfl, h2, h3, h4, h5, q⟩ := h
  by_cases e : n = 0
  · subst e
    obtain ⟨t, rfl⟩ := rx
    obtain ⟨t', rfl⟩ := ry
    exact PySem.P.mul_str_none (by show (0 : Int) < 1; decide) (by show ¬ (0 : Int) < -(2 ^ 63); decide) ⟨.str _, H, I.tok _, ⟨_, rfl⟩, by simpa [repS0] using q⟩
  · unfold repS0 at h5 q
    rw [if_neg e] at h5 q
    exact op_rep_str pins s σ H _ _ v u Q I rx ry ⟨a, n, rfl, rfl, by omega, h2, h3, h4, h5, q⟩
end SP

namespace SP
open PySem PySem.Spec PyProof.Rows L2
theorem seven {x : Int} (h0 : 0 ≤ x) (h : x < 7) (xs : List V) (hl : xs.length = 7) : ∃ v, atI xs x = some v ∧ v ∈ xs := by
  obtain ⟨n, rfl⟩ := Int.eq_ofNat_of_zero_le h0
  have hn : n < xs.length := by omega
  exact ⟨xs[n], atI_nat (List.getElem?_eq_getElem hn), List.getElem_mem hn⟩
section
variable {P : Program} {w : World} {K : PySem.W.Frag} {mg : Str → Option Value} {base : Heap}
def spDigit (K : PySem.W.Frag) : Sp := fun vs H Q _ => ∃ (t : Addr) (n m : Int), vs = [.ref t, .int m] ∧ H t = some (.lst [.int n]) ∧ 0 < m ∧ m < 2 ^ 62 ∧ Q (.int (n % m)) (upd H t (.lst [.int (n / m)]))
theorem ok_law_digit {f : Addr} {fd : FuncData} (F : Fun K "_law_digit" "_law_digit" s_law_digit f fd) (T : Txt mg)  : FnOk P w K mg base CX0 1 f fd ["tape", "many"] (spDigit K) := by
  refine F.ok sc_law_digit (fun vs H Q E h => ?_) (fun cdv A outer s H vs Q E hr h => ?_)
  · obtain ⟨t, n, m, rfl, _⟩ := h
    rfl
  · obtain ⟨t, n, m, rfl, ht, h0, h1, q⟩ := h
    refine ⟨_, (pss_cons (ps_set (i := 2) sc_law_digit.nd rfl (Or.inl rfl) (pe_op op_mod (pe_ix ix_list (pv 0) pe_int (fun _ _ => rfl)) (pv 1)))
      (pss_cons (ps_asg (pe_op op_fdivW (pe_ix ix_list (pv 0) pe_int (fun _ _ => rfl)) (pv 1)) (pg_sub (pv 0) pe_int set_list))
      (pss_one (ps_ret (pv 2))))), ?_⟩
    have hS : SqL K H t [.int n] := .inl (.inl ht)
    refine ⟨_, rfl, t, [.int n], 0, .int n, rfl, rfl, hS, atI_nat (j := 0) rfl, _, rfl, n, m, rfl, rfl, h0, ?_⟩
    refine ⟨_, rfl, t, [.int n], 0, .int n, rfl, rfl, hS, atI_nat (j := 0) rfl, _, rfl, n, m, rfl, rfl, wide_div (b := 62) h0 (by omega) (by decide) (by decide), ?_⟩
    refine ⟨_, rfl, t, [.int n], 0, 0, rfl, rfl, ht, rfl, ?_⟩
    exact ⟨_, rfl, q⟩
/-! ### _law_cell_at -/
def cellF (ns : List Int) (k : Nat) : Int := ns.getD k 0
def spCell (K : PySem.W.Frag) : Sp := fun vs H Q _ => ∃ (a : Addr) (ns : List Int) (k : Nat), vs = [.ref a, .int (k : Int)] ∧ SqL K H a (ns.map V.int) ∧ k < 1000 ∧ Q (.int (cellF ns k)) H
theorem ok_law_cell_at {f : Addr} {fd : FuncData} (F : Fun K "_law_cell_at" "_law_cell_at" s_law_cell_at f fd) (T : Txt mg)  : FnOk P w K mg base CX0 1 f fd ["script", "k"] (spCell K) := by
  refine F.ok sc_law_cell_at (fun vs H Q E h => ?_) (fun cdv A outer s H vs Q E hr h => ?_)
  · obtain ⟨a, ns, k, rfl, _⟩ := h
    rfl
  · obtain ⟨a, ns, k, rfl, hS, hk, q⟩ := h
    refine ⟨_, (pss_cons (ps_if (pt_cmpR op_lt (pv 1) (pe_callB call_len_seq (by rfl) T.n_len (by decide +kernel) (pa_cons (pv 0) pa_nil)) (nomark _)) (pss_one (ps_ret (pe_ix ix_list (pv 0) (pv 1) (fun _ _ => rfl)))) pss_nil)
      (pss_one (ps_ret pe_int))), ?_⟩
    refine ⟨_, rfl, _, rfl, a, ns.map V.int, rfl, .inl hS, _, _, rfl, rfl, _, rfl, ?_⟩
    rw [List.length_map]
    by_cases h : k < ns.length
    · refine ite_T (decide_eq_true (by omega)) ?_
      refine ⟨_, rfl, _, rfl, a, ns.map V.int, k, .int (cellF ns k), rfl, rfl, hS, atI_nat ?_, q⟩
      unfold cellF
      rw [List.getElem?_map, List.getD_eq_getElem?_getD, List.getElem?_eq_getElem h]
      rfl
    · refine ite_F (decide_eq_false (by omega)) ?_
      have e : cellF ns k = 0 := by
        unfold cellF
        rw [List.getD_eq_getElem?_getD, List.getElem?_eq_none (by omega)]
        rfl
      rw [e] at q
      exact q
def spTape (K : PySem.W.Frag) : Sp := fun vs H Q _ => ∃ (a : Addr) (ns : List Int) (k : Nat), vs = [.ref a, .int (k : Int)] ∧ SqL K H a (ns.map V.int) ∧ k < 1000 ∧
  ∀ (H' : Hp) (t : Addr) (n : Int), Same H H' → H t = none → H' t = some (.lst [.int n]) → Q (.ref t) H'
def primes : List V := [.int 2147483647, .int 998244353, .int 1000000007, .int 1000003, .int 10000000019, .int 67280421310721, .int 1000000000039]
theorem primes_in : ∀ v ∈ primes, ∃ p : Int, v = .int p ∧ 0 < p ∧ p < 2 ^ 62 := by
  intro v hv
  simp only [primes, List.mem_cons, List.not_mem_nil, or_false] at hv
  rcases hv with rfl | rfl | rfl | rfl | rfl | rfl | rfl <;> exact ⟨_, rfl, by decide, by decide⟩
theorem ok_law_tape {f : Addr} {fd : FuncData} (F : Fun K "_law_tape" "_law_tape" s_law_tape f fd) (T : Txt mg) (C_law_cell_at : Callee P w K mg base "_law_cell_at" ["script", "k"] 1 (spCell K)) : FnOk P w K mg base CX0 2 f fd ["script", "k"] (spTape K) := by
  refine F.ok sc_law_tape (fun vs H Q E h => ?_) (fun cdv A outer s H vs Q E hr h => ?_)
  · obtain ⟨a, ns, k, rfl, _⟩ := h
    rfl
  · obtain ⟨a, ns, k, rfl, hS, hk, q⟩ := h
    refine ⟨_, (pss_cons (ps_set (i := 2) sc_law_tape.nd rfl (Or.inl rfl) (pe_fn C_law_cell_at hr (by rfl) (pa_cons (pv 0) (pa_cons (pv 1) pa_nil))))
      (pss_cons (ps_if (pt_cmpR op_eq (pv 2) pe_int (nomark _)) (pss_one (ps_ret (pe_lst (pa_cons pe_int pa_nil)))) pss_nil)
      (pss_cons (ps_if (pt_cmpR op_ge (pv 2) (pe_op op_pow pe_int pe_int) (nomark _)) (pss_one (ps_ret (pe_lst (pa_cons (pe_op op_sub (pv 2) (pe_op op_pow pe_int pe_int)) pa_nil)))) pss_nil)
      (pss_cons (ps_set (i := 3) sc_law_tape.nd rfl (Or.inl rfl) (pe_ix (r := rIxL K) ix_list (pe_lst (pa_cons pe_int (pa_cons pe_int (pa_cons pe_int (pa_cons pe_int (pa_cons pe_int (pa_cons pe_int (pa_cons pe_int pa_nil)))))))) (pe_op op_mod (pv 1) pe_int) (fun _ _ => rfl)))
      (pss_cons (ps_set (i := 4) sc_law_tape.nd rfl (Or.inl rfl) (pe_op op_mod (pe_op op_pow (pe_op op_mul (pe_op op_add (pe_op op_mod (pe_callB call_abs (by rfl) T.n_abs (by decide +kernel) (pa_cons (pv 2) pa_nil)) pe_int) pe_int) (pe_op op_add (pe_op op_mul pe_int (pv 1)) pe_int)) pe_int) (pv 3)))
      (pss_cons (ps_set (i := 5) sc_law_tape.nd rfl (Or.inl rfl) (pv 4))
      (pss_cons (ps_for PassesOwn.never rfl (pi_range1 rfl T.n_range (pa_cons pe_int pa_nil)) (pg_name (i := 6) sc_law_tape.nd rfl (Or.inl rfl))
      (pss_cons (ps_set (i := 4) sc_law_tape.nd rfl (Or.inl rfl) (pe_op op_mod (pe_op op_add (pe_op op_add (pe_op op_mul (pv 4) (pv 4)) (pe_op op_mul (pe_op op_mul pe_int (pe_op op_add (pv 6) pe_int)) (pe_op op_add (pv 1) pe_int))) (pv 2)) pe_int))
      (pss_one (ps_set (i := 5) sc_law_tape.nd rfl (Or.inl rfl) (pe_op op_add (pe_op op_mul (pv 5) pe_int) (pv 4))))))
      (pss_one (ps_ret (pe_lst (pa_cons (pv 5) pa_nil))))))))))), ?_⟩
    -- cell = _law_cell_at(script, k)
    refine ⟨_, rfl, _, rfl, a, ns, k, rfl, hS, hk, ?_⟩
    generalize cellF ns k = cell
    -- if cell == 0
    refine ⟨_, rfl, rfl, _, rfl, ?_⟩
    refine ite2 (fun _ => ⟨by show 1 ≤ sizeLine; decide, fun p hp => q _ p 0 (same_upd hp) hp upd_same⟩) (fun _ => ?_)
    -- if cell >= 10 ** 18
    refine ⟨_, rfl, _, _, rfl, rfl, ⟨by decide, by decide, by decide⟩, _, _, rfl, rfl, _, rfl, ?_⟩
    refine ite2 (fun _ => ⟨_, rfl, _, _, rfl, rfl, ⟨by decide, by decide, by decide⟩, _, _, rfl, rfl, by show 1 ≤ sizeLine; decide, fun p hp => q _ p _ (same_upd hp) hp upd_same⟩) (fun _ => ?_)
    -- p
    refine ⟨by show 7 ≤ sizeLine; decide, fun l hl => ?_⟩
    obtain ⟨v, hv, hm⟩ := seven (x := (k : Int) % 7) (by omega) (by omega) primes rfl
    obtain ⟨p, rfl, hp0, hp1⟩ := primes_in v hm
    refine ⟨_, rfl, _, _, rfl, rfl, by show (0 : Int) < 7; decide, l, primes, (k : Int) % 7, .int p, rfl, rfl, .inl (.inl upd_same), hv, ?_⟩
    -- one
    have habs : 0 ≤ (if cell < 0 then -cell else cell) % 1000000009 ∧ (if cell < 0 then -cell else cell) % 1000000009 < 1000000009 := by omega
    generalize hx : (if cell < 0 then -cell else cell) % 1000000009 = x at habs
    refine ⟨_, rfl, cell, rfl, _, _, rfl, rfl, by show (0 : Int) < 1000000009; decide, _, _, rfl, rfl, _, rfl, _, _, rfl, rfl, .inl ⟨by decide, by decide⟩, _, _, rfl, rfl, _, _, rfl, rfl, .inl ?_, _, _, rfl, rfl, ⟨by decide, by decide, ?_⟩, _, rfl, _, _, rfl, rfl, hp0, ?_⟩
    · omega
    · rw [hx]
      have h1 : (x + 1) * (2 * (k : Int) + 3) ≤ 1000000009 * 2003 := Int.mul_le_mul (by omega) (by omega) (by omega) (by omega)
      have h2 : 0 ≤ (x + 1) * (2 * (k : Int) + 3) := Int.mul_nonneg (by omega) (by omega)
      show ((x + 1) * (2 * (k : Int) + 3)).natAbs < 2 ^ 64
      generalize (x + 1) * (2 * (k : Int) + 3) = z at h1 h2
      omega
    have hb : ∀ z : Int, 0 ≤ z % p ∧ z % p < 2 ^ 62 := fun z => ⟨Int.emod_nonneg _ (by omega), Int.lt_trans (Int.emod_lt_of_pos _ hp0) hp1⟩
    -- found = one
    refine ⟨_, rfl, ?_⟩
    have s1 : Same H (upd H l (.lst primes)) := same_upd hl
    -- the loop
    refine ⟨24, rfl, by decide, by decide, for_range (n := 24) (fun i σ H3 => ∃ (one found : Int) (y : Option V), σ = [some (.ref a), some (.int k), some (.int cell), some (.int p), some (.int one), some (.int found), y] ∧ 0 ≤ one ∧ one < 2 ^ 62 ∧ H3 = upd H l (.lst primes))
      ⟨_, _, none, rfl, (hb _).1, (hb _).2, rfl⟩ ?_ ?_⟩
    · rintro i σ H3 hi ⟨one, found, y, rfl, h0, h1, rfl⟩
      refine ⟨_, rfl, _, rfl, _, _, rfl, rfl, .inl ⟨by omega, by omega⟩, _, rfl, _, _, rfl, rfl, _, _, rfl, rfl, .inl ⟨by decide, by decide⟩, _, rfl, _, _, rfl, rfl, _, _, rfl, rfl, .inl ⟨by omega, by omega⟩, _, _, rfl, rfl, _, rfl, _, _, rfl, rfl, _, _, rfl, rfl, by show (0 : Int) < 2305843009213693951; decide, ?_⟩
      refine ⟨_, rfl, _, _, rfl, rfl, .inr ⟨by decide, by decide⟩, _, rfl, _, _, rfl, rfl, ?_⟩
      exact ⟨_, _, some (.int (0 + (i : Int))), rfl, Int.emod_nonneg _ (by decide), Int.lt_trans (Int.emod_lt_of_pos _ (by decide)) (by decide), rfl⟩
    · rintro σ H3 ⟨one, found, y, rfl, h0, h1, rfl⟩
      refine ⟨_, rfl, by show 1 ≤ sizeLine; decide, fun t ht => ?_⟩
      exact q _ t found (s1.trans (same_upd ht)) (s1.free ht) upd_same
end
end SP

namespace SP
open PySem PySem.Spec PyProof.Rows L2
def abcS : Str := "abcdefghijklmnopqrstuvwxyz"
theorem abc_len : abcS.length = 26 := by decide +kernel
theorem abc_at : ∀ i, i < 26 → abcS.cps[i]? = some (97 + i) := by decide +kernel
/-- the letter of a number -/
def chI (n : Int) : Str := ⟨#[97 + (n % 26).toNat]⟩
theorem letter_at (n : Int) : 0 ≤ n % 26 ∧ n % 26 < 2 ^ 63 ∧ n % 26 < (abcS.length : Int) ∧ abcS.cps[(n % 26).toNat]? = some (97 + (n % 26).toNat) := by
  refine ⟨by omega, by omega, ?_, abc_at _ (by omega)⟩
  rw [abc_len]
  omega
theorem str_item (l : List Str) (n : Int) (m : Nat) (hm : l.length = m) (h0 : 0 < m) : atI (l.map V.str) (n % (m : Int)) = some (.str (l.getD (n % (m : Int)).toNat "")) := by
  obtain ⟨i, hi, _, e2, e3⟩ := item_at (l.map V.str) n m (by rw [List.length_map]; exact hm) h0
  rw [e3, e2, List.getElem_map, List.getD_eq_getElem?_getD, List.getElem?_eq_getElem (by rw [List.length_map] at hi; exact hi)]
  rfl
theorem int_item (l : List Int) (n : Int) (m : Nat) (hm : l.length = m) (h0 : 0 < m) : atI (l.map V.int) (n % (m : Int)) = some (.int (l.getD (n % (m : Int)).toNat 0)) := by
  obtain ⟨i, hi, _, e2, e3⟩ := item_at (l.map V.int) n m (by rw [List.length_map]; exact hm) h0
  rw [e3, e2, List.getElem_map, List.getD_eq_getElem?_getD, List.getElem?_eq_getElem (by rw [List.length_map] at hi; exact hi)]
  rfl
theorem getD_mem {α : Type} (l : List α) (i : Nat) (d : α) (P : α → Prop) (h : ∀ x ∈ l, P x) (hd : P d) : P (l.getD i d) := by
  rw [List.getD_eq_getElem?_getD]
  cases e : l[i]? with
  | none => exact hd
  | some x => exact h x (List.mem_of_getElem? e)
/-! ### _law_words: what it tells of a tape -/
def endsL : List Str := ["", "a", "omelons"]
def someT : Str := "qa qb qc qd again name number akeep aloose ask zeros lent keeps done run made counted freed"
def moreT : Str := " x y q boxes qaa w nil cons plus less much stuck long broken fewest book"
def someL : List Str := (["qa", "qb", "qc", "qd", "again", "name", "number", "akeep", "aloose", "ask", "zeros", "lent", "keeps", "done", "run", "made", "counted", "freed", "x", "y", "q", "boxes", "qaa", "w", "nil", "cons", "plus", "less", "much", "stuck", "long", "broken", "fewest", "book"] : List String).map Str.ofString
theorem some_split : Txt.split (someT ++ moreT) " " = someL := by decide +kernel
theorem some_len : someT.length + moreT.length ≤ 400 := by decide +kernel
def stepL : List Int := [1, 3, 5, 7]
def wordsF (n : Int) (many : Nat) : List Str × Int :=
  if n % 4 = 0 then
    ((List.range many).map (fun (k : Nat) => [chI (n / 4 % 26 + (0 + (k : Int))) ++ endsL.getD (n / 4 / 26 % 3).toNat "", endsL.getD (n / 4 / 26 % 3).toNat "" ++ chI (n / 4 % 26 + (0 + (k : Int)))].getD (n / 4 / 26 / 3 % 2).toNat ""), n / 4 / 26 / 3 / 2)
  else if n % 4 = 1 then ((List.range many).map (fun (k : Nat) => repS0 (chI (n / 4 % 26 + (0 + (k : Int)) / 8)) (1 + k % 8)), n / 4 / 26)
  else if n % 4 = 2 then ((List.range many).map (fun (k : Nat) => chI (n / 4 % 26 - stepL.getD (n / 4 / 26 % 4).toNat 0 * (0 + (k : Int))) ++ repS0 "q" (k % 3)), n / 4 / 26 / 4)
  else ((List.range many).map (fun (k : Nat) => someL.getD ((n / 4 % 26 + (0 + (k : Int))) % 34).toNat ""), n / 4 / 26)
theorem rep_len (c n : Nat) (h : n ≤ 8) : (repS0 ⟨#[c]⟩ n).length = n := by
  rcases (by omega : n = 0 ∨ n = 1 ∨ n = 2 ∨ n = 3 ∨ n = 4 ∨ n = 5 ∨ n = 6 ∨ n = 7 ∨ n = 8) with rfl | rfl | rfl | rfl | rfl | rfl | rfl | rfl | rfl <;> rfl
theorem ends_len (i : Nat) : (endsL.getD i "").length ≤ 7 := getD_mem endsL i "" (fun x => x.length ≤ 7) (by decide +kernel) (by decide)
theorem step_le (i : Nat) : 0 ≤ stepL.getD i 0 ∧ stepL.getD i 0 ≤ 7 := getD_mem stepL i 0 (fun x => 0 ≤ x ∧ x ≤ 7) (by decide) (by decide)
theorem words_len (n : Int) (many : Nat) : (wordsF n many).1.length = many := by
  unfold wordsF
  split
  · simp
  · split
    · simp
    · split <;> simp
theorem But.alloc {t p : Addr} {H H1 : Hp} {o : HO} (b : But t H H1) (hp : H1 p = none) : But t H (upd H1 p o) := b.trans (But.of (same_upd hp))
theorem ne_t {H : Hp} {t p : Addr} {o : HO} (ht : H t = some o) (hp : H p = none) : p ≠ t := fun e => by
  rw [e, ht] at hp
  cases hp
section
variable {P : Program} {w : World} {K : PySem.W.Frag} {mg : Str → Option Value} {base : Heap}
def spWords (K : PySem.W.Frag) : Sp := fun vs H Q _ => ∃ (t : Addr) (n : Int) (many : Nat), vs = [.ref t, .int (many : Int)] ∧ H t = some (.lst [.int n]) ∧ many ≤ 30 ∧
  ∀ (H' : Hp) (l : Addr), But t H H' → H' t = some (.lst [.int (wordsF n many).2]) → H l = none → H' l = some (.lst ((wordsF n many).1.map V.str)) → Q (.ref l) H'
theorem ok_law_words {f : Addr} {fd : FuncData} (F : Fun K "_law_words" "_law_words" s_law_words f fd) (T : Txt mg) (C_law_digit : Callee P w K mg base "_law_digit" ["tape", "many"] 1 (spDigit K)) : FnOk P w K mg base CX0 2 f fd ["tape", "many"] (spWords K) := by
  refine F.ok sc_law_words (fun vs H Q E h => ?_) (fun cdv A outer s H vs Q E hr h => ?_)
  · obtain ⟨t, n, m, rfl, _⟩ := h
    rfl
  · obtain ⟨t, n, many, rfl, ht, hm, q⟩ := h
    refine ⟨_, (pss_cons (ps_set (i := 2) sc_law_words.nd rfl (Or.inr rfl) pe_str)
      (pss_cons (ps_set (i := 3) sc_law_words.nd rfl (Or.inl rfl) (pe_fn C_law_digit hr (by rfl) (pa_cons (pv 0) (pa_cons pe_int pa_nil))))
      (pss_cons (ps_set (i := 4) sc_law_words.nd rfl (Or.inr rfl) (pe_fn C_law_digit hr (by rfl) (pa_cons (pv 0) (pa_cons pe_int pa_nil))))
      (pss_cons (ps_if (pt_cmpR op_eq (pv 3) pe_int (nomark _)) (pss_cons (ps_set (i := 5) sc_law_words.nd rfl (Or.inr rfl) (pe_ix (r := rIxL K) ix_list (pe_lst (pa_cons pe_str (pa_cons pe_str (pa_cons pe_str pa_nil)))) (pe_fn C_law_digit hr (by rfl) (pa_cons (pv 0) (pa_cons pe_int pa_nil))) (fun _ _ => rfl)))
      (pss_cons (ps_set (i := 6) sc_law_words.nd rfl (Or.inr rfl) (pe_lc (own := [("k", 9)]) (g := gName 9) (tt := tYes) rfl sc_law_words.nd (pi_range1 rfl T.n_range (pa_cons (pv 1) pa_nil)) (blkOk_by (own := [("k", 9)]) (N := ["tape", "many", "letters", "way", "turn", "ends", "some", "flip", "step", "k", "sign"]) (sc := defScope s_law_words) (by decide +kernel)) (fun _ _ _ _ _ => (pg_name (i := 9) sc_law_words.nd rfl (Or.inl rfl))) (fun _ _ _ _ _ => pts_nil) (fun _ _ _ _ _ => (pe_item_str (pv 2) (pe_op op_mod (pe_op op_add (pv 4) (pv 9)) pe_int) (fun _ _ => rfl)))))
      (pss_cons (ps_set (i := 7) sc_law_words.nd rfl (Or.inr rfl) (pe_fn C_law_digit hr (by rfl) (pa_cons (pv 0) (pa_cons pe_int pa_nil))))
      (pss_one (ps_ret (pe_lc (own := [("sign", 10)]) (g := gName 10) (tt := tYes) rfl sc_law_words.nd (pi_list (pv 6)) (blkOk_by (own := [("sign", 10)]) (N := ["tape", "many", "letters", "way", "turn", "ends", "some", "flip", "step", "k", "sign"]) (sc := defScope s_law_words) (by decide +kernel)) (fun _ _ _ _ _ => (pg_name (i := 10) sc_law_words.nd rfl (Or.inl rfl))) (fun _ _ _ _ _ => pts_nil) (fun _ _ _ _ _ => (pe_ix (r := rIxL K) ix_list (pe_lst (pa_cons (pe_op op_add_str (pv 10) (pv 5)) (pa_cons (pe_op op_add_str (pv 5) (pv 10)) pa_nil))) (pv 7) (fun _ _ => rfl))))))))) pss_nil)
      (pss_cons (ps_if (pt_cmpR op_eq (pv 3) pe_int (nomark _)) (pss_one (ps_ret (pe_lc (own := [("k", 9)]) (g := gName 9) (tt := tYes) rfl sc_law_words.nd (pi_range1 rfl T.n_range (pa_cons (pv 1) pa_nil)) (blkOk_by (own := [("k", 9)]) (N := ["tape", "many", "letters", "way", "turn", "ends", "some", "flip", "step", "k", "sign"]) (sc := defScope s_law_words) (by decide +kernel)) (fun _ _ _ _ _ => (pg_name (i := 9) sc_law_words.nd rfl (Or.inl rfl))) (fun _ _ _ _ _ => pts_nil) (fun _ _ _ _ _ => (pe_op op_rep_str0 (pe_item_str (pv 2) (pe_op op_mod (pe_op op_add (pv 4) (pe_op op_fdiv (pv 9) pe_int)) pe_int) (fun _ _ => rfl)) (pe_op op_add pe_int (pe_op op_mod (pv 9) pe_int))))))) pss_nil)
      (pss_cons (ps_if (pt_cmpR op_eq (pv 3) pe_int (nomark _)) (pss_cons (ps_set (i := 8) sc_law_words.nd rfl (Or.inr rfl) (pe_ix (r := rIxL K) ix_list (pe_lst (pa_cons pe_int (pa_cons pe_int (pa_cons pe_int (pa_cons pe_int pa_nil))))) (pe_fn C_law_digit hr (by rfl) (pa_cons (pv 0) (pa_cons pe_int pa_nil))) (fun _ _ => rfl)))
      (pss_cons (ps_set (i := 6) sc_law_words.nd rfl (Or.inr rfl) (pe_lc (own := [("k", 9)]) (g := gName 9) (tt := tYes) rfl sc_law_words.nd (pi_range1 rfl T.n_range (pa_cons (pv 1) pa_nil)) (blkOk_by (own := [("k", 9)]) (N := ["tape", "many", "letters", "way", "turn", "ends", "some", "flip", "step", "k", "sign"]) (sc := defScope s_law_words) (by decide +kernel)) (fun _ _ _ _ _ => (pg_name (i := 9) sc_law_words.nd rfl (Or.inl rfl))) (fun _ _ _ _ _ => pts_nil) (fun _ _ _ _ _ => (pe_item_str (pv 2) (pe_op op_mod (pe_op op_sub (pv 4) (pe_op op_mul (pv 8) (pv 9))) pe_int) (fun _ _ => rfl)))))
      (pss_one (ps_ret (pe_lc (own := [("k", 9), ("sign", 10)]) (g := gTup K 2 (gCons (gName 9) (gCons (gName 10) gNil))) (tt := tYes) rfl sc_law_words.nd (pi_enum (by rfl) T.n_enumerate (pa_cons (pv 6) pa_nil)) (blkOk_by (own := [("k", 9), ("sign", 10)]) (N := ["tape", "many", "letters", "way", "turn", "ends", "some", "flip", "step", "k", "sign"]) (sc := defScope s_law_words) (by decide +kernel)) (fun _ _ _ _ _ => (pg_tup rfl (pgs_cons (pg_name (i := 9) sc_law_words.nd rfl (Or.inl rfl)) (pgs_cons (pg_name (i := 10) sc_law_words.nd rfl (Or.inl rfl)) pgs_nil)))) (fun _ _ _ _ _ => pts_nil) (fun _ _ _ _ _ => (pe_op op_add_str (pv 10) (pe_op op_rep_str0 pe_str (pe_op op_mod (pv 9) pe_int))))))))) pss_nil)
      (pss_cons (ps_set (i := 6) sc_law_words.nd rfl (Or.inr rfl) pe_str)
      (pss_cons (ps_set (i := 6) sc_law_words.nd rfl (Or.inr rfl) (pe_bm PySem.F.plainAttrs_str PySem.F.slot_str_split PySem.F.type_str_split mt_split (pe_op op_add_str (pv 6) pe_str) (pa_cons pe_str pa_nil)))
      (pss_one (ps_ret (pe_lc (own := [("k", 9)]) (g := gName 9) (tt := tYes) rfl sc_law_words.nd (pi_range1 rfl T.n_range (pa_cons (pv 1) pa_nil)) (blkOk_by (own := [("k", 9)]) (N := ["tape", "many", "letters", "way", "turn", "ends", "some", "flip", "step", "k", "sign"]) (sc := defScope s_law_words) (by decide +kernel)) (fun _ _ _ _ _ => (pg_name (i := 9) sc_law_words.nd rfl (Or.inl rfl))) (fun _ _ _ _ _ => pts_nil) (fun _ _ _ _ _ => (pe_ix (r := rIxL K) ix_list (pv 6) (pe_op op_mod (pe_op op_add (pv 4) (pv 9)) (pe_callB (r := rLenS K) call_lenS (by rfl) T.n_len (by decide +kernel) (pa_cons (pv 6) pa_nil))) (fun _ _ => rfl)))))))))))))), ?_⟩
    refine ⟨_, rfl, t, n, 4, rfl, ht, by decide, by decide, ?_⟩
    refine ⟨_, rfl, t, n / 4, 26, rfl, upd_same, by decide, by decide, ?_⟩
    rw [upd_upd]
    have b1 : But t H (upd H t (.lst [.int (n / 4 / 26)])) := (But.refl t H).put
    have t1 : (upd H t (.lst [.int (n / 4 / 26)])) t = some (.lst [.int (n / 4 / 26)]) := upd_same
    generalize upd H t (.lst [.int (n / 4 / 26)]) = H1 at b1 t1 ⊢
    have f1 : ∀ l, H1 l = none → H l = none := fun l e => b1.free t1 e
    unfold wordsF at q
    refine ⟨_, rfl, rfl, _, rfl, ite2 (fun e => ?_) (fun e => ?_)⟩
    · rw [if_pos (int_eq_of e)] at q
      clear e
      generalize n / 4 % 26 = turn at q ⊢
      generalize n / 4 / 26 = n2 at q t1 ⊢
      refine ⟨by show 3 ≤ sizeLine; decide, fun l1 hl1 => ?_⟩
      have nl := ne_t t1 hl1
      have b2 : But t H (upd (upd H1 l1 (.lst (endsL.map V.str))) t (.lst [.int (n2 / 3)])) := (b1.alloc hl1).put
      have t2 : (upd (upd H1 l1 (.lst (endsL.map V.str))) t (.lst [.int (n2 / 3)])) t = some (.lst [.int (n2 / 3)]) := upd_same
      refine ⟨_, rfl, t, n2, 3, rfl, same_upd hl1 _ _ t1, by decide, by decide, l1, endsL.map V.str, n2 % 3, _, rfl, rfl, .inl (.inl (by rw [upd_ne nl]; exact upd_same)), str_item endsL _ 3 rfl (by decide), ?_⟩
      generalize hz : endsL.getD (n2 % 3).toNat "" = ends at q ⊢
      have hends : ends.length ≤ 7 := by
        rw [← hz]
        exact ends_len _
      change tNext _ _ (upd (upd H1 l1 (.lst (endsL.map V.str))) t (.lst [.int (n2 / 3)]))
      generalize upd (upd H1 l1 (.lst (endsL.map V.str))) t (.lst [.int (n2 / 3)]) = H2 at b2 t2 ⊢
      clear b1 t1 f1 hl1 nl hz
      -- the letters
      refine ⟨_, rfl, many, rfl, by omega, by omega, fun D hD => comp_range (n := many) (fun k => .str (chI (turn + (0 + (k : Int))))) hD (by omega) (fun _ => rfl) ?_ ?_⟩
      · intro i H' Q' hi s' hq
        obtain ⟨h0, h1, h2, h3⟩ := letter_at (turn + (0 + (i : Int)))
        exact ⟨_, rfl, _, rfl, _, rfl, _, _, rfl, rfl, _, _, rfl, rfl, (by show (0 : Int) < 26; decide), abcS, _, _, rfl, rfl, h0, h1, h2, h3, hq _ (Same.refl _)⟩
      intro H3 s3 d3
      have t3 := s3 _ _ t2
      have nD := ne_t t2 hD
      refine ⟨_, rfl, t, n2 / 3, 2, rfl, t3, by decide, by decide, ?_⟩
      have b4 : But t H (upd H3 t (.lst [.int (n2 / 3 / 2)])) := (b2.trans (But.of s3)).put
      have t4 : (upd H3 t (.lst [.int (n2 / 3 / 2)])) t = some (.lst [.int (n2 / 3 / 2)]) := upd_same
      have d4 : (upd H3 t (.lst [.int (n2 / 3 / 2)])) D = some (.lst ((List.range many).map fun (k : Nat) => .str (chI (turn + (0 + (k : Int)))))) := by
        rw [upd_ne nD]
        exact d3
      generalize upd H3 t (.lst [.int (n2 / 3 / 2)]) = H4 at b4 t4 d4 ⊢
      refine ⟨_, rfl, D, rfl, ⟨_, .inl (.inl d4)⟩, fun D2 hD2 => comp_list (K := K) (ys := ((List.range many).map fun (k : Nat) => [chI (turn + (0 + (k : Int))) ++ ends, ends ++ chI (turn + (0 + (k : Int)))].getD (n2 / 3 % 2).toNat "").map V.str) (.inl (.inl d4)) hD2 ?_ ?_ (fun _ => rfl) ?_ ?_⟩
      · rw [List.length_map, List.length_range]
        omega
      · simp
      · intro i x y H' Q' hx hy s' hq
        have hi : i < many := by
          have := (List.getElem?_eq_some_iff.mp hx).1
          simpa using this
        rw [List.getElem?_map, List.getElem?_range hi] at hx
        rw [List.getElem?_map, List.getElem?_map, List.getElem?_range hi] at hy
        cases hx
        cases hy
        have l1 : (chI (turn + (0 + (i : Int)))).length = 1 := rfl
        have hs := sizeLine_eq
        refine ⟨_, rfl, _, rfl, _, _, rfl, rfl, by omega, _, rfl, _, rfl, _, _, rfl, rfl, by omega, by show 2 ≤ sizeLine; decide, fun p hp => ?_⟩
        exact ⟨_, rfl, p, _, n2 / 3 % 2, _, rfl, rfl, .inl (.inl upd_same), str_item [chI (turn + (0 + (i : Int))) ++ ends, ends ++ chI (turn + (0 + (i : Int)))] _ 2 rfl (by decide), hq _ (same_upd hp)⟩
      intro H5 s5 d5
      exact q H5 D2 (b4.trans (But.of s5)) (s5 _ _ t4) (b4.free t4 hD2) d5
    have e0 := int_ne_of e
    rw [if_neg e0] at q
    clear e e0
    refine ⟨_, rfl, rfl, _, rfl, ite2 (fun e => ?_) (fun e => ?_)⟩
    · rw [if_pos (int_eq_of e)] at q
      clear e
      generalize n / 4 % 26 = turn at q ⊢
      generalize n / 4 / 26 = n2 at q t1 ⊢
      refine ⟨_, rfl, many, rfl, by omega, by omega, fun D hD => comp_range (n := many) (fun k => .str (repS0 (chI (turn + (0 + (k : Int)) / 8)) (1 + k % 8))) hD (by omega) (fun _ => rfl) ?_ ?_⟩
      · intro i H' Q' hi s' hq
        obtain ⟨h0, h1, h2, h3⟩ := letter_at (turn + (0 + (i : Int)) / 8)
        have hr8 : (repS0 (chI (turn + (0 + (i : Int)) / 8)) (1 + i % 8)).length = 1 + i % 8 := rep_len _ _ (by omega)
        have hs := sizeLine_eq
        exact ⟨_, rfl, _, rfl, _, rfl, _, _, rfl, rfl, ⟨by decide, by decide⟩, _, _, rfl, rfl, _, _, rfl, rfl, (by show (0 : Int) < 26; decide), abcS, _, _, rfl, rfl, h0, h1, h2, h3, _, rfl, _, _, rfl, rfl, (by show (0 : Int) < 8; decide), _, _, rfl, rfl,
          _, 1 + i % 8, rfl, congrArg V.int (by omega), by omega, Nat.le_refl 1, (by show 1 ≤ 1000; decide), Nat.le_trans (Nat.le_of_eq hr8) (by omega), hq _ (Same.refl _)⟩
      intro H3 s3 d3
      refine q H3 D (b1.trans (But.of s3)) (s3 _ _ t1) (b1.free t1 hD) ?_
      rw [d3, List.map_map]
      rfl
    have e0 := int_ne_of e
    rw [if_neg e0] at q
    clear e e0
    refine ⟨_, rfl, rfl, _, rfl, ite2 (fun e => ?_) (fun e => ?_)⟩
    · rw [if_pos (int_eq_of e)] at q
      clear e
      generalize n / 4 % 26 = turn at q ⊢
      generalize n / 4 / 26 = n2 at q t1 ⊢
      refine ⟨by show 4 ≤ sizeLine; decide, fun l1 hl1 => ?_⟩
      have nl := ne_t t1 hl1
      have b2 : But t H (upd (upd H1 l1 (.lst (stepL.map V.int))) t (.lst [.int (n2 / 4)])) := (b1.alloc hl1).put
      have t2 : (upd (upd H1 l1 (.lst (stepL.map V.int))) t (.lst [.int (n2 / 4)])) t = some (.lst [.int (n2 / 4)]) := upd_same
      refine ⟨_, rfl, t, n2, 4, rfl, same_upd hl1 _ _ t1, by decide, by decide, l1, stepL.map V.int, n2 % 4, _, rfl, rfl, .inl (.inl (by rw [upd_ne nl]; exact upd_same)), int_item stepL _ 4 rfl (by decide), ?_⟩
      have hstep := step_le (n2 % 4).toNat
      generalize stepL.getD (n2 % 4).toNat 0 = step at q hstep ⊢
      change tNext _ _ (upd (upd H1 l1 (.lst (stepL.map V.int))) t (.lst [.int (n2 / 4)]))
      generalize upd (upd H1 l1 (.lst (stepL.map V.int))) t (.lst [.int (n2 / 4)]) = H2 at b2 t2 ⊢
      clear b1 t1 f1 hl1 nl
      refine ⟨_, rfl, many, rfl, by omega, by omega, fun D hD => comp_range (n := many) (fun k => .str (chI (turn - step * (0 + (k : Int))))) hD (by omega) (fun _ => rfl) ?_ ?_⟩
      · intro i H' Q' hi s' hq
        obtain ⟨h0, h1, h2, h3⟩ := letter_at (turn - step * (0 + (i : Int)))
        exact ⟨_, rfl, _, rfl, _, rfl, _, rfl, _, _, rfl, rfl, .inl ⟨by omega, by omega⟩, _, _, rfl, rfl, _, _, rfl, rfl, (by show (0 : Int) < 26; decide), abcS, _, _, rfl, rfl, h0, h1, h2, h3, hq _ (Same.refl _)⟩
      intro H3 s3 d3
      have t3 := s3 _ _ t2
      refine ⟨_, rfl, D, _, rfl, .inl (.inl d3), fun D2 hD2 => comp_enum (K := K) (ys := ((List.range many).map fun (k : Nat) => chI (turn - step * (0 + (k : Int))) ++ repS0 "q" (k % 3)).map V.str) (.inl (.inl d3)) hD2 ?_ ?_ (fun _ _ => rfl) ?_ ?_⟩
      · rw [List.length_map, List.length_range]
        omega
      · simp
      · intro i x y H' Q' hx hy s' hq
        have hi : i < many := by
          have := (List.getElem?_eq_some_iff.mp hx).1
          simpa using this
        rw [List.getElem?_map, List.getElem?_range hi] at hx
        rw [List.getElem?_map, List.getElem?_map, List.getElem?_range hi] at hy
        cases hx
        cases hy
        have l1 : (chI (turn - step * (0 + (i : Int)))).length = 1 := rfl
        have hr8 : (repS0 "q" (i % 3)).length = i % 3 := rep_len 113 _ (by omega)
        have hs := sizeLine_eq
        exact ⟨_, rfl, _, rfl, _, _, rfl, rfl, (by show (0 : Int) < 3; decide), _, i % 3, rfl, congrArg V.int (by omega), by omega, Nat.le_refl 1, (by show 1 ≤ 1000; decide), Nat.le_trans (Nat.le_of_eq hr8) (by omega), _, _, rfl, rfl, (by omega), hq _ (Same.refl _)⟩
      intro H5 s5 d5
      exact q H5 D2 ((b2.trans (But.of s3)).trans (But.of s5)) (s5 _ _ t3) ((b2.trans (But.of s3)).free t3 hD2) d5
    have e0 := int_ne_of e
    rw [if_neg e0] at q
    clear e e0
    generalize n / 4 % 26 = turn at q ⊢
    generalize n / 4 / 26 = n2 at q t1 ⊢
    have hsl := some_len
    have hz := sizeLine_eq
    have hal : (someT ++ moreT).length = someT.length + moreT.length := strLen_append _ _
    refine ⟨_, rfl, someT, moreT, rfl, rfl, by omega, rfl, someT ++ moreT, _, rfl, rfl, rfl, by omega, ?_⟩
    rw [some_split]
    intro p hp
    have b2 : But t H (upd H1 p (.lst (someL.map V.str))) := b1.alloc hp
    have t2 := same_upd (o := HO.lst (someL.map V.str)) hp _ _ t1
    have p2 : (upd H1 p (.lst (someL.map V.str))) p = some (.lst (someL.map V.str)) := upd_same
    generalize upd H1 p (.lst (someL.map V.str)) = H2 at b2 t2 p2 ⊢
    refine ⟨_, rfl, many, rfl, by omega, by omega, fun D hD => comp_range (n := many) (fun k => .str (someL.getD ((turn + (0 + (k : Int))) % 34).toNat "")) hD (by omega) (fun _ => rfl) ?_ ?_⟩
    · intro i H' Q' hi s' hq
      exact ⟨_, rfl, _, rfl, _, rfl, _, _, rfl, rfl, _, rfl, p, _, rfl, .inl (.inl (.inl (s' _ _ p2))), _, _, rfl, rfl, (by show (0 : Int) < 34; decide), p, someL.map V.str, _, _, rfl, rfl, .inl (.inl (s' _ _ p2)), str_item someL _ 34 rfl (by decide), hq _ (Same.refl _)⟩
    intro H3 s3 d3
    refine q H3 D (b2.trans (But.of s3)) (s3 _ _ t2) (b2.free t2 hD) ?_
    rw [d3, List.map_map]
    rfl
end
end SP

namespace SP
open PySem PySem.Spec PyProof.Rows L2
/-! ### _law_number -/
def numberF (n : Int) : Int × Int := ([0, 0, 1, 2, 999, n % 1000].getD (n / 1000 % 6).toNat 0, n / 1000 / 6)
theorem number_in (n : Int) : 0 ≤ (numberF n).1 ∧ (numberF n).1 ≤ 999 := by
  refine getD_mem _ _ _ (fun x => 0 ≤ x ∧ x ≤ 999) ?_ ⟨by decide, by decide⟩
  intro x hx
  simp only [List.mem_cons, List.not_mem_nil, or_false] at hx
  rcases hx with rfl | rfl | rfl | rfl | rfl | rfl <;> omega
/-! ### _law_shares: so many shares, each one and something more -/
def sharesF : Int → Nat → Nat → List Nat × Int
  | n, _, 0 => ([], n)
  | n, left, m + 1 => ((1 + (n % ((left : Int) + 1)).toNat) :: (sharesF (n / ((left : Int) + 1)) (left - (n % ((left : Int) + 1)).toNat) m).1, (sharesF (n / ((left : Int) + 1)) (left - (n % ((left : Int) + 1)).toNat) m).2)
theorem shares_len : ∀ (m : Nat) (n : Int) (left : Nat), (sharesF n left m).1.length = m
  | 0, _, _ => rfl
  | m + 1, n, left => by
    show (sharesF _ _ m).1.length + 1 = m + 1
    rw [shares_len m]
theorem shares_pos : ∀ (m : Nat) (n : Int) (left : Nat), ∀ x ∈ (sharesF n left m).1, 1 ≤ x
  | 0, _, _, x, h => by cases h
  | m + 1, n, left, x, h => by
    have h' : x = 1 + (n % ((left : Int) + 1)).toNat ∨ x ∈ (sharesF (n / ((left : Int) + 1)) (left - (n % ((left : Int) + 1)).toNat) m).1 := List.mem_cons.mp h
    rcases h' with rfl | h'
    · omega
    · exact shares_pos m _ _ x h'
theorem shares_sum : ∀ (m : Nat) (n : Int) (left : Nat), (sharesF n left m).1.sum ≤ left + m
  | 0, _, _ => Nat.zero_le _
  | m + 1, n, left => by
    have h1 : 0 ≤ n % ((left : Int) + 1) := Int.emod_nonneg _ (by omega)
    have h2 : n % ((left : Int) + 1) < (left : Int) + 1 := Int.emod_lt_of_pos _ (by omega)
    have ih := shares_sum m (n / ((left : Int) + 1)) (left - (n % ((left : Int) + 1)).toNat)
    show (1 + (n % ((left : Int) + 1)).toNat) + (sharesF _ _ m).1.sum ≤ left + (m + 1)
    omega
theorem ixN_zero {n i : Nat} (h : i < n) : ixN n (0 + (i : Int)) = some i := by
  unfold ixN
  rw [if_pos (by omega), if_pos (by omega)]
  congr 1
  omega
theorem atI_zero {α : Type} {xs : List α} {i : Nat} {x : α} (h : xs[i]? = some x) : atI xs (0 + (i : Int)) = some x := by
  rw [Int.zero_add]
  exact atI_nat h
theorem ones_flat (m : Nat) : (List.replicate m [V.int 1]).flatten = List.replicate m (V.int 1) := by
  induction m with
  | zero => rfl
  | succ m ih =>
    rw [List.replicate_succ, List.flatten_cons, ih]
    rfl
section
variable {P : Program} {w : World} {K : PySem.W.Frag} {mg : Str → Option Value} {base : Heap}
def spNumber (K : PySem.W.Frag) : Sp := fun vs H Q _ => ∃ (t : Addr) (n : Int), vs = [.ref t] ∧ H t = some (.lst [.int n]) ∧
  ∀ H' : Hp, But t H H' → H' t = some (.lst [.int (numberF n).2]) → Q (.int (numberF n).1) H'
theorem ok_law_number {f : Addr} {fd : FuncData} (F : Fun K "_law_number" "_law_number" s_law_number f fd) (T : Txt mg) (C_law_digit : Callee P w K mg base "_law_digit" ["tape", "many"] 1 (spDigit K)) : FnOk P w K mg base CX0 2 f fd ["tape"] (spNumber K) := by
  refine F.ok sc_law_number (fun vs H Q E h => ?_) (fun cdv A outer s H vs Q E hr h => ?_)
  · obtain ⟨t, n, rfl, _⟩ := h
    rfl
  · obtain ⟨t, n, rfl, ht, q⟩ := h
    refine ⟨_, (pss_one (ps_ret (pe_ix (r := rIxL K) ix_list (pe_lst (pa_cons pe_int (pa_cons pe_int (pa_cons pe_int (pa_cons pe_int (pa_cons pe_int (pa_cons (pe_fn C_law_digit hr (by rfl) (pa_cons (pv 0) (pa_cons pe_int pa_nil))) pa_nil))))))) (pe_fn C_law_digit hr (by rfl) (pa_cons (pv 0) (pa_cons pe_int pa_nil))) (fun _ _ => rfl)))), ?_⟩
    refine ⟨_, rfl, t, n, 1000, rfl, ht, by decide, by decide, by show 6 ≤ sizeLine; decide, fun p hp => ?_⟩
    have t1 : (upd H t (.lst [.int (n / 1000)])) t = some (.lst [.int (n / 1000)]) := upd_same
    have np := ne_t t1 hp
    refine ⟨_, rfl, t, n / 1000, 6, rfl, same_upd hp _ _ t1, by decide, by decide, p, [0, 0, 1, 2, 999, n % 1000].map V.int, _, _, rfl, rfl, .inl (.inl (by rw [upd_ne np]; exact upd_same)), int_item [0, 0, 1, 2, 999, n % 1000] _ 6 rfl (by decide), ?_⟩
    exact q _ ((But.refl t H).put.alloc hp).put upd_same
def spShares (K : PySem.W.Frag) : Sp := fun vs H Q _ => ∃ (t : Addr) (n : Int) (left many : Nat), vs = [.ref t, .int ((left + many : Nat) : Int), .int (many : Int)] ∧ H t = some (.lst [.int n]) ∧ left + many ≤ 1000 ∧
  ∀ (H' : Hp) (l : Addr), But t H H' → H' t = some (.lst [.int (sharesF n left many).2]) → H l = none → H' l = some (.lst ((sharesF n left many).1.map fun x => V.int (x : Nat))) → Q (.ref l) H'
theorem ok_law_shares {f : Addr} {fd : FuncData} (F : Fun K "_law_shares" "_law_shares" s_law_shares f fd) (T : Txt mg) (C_law_digit : Callee P w K mg base "_law_digit" ["tape", "many"] 1 (spDigit K)) : FnOk P w K mg base CX0 2 f fd ["tape", "room", "many"] (spShares K) := by
  refine F.ok sc_law_shares (fun vs H Q E h => ?_) (fun cdv A outer s H vs Q E hr h => ?_)
  · obtain ⟨t, n, left, many, rfl, _⟩ := h
    rfl
  · obtain ⟨t, n, left, many, rfl, ht, hz, q⟩ := h
    refine ⟨_, (pss_cons (ps_set (i := 3) sc_law_shares.nd rfl (Or.inl rfl) (pe_op op_rep (pe_lst (pa_cons pe_int pa_nil)) (pv 2)))
      (pss_cons (ps_set (i := 4) sc_law_shares.nd rfl (Or.inl rfl) (pe_op op_sub (pv 1) (pv 2)))
      (pss_cons (ps_for PassesOwn.never rfl (pi_range1 rfl T.n_range (pa_cons (pv 2) pa_nil)) (pg_name (i := 5) sc_law_shares.nd rfl (Or.inl rfl))
      (pss_cons (ps_set (i := 6) sc_law_shares.nd rfl (Or.inl rfl) (pe_fn C_law_digit hr (by rfl) (pa_cons (pv 0) (pa_cons (pe_op op_add (pv 4) pe_int) pa_nil))))
      (pss_cons (ps_asg (pe_op op_add (pe_ix (r := rIxL K) ix_list (pv 3) (pv 5) (fun _ _ => rfl)) (pv 6)) (pg_sub (pv 3) (pv 5) set_list))
      (pss_one (ps_set (i := 4) sc_law_shares.nd rfl (Or.inl rfl) (pe_op op_sub (pv 4) (pv 6)))))))
      (pss_one (ps_ret (pv 3)))))), ?_⟩
    have hs := sizeLine_eq
    refine ⟨by show 1 ≤ sizeLine; decide, fun p hp => ⟨_, rfl, p, (many : Int), [.int 1], rfl, rfl, upd_same, by omega, by omega, by simp only [List.length_singleton, Int.toNat_natCast]; omega, fun l hl => ?_⟩⟩
    rw [Int.toNat_natCast, ones_flat]
    have b1 : But t H (upd (upd H p (.lst [.int 1])) l (.lst (List.replicate many (V.int 1)))) := ((But.refl t H).alloc hp).alloc hl
    have t1 := same_upd (o := HO.lst (List.replicate many (V.int 1))) hl _ _ (same_upd (o := HO.lst [.int 1]) hp _ _ ht)
    have d1 : (upd (upd H p (.lst [.int 1])) l (.lst (List.replicate many (V.int 1)))) l = some (.lst (List.replicate many (V.int 1))) := upd_same
    have fl : H l = none := (same_upd hp).free hl
    have nl : l ≠ t := ne_t ht fl
    generalize upd (upd H p (.lst [.int 1])) l (.lst (List.replicate many (V.int 1))) = H1 at b1 t1 d1 ⊢
    refine ⟨_, rfl, _, rfl, _, _, rfl, rfl, _, rfl, many, rfl, by omega, by omega, ?_⟩
    refine for_range (lo := 0) (n := many) (fun i σ H' => ∃ (done : List Nat) (n' : Int) (lf : Nat) (y5 y6 : Option V), σ = [some (.ref t), some (.int ((left + many : Nat) : Int)), some (.int (many : Int)), some (.ref l), some (.int (lf : Int)), y5, y6] ∧ done.length = i ∧ lf + (many - i) ≤ 1000 ∧
      sharesF n left many = (done ++ (sharesF n' lf (many - i)).1, (sharesF n' lf (many - i)).2) ∧ But t H H' ∧ H' t = some (.lst [.int n']) ∧ H' l = some (.lst ((done.map fun x => V.int (x : Nat)) ++ List.replicate (many - i) (V.int 1)))) ⟨[], n, left, none, none, ?_, rfl, by omega, by simp, b1, t1, by simpa using d1⟩ ?_ ?_
    · show [_, _, _, _, some (V.int (((left + many : Nat) : Int) - (many : Int))), _, _] = _
      rw [show (((left + many : Nat) : Int) - (many : Int)) = (left : Int) by omega]
    · rintro i σ H2 hi ⟨done, n2, lf, y5, y6, rfl, hd, hlf, hF, b2, t2, d2⟩
      obtain ⟨m, hm⟩ : ∃ m, many - i = m + 1 := ⟨many - i - 1, by omega⟩
      have h1 : 0 ≤ n2 % ((lf : Int) + 1) := Int.emod_nonneg _ (by omega)
      have h2 : n2 % ((lf : Int) + 1) < (lf : Int) + 1 := Int.emod_lt_of_pos _ (by omega)
      rw [hm] at d2 hF
      have d3 : (upd H2 t (.lst [.int (n2 / ((lf : Int) + 1))])) l = some (.lst ((done.map fun x => V.int (x : Nat)) ++ List.replicate (m + 1) (V.int 1))) := by
        rw [upd_ne nl]
        exact d2
      have at_i : ((done.map fun x => V.int (x : Nat)) ++ List.replicate (m + 1) (V.int 1))[i]? = some (V.int 1) := by
        rw [List.getElem?_append_right (by rw [List.length_map]; omega), List.length_map, hd, Nat.sub_self]
        rfl
      have len_i : i < ((done.map fun x => V.int (x : Nat)) ++ List.replicate (m + 1) (V.int 1)).length := (List.getElem?_eq_some_iff.mp at_i).1
      refine ⟨_, rfl, _, rfl, _, _, rfl, rfl, t, n2, (lf : Int) + 1, rfl, t2, by omega, by omega, ?_⟩
      refine ⟨_, rfl, _, rfl, l, _, _, _, rfl, rfl, .inl (.inl d3), atI_zero at_i, _, rfl, _, _, rfl, rfl, _, rfl, _, rfl, l, _, _, i, rfl, rfl, d3, ixN_zero len_i, ?_⟩
      refine ⟨_, rfl, _, rfl, _, _, rfl, rfl, ?_⟩
      refine ⟨done ++ [1 + (n2 % ((lf : Int) + 1)).toNat], n2 / ((lf : Int) + 1), lf - (n2 % ((lf : Int) + 1)).toNat, some (.int (0 + (i : Int))), some (.int (n2 % ((lf : Int) + 1))), ?_, ?_, by omega, ?_, ?_, ?_, ?_⟩
      · show [_, _, _, _, some (V.int ((lf : Int) - n2 % ((lf : Int) + 1))), _, _] = _
        rw [show ((lf : Int) - n2 % ((lf : Int) + 1)) = ((lf - (n2 % ((lf : Int) + 1)).toNat : Nat) : Int) by omega]
      · simp [hd]
      · rw [hF, show many - (i + 1) = m by omega, List.append_assoc]
        rfl
      · exact fun b o hb e => by
          by_cases hbl : b = l
          · rw [hbl, fl] at e
            cases e
          · rw [upd_ne hbl, upd_ne hb]
            exact b2 b o hb e
      · rw [upd_ne nl.symm]
        exact upd_same
      · rw [upd_same, show many - (i + 1) = m by omega]
        congr 2
        rw [List.map_append, List.append_assoc, List.replicate_succ, List.set_append_right _ _ (by rw [List.length_map]; omega), List.length_map, hd, Nat.sub_self]
        congr 1
        show V.int (1 + n2 % ((lf : Int) + 1)) :: _ = V.int ((1 + (n2 % ((lf : Int) + 1)).toNat : Nat) : Int) :: _
        rw [show (1 + n2 % ((lf : Int) + 1)) = ((1 + (n2 % ((lf : Int) + 1)).toNat : Nat) : Int) by omega]
        rfl
    · rintro σ H2 ⟨done, n2, lf, y5, y6, rfl, hd, hlf, hF, b2, t2, d2⟩
      rw [Nat.sub_self] at hF d2
      have hF' : sharesF n left many = (done, n2) := by
        rw [hF]
        show (done ++ [], n2) = _
        rw [List.append_nil]
      refine ⟨_, rfl, q H2 l b2 ?_ fl ?_⟩
      · rw [hF']
        exact t2
      · rw [hF', d2]
        simp
end
end SP

namespace SP
open PySem PySem.Spec PyProof.Rows L2
section
variable {K : PySem.W.Frag} {H H' : Hp}
mutual
theorem dp_mono (s : Same H H') : ∀ {v : V} {d : PyData}, Dp K H v d → Dp K H' v d
  | _, _, .non => .non
  | _, _, .bl b => .bl b
  | _, _, .int i => .int i
  | _, _, .str x => .str x
  | _, _, .lst h a => .lst (Same.seq s h) (dpAll_mono s a)
  | _, _, .tup h a => .tup (Same.seqT s h) (dpAll_mono s a)
theorem dpAll_mono (s : Same H H') : ∀ {vs : List V} {ds : List PyData}, DpAll K H vs ds → DpAll K H' vs ds
  | _, _, .nil => .nil
  | _, _, .cons h t => .cons (dp_mono s h) (dpAll_mono s t)
end
theorem dp_tup {v : V} {ds : List PyData} (h : Dp K H v (.tuple ds)) : ∃ a xs, v = .ref a ∧ SqT K H a xs ∧ DpAll K H xs ds := by
  cases h with
  | tup h a => exact ⟨_, _, rfl, h, a⟩
theorem dp_lst {v : V} {ds : List PyData} (h : Dp K H v (.list ds)) : ∃ a xs, v = .ref a ∧ SqL K H a xs ∧ DpAll K H xs ds := by
  cases h with
  | lst h a => exact ⟨_, _, rfl, h, a⟩
theorem dp_str {v : V} {x : Str} (h : Dp K H v (.str x)) : v = .str x := by
  cases h
  rfl
theorem dp_int {v : V} {x : Int} (h : Dp K H v (.int x)) : v = .int x := by
  cases h
  rfl
theorem dp_bl {v : V} {x : Bool} (h : Dp K H v (.bool x)) : v = .bl x := by
  cases h
  rfl
theorem dp_non {v : V} (h : Dp K H v .none) : v = .non := by
  cases h
  rfl
theorem dpAll_len : ∀ {xs : List V} {ds : List PyData}, DpAll K H xs ds → xs.length = ds.length
  | _, _, .nil => rfl
  | _, _, .cons _ t => congrArg (· + 1) (dpAll_len t)
theorem dpAll_get : ∀ {xs : List V} {ds : List PyData} {i : Nat} {d : PyData}, DpAll K H xs ds → ds[i]? = some d → ∃ v, xs[i]? = some v ∧ Dp K H v d
  | _, _, _, _, .nil, e => by simp at e
  | _, _, 0, d, .cons h _, e => by
    rw [List.getElem?_cons_zero] at e
    cases e
    exact ⟨_, rfl, h⟩
  | _, _, i + 1, _, .cons _ t, e => by
    obtain ⟨v, e1, h1⟩ := dpAll_get (i := i) t (by simpa using e)
    exact ⟨v, by simpa using e1, h1⟩
theorem dpAll_at : ∀ {xs : List V} {ds : List PyData} {i : Nat} {v : V}, DpAll K H xs ds → xs[i]? = some v → ∃ d, ds[i]? = some d ∧ Dp K H v d
  | _, _, _, _, .nil, e => by simp at e
  | _, _, 0, v, .cons h _, e => by
    rw [List.getElem?_cons_zero] at e
    cases e
    exact ⟨_, rfl, h⟩
  | _, _, i + 1, _, .cons _ t, e => by
    obtain ⟨d, e1, h1⟩ := dpAll_at (i := i) t (by simpa using e)
    exact ⟨d, by simpa using e1, h1⟩
theorem dpAll_append : ∀ {xs ys : List V} {ds es : List PyData}, DpAll K H xs ds → DpAll K H ys es → DpAll K H (xs ++ ys) (ds ++ es)
  | _, _, _, _, .nil, h => h
  | _, _, _, _, .cons a t, h => .cons a (dpAll_append t h)
theorem dpAll_take : ∀ (n : Nat) {xs : List V} {ds : List PyData}, DpAll K H xs ds → DpAll K H (xs.take n) (ds.take n)
  | 0, _, _, _ => by simpa using DpAll.nil
  | n + 1, _, _, .nil => by simpa using DpAll.nil
  | n + 1, _, _, .cons a t => .cons a (dpAll_take n t)
theorem dpAll_drop : ∀ (n : Nat) {xs : List V} {ds : List PyData}, DpAll K H xs ds → DpAll K H (xs.drop n) (ds.drop n)
  | 0, _, _, h => by simpa using h
  | n + 1, _, _, .nil => by simpa using DpAll.nil
  | n + 1, _, _, .cons a t => dpAll_drop n t
theorem dpAll_strs : ∀ l : List Str, DpAll K H (l.map V.str) (l.map PyData.str)
  | [] => .nil
  | x :: l => .cons (.str x) (dpAll_strs l)
theorem dpAll_ints : ∀ l : List Int, DpAll K H (l.map V.int) (l.map PyData.int)
  | [] => .nil
  | x :: l => .cons (.int x) (dpAll_ints l)
theorem strs_of : ∀ {xs : List V} (l : List Str), DpAll K H xs (l.map PyData.str) → xs = l.map V.str
  | _, [], .nil => rfl
  | _, x :: l, .cons h t => by rw [dp_str h, strs_of l t] <;> rfl
theorem dpAll_snoc {xs : List V} {ds : List PyData} {x : V} {d : PyData} (h : DpAll K H xs ds) (hx : Dp K H x d) : DpAll K H (xs ++ [x]) (ds ++ [d]) := dpAll_append h (.cons hx .nil)
end
theorem plain_strs (l : List Str) : PyData.plainAll (l.map .str) = true := by
  induction l with
  | nil => rfl
  | cons x l ih =>
    show (PyData.plain (.str x) && PyData.plainAll (l.map .str)) = true
    rw [ih]
    rfl
/-! ### == and != of data, `in`, with the room that their depth asks -/
section
variable {X : Cx}
def rEqP (K : PySem.W.Frag) (m : Nat) : R2 := fun x y H Q => ∃ d e, Dp K H x d ∧ Dp K H y e ∧ d.plain = true ∧ e.plain = true ∧ min d.depth e.depth ≤ m ∧ Q (.bl (PyData.eqv d e)) H
def rNeP (K : PySem.W.Frag) (m : Nat) : R2 := fun x y H Q => ∃ d e, Dp K H x d ∧ Dp K H y e ∧ d.plain = true ∧ e.plain = true ∧ min d.depth e.depth ≤ m ∧ Q (.bl (!PyData.eqv d e)) H
theorem op_eqP {m : Nat} (hu : X.A.units + m < cLine) : OpR X (compareOp .Eq) (rEqP X.K m) := by
  intro pins s σ H x y v u Q I rx ry h
  obtain ⟨d, e, hd, he, sd, se, hm, q⟩ := h
  obtain ⟨as, r1⟩ := Dp.reads I d x v hd rx
  obtain ⟨bs, r2⟩ := Dp.reads I e y u he ry
  exact SeqAt.eq_plain r1 r2 sd se (by omega) ⟨.bl _, H, I, rfl, q⟩
theorem op_neP {m : Nat} (hu : X.A.units + m < cLine) : OpR X (compareOp .NotEq) (rNeP X.K m) := by
  intro pins s σ H x y v u Q I rx ry h
  obtain ⟨d, e, hd, he, sd, se, hm, q⟩ := h
  obtain ⟨as, r1⟩ := Dp.reads I d x v hd rx
  obtain ⟨bs, r2⟩ := Dp.reads I e y u he ry
  exact SeqAt.ne_plain r1 r2 sd se (by omega) ⟨.bl _, H, I, rfl, q⟩
end
theorem room_units {k : Nat} {A : Around} (r : Room k A) : A.units + (16 * k + 200) < cLine := by
  have := r.un
  omega
end SP

namespace SP
open PySem PySem.Spec PyProof.Rows L2
/-! ### what stays: all but some lists (the tape, a list of words) -/
def Kp (M : Addr → Prop) (H H' : Hp) : Prop := ∀ b o, ¬ M b → H b = some o → H' b = some o
theorem Kp.refl (M : Addr → Prop) (H : Hp) : Kp M H H := fun _ _ _ e => e
theorem Kp.trans {M : Addr → Prop} {H H1 H2 : Hp} (a : Kp M H H1) (b : Kp M H1 H2) : Kp M H H2 := fun c o n e => b c o n (a c o n e)
theorem Kp.of {M : Addr → Prop} {H H1 : Hp} (a : Same H H1) : Kp M H H1 := fun c o _ e => a c o e
theorem Kp.mono {M N : Addr → Prop} {H H1 : Hp} (a : Kp M H H1) (h : ∀ b, M b → N b) : Kp N H H1 := fun c o n e => a c o (fun m => n (h c m)) e
theorem Kp.but {M : Addr → Prop} {t : Addr} {H H1 : Hp} (a : But t H H1) (h : M t) : Kp M H H1 := fun c o n e => a c o (fun m => n (m ▸ h)) e
theorem Kp.put {M : Addr → Prop} {H H1 : Hp} {t : Addr} {o : HO} (a : Kp M H H1) (h : M t) : Kp M H (upd H1 t o) := fun c u n e => by
  rw [upd_ne (fun z => n (by rw [z]; exact h))]
  exact a c u n e
theorem Kp.alloc {M : Addr → Prop} {p : Addr} {H H1 : Hp} {o : HO} (b : Kp M H H1) (hp : H1 p = none) : Kp M H (upd H1 p o) := b.trans (Kp.of (same_upd hp))
/-- an object that may be changed -/
def isMut : HO → Bool
  | .lst _ => true
  | .dK _ => true
  | _ => false
/-- what can't be changed stays -/
def Tk (H H' : Hp) : Prop := ∀ a o, isMut o = false → H a = some o → H' a = some o
theorem Tk.refl (H : Hp) : Tk H H := fun _ _ _ e => e
theorem Tk.trans {H H1 H2 : Hp} (a : Tk H H1) (b : Tk H1 H2) : Tk H H2 := fun c o n e => b c o n (a c o n e)
theorem Tk.of {H H1 : Hp} (a : Same H H1) : Tk H H1 := fun c o _ e => a c o e
theorem Kp.tk {M : Addr → Prop} {H H1 : Hp} (a : Kp M H H1) (h : ∀ b, M b → ∃ o, H b = some o ∧ isMut o = true) : Tk H H1 := fun c o n e => a c o (fun m => by
  obtain ⟨u, e1, e2⟩ := h c m
  rw [e] at e1
  cases e1
  rw [n] at e2
  cases e2) e
theorem But.tk {t : Addr} {xs : List V} {H H1 : Hp} (a : But t H H1) (h : H t = some (.lst xs)) : Tk H H1 := fun c o n e => a c o (fun m => by
  rw [m, h] at e
  cases e
  cases n) e
/-! data without lists: what it is can't change -/
mutual
def imm : PyData → Bool
  | .none | .bool _ | .int _ | .str _ => true
  | .tuple xs => immAll xs
  | .list _ | .dict _ => false
def immAll : List PyData → Bool
  | [] => true
  | x :: xs => imm x && immAll xs
end
section
variable {K : PySem.W.Frag} {H H' : Hp}
theorem Tk.seqT {a : Addr} {xs : List V} (e : Tk H H') (h : SqT K H a xs) : SqT K H' a xs := by
  rcases h with (h | ⟨o, h⟩) | h
  · exact .inl (.inl (e _ _ rfl h))
  · exact .inl (.inr ⟨o, e _ _ rfl h⟩)
  · exact .inr h
mutual
theorem dp_tk (s : Tk H H') : ∀ {v : V} {d : PyData}, imm d = true → Dp K H v d → Dp K H' v d
  | _, _, _, .non => .non
  | _, _, _, .bl b => .bl b
  | _, _, _, .int i => .int i
  | _, _, _, .str x => .str x
  | _, _, i, .lst h a => by cases i
  | _, _, i, .tup h a => .tup (Tk.seqT s h) (dpAll_tk s i a)
theorem dpAll_tk (s : Tk H H') : ∀ {vs : List V} {ds : List PyData}, immAll ds = true → DpAll K H vs ds → DpAll K H' vs ds
  | _, _, _, .nil => .nil
  | _, _, i, .cons h t => by
    have i' := Bool.and_eq_true_iff.mp i
    exact .cons (dp_tk s i'.1 h) (dpAll_tk s i'.2 t)
end
end
/-! ### pairs of texts -/
def prD (p : Str × Str) : PyData := .tuple [.str p.1, .str p.2]
theorem imm_prs (al : List (Str × Str)) : immAll (al.map prD) = true := by
  induction al with
  | nil => rfl
  | cons p al ih =>
    show (imm (prD p) && immAll (al.map prD)) = true
    rw [ih]
    rfl
/-- a list of pairs of texts, apart from what may be changed -/
def Prs (K : PySem.W.Frag) (H : Hp) (a : Addr) (al : List (Str × Str)) : Prop := ∃ xs, H a = some (.lst xs) ∧ DpAll K H xs (al.map prD)
theorem Prs.same {K : PySem.W.Frag} {H H' : Hp} {a : Addr} {al : List (Str × Str)} (s : Same H H') (h : Prs K H a al) : Prs K H' a al := by
  obtain ⟨xs, h1, h2⟩ := h
  exact ⟨xs, s _ _ h1, dpAll_mono s h2⟩
theorem Prs.kp {K : PySem.W.Frag} {M : Addr → Prop} {H H' : Hp} {a : Addr} {al : List (Str × Str)} (s : Kp M H H') (t : Tk H H') (n : ¬ M a) (h : Prs K H a al) : Prs K H' a al := by
  obtain ⟨xs, h1, h2⟩ := h
  exact ⟨xs, s _ _ n h1, dpAll_tk t (imm_prs al) h2⟩
theorem Prs.at {K : PySem.W.Frag} {H : Hp} {al : List (Str × Str)} {xs : List V} {i : Nat} {v : V} (h2 : DpAll K H xs (al.map prD)) (e : xs[i]? = some v) : ∃ p b, al[i]? = some p ∧ v = .ref b ∧ SqT K H b [.str p.1, .str p.2] := by
  obtain ⟨d, e1, e2⟩ := dpAll_at h2 e
  rw [List.getElem?_map] at e1
  obtain ⟨p, hp, rfl⟩ := Option.map_eq_some_iff.mp e1
  obtain ⟨b, ys, rfl, e3, e4⟩ := dp_tup e2
  have := strs_of [p.1, p.2] e4
  subst this
  exact ⟨p, b, hp, rfl, e3⟩
end SP
namespace SP
open PySem PySem.Spec PyProof.Rows L2
theorem tk_put {H : Hp} {D : Addr} {ys : List V} {o : HO} (h : H D = some (.lst ys)) : Tk H (upd H D o) := fun b u n e => by
  have : b ≠ D := fun z => by
    rw [z, h] at e
    cases e
    cases n
  rw [upd_ne this]
  exact e
/-- a comprehension that leaves all as it is, its items data -/
theorem comp_dp {K : PySem.W.Frag} {a : Addr} {xs : List V} {g : TG} {tt : TT} {te : TE} {vs : List Nat} {σ : L2.St} {H1 : Hp} {D : Addr} {Qd : Hp → Prop} (acc : Nat → List PyData) (hS : SqL K H1 a xs) (hD : H1 D = none) (hn : xs.length ≤ 1000) (h0 : acc 0 = []) (him : ∀ i, immAll (acc i) = true)
    (hs : ∀ (i : Nat) (x : V) (H : Hp) (Y : V → Hp → Prop) (N : Hp → Prop), xs[i]? = some x → Same H1 H → (∀ y H4 d, Same H H4 → Dp K H4 y d → acc (i + 1) = acc i ++ [d] → Y y H4) → (∀ H3, Same H H3 → acc (i + 1) = acc i → N H3) →
      g x (wipe σ vs) H fun σ2 H2 => wipe σ2 vs = wipe σ vs ∧ tt σ2 H2 fun b H3 => if b = true then te σ2 H3 Y else N H3)
    (hd : ∀ H' ys, Same H1 H' → H' D = some (.lst ys) → DpAll K H' ys (acc xs.length) → Qd H') :
    ∃ W : Nat → Nat → Hp → Prop, (∃ m, W 0 m (upd H1 D (.lst []))) ∧ ∀ i m H, W i m H →
      ((Itl K a).stop i H ∧ Qd H) ∨ ((Itl K a).go i H ∧ ∃ Nx : Hp → Prop, (∀ H', Nx H' → ∃ m', m' < m ∧ W (i + 1) m' H') ∧ ∀ x H', (Itl K a).yld i H x H' → g x (wipe σ vs) H' fun σ2 H2 => wipe σ2 vs = wipe σ vs ∧ tt σ2 H2 fun b H3 =>
        if b = true then te σ2 H3 fun y H4 => ∃ acc, H4 D = some (.lst acc) ∧ acc.length < sizeLine ∧ Nx (upd H4 D (.lst (acc ++ [y]))) else Nx H3) := by
  refine lc_list (K := K) (a := a) (xs := xs) (fun i H' => Same H1 H' ∧ ∃ ys, ys.length ≤ i ∧ H' D = some (.lst ys) ∧ DpAll K H' ys (acc i)) ⟨same_upd hD, [], Nat.le_refl _, upd_same, by rw [h0]; exact .nil⟩ (fun i H' _ h => h.1.seq hS) ?_ (fun H' h => by
    obtain ⟨s, ys, _, d, p⟩ := h
    exact hd H' ys s d p)
  intro i x H hx hp
  obtain ⟨s1, ys, hl, d1, p1⟩ := hp
  have hi : i < xs.length := (List.getElem?_eq_some_iff.mp hx).1
  refine hs i x H _ _ hx s1 ?_ ?_
  · intro y H4 d s4 hy he
    have n1 : ys.length < sizeLine := small1000 (by omega)
    have pn := dpAll_snoc (dpAll_mono s4 p1) hy
    refine ⟨_, s4 _ _ d1, n1, same_put (s1.trans s4) hD, ys ++ [y], ?_, upd_same, ?_⟩
    · rw [List.length_append]
      exact Nat.succ_le_succ hl
    · rw [he]
      exact dpAll_tk (tk_put (s4 _ _ d1)) (he ▸ him (i + 1)) pn
  · intro H3 s3 he
    exact ⟨s1.trans s3, ys, Nat.le_succ_of_le hl, s3 _ _ d1, by rw [he]; exact dpAll_mono s3 p1⟩
end SP

namespace SP
open PySem PySem.Spec PyProof.Rows L2
/-! ### _law_pick -/
def pickL (n : Int) (al : List (Str × Str)) (kind : Str) : List Str := if n % 40 = 1 then al.map (·.1) else (al.filter fun p => decide (p.2 = kind)).map (·.1)
def pickF (n : Int) (al : List (Str × Str)) (kind : Str) : Option Str × Int :=
  if pickL n al kind = [] then (none, n / 40)
  else (some ((pickL n al kind).getD ((pickL n al kind).length - 1 - (n / 40 % ((min (pickL n al kind).length 5 : Nat) : Int)).toNat) ""), n / 40 / ((min (pickL n al kind).length 5 : Nat) : Int))
def optV : Option Str → V
  | none => .non
  | some x => .str x
theorem dec_str (a b : Str) : decide (V.str a = V.str b) = decide (a = b) := by
  apply decide_eq_decide.mpr
  constructor
  · intro h
    exact V.str.inj h
  · intro h
    rw [h]
theorem eqv_strs_nil (l : List Str) : PyData.eqv (.list (l.map .str)) (.list []) = decide (l = []) := by
  cases l with
  | nil => rfl
  | cons x l => rfl
section
variable {P : Program} {w : World} {K : PySem.W.Frag} {mg : Str → Option Value} {base : Heap}
def spPick (K : PySem.W.Frag) : Sp := fun vs H Q _ => ∃ (t ar : Addr) (n : Int) (al : List (Str × Str)) (kind : Str), vs = [.ref t, .ref ar, .str kind] ∧ H t = some (.lst [.int n]) ∧ Prs K H ar al ∧ ar ≠ t ∧ al.length ≤ 500 ∧
  ∀ H' : Hp, But t H H' → H' t = some (.lst [.int (pickF n al kind).2]) → Q (optV (pickF n al kind).1) H'
theorem ok_law_pick {f : Addr} {fd : FuncData} (F : Fun K "_law_pick" "_law_pick" s_law_pick f fd) (T : Txt mg) (C_law_digit : Callee P w K mg base "_law_digit" ["tape", "many"] 1 (spDigit K)) : FnOk P w K mg base CX0 2 f fd ["tape", "around", "kind"] (spPick K) := by
  refine F.ok sc_law_pick (fun vs H Q E h => ?_) (fun cdv A outer s H vs Q E hr h => ?_)
  · obtain ⟨t, ar, n, al, kind, rfl, _⟩ := h
    rfl
  · obtain ⟨t, ar, n, al, kind, rfl, ht, ⟨xs, ha, hx⟩, hne, hz, q⟩ := h
    have hl : xs.length = al.length := by
      rw [dpAll_len hx, List.length_map]
    refine ⟨_, (pss_cons (ps_setLc (i := 3) (own := [("x", 4), ("other", 5)]) (g := gTup K 2 (gCons (gName 4) (gCons (gName 5) gNil))) rfl sc_law_pick.nd rfl rfl (sw_true rfl rfl rfl (by decide +kernel)) (pi_list (pv 1)) (blkOk_by (own := [("x", 4), ("other", 5)]) (N := ["tape", "around", "kind", "some", "x", "other"]) (sc := defScope s_law_pick) (by decide +kernel)) (fun _ _ _ _ _ => (pg_tup rfl (pgs_cons (pg_name (i := 4) sc_law_pick.nd rfl (Or.inl rfl)) (pgs_cons (pg_name (i := 5) sc_law_pick.nd rfl (Or.inl rfl)) pgs_nil)))) (fun _ _ _ _ _ => (pts_one (pt_cmpR op_eq (pv 5) (pv 2) (nomark _)))) (fun _ _ _ _ _ => (pv 4)))
      (pss_cons (ps_if (pt_cmpR op_eq (pe_fn C_law_digit hr (by rfl) (pa_cons (pv 0) (pa_cons pe_int pa_nil))) pe_int (nomark _)) (pss_one (ps_setLc (i := 3) (own := [("x", 4), ("other", 5)]) (g := gTup K 2 (gCons (gName 4) (gCons (gName 5) gNil))) (tt := tYes) rfl sc_law_pick.nd rfl rfl (sw_true rfl rfl rfl (by decide +kernel)) (pi_list (pv 1)) (blkOk_by (own := [("x", 4), ("other", 5)]) (N := ["tape", "around", "kind", "some", "x", "other"]) (sc := defScope s_law_pick) (by decide +kernel)) (fun _ _ _ _ _ => (pg_tup rfl (pgs_cons (pg_name (i := 4) sc_law_pick.nd rfl (Or.inl rfl)) (pgs_cons (pg_name (i := 5) sc_law_pick.nd rfl (Or.inl rfl)) pgs_nil)))) (fun _ _ _ _ _ => pts_nil) (fun _ _ _ _ _ => (pv 4)))) pss_nil)
      (pss_cons (ps_if (pt_cmpR (r := rEqP K 1) (op_eqP (m := 1) (hu_of hr)) (pv 3) (pe_lst pa_nil) (nomark _)) (pss_one (ps_ret pe_non)) pss_nil)
      (pss_one (ps_ret (pe_ix (r := rIxL K) ix_list (pv 3) (pe_op op_sub (pe_op op_sub (pe_callB (r := rLenS K) call_lenS (by rfl) T.n_len (by decide +kernel) (pa_cons (pv 3) pa_nil)) pe_int) (pe_fn C_law_digit hr (by rfl) (pa_cons (pv 0) (pa_cons (pe_callB (call_min2 rfl) (by rfl) T.n_min (by decide +kernel) (pa_cons (pe_callB (r := rLenS K) call_lenS (by rfl) T.n_len (by decide +kernel) (pa_cons (pv 3) pa_nil)) (pa_cons pe_int pa_nil))) pa_nil)))) (fun _ _ => rfl))))))), ?_⟩
    have t0 : (upd H t (.lst [.int (n / 40)])) t = some (.lst [.int (n / 40)]) := upd_same
    -- the words of that kind
    refine ⟨_, rfl, ar, rfl, ⟨_, .inl (.inl ha)⟩, fun D hD => ?_⟩
    refine lc_list (K := K) (a := ar) (xs := xs) (fun i H' => Same H H' ∧ H' D = some (.lst ((((al.take i).filter fun p => decide (p.2 = kind)).map (·.1)).map V.str))) ⟨same_upd hD, upd_same⟩ (fun i H' _ h => .inl (.inl (h.1 _ _ ha))) ?_ ?_
    · intro i v H' hv hp
      obtain ⟨s1, d1⟩ := hp
      obtain ⟨p, b, hpi, rfl, hb⟩ := Prs.at hx hv
      have hi : i < al.length := (List.getElem?_eq_some_iff.mp hpi).1
      refine ⟨b, _, rfl, Same.seqT s1 hb, rfl, _, _, rfl, _, _, rfl, rfl, rfl, ?_⟩
      refine ⟨_, rfl, _, rfl, rfl, _, rfl, ?_⟩
      rw [dec_str]
      refine ite2 (fun e => ?_) (fun e => ?_)
      · refine ⟨_, rfl, _, d1, ?_, same_put s1 hD, ?_⟩
        · rw [List.length_map, List.length_map]
          exact small1000 (by have := List.length_filter_le (fun p => decide (p.2 = kind)) (al.take i); have := List.length_take_le i al; omega)
        · rw [upd_same, List.take_add_one, hpi, List.filter_append]
          show _ = some (HO.lst ((((_ : List (Str × Str)) ++ List.filter _ [p]).map (·.1)).map V.str))
          rw [List.filter_cons_of_pos (by exact e)]
          simp
      · refine ⟨s1, ?_⟩
        rw [d1, List.take_add_one, hpi, List.filter_append]
        show _ = some (HO.lst ((((_ : List (Str × Str)) ++ List.filter _ [p]).map (·.1)).map V.str))
        rw [List.filter_cons_of_neg (by exact e)]
        simp
    intro H1 hp
    obtain ⟨s1, d1⟩ := hp
    rw [hl, List.take_length] at d1
    have nD : D ≠ t := ne_t ht hD
    have hF : n % 40 = 1 ∨ ¬ n % 40 = 1 := by omega
    have q' : ∀ (L : List Str), pickL n al kind = L → (∀ H' : Hp, But t H H' → H' t = some (.lst [.int (if L = [] then (none, n / 40) else (some (L.getD (L.length - 1 - (n / 40 % ((min L.length 5 : Nat) : Int)).toNat) ""), n / 40 / ((min L.length 5 : Nat) : Int)) : Option Str × Int).2]) →
        Q (optV (if L = [] then (none, n / 40) else (some (L.getD (L.length - 1 - (n / 40 % ((min L.length 5 : Nat) : Int)).toNat) ""), n / 40 / ((min L.length 5 : Nat) : Int)) : Option Str × Int).1) H') := fun L hL => by
      unfold pickF at q
      rw [hL] at q
      exact q
    clear q
    refine ⟨_, rfl, t, n, 40, rfl, s1 _ _ ht, by decide, by decide, rfl, _, rfl, ?_⟩
    have b2 : But t H (upd H1 t (.lst [.int (n / 40)])) := (But.of s1).put
    have t2 : (upd H1 t (.lst [.int (n / 40)])) t = some (.lst [.int (n / 40)]) := upd_same
    have d2 : (upd H1 t (.lst [.int (n / 40)])) D = some (.lst (((al.filter fun p => decide (p.2 = kind)).map (·.1)).map V.str)) := by
      rw [upd_ne nD]
      exact d1
    have a2 : (upd H1 t (.lst [.int (n / 40)])) ar = some (.lst xs) := by
      rw [upd_ne hne]
      exact s1 _ _ ha
    have x2 : DpAll K (upd H1 t (.lst [.int (n / 40)])) xs (al.map prD) := dpAll_tk (b2.tk ht) (imm_prs al) hx
    generalize upd H1 t (.lst [.int (n / 40)]) = H2 at b2 t2 d2 a2 x2 ⊢
    refine ite2 (fun e => ?_) (fun e => ?_)
    · have q2 := q' (al.map (·.1)) (by unfold pickL; rw [if_pos (int_eq_of e)])
      refine ⟨_, rfl, ar, rfl, ⟨_, .inl (.inl a2)⟩, fun D2 hD2 => ?_⟩
      refine lc_list (K := K) (a := ar) (xs := xs) (fun i H' => Same H2 H' ∧ H' D2 = some (.lst (((al.take i).map (·.1)).map V.str))) ⟨same_upd hD2, upd_same⟩ (fun i H' _ h => .inl (.inl (h.1 _ _ a2))) ?_ ?_
      · intro i v H' hv hp
        obtain ⟨s3, d3⟩ := hp
        obtain ⟨p, b, hpi, rfl, hb⟩ := Prs.at x2 hv
        have hi : i < al.length := (List.getElem?_eq_some_iff.mp hpi).1
        refine ⟨b, _, rfl, Same.seqT s3 hb, rfl, _, _, rfl, _, _, rfl, rfl, rfl, ?_⟩
        refine lcYes ?_
        refine ⟨_, rfl, _, d3, ?_, same_put s3 hD2, ?_⟩
        · rw [List.length_map, List.length_map]
          exact small1000 (by have := List.length_take_le i al; omega)
        · rw [upd_same, List.take_add_one, hpi]
          simp
      intro H3 hp
      obtain ⟨s3, d3⟩ := hp
      rw [hl, List.take_length] at d3
      have b3 := b2.trans (But.of s3)
      have t3 := s3 _ _ t2
      have lL : (al.map (·.1)).length ≤ 500 := by
        rw [List.length_map]
        exact hz
      clear q' d2 a2 x2 s3 hD2 b2 t2 nD d1 s1 hD hx ha hF e
      generalize al.map (·.1) = L at q2 d3 lL
      generalize D2 = D at d3 ⊢
      refine ⟨_, rfl, by show 0 ≤ sizeLine; decide, fun p hp => ?_⟩
      refine ⟨.list (L.map .str), .list [], .lst (.inl (.inl (same_upd hp _ _ d3))) (dpAll_strs L), .lst (.inl (.inl upd_same)) .nil, plain_strs L, rfl, ?_, _, rfl, ?_⟩
      · show min _ (PyData.depthAll [] + 1) ≤ 1
        exact Nat.min_le_right _ _
      rw [eqv_strs_nil]
      refine ite2 (fun e => ?_) (fun e => ?_)
      · have eL := of_decide_eq_true e
        rw [eL] at q2
        exact q2 _ (b3.alloc hp) (same_upd hp _ _ t3)
      have eL : ¬ L = [] := fun z => e (decide_eq_true z)
      rw [if_neg eL] at q2
      have hpos : 0 < L.length := List.length_pos_iff.mpr eL
      have d4 := same_upd (o := HO.lst []) hp _ _ d3
      have t4 := same_upd (o := HO.lst []) hp _ _ t3
      have b4 := b3.alloc (o := HO.lst []) hp
      generalize upd H3 p (.lst []) = H4 at d4 t4 b4 ⊢
      have m1 : 0 ≤ n / 40 % ((min L.length 5 : Nat) : Int) := Int.emod_nonneg _ (by omega)
      have m2 : n / 40 % ((min L.length 5 : Nat) : Int) < ((min L.length 5 : Nat) : Int) := Int.emod_lt_of_pos _ (by omega)
      refine ⟨_, rfl, _, rfl, D, _, rfl, .inl (.inl (.inl d4)), _, _, rfl, rfl, _, rfl, _, rfl, D, _, rfl, .inl (.inl (.inl d4)), _, _, rfl, t, n / 40, ((min L.length 5 : Nat) : Int), ?_, t4, by omega, by omega, ?_⟩
      · rw [List.length_map]
        show [V.ref t, V.int (if 5 < (L.length : Int) then 5 else (L.length : Int))] = [V.ref t, V.int ((min L.length 5 : Nat) : Int)]
        rw [show (if 5 < (L.length : Int) then 5 else (L.length : Int)) = ((min L.length 5 : Nat) : Int) by split <;> omega]
      have nDt : D ≠ t := fun z => by
        rw [z, t4] at d4
        cases L with
        | nil => exact eL rfl
        | cons x r => cases d4
      refine ⟨_, _, rfl, rfl, D, _, _, .str (L.getD (L.length - 1 - (n / 40 % ((min L.length 5 : Nat) : Int)).toNat) ""), rfl, rfl, .inl (.inl (by rw [upd_ne nDt]; exact d4)), ?_, q2 _ b4.put upd_same⟩
      rw [List.length_map]
      show atI _ ((L.length : Int) - 1 - n / 40 % ((min L.length 5 : Nat) : Int)) = _
      rw [show ((L.length : Int) - 1 - n / 40 % ((min L.length 5 : Nat) : Int)) = ((L.length - 1 - (n / 40 % ((min L.length 5 : Nat) : Int)).toNat : Nat) : Int) by omega]
      refine atI_nat ?_
      rw [List.getElem?_map, List.getD_eq_getElem?_getD, List.getElem?_eq_getElem (by omega)]
      rfl
    · have q2 := q' ((al.filter fun p => decide (p.2 = kind)).map (·.1)) (by unfold pickL; rw [if_neg (int_ne_of e)])
      have lL : ((al.filter fun p => decide (p.2 = kind)).map (·.1)).length ≤ 500 := by
        rw [List.length_map]
        exact Nat.le_trans (List.length_filter_le _ _) hz
      have d3 := d2
      have b3 := b2
      have t3 := t2
      clear q' d2 a2 x2 b2 t2 nD d1 s1 hD hx ha hF e
      generalize ((al.filter fun p => decide (p.2 = kind)).map (·.1)) = L at q2 d3 lL
      generalize H2 = H3 at b3 t3 d3 ⊢
      refine ⟨_, rfl, by show 0 ≤ sizeLine; decide, fun p hp => ?_⟩
      refine ⟨.list (L.map .str), .list [], .lst (.inl (.inl (same_upd hp _ _ d3))) (dpAll_strs L), .lst (.inl (.inl upd_same)) .nil, plain_strs L, rfl, ?_, _, rfl, ?_⟩
      · show min _ (PyData.depthAll [] + 1) ≤ 1
        exact Nat.min_le_right _ _
      rw [eqv_strs_nil]
      refine ite2 (fun e => ?_) (fun e => ?_)
      · have eL := of_decide_eq_true e
        rw [eL] at q2
        exact q2 _ (b3.alloc hp) (same_upd hp _ _ t3)
      have eL : ¬ L = [] := fun z => e (decide_eq_true z)
      rw [if_neg eL] at q2
      have hpos : 0 < L.length := List.length_pos_iff.mpr eL
      have d4 := same_upd (o := HO.lst []) hp _ _ d3
      have t4 := same_upd (o := HO.lst []) hp _ _ t3
      have b4 := b3.alloc (o := HO.lst []) hp
      generalize upd H3 p (.lst []) = H4 at d4 t4 b4 ⊢
      have m1 : 0 ≤ n / 40 % ((min L.length 5 : Nat) : Int) := Int.emod_nonneg _ (by omega)
      have m2 : n / 40 % ((min L.length 5 : Nat) : Int) < ((min L.length 5 : Nat) : Int) := Int.emod_lt_of_pos _ (by omega)
      refine ⟨_, rfl, _, rfl, D, _, rfl, .inl (.inl (.inl d4)), _, _, rfl, rfl, _, rfl, _, rfl, D, _, rfl, .inl (.inl (.inl d4)), _, _, rfl, t, n / 40, ((min L.length 5 : Nat) : Int), ?_, t4, by omega, by omega, ?_⟩
      · rw [List.length_map]
        show [V.ref t, V.int (if 5 < (L.length : Int) then 5 else (L.length : Int))] = [V.ref t, V.int ((min L.length 5 : Nat) : Int)]
        rw [show (if 5 < (L.length : Int) then 5 else (L.length : Int)) = ((min L.length 5 : Nat) : Int) by split <;> omega]
      have nDt : D ≠ t := fun z => by
        rw [z, t4] at d4
        cases L with
        | nil => exact eL rfl
        | cons x r => cases d4
      refine ⟨_, _, rfl, rfl, D, _, _, .str (L.getD (L.length - 1 - (n / 40 % ((min L.length 5 : Nat) : Int)).toNat) ""), rfl, rfl, .inl (.inl (by rw [upd_ne nDt]; exact d4)), ?_, q2 _ b4.put upd_same⟩
      rw [List.length_map]
      show atI _ ((L.length : Int) - 1 - n / 40 % ((min L.length 5 : Nat) : Int)) = _
      rw [show ((L.length : Int) - 1 - n / 40 % ((min L.length 5 : Nat) : Int)) = ((L.length - 1 - (n / 40 % ((min L.length 5 : Nat) : Int)).toNat : Nat) : Int) by omega]
      refine atI_nat ?_
      rw [List.getElem?_map, List.getD_eq_getElem?_getD, List.getElem?_eq_getElem (by omega)]
      rfl
end
end SP

namespace SP
open PySem PySem.Spec PyProof.Rows L2
open C8 (pss_cut tCut)
/-! ### what is known: shapes, errands, words -/
def trD (e : Str × Str × Str) : PyData := .tuple [.str e.1, .str e.2.1, .str e.2.2]
theorem imm_trs (al : List (Str × Str × Str)) : immAll (al.map trD) = true := by
  induction al with
  | nil => rfl
  | cons p al ih =>
    show (imm (trD p) && immAll (al.map trD)) = true
    rw [ih]
    rfl
abbrev knL (sh er lw : Addr) : List (Key × V) := [(Sum.inr "shapes", .ref sh), (Sum.inr "errands", .ref er), (Sum.inr "words", .ref lw)]
theorem kn_shapes (sh er lw : Addr) : valV (knL sh er lw) (Sum.inr "shapes") = some (.ref sh) := rfl
theorem kn_errands (sh er lw : Addr) : valV (knL sh er lw) (Sum.inr "errands") = some (.ref er) := rfl
theorem kn_words (sh er lw : Addr) : valV (knL sh er lw) (Sum.inr "words") = some (.ref lw) := rfl
structure Kno (K : PySem.W.Frag) (H : Hp) (kn sh er : Addr) (sl : List (Str × Str)) (el : List (Str × Str × Str)) : Prop where
  dk : ∃ lw, H kn = some (.dK (knL sh er lw))
  shp : Prs K H sh sl
  err : ∃ xs, H er = some (.lst xs) ∧ DpAll K H xs (el.map trD)
theorem Kno.kp {K : PySem.W.Frag} {H H' : Hp} {kn sh er : Addr} {sl : List (Str × Str)} {el : List (Str × Str × Str)} {M : Addr → Prop} (h : Kno K H kn sh er sl el) (s : Kp M H H') (t : Tk H H') (h1 : ¬ M kn) (h2 : ¬ M sh) (h3 : ¬ M er) : Kno K H' kn sh er sl el := by
  obtain ⟨⟨lw, d⟩, p, xs, e1, e2⟩ := h
  exact ⟨⟨lw, s _ _ h1 d⟩, p.kp s t h2, xs, s _ _ h3 e1, dpAll_tk t (imm_trs el) e2⟩
theorem Kno.same {K : PySem.W.Frag} {H H' : Hp} {kn sh er : Addr} {sl : List (Str × Str)} {el : List (Str × Str × Str)} (h : Kno K H kn sh er sl el) (s : Same H H') : Kno K H' kn sh er sl el := h.kp (M := fun _ => False) (Kp.of s) (Tk.of s) id id id
theorem But.kp {t : Addr} {H H1 : Hp} (a : But t H H1) : Kp (fun b => b = t) H H1 := fun b o n e => a b o n e
/-! ### _law_leaf -/
def kind1F (n : Int) (kind : Str) : Str := if n % 12 = 1 then (if kind = "n" then ("b" : Str) else "n") else kind
def leafL (sl : List (Str × Str)) (el : List (Str × Str × Str)) (kind : Str) : List (Str × Str × Str) :=
  ((el.filter fun e => decide (e.2.2 = kind)).map fun e => (("ask" : Str), e.1, e.2.1)) ++ (if kind = "b" then sl.map fun s => (("box" : Str), s.1, s.2) else [(("plus" : Str), ("" : Str), ("nn" : Str)), ("less", "", "nn"), ("number", "", "")])
def picksF (al : List (Str × Str)) : Int → List Nat → List (Option Str) × Int
  | n, [] => ([], n)
  | n, c :: r => ((pickF n al ⟨#[c]⟩).1 :: (picksF al (pickF n al ⟨#[c]⟩).2 r).1, (picksF al (pickF n al ⟨#[c]⟩).2 r).2)
theorem picks_snoc (al : List (Str × Str)) : ∀ (l : List Nat) (n : Int) (c : Nat), picksF al n (l ++ [c]) = ((picksF al n l).1 ++ [(pickF (picksF al n l).2 al ⟨#[c]⟩).1], (pickF (picksF al n l).2 al ⟨#[c]⟩).2)
  | [], n, c => rfl
  | b :: l, n, c => by
    show ((pickF n al ⟨#[b]⟩).1 :: (picksF al (pickF n al ⟨#[b]⟩).2 (l ++ [c])).1, (picksF al (pickF n al ⟨#[b]⟩).2 (l ++ [c])).2) = _
    rw [picks_snoc al l _ c]
    rfl
theorem picks_len (al : List (Str × Str)) : ∀ (l : List Nat) (n : Int), (picksF al n l).1.length = l.length
  | [], _ => rfl
  | c :: l, n => congrArg (· + 1) (picks_len al l _)
def leafEnd (c : Str × Str × Str) (way : Int) (x : Option Str) (names : List (Option Str)) (kind : Str) (sl : List (Str × Str)) (n : Int) : PyData × Int :=
  if x ≠ none ∧ (way = 0 ∨ none ∈ names) then (.tuple [.str "name", .str (x.getD "")], n)
  else if c.1 = "number" ∨ (none ∈ names ∧ kind = "n") then (.tuple [.str "number", .int (numberF n).1], (numberF n).2)
  else if none ∈ names then (.tuple [.str "box", .str (sl.getD 0 ("", "")).1, .tuple []], n)
  else if c.2.1 = "" then (.tuple (.str c.1 :: names.map fun o => .str (o.getD "")), n)
  else (.tuple [.str c.1, .str c.2.1, .tuple (names.map fun o => .str (o.getD ""))], n)
def leafC (n : Int) (sl : List (Str × Str)) (el : List (Str × Str × Str)) (kind : Str) : Str × Str × Str :=
  (leafL sl el (kind1F n kind)).getD (n / 12 / 3 % ((leafL sl el (kind1F n kind)).length : Int)).toNat ("", "", "")
def leafN (n : Int) (sl : List (Str × Str)) (el : List (Str × Str × Str)) (kind : Str) : Int := n / 12 / 3 / ((leafL sl el (kind1F n kind)).length : Int)
def leafF (n : Int) (sl : List (Str × Str)) (el : List (Str × Str × Str)) (al : List (Str × Str)) (kind : Str) : PyData × Int :=
  leafEnd (leafC n sl el kind) (n / 12 % 3) (pickF (leafN n sl el kind) al (kind1F n kind)).1 (picksF al (pickF (leafN n sl el kind) al (kind1F n kind)).2 (leafC n sl el kind).2.2.cps.toList).1 (kind1F n kind) sl
    (picksF al (pickF (leafN n sl el kind) al (kind1F n kind)).2 (leafC n sl el kind).2.2.cps.toList).2
theorem in_none (names : List (Option Str)) : inV .non (names.map optV) = decide (none ∈ names) := by
  induction names with
  | nil => rfl
  | cons x r ih =>
    show (eqV (optV x) .non || inV .non (r.map optV)) = _
    rw [ih]
    cases x with
    | none => simp [optV, eqV]
    | some y =>
      show (false || decide (none ∈ r)) = _
      simp
theorem flat_opts (names : List (Option Str)) : (names.map optV).all flatV = true := by
  induction names with
  | nil => rfl
  | cons x r ih =>
    show (flatV (optV x) && (r.map optV).all flatV) = true
    rw [ih]
    cases x <;> rfl
theorem dp_opts {K : PySem.W.Frag} {H : Hp} : ∀ (names : List (Option Str)), ¬ none ∈ names → DpAll K H (names.map optV) (names.map fun o => .str (o.getD ""))
  | [], _ => .nil
  | none :: r, h => absurd List.mem_cons_self h
  | some x :: r, h => .cons (.str x) (dp_opts r fun z => h (List.mem_cons_of_mem _ z))
theorem tr_at {K : PySem.W.Frag} {H : Hp} {el : List (Str × Str × Str)} {xs : List V} {i : Nat} {v : V} (h2 : DpAll K H xs (el.map trD)) (e : xs[i]? = some v) : ∃ p b, el[i]? = some p ∧ v = .ref b ∧ SqT K H b [.str p.1, .str p.2.1, .str p.2.2] := by
  obtain ⟨d, e1, e2⟩ := dpAll_at h2 e
  rw [List.getElem?_map] at e1
  obtain ⟨p, hp, rfl⟩ := Option.map_eq_some_iff.mp e1
  obtain ⟨b, ys, rfl, e3, e4⟩ := dp_tup e2
  have := strs_of [p.1, p.2.1, p.2.2] e4
  subst this
  exact ⟨p, b, hp, rfl, e3⟩
theorem dp_tr {K : PySem.W.Frag} {H : Hp} {b : Addr} (p : Str × Str × Str) (h : SqT K H b [.str p.1, .str p.2.1, .str p.2.2]) : Dp K H (.ref b) (trD p) := .tup h (dpAll_strs [p.1, p.2.1, p.2.2])
theorem leafL_ok (sl : List (Str × Str)) (el : List (Str × Str × Str)) (k1 : Str) (hsl : sl ≠ []) (l2 : sl.length ≤ 100) (l3 : el.length ≤ 100) (he9 : ∀ e ∈ el, e.2.1.length ≤ 9) (hs9 : ∀ s ∈ sl, s.2.length ≤ 9) :
    leafL sl el k1 ≠ [] ∧ (leafL sl el k1).length ≤ 210 ∧ ∀ c ∈ leafL sl el k1, c.2.2.length ≤ 9 := by
  have lf := List.length_filter_le (fun e : Str × Str × Str => decide (e.2.2 = k1)) el
  have hp : 0 < sl.length := List.length_pos_iff.mpr hsl
  unfold leafL
  refine ⟨?_, ?_, ?_⟩
  · intro z
    have := congrArg List.length z
    simp only [List.length_append, List.length_nil] at this
    split at this
    · simp only [List.length_map] at this
      omega
    · simp at this
  · rw [List.length_append, List.length_map]
    split
    · rw [List.length_map]
      exact Nat.le_trans (Nat.add_le_add (Nat.le_trans lf l3) l2) (by decide)
    · exact Nat.le_trans (Nat.add_le_add_right (Nat.le_trans lf l3) 3) (by decide)
  · intro c hc
    rcases List.mem_append.mp hc with h | h
    · obtain ⟨e, h1, rfl⟩ := List.mem_map.mp h
      exact he9 e (List.mem_filter.mp h1).1
    · split at h
      · obtain ⟨s, h1, rfl⟩ := List.mem_map.mp h
        exact hs9 s h1
      · simp only [List.mem_cons, List.not_mem_nil, or_false] at h
        rcases h with rfl | rfl | rfl <;> decide
section
variable {P : Program} {w : World} {K : PySem.W.Frag} {mg : Str → Option Value} {base : Heap}
def spLeaf (K : PySem.W.Frag) : Sp := fun vs H Q _ => ∃ (t kn sh er ar : Addr) (n : Int) (sl al : List (Str × Str)) (el : List (Str × Str × Str)) (kind : Str), vs = [.ref t, .ref kn, .ref ar, .str kind] ∧ (kind = "n" ∨ kind = "b") ∧
  H t = some (.lst [.int n]) ∧ Kno K H kn sh er sl el ∧ Prs K H ar al ∧ kn ≠ t ∧ sh ≠ t ∧ er ≠ t ∧ ar ≠ t ∧ al.length ≤ 500 ∧ sl.length ≤ 100 ∧ el.length ≤ 100 ∧ sl ≠ [] ∧ (∀ e ∈ el, e.2.1.length ≤ 9) ∧ (∀ s ∈ sl, s.2.length ≤ 9) ∧
  ∀ (H' : Hp) (v : V), But t H H' → H' t = some (.lst [.int (leafF n sl el al kind).2]) → Dp K H' v (leafF n sl el al kind).1 → Q v H'
theorem ok_law_leaf {f : Addr} {fd : FuncData} (F : Fun K "_law_leaf" "_law_leaf" s_law_leaf f fd) (T : Txt mg) (C_law_digit : Callee P w K mg base "_law_digit" ["tape", "many"] 1 (spDigit K)) (C_law_pick : Callee P w K mg base "_law_pick" ["tape", "around", "kind"] 2 (spPick K)) (C_law_number : Callee P w K mg base "_law_number" ["tape"] 2 (spNumber K)) : FnOk P w K mg base CX0 3 f fd ["tape", "known", "around", "kind"] (spLeaf K) := by
  refine F.ok sc_law_leaf (fun vs H Q E h => ?_) (fun cdv A outer s H vs Q E hr h => ?_)
  · obtain ⟨t, kn, sh, er, ar, n, sl, al, el, kind, rfl, _⟩ := h
    rfl
  · obtain ⟨t, kn, sh, er, ar, n, sl, al, el, kind, rfl, hk, ht, kno, prs, n1, n2, n3, n4, l1, l2, l3, hsl, he9, hs9, q⟩ := h
    refine ⟨_, (pss_cut (ps_if (pt_cmpR op_eq (pe_fn C_law_digit hr (by rfl) (pa_cons (pv 0) (pa_cons pe_int pa_nil))) pe_int (nomark _)) (pss_one (ps_set (i := 3) sc_law_leaf.nd rfl (Or.inr rfl) (pe_item_str pe_str (pe_callTy call_int1 (by rfl) T.n_int (by decide +kernel) (pa_cons (pe_cmpR op_eq (pv 3) pe_str (nomark _)) pa_nil)) (fun _ _ => rfl)))) pss_nil)
      (pss_cons (ps_setLc (i := 4) (own := [("one", 11)]) (g := gName 11) rfl sc_law_leaf.nd rfl rfl (sw_true rfl rfl rfl (by decide +kernel)) (pi_list (pe_dget (hu_of hr) (pv 1) pe_str (fun _ _ => rfl))) (blkOk_by (own := [("one", 11)]) (N := ["tape", "known", "around", "kind", "some", "way", "word", "w", "kinds", "x", "names", "one"]) (sc := defScope s_law_leaf) (by decide +kernel)) (fun _ _ _ _ _ => (pg_name (i := 11) sc_law_leaf.nd rfl (Or.inl rfl))) (fun _ _ _ _ _ => (pts_one (pt_cmpR op_eq (pe_ix (r := rIxT K) ix_tup (pv 11) pe_int (fun _ _ => rfl)) (pv 3) (nomark _)))) (fun _ _ _ _ _ => (pe_op (r := rCatA K) op_catA (pe_tup (pa_cons pe_str pa_nil)) (pe_slice (r := rSlT K) sl_tup (pv 11) po_none (po_some pe_int)))))
      (pss_cut (ps_if (pt_cmpR op_eq (pv 3) pe_str (nomark _)) (pss_one (ps_set (i := 4) sc_law_leaf.nd rfl (Or.inl rfl) (pe_op op_cat (pv 4) (pe_lc (own := [("w", 7), ("kinds", 8)]) (g := gTup K 2 (gCons (gName 7) (gCons (gName 8) gNil))) (tt := tYes) rfl sc_law_leaf.nd (pi_list (pe_dget (hu_of hr) (pv 1) pe_str (fun _ _ => rfl))) (blkOk_by (own := [("w", 7), ("kinds", 8)]) (N := ["tape", "known", "around", "kind", "some", "way", "word", "w", "kinds", "x", "names", "one"]) (sc := defScope s_law_leaf) (by decide +kernel)) (fun _ _ _ _ _ => (pg_tup rfl (pgs_cons (pg_name (i := 7) sc_law_leaf.nd rfl (Or.inl rfl)) (pgs_cons (pg_name (i := 8) sc_law_leaf.nd rfl (Or.inl rfl)) pgs_nil)))) (fun _ _ _ _ _ => pts_nil) (fun _ _ _ _ _ => (pe_tup (pa_cons pe_str (pa_cons (pv 7) (pa_cons (pv 8) pa_nil))))))))) (pss_one (ps_set (i := 4) sc_law_leaf.nd rfl (Or.inl rfl) (pe_op op_cat (pv 4) (pe_lst (pa_cons (pe_tup (pa_cons pe_str (pa_cons pe_str (pa_cons pe_str pa_nil)))) (pa_cons (pe_tup (pa_cons pe_str (pa_cons pe_str (pa_cons pe_str pa_nil)))) (pa_cons (pe_tup (pa_cons pe_str (pa_cons pe_str (pa_cons pe_str pa_nil)))) pa_nil))))))))
      (pss_cons (ps_set (i := 5) sc_law_leaf.nd rfl (Or.inl rfl) (pe_fn C_law_digit hr (by rfl) (pa_cons (pv 0) (pa_cons pe_int pa_nil))))
      (pss_cons (ps_asg (pe_ix (r := rIxL K) ix_list (pv 4) (pe_fn C_law_digit hr (by rfl) (pa_cons (pv 0) (pa_cons (pe_callB (r := rLenS K) call_lenS (by rfl) T.n_len (by decide +kernel) (pa_cons (pv 4) pa_nil)) pa_nil))) (fun _ _ => rfl)) (pg_tup rfl (pgs_cons (pg_name (i := 6) sc_law_leaf.nd rfl (Or.inl rfl)) (pgs_cons (pg_name (i := 7) sc_law_leaf.nd rfl (Or.inl rfl)) (pgs_cons (pg_name (i := 8) sc_law_leaf.nd rfl (Or.inl rfl)) pgs_nil)))))
      (pss_cons (ps_set (i := 9) sc_law_leaf.nd rfl (Or.inl rfl) (pe_fn C_law_pick hr (by rfl) (pa_cons (pv 0) (pa_cons (pv 2) (pa_cons (pv 3) pa_nil)))))
      (pss_cons (ps_set (i := 10) sc_law_leaf.nd rfl (Or.inl rfl) (pe_callTy (r := rTupleS K) call_tupleS (by rfl) T.n_tuple (by decide +kernel) (pa_cons (pe_lc (own := [("one", 11)]) (g := gName 11) (tt := tYes) rfl sc_law_leaf.nd (pi_str (pv 8)) (blkOk_by (own := [("one", 11)]) (N := ["tape", "known", "around", "kind", "some", "way", "word", "w", "kinds", "x", "names", "one"]) (sc := defScope s_law_leaf) (by decide +kernel)) (fun _ _ _ _ _ => (pg_name (i := 11) sc_law_leaf.nd rfl (Or.inl rfl))) (fun _ _ _ _ _ => pts_nil) (fun _ _ _ _ _ => (pe_fn C_law_pick hr (by rfl) (pa_cons (pv 0) (pa_cons (pv 2) (pa_cons (pv 11) pa_nil)))))) pa_nil)))
      (pss_cons (ps_if (PW.pt (pw_and (pt_cmp (pc_notN (pv 9))) (pw_and1 (PW.pt (pw_or (pt_cmpR op_eq (pv 5) pe_int (nomark _)) (pw_or1 (pt_cmpR (r := rIn K false) op_in_seq pe_non (pv 10) rfl))))))) (pss_one (ps_ret (pe_tup (pa_cons pe_str (pa_cons (pv 9) pa_nil))))) pss_nil)
      (pss_cons (ps_if (PW.pt (pw_or (pt_cmpR op_eq (pv 6) pe_str (nomark _)) (pw_or1 (PW.pt (pw_and (pt_cmpR (r := rIn K false) op_in_seq pe_non (pv 10) rfl) (pw_and1 (pt_cmpR op_eq (pv 3) pe_str (nomark _)))))))) (pss_one (ps_ret (pe_tup (pa_cons pe_str (pa_cons (pe_fn C_law_number hr (by rfl) (pa_cons (pv 0) pa_nil)) pa_nil))))) pss_nil)
      (pss_cons (ps_if (pt_cmpR (r := rIn K false) op_in_seq pe_non (pv 10) rfl) (pss_one (ps_ret (pe_tup (pa_cons pe_str (pa_cons (pe_ix (r := rIxT K) ix_tup (pe_ix (r := rIxL K) ix_list (pe_dget (hu_of hr) (pv 1) pe_str (fun _ _ => rfl)) pe_int (fun _ _ => rfl)) pe_int (fun _ _ => rfl)) (pa_cons (pe_tup pa_nil) pa_nil)))))) pss_nil)
      (pss_cons (ps_if (pt_cmpR op_eq (pv 7) pe_str (nomark _)) (pss_one (ps_ret (pe_op (r := rCatA K) op_catA (pe_tup (pa_cons (pv 6) pa_nil)) (pv 10)))) pss_nil)
      (pss_one (ps_ret (pe_tup (pa_cons (pv 6) (pa_cons (pv 7) (pa_cons (pv 10) pa_nil))))))))))))))))), ?_⟩
    -- kind
    have hk1 : kind1F n kind = "n" ∨ kind1F n kind = "b" := by
      unfold kind1F
      split
      · split
        · exact .inr rfl
        · exact .inl rfl
      · exact hk
    refine ⟨fun σ' H' => σ' = [some (.ref t), some (.ref kn), some (.ref ar), some (.str (kind1F n kind)), none, none, none, none, none, none, none, none] ∧ H' = upd H t (.lst [.int (n / 12)]), ?_, ?_⟩
    · refine ⟨_, rfl, t, n, 12, rfl, ht, by decide, by decide, rfl, _, rfl, ite2 (fun e => ?_) (fun e => ?_)⟩
      · have e1 : kind1F n kind = if kind = "n" then ("b" : Str) else "n" := by
          unfold kind1F
          rw [if_pos (int_eq_of e)]
        rcases hk with rfl | rfl
        · exact ⟨_, rfl, rfl, .inr ⟨_, rfl, "nb", _, 98, rfl, rfl, by decide, by decide, by decide, by decide +kernel, by rw [e1]; rfl, rfl⟩⟩
        · exact ⟨_, rfl, rfl, .inr ⟨_, rfl, "nb", _, 110, rfl, rfl, by decide, by decide, by decide, by decide +kernel, by rw [e1]; rfl, rfl⟩⟩
      · have e1 : kind1F n kind = kind := by
          unfold kind1F
          rw [if_neg (int_ne_of e)]
        exact ⟨by rw [e1]; rfl, rfl⟩
    rintro _ _ ⟨rfl, rfl⟩
    unfold leafF leafC leafN at q
    generalize kind1F n kind = k1 at q hk1 ⊢
    generalize n / 12 = m at q ⊢
    clear hk
    have b1 : But t H (upd H t (.lst [.int m])) := (But.refl t H).put
    have t1 : (upd H t (.lst [.int m])) t = some (.lst [.int m]) := upd_same
    have kno1 := kno.kp b1.kp (b1.tk ht) n1 n2 n3
    have prs1 := prs.kp b1.kp (b1.tk ht) n4
    generalize upd H t (.lst [.int m]) = H1 at b1 t1 kno1 prs1 ⊢
    obtain ⟨⟨lw, dk⟩, ⟨xsh, sh1, sh2⟩, xer, er1, er2⟩ := id kno1
    have ler : xer.length = el.length := by rw [dpAll_len er2, List.length_map]
    have lsh : xsh.length = sl.length := by rw [dpAll_len sh2, List.length_map]
    -- asks of that kind
    refine ⟨_, rfl, kn, .ref er, rfl, DGet.k (k := Sum.inr "errands") dk, er, rfl, ⟨_, .inl (.inl er1)⟩, fun D hD => ?_⟩
    refine comp_dp (K := K) (a := er) (xs := xer) (fun i => (((el.take i).filter fun e => decide (e.2.2 = k1)).map fun e => (("ask" : Str), e.1, e.2.1)).map trD) (.inl (.inl er1)) hD (by omega) rfl (fun i => imm_trs _) ?_ ?_
    · intro i v H' Y N hv s1 hY hN
      obtain ⟨p, b, hpi, rfl, hb⟩ := tr_at er2 hv
      have hi : i < el.length := (List.getElem?_eq_some_iff.mp hpi).1
      have hb' := Same.seqT s1 hb
      refine ⟨rfl, _, rfl, b, _, 2, .str p.2.2, rfl, rfl, hb', atI_nat (j := 2) rfl, _, rfl, rfl, _, rfl, ?_⟩
      rw [dec_str]
      refine ite2 (fun e => ?_) (fun e => ?_)
      · refine ⟨by show 1 ≤ sizeLine; decide, fun p1 h1 => ⟨_, rfl, 2, rfl, b, _, rfl, Same.seqT (same_upd h1) hb', by show ¬ (0 = 0 ∧ 2 = 3); decide, fun p2 h2 => ?_⟩⟩
        refine ⟨p1, p2, [.str "ask"], [.str p.1, .str p.2.1], rfl, rfl, Same.seqT (same_upd h2) (.inl (.inl upd_same)), .inl (.inl upd_same), by show 3 ≤ sizeLine; decide, fun z => (by cases z), fun _ z => (by cases z), fun _ _ p3 h3 => ?_⟩
        refine hY _ _ (trD ("ask", p.1, p.2.1)) ((same_upd h1).trans ((same_upd h2).trans (same_upd h3))) (dp_tr ("ask", p.1, p.2.1) (.inl (.inl upd_same))) ?_
        show (((el.take (i + 1)).filter _).map _).map trD = _
        rw [List.take_add_one, hpi, List.filter_append]
        show ((((_ : List (Str × Str × Str)) ++ List.filter _ [p]).map _).map trD) = _
        rw [List.filter_cons_of_pos (by exact e)]
        simp
      · refine hN _ (Same.refl _) ?_
        show (((el.take (i + 1)).filter _).map _).map trD = _
        rw [List.take_add_one, hpi, List.filter_append]
        show ((((_ : List (Str × Str × Str)) ++ List.filter _ [p]).map _).map trD) = _
        rw [List.filter_cons_of_neg (by exact e)]
        simp
    intro H2 ys s2 d2 p2
    rw [ler, List.take_length] at p2
    have b2 := b1.trans (But.of s2)
    have t2 := s2 _ _ t1
    have kno2 := kno1.same s2
    have prs2 := prs1.same s2
    have dk2 := s2 _ _ dk
    have sh12 := s2 _ _ sh1
    have sh22 := dpAll_mono s2 sh2
    have lys : ys.length ≤ 100 := by
      rw [dpAll_len p2, List.length_map, List.length_map]
      exact Nat.le_trans (List.length_filter_le _ _) l3
    clear b1 t1 kno1 prs1 er1 er2 s2 hD dk sh1 sh2
    -- boxes, or sums and numbers
    refine ⟨fun σ' H' => ∃ (D4 : Addr) (ys4 : List V), σ' = [some (.ref t), some (.ref kn), some (.ref ar), some (.str k1), some (.ref D4), none, none, none, none, none, none, none] ∧ Same H2 H' ∧ D4 ≠ t ∧ H' D4 = some (.lst ys4) ∧ DpAll K H' ys4 ((leafL sl el k1).map trD), ?_, ?_⟩
    · refine ⟨_, rfl, rfl, _, rfl, ?_⟩
      rw [dec_str]
      refine ite2 (fun e => ?_) (fun e => ?_)
      · refine ⟨_, rfl, _, rfl, kn, .ref sh, rfl, DGet.k (k := Sum.inr "shapes") dk2, sh, rfl, ⟨_, .inl (.inl sh12)⟩, fun D3 hD3 => ?_⟩
        refine comp_dp (K := K) (a := sh) (xs := xsh) (fun i => ((sl.take i).map fun s => (("box" : Str), s.1, s.2)).map trD) (.inl (.inl sh12)) hD3 (by omega) rfl (fun i => imm_trs _) ?_ ?_
        · intro i v H' Y N hv s3 hY hN
          obtain ⟨p, b, hpi, rfl, hb⟩ := Prs.at sh22 hv
          refine ⟨b, _, rfl, Same.seqT s3 hb, rfl, _, _, rfl, _, _, rfl, rfl, rfl, ?_⟩
          refine lcYes ?_
          refine ⟨_, rfl, _, rfl, by show 3 ≤ sizeLine; decide, fun p3 h3 => hY _ _ (trD ("box", p.1, p.2)) (same_upd h3) (dp_tr ("box", p.1, p.2) (.inl (.inl upd_same))) ?_⟩
          show ((sl.take (i + 1)).map _).map trD = _
          rw [List.take_add_one, hpi]
          simp
        intro H3 ys3 s3 d3 p3
        rw [lsh, List.take_length] at p3
        have ly3 : ys3.length = sl.length := by rw [dpAll_len p3, List.length_map, List.length_map]
        refine ⟨D, D3, ys, ys3, rfl, rfl, s3 _ _ d2, d3, Nat.le_trans (Nat.add_le_add lys (Nat.le_trans (Nat.le_of_eq ly3) l2)) (by decide), fun p4 h4 => ?_⟩
        have s4 := s3.trans (same_upd (o := HO.lst (ys ++ ys3)) h4)
        refine ⟨p4, _, rfl, s4, ne_t (s3 _ _ t2) h4, upd_same, ?_⟩
        unfold leafL
        rw [if_pos (of_decide_eq_true e), List.map_append]
        exact dpAll_append (dpAll_mono s4 p2) (dpAll_mono (same_upd h4) p3)
      · refine ⟨_, rfl, by show 3 ≤ sizeLine; decide, fun p3 h3 => ⟨by show 3 ≤ sizeLine; decide, fun p4 h4 => ⟨by show 3 ≤ sizeLine; decide, fun p5 h5 => ⟨by show 3 ≤ sizeLine; decide, fun p6 h6 => ?_⟩⟩⟩⟩
        have s6 := ((same_upd h3).trans (same_upd h4)).trans ((same_upd (o := HO.tup [.str "number", .str "", .str ""]) h5).trans (same_upd (o := HO.lst [.ref p3, .ref p4, .ref p5]) h6))
        refine ⟨D, p6, ys, _, rfl, rfl, s6 _ _ d2, upd_same, Nat.le_trans (Nat.add_le_add_right lys 3) (by decide), fun p7 h7 => ?_⟩
        refine ⟨p7, _, rfl, s6.trans (same_upd h7), ne_t (s6 _ _ t2) h7, upd_same, ?_⟩
        unfold leafL
        rw [if_neg (fun z => e (decide_eq_true z)), List.map_append]
        refine dpAll_append (dpAll_mono (s6.trans (same_upd h7)) p2) (dpAll_mono (same_upd h7) (dpAll_mono (same_upd h6) ?_))
        have s45 := (same_upd (o := HO.tup [.str "less", .str "", .str "nn"]) h4).trans (same_upd (o := HO.tup [.str "number", .str "", .str ""]) h5)
        exact .cons (dp_mono s45 (dp_tr ("plus", "", "nn") (.inl (.inl upd_same)))) (.cons (dp_mono (same_upd h5) (dp_tr ("less", "", "nn") (.inl (.inl upd_same)))) (.cons (dp_tr ("number", "", "") (.inl (.inl upd_same))) .nil))
    rintro _ H3 ⟨D4, ys4, rfl, s3, nD4, d4, p4⟩
    have b3 := b2.trans (But.of s3)
    have t3 := s3 _ _ t2
    have kno3 := kno2.same s3
    have prs3 := prs2.same s3
    have hL : leafL sl el k1 ≠ [] ∧ (leafL sl el k1).length ≤ 210 ∧ ∀ c ∈ leafL sl el k1, c.2.2.length ≤ 9 := leafL_ok sl el k1 hsl l2 l3 he9 hs9
    clear b2 t2 kno2 prs2 s3 d2 p2 dk2 sh12 sh22 lys
    generalize leafL sl el k1 = L at q hL p4
    obtain ⟨hLn, hLl, hL9⟩ := hL
    have hLp : 0 < L.length := List.length_pos_iff.mpr hLn
    have ly4 : ys4.length = L.length := by rw [dpAll_len p4, List.length_map]
    -- way
    refine ⟨_, rfl, t, m, 3, rfl, t3, by decide, by decide, ?_⟩
    have b4 : But t H (upd H3 t (.lst [.int (m / 3)])) := b3.put
    have t4 : (upd H3 t (.lst [.int (m / 3)])) t = some (.lst [.int (m / 3)]) := upd_same
    have bb : But t H3 (upd H3 t (.lst [.int (m / 3)])) := (But.refl t H3).put
    have kno4 := kno3.kp bb.kp (bb.tk t3) n1 n2 n3
    have prs4 := prs3.kp bb.kp (bb.tk t3) n4
    have d5 := bb _ _ nD4 d4
    have p5 := dpAll_tk (bb.tk t3) (imm_trs L) p4
    generalize upd H3 t (.lst [.int (m / 3)]) = H4 at b4 t4 kno4 prs4 d5 p5 ⊢
    generalize m % 3 = way at q ⊢
    generalize m / 3 = m4 at q t4 ⊢
    clear b3 t3 kno3 prs3 d4 p4 bb
    -- word, w, kinds
    have bb : But t H4 (upd H4 t (.lst [.int (m4 / (L.length : Int))])) := (But.refl t H4).put
    have p6 := dpAll_tk (bb.tk t4) (imm_trs L) p5
    obtain ⟨i, hi, e1, e2, e3⟩ := item_at ys4 m4 L.length ly4 hLp
    obtain ⟨c, b, hc, hvb, hb⟩ := tr_at (i := i) p6 (List.getElem?_eq_getElem hi)
    have hcD : L.getD (m4 % (L.length : Int)).toNat ("", "", "") = c := by
      rw [e2, List.getD_eq_getElem?_getD, hc]
      rfl
    have hc9 := hL9 c (List.mem_of_getElem? hc)
    rw [hcD] at q
    refine ⟨_, rfl, _, rfl, _, rfl, D4, ys4, rfl, .inl (.inl (.inl d5)), t, m4, (L.length : Int), by rw [ly4]; rfl, t4, by omega, by omega, D4, ys4, m4 % (L.length : Int), .ref b, rfl, rfl, .inl (.inl (by rw [upd_ne nD4]; exact d5)), by rw [e3, hvb], b, _, rfl, hb, rfl, _, _, rfl, _, _, rfl, _, _, rfl, rfl, ?_⟩
    have b6 := b4.trans bb
    have t6 : (upd H4 t (.lst [.int (m4 / (L.length : Int))])) t = some (.lst [.int (m4 / (L.length : Int))]) := upd_same
    have kno6 := kno4.kp bb.kp (bb.tk t4) n1 n2 n3
    have prs6 := prs4.kp bb.kp (bb.tk t4) n4
    generalize upd H4 t (.lst [.int (m4 / (L.length : Int))]) = H6 at b6 t6 kno6 prs6 ⊢
    generalize m4 / (L.length : Int) = m6 at q t6 ⊢
    clear bb b4 t4 kno4 prs4 d5 p5 p6 e1 e2 e3 hvb hb hcD hc
    -- x
    refine ⟨_, rfl, _, rfl, _, rfl, t, ar, m6, al, k1, rfl, t6, prs6, n4, l1, fun H7 b7 t7 => ?_⟩
    have b8 := b6.trans b7
    have kno7 := kno6.kp b7.kp (b7.tk t6) n1 n2 n3
    have prs7 := prs6.kp b7.kp (b7.tk t6) n4
    generalize (pickF m6 al k1).1 = x at q ⊢
    generalize (pickF m6 al k1).2 = m7 at q t7 ⊢
    clear b7 b6 t6 kno6 prs6
    -- names
    refine ⟨_, rfl, c.2.2, rfl, fun D8 hD8 => ?_⟩
    refine lc_it walk_str (fun i H' => But t H7 H' ∧ H' t = some (.lst [.int (picksF al m7 (c.2.2.cps.toList.take i)).2]) ∧ H' D8 = some (.lst ((picksF al m7 (c.2.2.cps.toList.take i)).1.map optV))) ⟨But.of (same_upd hD8), same_upd hD8 _ _ t7, upd_same⟩ (fun _ _ _ _ => trivial) ?_ ?_
    · intro i v H' H'' hi hp hy
      obtain ⟨b9, t9, d9⟩ := hp
      obtain ⟨rfl, ch, hch, rfl⟩ := hy
      have hch' : c.2.2.cps.toList[i]? = some ch := by simpa using hch
      have prs9 := prs7.kp b9.kp (b9.tk t7) n4
      have nD8 := ne_t t7 hD8
      refine ⟨rfl, ?_⟩
      refine lcYes ?_
      refine ⟨_, rfl, _, rfl, _, rfl, t, ar, _, al, ⟨#[ch]⟩, rfl, t9, prs9, n4, l1, fun H9 b10 t10 => ⟨_, b10 _ _ nD8 d9, ?_, ?_, ?_, ?_⟩⟩
      · rw [List.length_map, picks_len, List.length_take]
        exact small1000 (by have : c.2.2.cps.toList.length ≤ 9 := hc9; omega)
      · exact fun b o hb e => by
          rw [upd_ne (ne_of_none e hD8)]
          exact b10 b o hb (b9 b o hb e)
      · rw [upd_ne nD8.symm, t10, List.take_add_one, hch']
        show _ = some (HO.lst [V.int (picksF al m7 (_ ++ [ch])).2])
        rw [picks_snoc]
      · rw [upd_same, List.take_add_one, hch']
        show _ = some (HO.lst ((picksF al m7 (_ ++ [ch])).1.map optV))
        rw [picks_snoc, List.map_append]
        rfl
    intro H9 hp
    obtain ⟨b9, t9, d9⟩ := hp
    rw [show c.2.2.cps.toList.take c.2.2.cps.size = c.2.2.cps.toList from List.take_of_length_le (Nat.le_refl _)] at t9 d9
    have b10 := b8.trans b9
    have kno9 := kno7.kp b9.kp (b9.tk t7) n1 n2 n3
    have lnm := picks_len al c.2.2.cps.toList m7
    have lkk : c.2.2.cps.toList.length ≤ 9 := hc9
    generalize (picksF al m7 c.2.2.cps.toList).1 = names at q d9 lnm
    generalize (picksF al m7 c.2.2.cps.toList).2 = m9 at q t9
    refine ⟨D8, _, rfl, .inl ⟨.inl (.inl d9), fun p hp => ?_⟩⟩
    have b11 := b10.alloc (o := HO.tup (names.map optV)) hp
    have t11 := same_upd (o := HO.tup (names.map optV)) hp _ _ t9
    have kno11 := kno9.same (same_upd (o := HO.tup (names.map optV)) hp)
    have d11 : (upd H9 p (.tup (names.map optV))) p = some (.tup (names.map optV)) := upd_same
    generalize upd H9 p (.tup (names.map optV)) = H11 at b11 t11 kno11 d11 ⊢
    clear b8 kno7 prs7 t7 b9 t9 d9 b10 kno9 hp hD8
    have hin := in_none names
    have hfl := flat_opts names
    have hln : names.length ≤ 9 := by omega
    unfold leafEnd at q
    have hmem : ∀ (Qb : Bool → Hp → Prop), Qb (decide (none ∈ names)) H11 → tTest (tOp (rIn K false) (tC V.non) (tVar 10)) [some (.ref t), some (.ref kn), some (.ref ar), some (.str k1), some (.ref D4), some (.int way), some (.str c.1), some (.str c.2.1), some (.str c.2.2), some (optV x), some (.ref p), none] H11 Qb := fun Qb hq => by
      refine ⟨_, rfl, p, _, rfl, .inr (.inl (.inl d11)), rfl, hfl, _, rfl, ?_⟩
      show Qb (inV _ _) _
      rw [hin]
      exact hq
    have hname : ∀ (Qb : Bool → Hp → Prop), Qb (decide (x ≠ none ∧ (way = 0 ∨ none ∈ names))) H11 → tAnd (tB (tNotN (tVar 9))) (tOr (tTest (tOp rEq (tVar 5) (tC (V.int 0)))) (tTest (tOp (rIn K false) (tC V.non) (tVar 10)))) [some (.ref t), some (.ref kn), some (.ref ar), some (.str k1), some (.ref D4), some (.int way), some (.str c.1), some (.str c.2.1), some (.str c.2.2), some (optV x), some (.ref p), none] H11 Qb := fun Qb hq => by
      refine ⟨_, rfl, _, rfl, ?_⟩
      cases x with
      | none =>
        refine iteF ?_
        simpa using hq
      | some y =>
        refine iteT ?_
        refine ⟨_, rfl, rfl, _, rfl, ?_⟩
        by_cases hw : way = 0
        · refine ite_T (by rw [hw]; exact decide_eq_true rfl) ?_
          rw [decide_eq_true ⟨by simp, .inl hw⟩] at hq
          exact hq
        · refine ite_F (decide_eq_false (fun z => hw (V.int.inj z))) ?_
          refine hmem _ ?_
          have : decide ((some y : Option Str) ≠ none ∧ (way = 0 ∨ none ∈ names)) = decide (none ∈ names) := by
            apply decide_eq_decide.mpr
            constructor
            · rintro ⟨_, h | h⟩
              · exact absurd h hw
              · exact h
            · exact fun h => ⟨by simp, .inr h⟩
          rw [this] at hq
          exact hq
    have hnum : ∀ (Qb : Bool → Hp → Prop), Qb (decide (c.1 = "number" ∨ (none ∈ names ∧ k1 = "n"))) H11 → tOr (tTest (tOp rEq (tVar 6) (tC (V.str "number")))) (tAnd (tTest (tOp (rIn K false) (tC V.non) (tVar 10))) (tTest (tOp rEq (tVar 3) (tC (V.str "n"))))) [some (.ref t), some (.ref kn), some (.ref ar), some (.str k1), some (.ref D4), some (.int way), some (.str c.1), some (.str c.2.1), some (.str c.2.2), some (optV x), some (.ref p), none] H11 Qb := fun Qb hq => by
      refine ⟨_, rfl, rfl, _, rfl, ?_⟩
      rw [dec_str]
      by_cases h1 : c.1 = "number"
      · refine ite_T (decide_eq_true h1) ?_
        rw [decide_eq_true (.inl h1)] at hq
        exact hq
      · refine ite_F (decide_eq_false h1) ?_
        refine hmem _ ?_
        by_cases h2 : none ∈ names
        · refine ite_T (decide_eq_true h2) ?_
          refine ⟨_, rfl, rfl, _, rfl, ?_⟩
          rw [dec_str]
          have : decide (c.1 = "number" ∨ (none ∈ names ∧ k1 = "n")) = decide (k1 = "n") := by
            apply decide_eq_decide.mpr
            constructor
            · rintro (h | h)
              · exact absurd h h1
              · exact h.2
            · exact fun h => .inr ⟨h2, h⟩
          rw [this] at hq
          exact hq
        · refine ite_F (decide_eq_false h2) ?_
          rw [decide_eq_false (by rintro (h | h); exact h1 h; exact h2 h.1)] at hq
          exact hq
    refine hname _ ?_
    refine ite2 (fun e => ?_) (fun e => ?_)
    · rw [if_pos (of_decide_eq_true e)] at q
      obtain ⟨y, rfl⟩ : ∃ y, x = some y := by
        cases x with
        | none => exact absurd rfl (of_decide_eq_true e).1
        | some y => exact ⟨y, rfl⟩
      refine ⟨_, rfl, by show 2 ≤ sizeLine; decide, fun p2 h2 => ?_⟩
      exact q _ _ (b11.alloc h2) (same_upd h2 _ _ t11) (.tup (.inl (.inl upd_same)) (dpAll_strs ["name", y]))
    rw [if_neg (fun z => e (decide_eq_true z))] at q
    refine hnum _ ?_
    refine ite2 (fun e => ?_) (fun e => ?_)
    · rw [if_pos (of_decide_eq_true e)] at q
      refine ⟨_, rfl, t, m9, rfl, t11, fun H12 b12 t12 => ⟨by show 2 ≤ sizeLine; decide, fun p2 h2 => ?_⟩⟩
      exact q _ _ ((b11.trans b12).alloc h2) (same_upd h2 _ _ t12) (.tup (.inl (.inl upd_same)) (.cons (.str _) (.cons (.int _) .nil)))
    rw [if_neg (fun z => e (decide_eq_true z))] at q
    refine hmem _ ?_
    refine ite2 (fun e => ?_) (fun e => ?_)
    · rw [if_pos (of_decide_eq_true e)] at q
      obtain ⟨⟨lw2, dk2⟩, ⟨xs2, sh3, sh4⟩, _⟩ := id kno11
      cases sl with
      | nil => exact absurd rfl hsl
      | cons s0 sr =>
        obtain ⟨v0, hv0, _⟩ := dpAll_get (i := 0) sh4 rfl
        obtain ⟨p0, b0, hp0, rfl, hb0⟩ := Prs.at sh4 hv0
        cases hp0
        refine ⟨_, rfl, kn, .ref sh, rfl, DGet.k (k := Sum.inr "shapes") dk2, sh, xs2, 0, .ref b0, rfl, rfl, .inl (.inl sh3), atI_nat (j := 0) hv0, b0, _, 0, .str s0.1, rfl, rfl, hb0, atI_nat (j := 0) rfl, by show 0 ≤ sizeLine; decide, fun p2 h2 => ⟨by show 3 ≤ sizeLine; decide, fun p3 h3 => ?_⟩⟩
        exact q _ _ ((b11.alloc h2).alloc h3) (same_upd h3 _ _ (same_upd h2 _ _ t11)) (.tup (.inl (.inl upd_same)) (.cons (.str _) (.cons (.str _) (.cons (.tup (.inl (.inl (same_upd h3 _ _ upd_same))) .nil) .nil))))
    have e3 : ¬ none ∈ names := fun z => e (decide_eq_true z)
    rw [if_neg e3] at q
    refine ⟨_, rfl, rfl, _, rfl, ?_⟩
    rw [dec_str]
    refine ite2 (fun e => ?_) (fun e => ?_)
    · rw [if_pos (of_decide_eq_true e)] at q
      refine ⟨_, rfl, by show 1 ≤ sizeLine; decide, fun p2 h2 => ⟨_, rfl, p2, p, _, _, rfl, rfl, .inl (.inl upd_same), .inl (.inl (same_upd h2 _ _ d11)), ?_, fun z => (by cases z), fun _ hz => ?_, fun _ _ p3 h3 => ?_⟩⟩
      · rw [List.length_map]
        exact Nat.le_trans (Nat.add_le_add_left hln 1) (by decide)
      · have hn0 : names = [] := by simpa using hz
        subst hn0
        exact q _ _ (b11.alloc h2) (same_upd h2 _ _ t11) (.tup (.inl (.inl upd_same)) (.cons (.str _) .nil))
      · exact q _ _ ((b11.alloc h2).alloc h3) (same_upd h3 _ _ (same_upd h2 _ _ t11)) (.tup (.inl (.inl upd_same)) (.cons (.str _) (dp_opts names e3)))
    · rw [if_neg (fun z => e (decide_eq_true z))] at q
      refine ⟨_, rfl, _, rfl, _, rfl, by show 3 ≤ sizeLine; decide, fun p2 h2 => ?_⟩
      exact q _ _ (b11.alloc h2) (same_upd h2 _ _ t11) (.tup (.inl (.inl upd_same)) (.cons (.str _) (.cons (.str _) (.cons (.tup (.inl (.inl (same_upd h2 _ _ d11))) (dp_opts names e3)) .nil))))
end
end SP

/-! zip of a list and a text -/
namespace SP
open PySem PySem.Spec PyProof.Rows L2
/-- the list at a as it stands at each turn beside the signs of x, in new pairs -/
def Itlz (K : PySem.W.Frag) (a : Addr) (x : Str) : It where
  go := fun i H => ∃ xs v c, SqL K H a xs ∧ xs[i]? = some v ∧ x.cps[i]? = some c
  yld := fun i H v H' => ∃ T y c, v = .ref T ∧ H T = none ∧ H' = upd H T (.tup [y, .str ⟨#[c]⟩]) ∧ (∀ xs, SqL K H a xs → xs[i]? = some y) ∧ x.cps[i]? = some c
  stop := fun i H => ∃ xs, SqL K H a xs ∧ i ≤ xs.length ∧ i ≤ x.cps.size ∧ (i = xs.length ∨ i = x.cps.size)
theorem turn_zip_text {P : Program} {w : World} {K : PySem.W.Frag} {elts : List Expr} {kk : Nat} {tpos : Pos} {a z TI TO i1 i2 : Addr} {x : Str} {t : Tok} (S : ZipSep2 z TI TO i1 i2 [i1, a] [i2]) (ha : a ≠ i1) :
    Turn P w K (.Tuple elts kk tpos) (Itlz K a x) [z, TI, TO, i1, i2] z (fun i h => IsZip h z TI TO .none ∧ IsPair h TI (.ref i1) (.ref i2) ∧ (∃ p q, IsPair h TO p q) ∧ h.IsListIter i1 a i ∧ h.IsStrIter i2 (strIterType x) x t i) := by
  have five : ∀ c, c ∈ [z, TI, TO, i1, i2] → c = z ∨ c = TI ∨ c = TO ∨ c = i1 ∨ c = i2 := fun c hc => by simpa using hc
  refine ⟨by simp, ?_, ?_, ?_, ?_, fun A i s Q E st h => wpAny_pyIter_zip st.1 h⟩
  · rintro i h ⟨hz, hTI, ⟨p, q, hTO⟩, ⟨o1, e1, _, d1⟩, ⟨o2, e2, _, d2⟩⟩ c hc
    rcases five c hc with r | r | r | r | r
    · rw [r]
      exact ⟨_, hz, fun v q => nomatch q⟩
    · rw [r]
      exact ⟨_, hTI, fun v q => nomatch q⟩
    · rw [r]
      exact ⟨_, hTO, fun v q => nomatch q⟩
    · rw [r]
      exact ⟨o1, e1, fun v q => by rw [d1] at q; cases q⟩
    · rw [r]
      exact ⟨o2, e2, fun v q => by rw [d2] at q; cases q⟩
  · rintro i h h' ⟨hz, hTI, ⟨p, q, hTO⟩, h1, h2⟩ k
    exact ⟨k z (by simp) _ hz, k TI (by simp) _ hTI, ⟨p, q, k TO (by simp) _ hTO⟩, h1.at fun o e => k i1 (by simp) o e, (let ⟨o, e1, e2, e3⟩ := h2; ⟨o, k i2 (by simp) o e1, e2, e3⟩)⟩
  · intro X hP hw hK hc i pins s σ H E I hf st hg
    subst hP hw hK
    obtain ⟨hz, hTI, ⟨x0, y0, hTO⟩, h1, h2⟩ := st
    obtain ⟨xs, v, c, hq, hv, hch⟩ := hg
    obtain ⟨its, rv, pl, _⟩ := I.list hq
    have hh : X.A.handled = none := I.ok.hd hc
    have lv : i < its.toArray.size := by
      have h := (List.getElem?_eq_some_iff.mp hv).1
      have := rv.length
      simp only [List.size_toArray]
      omega
    have lx : i < x.cps.size := (Array.getElem?_eq_some_iff.mp hch).1
    have zl : z < s.heap.objs.size := Heap.lt_size hz
    have D1 := Draws.list (prog := X.prog) (w := X.w) (A := X.A.in1) hh i1 a ha its.toArray
    have D2 := Draws.text (prog := X.prog) (w := X.w) (A := X.A.in1) hh i2 x t
    refine wpAny_pyNext_zipD2_item S D1 D2 hz hTI hTO ⟨h1, pl.isList⟩ h2 lv lx ?_
    intro u1 u2 h' tk g1 g2 z' TO' st1 st2 hT hsz hk
    obtain ⟨u, hu, ru⟩ := rv.get hv
    have eu : u1 = u := by
      have : its[i]? = some u1 := by simpa using g1
      rw [this] at hu
      exact Option.some.inj hu
    subst eu
    obtain ⟨c2, t2, hc2, rfl⟩ := g2
    rw [hch] at hc2
    cases hc2
    refine ⟨_, rfl, wpAny_letOwnedTupleGo_zip (s := { s with heap := h', toks := tk }) z' ?_⟩
    intro h'' z'' sb
    have hT2 : h''.get? s.heap.objs.size = some { cls := .type "tuple", data := .seq #[u1, .str ⟨#[c]⟩ t2] } := (sb.2 _ (Nat.ne_of_gt zl)).trans hT
    have new : ObjOk X.prog X.w (upd H s.heap.objs.size (.tup [v, .str ⟨#[c]⟩])) h'' s.heap.objs.size (.tup [v, .str ⟨#[c]⟩]) :=
      ⟨by show 2 ≤ sizeLine; decide, [u1, .str ⟨#[c]⟩ t2], .cons ru (.cons ⟨t2, rfl⟩ .nil), ⟨_, hT2, rfl, _, rfl⟩⟩
    have kept : ∀ d o, d ∉ [z, TI, TO, i1, i2] → s.heap.get? d = some o → h''.get? d = some o := fun d o hd e =>
      (sb.2 d (fun r => hd (by simp [r]))).trans (hk d o (fun r => hd (by simp [r])) (fun r => hd (by simp [r])) (fun r => hd (by simp [r])) (fun r => hd (by simp [r])) e)
    have I1 : Inv X pins σ (upd H s.heap.objs.size (.tup [v, .str ⟨#[c]⟩])) { s with heap := h'', toks := tk } :=
      I.turnedNew (t' := tk) (ch := [z, TI, TO, i1, i2]) kept hf (Nat.le_refl _) new
    refine ⟨.ref s.heap.objs.size, _, I1, rfl, ⟨_, v, c, rfl, I.hok.fresh (Nat.le_refl _), rfl, fun l hl => ?_, hch⟩, ⟨z'', ?_, ⟨_, _, (sb.2 _ S.TOz).trans TO'⟩, ?_, ?_⟩, fun d hd => ?_⟩
    · rw [I.list_inj hl hq]
      exact hv
    · exact (sb.2 _ S.TIz).trans (hk _ _ S.TIz S.TITO S.TIi1 S.TIi2 hTI)
    · exact st1.1.at fun o e => (sb.2 _ S.zi1.symm).trans e
    · exact (let ⟨o, e1, e2, e3⟩ := st2; ⟨o, (sb.2 _ S.zi2.symm).trans e1, e2, e3⟩)
    · have hlt : d < s.heap.objs.size := by
        rcases five d hd with r | r | r | r | r
        · rw [r]
          exact zl
        · rw [r]
          exact Heap.lt_size hTI
        · rw [r]
          exact Heap.lt_size hTO
        · rw [r]
          obtain ⟨_, e1, _⟩ := h1
          exact Heap.lt_size e1
        · rw [r]
          obtain ⟨_, e2, _⟩ := h2
          exact Heap.lt_size e2
      rw [upd_ne (Nat.ne_of_lt hlt)]
      exact (hf d hd).1
  · intro X hP hw hK hc i pins s σ H E I hf st hg
    subst hP hw hK
    obtain ⟨hz, hTI, ⟨x0, y0, hTO⟩, h1, h2⟩ := st
    obtain ⟨xs, hq, l1, l2, hend⟩ := hg
    obtain ⟨its, rv, pl, _⟩ := I.list hq
    have hh : X.A.handled = none := I.ok.hd hc
    have lr := rv.length
    have D1 := Draws.list (prog := X.prog) (w := X.w) (A := X.A.in1) hh i1 a ha its.toArray
    have D2 := Draws.text (prog := X.prog) (w := X.w) (A := X.A.in1) hh i2 x t
    refine wpAny_pyNext_zipD2_end S D1 D2 hz hTI hTO ⟨h1, pl.isList⟩ h2 (by simp only [List.size_toArray]; omega) l2 (by simp only [List.size_toArray]; omega) ?_
    intro h' tk hk
    exact ⟨rfl, I.turnedL (t' := tk) (ch := [z, TI, TO, i1, i2]) (fun d o hd e => hk d o (fun r => hd (by simp [r])) (fun r => hd (by simp [r])) (fun r => hd (by simp [r])) (fun r => hd (by simp [r])) e) hf⟩
def iZipT (K : PySem.W.Frag) (ta : TA) : TI := fun σ H R => ta σ H fun vs H1 => ∃ a x xs, vs = [.ref a, .str x] ∧ SqL K H1 a xs ∧ R (Itlz K a x) H1
theorem pi_zipText {X : Cx} {e e2 : Expr} {ta : TA} {p pos tpos : Pos} {elts : List Expr} {kk : Nat} (hg : Gl X "zip") (hm : X.mg "zip" = none) (ha : PA X [e, e2] ta)
    (hs : starEach [e, e2] X.env = (false, eval e X.env) :: starEach [e2] X.env := by rfl) (hpl : (backTo pos (starEach [e2] X.env)).any (·.1) = false := by rfl) : PI X (.Tuple elts kk tpos) (.Call (.Name "zip" p) [e, e2] [] pos) (iZipT X.K ta) := by
  refine ⟨fun pins s σ H R I h => ?_⟩
  refine Call_ (ld_blt I hg hm PyProof.Rows.boot_zip (PyProof.Rows.callWith_type1 (thn (ha.run pos pins s σ H _ I h) fun us s1 ⟨vs, H1, I1, r1, q1⟩ => ?_) hs hpl))
  obtain ⟨a, x, xs, rfl, hq, q⟩ := q1
  obtain ⟨u1, u2, rfl, ra, t, rfl⟩ := vals2 r1
  cases ra
  obtain ⟨its, rv, pl, _⟩ := I1.list hq
  have la : a < s1.heap.objs.size := pl.lt
  refine zip_begins2 (begins_list a its.toArray) (begins_text x t) pl.isList trivial ?_
  intro h' hz hTI hTO g1 g2 hsz hk
  refine wpAny_pyIter_zip hz ?_
  have I2 : Inv X pins σ H1 { s1 with heap := h' } := I1.kept (t' := s1.toks) hk
  have S : ZipSep2 (s1.heap.objs.size + 4) (s1.heap.objs.size + 2) (s1.heap.objs.size + 3) s1.heap.objs.size (s1.heap.objs.size + 1) [s1.heap.objs.size, a] [s1.heap.objs.size + 1] := zip_sep2 (fp1 := [a]) (fp2 := []) (fun b hb => by rw [List.mem_singleton.mp hb]; exact la) (fun b hb => nomatch hb)
  refine ⟨s1.heap.objs.size + 4, [s1.heap.objs.size + 4, s1.heap.objs.size + 2, s1.heap.objs.size + 3, s1.heap.objs.size, s1.heap.objs.size + 1], _, _, H1, rfl, I2, turn_zip_text (t := t) S (Nat.ne_of_lt la), ⟨hz, hTI, ⟨_, _, hTO⟩, ⟨_, g1, rfl, rfl⟩, ⟨_, g2, rfl, rfl⟩⟩, fun c hc => ?_, q⟩
  have hle : s1.heap.objs.size ≤ c := by
    have : c = s1.heap.objs.size + 4 ∨ c = s1.heap.objs.size + 2 ∨ c = s1.heap.objs.size + 3 ∨ c = s1.heap.objs.size ∨ c = s1.heap.objs.size + 1 := by simpa using hc
    rcases this with r | r | r | r | r <;> rw [r] <;> first | exact Nat.le_add_right _ _ | exact Nat.le_refl _
  exact I1.fpOk hle (I1.hok.fresh hle)
/-- what such a zip gives, for comprehensions -/
theorem walk_zip_text {K : PySem.W.Frag} {a : Addr} {x : Str} {xs : List V} {n : Nat} (hn : n = min xs.length x.cps.size) : Walk (Itlz K a x) n (fun H => SqL K H a xs) (YPair (fun i => xs[i]?) (fun i => x.cps[i]?.map fun c => V.str ⟨#[c]⟩)) := by
  subst hn
  refine ⟨fun i H hi q => ?_, fun H q => ⟨xs, q, by omega, by omega, by omega⟩, fun i H v H' hi q y => ?_⟩
  · have h1 : i < xs.length := by omega
    have h2 : i < x.cps.size := by omega
    exact ⟨xs, xs[i], x.cps[i], q, by simp [h1], by simp [h2]⟩
  · obtain ⟨T, y1, c, e1, e2, e3, e4, e5⟩ := y
    exact ⟨T, y1, .str ⟨#[c]⟩, e1, e2, e3, e4 xs q, by show Option.map _ x.cps[i]? = _; rw [e5]; rfl⟩
end SP

/-! a list turned round by its slice -/
namespace SP
open PySem PySem.Spec PyProof.Rows L2
def tTurn (K : PySem.W.Frag) (te ts : TE) : TE := fun σ H Q => te σ H fun x H1 => ts σ H1 fun y H2 => y = .int (-1) ∧ ∃ a xs, x = .ref a ∧ SqL K H2 a xs ∧ ∀ p, H2 p = none → Q (.ref p) (upd H2 p (.lst xs.reverse))
theorem pe_turned {X : Cx} {e es : Expr} {te ts : TE} {pos p2 : Pos} (he : PE X e te) (hs : PE X es ts) : PE X (.Subscript e (.Slice none none (some es) p2) pos) (tTurn X.K te ts) := by
  refine ⟨fun pins s σ H Q I h => ?_⟩
  refine Subscript_ (thn (he.run pins s σ H _ I h) fun v s1 ⟨x, H1, I1, r1, q1⟩ => ?_)
  refine wpAny_Slice ?_
  rw [evalPart_none]
  refine wpAny_pure (wpAny_pure ?_)
  rw [evalPart_some]
  refine thn (hs.run pins s1 σ H1 _ I1 q1) fun vl s2 ⟨y, H2, I2, r2, q2⟩ => ?_
  obtain ⟨rfl, a, xs, rfl, hx, q⟩ := q2
  obtain ⟨t, rfl⟩ := r2
  cases r1
  obtain ⟨its, r, ht, hz⟩ := I2.list hx
  have hlen := r.length
  have I4 : Inv X pins σ H2 { s2 with heap := s2.heap.push { cls := .type "slice", data := .fields #[.none, .none, .int (-1) t] } } := I2.kept (t' := s2.toks) fun b ob q => Heap.get?_push_of_some _ q
  obtain ⟨its', r', ht', hz'⟩ := I4.list hx
  show wpAny (model X.prog X.w) X.A (subscriptTail e (.Slice none none (some es) p2) (.ref a) (.ref s2.heap.objs.size)) (EP X pins σ Q) X.xe { s2 with heap := s2.heap.push { cls := .type "slice", data := .fields #[.none, .none, .int (-1) t] } }
  refine tail_any (ops := [.ref a, .ref s2.heap.objs.size]) ht'.isList.typeIs slot_list_getitem.lookup ?_ (by with_unfolding_all rfl)
  refine wpAny_getItem_list_slice ht'.isList (Heap.IsSliceOf.new ..) .none .none (.int _ _) (by decide) ?_ (by have := r'.length; rw [List.size_toArray] <;> omega)
  rw [PySem.W.krv_pick]
  refine ⟨.ref _, _, I4.laid (t' := s2.toks) (o := .lst xs.reverse) (fun b ob q => Heap.get?_push_of_some _ q) (Nat.le_refl _) ?_, rfl, q _ (I4.hok.fresh (Nat.le_refl _))⟩
  exact ⟨by rw [List.length_reverse]; exact hz', _, 0, r'.reverse, Heap.get?_push_size _ rfl⟩
end SP

namespace SP
open PySem PySem.Spec PyProof.Rows L2
open C8 (pss_cut tCut)
/-! ### what a term is drawn by -/
abbrev Gen := PyData × Int × List Str
def charsF (x : Str) : List Str := x.cps.toList.map fun c => ⟨#[c]⟩
def kindsF (n : Int) (ks : Str) : Str := if n % 30 = 1 then cutS ks none (some 2) ++ "n" else ks
def moreF (al : List (Str × Str)) (rs : List Str) (ks : Str) : List (Str × Str) := al ++ (rs.take ks.length).zip (charsF ks)
def caseR (T : Int → List Str → List (Str × Str) → Nat → Gen) (al : List (Str × Str)) (n : Int) (rs : List Str) (p : Str × Str) (sh : Nat) : Gen :=
  T (n / 30) (rs.drop (kindsF n p.2).length) (moreF al rs (kindsF n p.2)) sh
def caseD (rs : List Str) (n : Int) (p : Str × Str) (d : PyData) : PyData := .tuple [.str p.1, .tuple ((rs.take (kindsF n p.2).length).map .str), d]
def casesL (T : Int → List Str → List (Str × Str) → Nat → Gen) (al : List (Str × Str)) : List ((Str × Str) × Nat) → Int → List Str → List PyData × Int × List Str
  | [], n, rs => ([], n, rs)
  | q :: r, n, rs => (caseD rs n q.1 (caseR T al n rs q.1 q.2).1 :: (casesL T al r (caseR T al n rs q.1 q.2).2.1 (caseR T al n rs q.1 q.2).2.2).1, (casesL T al r (caseR T al n rs q.1 q.2).2.1 (caseR T al n rs q.1 q.2).2.2).2)
def turnedF (n : Int) (sl : List (Str × Str)) : List (Str × Str) := sl.drop (n % (sl.length : Int)).toNat ++ sl.take (n % (sl.length : Int)).toNat
def shapesF (n : Int) (sl : List (Str × Str)) : List (Str × Str) := if n / (sl.length : Int) % 2 = 1 then (turnedF n sl).reverse else turnedF n sl
def manyF (n : Int) (sl : List (Str × Str)) : Nat := max 1 (sl.length - (if n % 12 = 1 then 1 else 0))
def casesF (T : Int → List Str → List (Str × Str) → Nat → Gen) (sl al : List (Str × Str)) (n : Int) (rs : List Str) (room : Nat) : List PyData × Int × List Str :=
  casesL T al (((shapesF n sl).zip (sharesF (n / (sl.length : Int) / 2) (room - 1 - sl.length) sl.length).1).take (manyF (sharesF (n / (sl.length : Int) / 2) (room - 1 - sl.length) sl.length).2 sl)) ((sharesF (n / (sl.length : Int) / 2) (room - 1 - sl.length) sl.length).2 / 12) rs
def leafG (sl : List (Str × Str)) (el : List (Str × Str × Str)) (n : Int) (rs : List Str) (al : List (Str × Str)) (kind : Str) : Gen := ((leafF n sl el al kind).1, (leafF n sl el al kind).2, rs)
def givenF (n : Int) : Str := if n % 3 = 1 then "n" else "b"
def letF (T : Int → List Str → List (Str × Str) → Str → Nat → Gen) (x : Str) (n : Int) (rs : List Str) (al : List (Str × Str)) (kind : Str) (room : Nat) : Gen :=
  let s := sharesF (n / 3) (room - 1 - 2) 2
  let one := if s.2 % 2 = 1 then s.1.getD 0 0 else 1
  let f := T (s.2 / 2) rs al (givenF n) one
  let g := T f.2.1 f.2.2 (al ++ [(x, givenF n)]) kind (s.1.getD 1 0)
  (.tuple [.str "let", .str x, f.1, g.1], g.2)
def zeroF (T : Int → List Str → List (Str × Str) → Str → Nat → Gen) (x : Str) (n : Int) (rs : List Str) (al : List (Str × Str)) (kind : Str) (room : Nat) : Gen :=
  let s := sharesF n (room - 1 - 2) 2
  let f := T s.2 rs al kind (s.1.getD 0 0)
  let g := T f.2.1 f.2.2 al kind (s.1.getD 1 0)
  (.tuple [.str "zero", .str x, f.1, g.1], g.2)
def openF (x : Str) (o : List PyData × Int × List Str) : Gen := (.tuple [.str "open", .str x, .tuple o.1], o.2)
def wayF (n : Int) : Str := if n % 12 > 9 then "n" else "b"
def termF (sl : List (Str × Str)) (el : List (Str × Str × Str)) : Nat → Int → List Str → List (Str × Str) → Str → Nat → Gen
  | 0, n, rs, al, kind, _ => leafG sl el (n / 12) rs al kind
  | d + 1, n, rs, al, kind, room =>
    if room < 3 ∨ n % 12 = 0 then leafG sl el (n / 12) rs al kind
    else if n % 12 < 6 ∧ rs ≠ [] then letF (termF sl el d) (rs.getD 0 "") (n / 12) (rs.drop 1) al kind room
    else match (pickF (n / 12) al (wayF n)).1 with
      | none => leafG sl el (pickF (n / 12) al (wayF n)).2 rs al kind
      | some x =>
        if room ≤ sl.length then leafG sl el (pickF (n / 12) al (wayF n)).2 rs al kind
        else if n % 12 < 10 then openF x (casesF (fun n rs al sh => termF sl el d n rs al kind sh) sl al (pickF (n / 12) al (wayF n)).2 rs room)
        else zeroF (termF sl el d) x (pickF (n / 12) al (wayF n)).2 rs al kind room
/-! it is without lists -/
theorem imm_strs (l : List Str) : immAll (l.map PyData.str) = true := by
  induction l with
  | nil => rfl
  | cons x r ih => exact ih
theorem imm_opts (l : List (Option Str)) : immAll (l.map fun o => PyData.str (o.getD "")) = true := by
  induction l with
  | nil => rfl
  | cons x r ih => exact ih
theorem imm_leaf (n : Int) (sl : List (Str × Str)) (el : List (Str × Str × Str)) (al : List (Str × Str)) (kind : Str) : imm (leafF n sl el al kind).1 = true := by
  unfold leafF leafEnd
  split
  · rfl
  · split
    · rfl
    · split
      · rfl
      · split
        · exact imm_opts _
        · show (true && (true && ((immAll _) && true))) = true
          rw [imm_opts]
          rfl
theorem imm_casesL (T : Int → List Str → List (Str × Str) → Nat → Gen) (hT : ∀ n rs al sh, imm (T n rs al sh).1 = true) (al : List (Str × Str)) : ∀ (l : List ((Str × Str) × Nat)) (n : Int) (rs : List Str), immAll (casesL T al l n rs).1 = true
  | [], _, _ => rfl
  | q :: r, n, rs => by
    show (imm (caseD _ _ _ _) && immAll (casesL T al r _ _).1) = true
    rw [imm_casesL T hT al r]
    show ((true && ((immAll _) && (imm (caseR T al n rs q.1 q.2).1 && true))) && true) = true
    rw [imm_strs]
    unfold caseR
    rw [hT]
    rfl
theorem imm_term (sl : List (Str × Str)) (el : List (Str × Str × Str)) : ∀ (d : Nat) (n : Int) (rs : List Str) (al : List (Str × Str)) (kind : Str) (room : Nat), imm (termF sl el d n rs al kind room).1 = true
  | 0, n, rs, al, kind, room => imm_leaf _ _ _ _ _
  | d + 1, n, rs, al, kind, room => by
    unfold termF
    split
    · exact imm_leaf _ _ _ _ _
    · split
      · show (true && (true && (imm _ && (imm _ && true)))) = true
        rw [imm_term sl el d, imm_term sl el d]
        rfl
      · split
        · exact imm_leaf _ _ _ _ _
        · split
          · exact imm_leaf _ _ _ _ _
          · split
            · show (true && (true && (immAll _ && true))) = true
              unfold casesF
              rw [imm_casesL _ fun n rs al sh => imm_term sl el d n rs al kind sh]
              rfl
            · show (true && (true && (imm _ && (imm _ && true)))) = true
              rw [imm_term sl el d, imm_term sl el d]
              rfl
/-! ### what stands while a term is drawn -/
structure GS (sl : List (Str × Str)) (el : List (Str × Str × Str)) : Prop where
  ne : sl ≠ []
  l1 : sl.length ≤ 100
  l2 : el.length ≤ 100
  he : ∀ e ∈ el, e.2.1.length ≤ 9
  hs : ∀ s ∈ sl, s.2.length ≤ 9
structure GP (K : PySem.W.Frag) (H : Hp) (t kn sh er lw : Addr) (n : Int) (rs : List Str) (sl : List (Str × Str)) (el : List (Str × Str × Str)) : Prop where
  ht : H t = some (.lst [.int n])
  hw : H lw = some (.lst (rs.reverse.map V.str))
  dk : H kn = some (.dK (knL sh er lw))
  shp : Prs K H sh sl
  err : ∃ xs, H er = some (.lst xs) ∧ DpAll K H xs (el.map trD)
  k1 : kn ≠ t
  s1 : sh ≠ t
  e1 : er ≠ t
  k2 : kn ≠ lw
  s2 : sh ≠ lw
  e2 : er ≠ lw
  tl : t ≠ lw
abbrev Two (t lw : Addr) : Addr → Prop := fun b => b = t ∨ b = lw
section
variable {K : PySem.W.Frag} {H H' : Hp} {t kn sh er lw : Addr} {n n' : Int} {rs rs' : List Str} {sl : List (Str × Str)} {el : List (Str × Str × Str)}
theorem GP.tk (g : GP K H t kn sh er lw n rs sl el) (s : Kp (Two t lw) H H') : Tk H H' := s.tk fun b h => by
  rcases h with rfl | rfl
  · exact ⟨_, g.ht, rfl⟩
  · exact ⟨_, g.hw, rfl⟩
theorem GP.kp (g : GP K H t kn sh er lw n rs sl el) (s : Kp (Two t lw) H H') (ht : H' t = some (.lst [.int n'])) (hw : H' lw = some (.lst (rs'.reverse.map V.str))) : GP K H' t kn sh er lw n' rs' sl el := by
  obtain ⟨xs, x1, x2⟩ := g.err
  exact ⟨ht, hw, s _ _ (fun z => z.elim g.k1 g.k2) g.dk, g.shp.kp s (g.tk s) (fun z => z.elim g.s1 g.s2), ⟨xs, s _ _ (fun z => z.elim g.e1 g.e2) x1, dpAll_tk (g.tk s) (imm_trs el) x2⟩, g.k1, g.s1, g.e1, g.k2, g.s2, g.e2, g.tl⟩
theorem GP.but (g : GP K H t kn sh er lw n rs sl el) (s : But t H H') (ht : H' t = some (.lst [.int n'])) : GP K H' t kn sh er lw n' rs sl el := g.kp (Kp.but s (.inl rfl)) ht (s _ _ g.tl.symm g.hw)
theorem GP.put (g : GP K H t kn sh er lw n rs sl el) : GP K (upd H t (.lst [.int n'])) t kn sh er lw n' rs sl el := g.but (But.refl t H).put upd_same
theorem GP.same (g : GP K H t kn sh er lw n rs sl el) (s : Same H H') : GP K H' t kn sh er lw n rs sl el := g.kp (Kp.of s) (s _ _ g.ht) (s _ _ g.hw)
theorem GP.kno (g : GP K H t kn sh er lw n rs sl el) : Kno K H kn sh er sl el := ⟨⟨lw, g.dk⟩, g.shp, g.err⟩
end
theorem rev_last {x : Str} {r : List Str} : ((x :: r).reverse.map V.str)[((x :: r).reverse.map V.str).length - 1]? = some (.str x) := by
  simp
theorem rev_drop {x : Str} {r : List Str} : ((x :: r).reverse.map V.str).dropLast = r.reverse.map V.str := by
  simp
section
variable {P : Program} {w : World} {K : PySem.W.Frag} {mg : Str → Option Value} {base : Heap}
def spTerm (K : PySem.W.Frag) (d : Nat) : Sp := fun vs H Q _ => ∃ (t kn sh er lw ar : Addr) (n : Int) (rs : List Str) (sl al : List (Str × Str)) (el : List (Str × Str × Str)) (kind : Str) (room : Nat), vs = [.ref t, .ref kn, .ref ar, .str kind, .int (room : Int), .int (d : Int)] ∧ (kind = "n" ∨ kind = "b") ∧
  GS sl el ∧ GP K H t kn sh er lw n rs sl el ∧ Prs K H ar al ∧ ar ≠ t ∧ ar ≠ lw ∧ al.length + 10 * d ≤ 500 ∧ room ≤ 1000 ∧
  ∀ (H' : Hp) (v : V), Kp (Two t lw) H H' → H' t = some (.lst [.int (termF sl el d n rs al kind room).2.1]) → H' lw = some (.lst ((termF sl el d n rs al kind room).2.2.reverse.map V.str)) → Dp K H' v (termF sl el d n rs al kind room).1 → Q v H'
def spCases (K : PySem.W.Frag) (d : Nat) : Sp := fun vs H Q _ => ∃ (t kn sh er lw ar : Addr) (n : Int) (rs : List Str) (sl al : List (Str × Str)) (el : List (Str × Str × Str)) (kind : Str) (room : Nat), vs = [.ref t, .ref kn, .ref ar, .str kind, .int (room : Int), .int ((d + 1 : Nat) : Int)] ∧ (kind = "n" ∨ kind = "b") ∧
  GS sl el ∧ GP K H t kn sh er lw n rs sl el ∧ Prs K H ar al ∧ ar ≠ t ∧ ar ≠ lw ∧ al.length + 10 * (d + 1) ≤ 500 ∧ room ≤ 1000 ∧ sl.length < room ∧
  ∀ (H' : Hp) (v : V), Kp (Two t lw) H H' → H' t = some (.lst [.int (casesF (fun n rs al sh => termF sl el d n rs al kind sh) sl al n rs room).2.1]) → H' lw = some (.lst ((casesF (fun n rs al sh => termF sl el d n rs al kind sh) sl al n rs room).2.2.reverse.map V.str)) →
    Dp K H' v (.tuple (casesF (fun n rs al sh => termF sl el d n rs al kind sh) sl al n rs room).1) → Q v H'
def spNever : Sp := fun _ _ _ _ => False
end
end SP

namespace SP
open PySem PySem.Spec PyProof.Rows L2
open C8 (pss_cut tCut)
section
variable {P : Program} {w : World} {K : PySem.W.Frag} {mg : Str → Option Value} {base : Heap}
variable {H : Hp} {t kn sh er lw ar : Addr} {n : Int} {rs : List Str} {sl al : List (Str × Str)} {el : List (Str × Str × Str)} {kind : Str}
theorem GP.prs {H' : Hp} (g : GP K H t kn sh er lw n rs sl el) (p : Prs K H ar al) (a1 : ar ≠ t) (a2 : ar ≠ lw) (s : Kp (Two t lw) H H') : Prs K H' ar al := p.kp s (g.tk s) fun z => z.elim a1 a2
theorem leaf_use {Q : VK} {E : XK} (g : GP K H t kn sh er lw n rs sl el) (gs : GS sl el) (p : Prs K H ar al) (a1 : ar ≠ t) (a2 : ar ≠ lw) (hk : kind = "n" ∨ kind = "b") (l : al.length ≤ 500)
    (q : ∀ (H' : Hp) (v : V), Kp (Two t lw) H H' → H' t = some (.lst [.int (leafG sl el n rs al kind).2.1]) → H' lw = some (.lst ((leafG sl el n rs al kind).2.2.reverse.map V.str)) → Dp K H' v (leafG sl el n rs al kind).1 → Q v H') : spLeaf K [.ref t, .ref kn, .ref ar, .str kind] H Q E :=
  ⟨t, kn, sh, er, ar, n, sl, al, el, kind, rfl, hk, g.ht, g.kno, p, g.k1, g.s1, g.e1, a1, l, gs.l1, gs.l2, gs.ne, gs.he, gs.hs, fun H' v b t' d => q H' v (Kp.but b (.inl rfl)) t' (b _ _ g.tl.symm g.hw) d⟩
theorem given_at (m : Int) : 0 ≤ m % 3 ∧ m % 3 < 2 ^ 63 ∧ m % 3 < (("bnb" : Str).length : Int) ∧ ∃ c, ("bnb" : Str).cps[(m % 3).toNat]? = some c ∧ (⟨#[c]⟩ : Str) = givenF m := by
  have h : m % 3 = 0 ∨ m % 3 = 1 ∨ m % 3 = 2 := by omega
  unfold givenF
  rcases h with h | h | h <;> rw [h]
  · exact ⟨by decide, by decide, by decide, 98, rfl, rfl⟩
  · exact ⟨by decide, by decide, by decide, 110, rfl, rfl⟩
  · exact ⟨by decide, by decide, by decide, 98, rfl, rfl⟩
theorem given_in (m : Int) : givenF m = "n" ∨ givenF m = "b" := by
  unfold givenF
  split
  · exact .inl rfl
  · exact .inr rfl
abbrev spTermS (K : PySem.W.Frag) (d : Nat) : Sp := spTerm K (d + 1)
theorem ok_law_term {f : Addr} {fd : FuncData} (F : Fun K "_law_term" "_law_term" s_law_term f fd) (T : Txt mg) (d : Nat) (C_law_digit : Callee P w K mg base "_law_digit" ["tape", "many"] 1 (spDigit K)) (C_law_pick : Callee P w K mg base "_law_pick" ["tape", "around", "kind"] 2 (spPick K)) (C_law_leaf : Callee P w K mg base "_law_leaf" ["tape", "known", "around", "kind"] 3 (spLeaf K)) (C_law_shares : Callee P w K mg base "_law_shares" ["tape", "room", "many"] 2 (spShares K)) (C_law_term : Callee P w K mg base "_law_term" ["tape", "known", "around", "kind", "room", "deep"] (2 * d + 4) (spTerm K d)) (C_law_cases : Callee P w K mg base "_law_cases" ["tape", "known", "around", "kind", "room", "deep"] (2 * d + 5) (spCases K d)) : FnOk P w K mg base CX0 (2 * d + 6) f fd ["tape", "known", "around", "kind", "room", "deep"] (spTermS K d) := by
  refine F.ok sc_law_term (fun vs H Q E h => ?_) (fun cdv A outer s H vs Q E hr h => ?_)
  · obtain ⟨t, kn, sh, er, lw, ar, n, rs, sl, al, el, kind, room, rfl, _⟩ := h
    rfl
  · obtain ⟨t, kn, sh, er, lw, ar, n, rs, sl, al, el, kind, room, rfl, hk, gs, g, prs, a1, a2, hal, hroom, q⟩ := h
    refine ⟨_, (pss_cons (ps_set (i := 6) sc_law_term.nd rfl (Or.inl rfl) (pe_fn (hk := by omega) C_law_digit hr (by rfl) (pa_cons (pv 0) (pa_cons pe_int pa_nil))))
      (pss_cons (ps_if (PW.pt (pw_or (pt_cmpR op_lt (pv 4) pe_int (nomark _)) (pw_or (pt_cmpR op_eq (pv 5) pe_int (nomark _)) (pw_or1 (pt_cmpR op_eq (pv 6) pe_int (nomark _)))))) (pss_one (ps_ret (pe_fn (hk := by omega) C_law_leaf hr (by rfl) (pa_cons (pv 0) (pa_cons (pv 1) (pa_cons (pv 2) (pa_cons (pv 3) pa_nil))))))) pss_nil)
      (pss_cons (ps_if (PW.pt (pw_and (pt_cmpR op_lt (pv 6) pe_int (nomark _)) (pw_and1 (pt_cmpR (r := rNeP K 1) (op_neP (m := 1) (hu_of hr)) (pe_dget (hu_of hr) (pv 1) pe_str (fun _ _ => rfl)) (pe_lst pa_nil) (nomark _))))) (pss_cons (ps_set (i := 7) sc_law_term.nd rfl (Or.inl rfl) (pe_bm0 PySem.F.plainAttrs_list PySem.F.slot_list_pop PySem.F.type_list_pop mt_pop (pe_dget (hu_of hr) (pv 1) pe_str (fun _ _ => rfl))))
      (pss_cons (ps_set (i := 8) sc_law_term.nd rfl (Or.inl rfl) (pe_item_str pe_str (pe_fn (hk := by omega) C_law_digit hr (by rfl) (pa_cons (pv 0) (pa_cons pe_int pa_nil))) (fun _ _ => rfl)))
      (pss_cons (ps_asg (pe_fn (hk := by omega) C_law_shares hr (by rfl) (pa_cons (pv 0) (pa_cons (pe_op op_sub (pv 4) pe_int) (pa_cons pe_int pa_nil)))) (pg_unl rfl (pgs_cons (pg_name (i := 9) sc_law_term.nd rfl (Or.inl rfl)) (pgs_cons (pg_name (i := 10) sc_law_term.nd rfl (Or.inl rfl)) pgs_nil))))
      (pss_cons (ps_set (i := 9) sc_law_term.nd rfl (Or.inl rfl) (pe_ix (r := rIxL K) ix_list (pe_lst (pa_cons pe_int (pa_cons (pv 9) pa_nil))) (pe_fn (hk := by omega) C_law_digit hr (by rfl) (pa_cons (pv 0) (pa_cons pe_int pa_nil))) (fun _ _ => rfl)))
      (pss_cons (ps_set (i := 11) sc_law_term.nd rfl (Or.inl rfl) (pe_fn (hk := by omega) C_law_term hr (by rfl) (pa_cons (pv 0) (pa_cons (pv 1) (pa_cons (pv 2) (pa_cons (pv 8) (pa_cons (pv 9) (pa_cons (pe_op op_sub (pv 5) pe_int) pa_nil))))))))
      (pss_cons (ps_set (i := 12) sc_law_term.nd rfl (Or.inl rfl) (pe_op op_cat (pv 2) (pe_lst (pa_cons (pe_tup (pa_cons (pv 7) (pa_cons (pv 8) pa_nil))) pa_nil))))
      (pss_cons (ps_set (i := 13) sc_law_term.nd rfl (Or.inl rfl) (pe_fn (hk := by omega) C_law_term hr (by rfl) (pa_cons (pv 0) (pa_cons (pv 1) (pa_cons (pv 12) (pa_cons (pv 3) (pa_cons (pv 10) (pa_cons (pe_op op_sub (pv 5) pe_int) pa_nil))))))))
      (pss_one (ps_ret (pe_tup (pa_cons pe_str (pa_cons (pv 7) (pa_cons (pv 11) (pa_cons (pv 13) pa_nil)))))))))))))) pss_nil)
      (pss_cons (ps_set (i := 7) sc_law_term.nd rfl (Or.inl rfl) (pe_fn (hk := by omega) C_law_pick hr (by rfl) (pa_cons (pv 0) (pa_cons (pv 2) (pa_cons (pe_item_str pe_str (pe_callTy call_int1 (by rfl) T.n_int (by decide +kernel) (pa_cons (pe_cmpR op_gt (pv 6) pe_int (nomark _)) pa_nil)) (fun _ _ => rfl)) pa_nil)))))
      (pss_cons (ps_if (PW.pt (pw_or (pt_cmp (pc_isN (pv 7))) (pw_or1 (pt_cmpR op_le (pv 4) (pe_callB (r := rLenS K) call_lenS (by rfl) T.n_len (by decide +kernel) (pa_cons (pe_dget (hu_of hr) (pv 1) pe_str (fun _ _ => rfl)) pa_nil)) (nomark _))))) (pss_one (ps_ret (pe_fn (hk := by omega) C_law_leaf hr (by rfl) (pa_cons (pv 0) (pa_cons (pv 1) (pa_cons (pv 2) (pa_cons (pv 3) pa_nil))))))) pss_nil)
      (pss_cons (ps_if (pt_cmpR op_lt (pv 6) pe_int (nomark _)) (pss_one (ps_ret (pe_tup (pa_cons pe_str (pa_cons (pv 7) (pa_cons (pe_fn (hk := by omega) C_law_cases hr (by rfl) (pa_cons (pv 0) (pa_cons (pv 1) (pa_cons (pv 2) (pa_cons (pv 3) (pa_cons (pv 4) (pa_cons (pv 5) pa_nil))))))) pa_nil)))))) pss_nil)
      (pss_cons (ps_asg (pe_fn (hk := by omega) C_law_shares hr (by rfl) (pa_cons (pv 0) (pa_cons (pe_op op_sub (pv 4) pe_int) (pa_cons pe_int pa_nil)))) (pg_unl rfl (pgs_cons (pg_name (i := 9) sc_law_term.nd rfl (Or.inl rfl)) (pgs_cons (pg_name (i := 10) sc_law_term.nd rfl (Or.inl rfl)) pgs_nil))))
      (pss_cons (ps_set (i := 11) sc_law_term.nd rfl (Or.inl rfl) (pe_fn (hk := by omega) C_law_term hr (by rfl) (pa_cons (pv 0) (pa_cons (pv 1) (pa_cons (pv 2) (pa_cons (pv 3) (pa_cons (pv 9) (pa_cons (pe_op op_sub (pv 5) pe_int) pa_nil))))))))
      (pss_cons (ps_set (i := 13) sc_law_term.nd rfl (Or.inl rfl) (pe_fn (hk := by omega) C_law_term hr (by rfl) (pa_cons (pv 0) (pa_cons (pv 1) (pa_cons (pv 2) (pa_cons (pv 3) (pa_cons (pv 10) (pa_cons (pe_op op_sub (pv 5) pe_int) pa_nil))))))))
      (pss_one (ps_ret (pe_tup (pa_cons pe_str (pa_cons (pv 7) (pa_cons (pv 11) (pa_cons (pv 13) pa_nil)))))))))))))))), ?_⟩
    -- way
    refine ⟨_, rfl, t, n, 12, rfl, g.ht, by decide, by decide, ?_⟩
    have k1 : Kp (Two t lw) H (upd H t (.lst [.int (n / 12)])) := (Kp.refl _ H).put (.inl rfl)
    have g1 : GP K (upd H t (.lst [.int (n / 12)])) t kn sh er lw (n / 12) rs sl el := g.put
    have prs1 := g.prs prs a1 a2 k1
    generalize upd H t (.lst [.int (n / 12)]) = H1 at k1 g1 prs1 ⊢
    -- a leaf
    have hleaf : ∀ (H2 : Hp) (n2 : Int), termF sl el (d + 1) n rs al kind room = leafG sl el n2 rs al kind → Kp (Two t lw) H H2 → GP K H2 t kn sh er lw n2 rs sl el → Prs K H2 ar al → spLeaf K [.ref t, .ref kn, .ref ar, .str kind] H2 Q E := fun H2 n2 e k2 g2 p2 => by
      refine leaf_use g2 gs p2 a1 a2 hk (by omega) fun H' v k3 t3 w3 d3 => ?_
      rw [← e] at t3 w3 d3
      exact q H' v (k2.trans k3) t3 w3 d3
    refine ⟨_, rfl, _, _, rfl, rfl, _, rfl, ite2 (fun e => ?_) (fun e => ?_)⟩
    · exact ⟨_, rfl, _, rfl, _, rfl, _, rfl, hleaf H1 _ (by unfold termF; rw [if_pos (.inl (by have := of_decide_eq_true e; omega))]) k1 g1 prs1⟩
    have c1 : ¬ room < 3 := fun z => e (decide_eq_true (by omega))
    clear e
    refine ⟨_, rfl, rfl, _, rfl, ite2 (fun e => ?_) (fun e => ?_)⟩
    · exact absurd (int_eq_of e) (by omega)
    clear e
    refine ⟨_, rfl, rfl, _, rfl, ite2 (fun e => ?_) (fun e => ?_)⟩
    · exact ⟨_, rfl, _, rfl, _, rfl, _, rfl, hleaf H1 _ (by unfold termF; rw [if_pos (.inr (int_eq_of e))]) k1 g1 prs1⟩
    have c2 := int_ne_of e
    clear e
    have c0 : ¬ (room < 3 ∨ n % 12 = 0) := fun z => z.elim c1 c2
    have hcond : ∀ (Qb : Bool → Hp → Prop), (∀ H2, Same H1 H2 → Qb (decide (n % 12 < 6 ∧ rs ≠ [])) H2) → tAnd (tTest (tOp (rI0 fun i j => V.bl (decide (i < j))) (tVar 6) (tC (V.int 6)))) (tTest (tOp (rNeP K 1) (tDGet (tVar 1) (tC (V.str "words"))) (tLst tNil)))
        [some (.ref t), some (.ref kn), some (.ref ar), some (.str kind), some (.int (room : Int)), some (.int ((d + 1 : Nat) : Int)), some (.int (n % 12)), none, none, none, none, none, none, none] H1 Qb := fun Qb hq => by
      refine ⟨_, rfl, _, _, rfl, rfl, _, rfl, ?_⟩
      by_cases h1 : n % 12 < 6
      · refine ite_T (decide_eq_true h1) ?_
        refine ⟨_, rfl, kn, .ref lw, rfl, DGet.k (k := Sum.inr "words") g1.dk, by show 0 ≤ sizeLine; decide, fun p hp => ?_⟩
        refine ⟨.list (rs.reverse.map .str), .list [], .lst (.inl (.inl (same_upd hp _ _ g1.hw))) (dpAll_strs rs.reverse), .lst (.inl (.inl upd_same)) .nil, plain_strs rs.reverse, rfl, ?_, _, rfl, ?_⟩
        · show min _ (PyData.depthAll [] + 1) ≤ 1
          exact Nat.min_le_right _ _
        rw [eqv_strs_nil]
        have := hq _ (same_upd (o := HO.lst []) hp)
        have e2 : decide (n % 12 < 6 ∧ rs ≠ []) = !decide (rs.reverse = []) := by
          cases rs <;> simp [h1]
        rw [e2] at this
        exact this
      · refine ite_F (decide_eq_false h1) ?_
        have := hq _ (Same.refl _)
        rw [decide_eq_false (fun z => h1 z.1)] at this
        exact this
    refine hcond _ fun H2 s2 => ?_
    have k2 := k1.trans (Kp.of s2)
    have g2 := g1.same s2
    have prs2 := prs1.same s2
    clear k1 g1 prs1 hcond s2
    refine ite2 (fun e => ?_) (fun e => ?_)
    · have c3 := of_decide_eq_true e
      clear e
      obtain ⟨x, r, rfl⟩ : ∃ x r, rs = x :: r := by
        cases rs with
        | nil => exact absurd rfl c3.2
        | cons x r => exact ⟨x, r, rfl⟩
      rw [show termF sl el (d + 1) n (x :: r) al kind room = letF (termF sl el d) x (n / 12) r al kind room by
        unfold termF
        rw [if_neg c0, if_pos c3]
        rfl] at q
      clear hleaf
      generalize n / 12 = m at q g2
      -- x
      refine ⟨_, rfl, kn, .ref lw, rfl, DGet.k (k := Sum.inr "words") g2.dk, .inl ⟨rfl, _, .inl (.inl g2.hw)⟩, lw, _, _, rfl, rfl, g2.hw, rev_last, ?_⟩
      rw [rev_drop]
      have k3 : Kp (Two t lw) H (upd H2 lw (.lst (r.reverse.map V.str))) := k2.put (.inr rfl)
      have g3 : GP K (upd H2 lw (.lst (r.reverse.map V.str))) t kn sh er lw m r sl el := g2.kp ((Kp.refl _ H2).put (.inr rfl)) (by rw [upd_ne g.tl]; exact g2.ht) upd_same
      have prs3 := g2.prs prs2 a1 a2 ((Kp.refl (Two t lw) H2).put (o := .lst (r.reverse.map V.str)) (.inr rfl))
      generalize upd H2 lw (.lst (r.reverse.map V.str)) = H3 at k3 g3 prs3 ⊢
      clear k2 g2 prs2
      -- given
      obtain ⟨b0, b1, b2, c, b3, b4⟩ := given_at m
      refine ⟨_, rfl, t, m, 3, rfl, g3.ht, by decide, by decide, _, _, c, rfl, rfl, b0, b1, b2, b3, ?_⟩
      rw [b4]
      have hgiv := given_in m
      have k4 : Kp (Two t lw) H (upd H3 t (.lst [.int (m / 3)])) := k3.put (.inl rfl)
      have g4 : GP K (upd H3 t (.lst [.int (m / 3)])) t kn sh er lw (m / 3) r sl el := g3.put
      have prs4 := g3.prs prs3 a1 a2 ((Kp.refl (Two t lw) H3).put (o := .lst [.int (m / 3)]) (.inl rfl))
      unfold letF at q
      generalize upd H3 t (.lst [.int (m / 3)]) = H4 at k4 g4 prs4 ⊢
      generalize m / 3 = m4 at q g4
      generalize givenF m = given at q hgiv ⊢
      clear k3 g3 prs3 b0 b1 b2 b3 b4
      -- one, two
      refine ⟨_, rfl, _, rfl, _, _, rfl, rfl, t, m4, room - 1 - 2, 2, ?_, g4.ht, by omega, fun H5 l5 k5 t5 hl5 d5 => ?_⟩
      · show [V.ref t, V.int ((room : Int) - 1), V.int 2] = [V.ref t, V.int ((room - 1 - 2 + 2 : Nat) : Int), V.int ((2 : Nat) : Int)]
        rw [show ((room - 1 - 2 + 2 : Nat) : Int) = (room : Int) - 1 by omega]
        rfl
      have hsum := shares_sum 2 m4 (room - 1 - 2)
      have hlen := shares_len 2 m4 (room - 1 - 2)
      generalize hsh : sharesF m4 (room - 1 - 2) 2 = shs at q t5 d5 hsum hlen
      obtain ⟨sh1, m5⟩ := shs
      obtain ⟨one, two, rfl⟩ : ∃ a b, sh1 = [a, b] := by
        match sh1, hlen with
        | [a, b], _ => exact ⟨a, b, rfl⟩
      clear hsh hlen
      have k5' := k4.trans (Kp.but k5 (.inl rfl))
      have g5 := g4.but k5 t5
      have prs5 := g4.prs prs4 a1 a2 (Kp.but k5 (.inl rfl))
      clear k4 g4 prs4 t5 k5
      have hsum' : one + two ≤ 1000 := by
        have : one + (two + 0) ≤ room - 1 - 2 + 2 := hsum
        omega
      refine ⟨l5, _, rfl, .inl (.inl d5), rfl, _, _, rfl, _, _, rfl, rfl, ?_⟩
      refine ⟨_, rfl, by show 2 ≤ sizeLine; decide, fun p6 h6 => ⟨_, rfl, t, m5, 2, rfl, same_upd h6 _ _ g5.ht, by decide, by decide, p6, [1, (one : Int)].map V.int, _, _, rfl, rfl, .inl (.inl (by rw [upd_ne (ne_t g5.ht h6)]; exact upd_same)), int_item [1, (one : Int)] m5 2 rfl (by decide), ?_⟩⟩
      have e6 : [1, (one : Int)].getD (m5 % ((2 : Nat) : Int)).toNat 0 = ((if m5 % 2 = 1 then one else 1 : Nat) : Int) := by
        have h : m5 % 2 = 0 ∨ m5 % 2 = 1 := by omega
        show [1, (one : Int)].getD (m5 % 2).toNat 0 = _
        rcases h with h | h <;> rw [h] <;> rfl
      rw [e6]
      have k6 : Kp (Two t lw) H (upd (upd H5 p6 (.lst [.int 1, .int (one : Int)])) t (.lst [.int (m5 / 2)])) := (k5'.alloc h6).put (.inl rfl)
      have g6 : GP K (upd (upd H5 p6 (.lst [.int 1, .int (one : Int)])) t (.lst [.int (m5 / 2)])) t kn sh er lw (m5 / 2) r sl el := (g5.same (same_upd h6)).put
      have prs6 := g5.prs prs5 a1 a2 (((Kp.refl (Two t lw) H5).alloc (o := .lst [.int 1, .int (one : Int)]) h6).put (o := .lst [.int (m5 / 2)]) (.inl rfl))
      change tNext _ _ (upd (upd H5 p6 (.lst [.int 1, .int (one : Int)])) t (.lst [.int (m5 / 2)]))
      have hone : (if m5 % 2 = 1 then one else 1) ≤ 1000 := by split <;> omega
      dsimp only [] at q
      change ∀ (H' : Hp) (v : V), Kp (Two t lw) H H' → H' t = _ → H' lw = _ → Dp K H' v _ → Q v H' at q
      generalize upd (upd H5 p6 (.lst [.int 1, .int (one : Int)])) t (.lst [.int (m5 / 2)]) = H6 at k6 g6 prs6 ⊢
      have ed : ((d + 1 : Nat) : Int) - 1 = (d : Int) := by omega
      have i7 := imm_term sl el d (m5 / 2) r al given (if m5 % 2 = 1 then one else 1)
      change ∀ (H' : Hp) (v : V), Kp (Two t lw) H H' → H' t = some (.lst [.int (termF sl el d (termF sl el d (m5 / 2) r al given (if m5 % 2 = 1 then one else 1)).2.1 (termF sl el d (m5 / 2) r al given (if m5 % 2 = 1 then one else 1)).2.2 (al ++ [(x, given)]) kind two).2.1]) →
        H' lw = some (.lst ((termF sl el d (termF sl el d (m5 / 2) r al given (if m5 % 2 = 1 then one else 1)).2.1 (termF sl el d (m5 / 2) r al given (if m5 % 2 = 1 then one else 1)).2.2 (al ++ [(x, given)]) kind two).2.2.reverse.map V.str)) →
        Dp K H' v (.tuple [.str "let", .str x, (termF sl el d (m5 / 2) r al given (if m5 % 2 = 1 then one else 1)).1, (termF sl el d (termF sl el d (m5 / 2) r al given (if m5 % 2 = 1 then one else 1)).2.1 (termF sl el d (m5 / 2) r al given (if m5 % 2 = 1 then one else 1)).2.2 (al ++ [(x, given)]) kind two).1]) → Q v H' at q
      generalize (if m5 % 2 = 1 then one else 1) = one' at q hone i7 ⊢
      generalize hT1 : termF sl el d (m5 / 2) r al given one' = T1 at q i7
      -- first
      refine ⟨_, rfl, _, rfl, _, rfl, _, rfl, _, rfl, _, rfl, _, _, rfl, rfl, t, kn, sh, er, lw, ar, m5 / 2, r, sl, al, el, given, one', ?_, hgiv, gs, g6, prs6, a1, a2, by omega, hone, fun H7 v7 k7 t7 w7 d7 => ?_⟩
      · rw [← ed]
        rfl
      rw [hT1] at t7 w7 d7
      have k7' := k6.trans k7
      have g7 := g6.kp k7 t7 w7
      have prs7 := g6.prs prs6 a1 a2 k7
      clear k6 g6 prs6 k7 t7 w7
      -- more
      obtain ⟨xar, ar1, ar2⟩ := prs7
      have lxar : xar.length = al.length := by
        rw [dpAll_len ar2, List.length_map]
      refine ⟨_, rfl, _, rfl, _, rfl, by show 2 ≤ sizeLine; decide, fun p8 h8 => ⟨by show 1 ≤ sizeLine; decide, fun p9 h9 => ⟨ar, p9, xar, [.ref p8], rfl, rfl, same_upd h9 _ _ (same_upd h8 _ _ ar1), upd_same, ?_, fun p10 h10 => ?_⟩⟩⟩
      · rw [lxar]
        exact Nat.le_trans (show al.length + 1 ≤ 1000 by omega) (by decide)
      have s10 : Same H7 (upd (upd (upd H7 p8 (.tup [.str x, .str given])) p9 (.lst [.ref p8])) p10 (.lst (xar ++ [.ref p8]))) := (same_upd h8).trans ((same_upd h9).trans (same_upd h10))
      have k10 := k7'.trans (Kp.of s10)
      have g10 := g7.same s10
      have d10 := dp_mono s10 d7
      have b10 : p10 ≠ t := ne_t (same_upd h9 _ _ (same_upd h8 _ _ g7.ht)) h10
      have b11 : p10 ≠ lw := ne_t (same_upd h9 _ _ (same_upd h8 _ _ g7.hw)) h10
      have prs10 : Prs K (upd (upd (upd H7 p8 (.tup [.str x, .str given])) p9 (.lst [.ref p8])) p10 (.lst (xar ++ [.ref p8]))) p10 (al ++ [(x, given)]) := by
        refine ⟨_, upd_same, ?_⟩
        rw [List.map_append]
        exact dpAll_append (dpAll_mono s10 ar2) (.cons (.tup (.inl (.inl (same_upd h10 _ _ (same_upd h9 _ _ upd_same)))) (.cons (.str _) (.cons (.str _) .nil))) .nil)
      change tNext _ _ (upd (upd (upd H7 p8 (.tup [.str x, .str given])) p9 (.lst [.ref p8])) p10 (.lst (xar ++ [.ref p8])))
      generalize upd (upd (upd H7 p8 (.tup [.str x, .str given])) p9 (.lst [.ref p8])) p10 (.lst (xar ++ [.ref p8])) = H10 at k10 g10 d10 prs10 ⊢
      clear s10 ar1 ar2 g7 k7' d7 h8 h9 h10
      -- second
      have ht2 : two ≤ 1000 := by omega
      refine ⟨_, rfl, _, rfl, _, rfl, _, rfl, _, rfl, _, rfl, _, _, rfl, rfl, t, kn, sh, er, lw, p10, T1.2.1, T1.2.2, sl, al ++ [(x, given)], el, kind, two, ?_, hk, gs, g10, prs10, b10, b11, ?_, ht2, fun H11 v11 k11 t11 w11 d11 => ?_⟩
      · rw [← ed]
        rfl
      · rw [List.length_append]
        show al.length + 1 + 10 * d ≤ 500
        omega
      have d12 := dp_tk (g10.tk k11) i7 d10
      refine ⟨_, rfl, _, rfl, _, rfl, by show 4 ≤ sizeLine; decide, fun p hp => ?_⟩
      have s12 := same_upd (o := HO.tup [.str "let", .str x, v7, v11]) hp
      exact q _ _ ((k10.trans k11).trans (Kp.of s12)) (s12 _ _ t11) (s12 _ _ w11) (.tup (.inl (.inl upd_same)) (.cons (.str _) (.cons (.str _) (.cons (dp_mono s12 d12) (.cons (dp_mono s12 d11) .nil)))))
    have c3 : ¬ (n % 12 < 6 ∧ rs ≠ []) := fun z => e (decide_eq_true z)
    clear e
    -- x
    obtain ⟨c, w1, w2, w3, w4, w5⟩ : ∃ c, 0 ≤ (if decide (9 < n % 12) = true then (1 : Int) else 0) ∧ (if decide (9 < n % 12) = true then (1 : Int) else 0) < 2 ^ 63 ∧ (if decide (9 < n % 12) = true then (1 : Int) else 0) < (("bn" : Str).length : Int) ∧ ("bn" : Str).cps[(if decide (9 < n % 12) = true then (1 : Int) else 0).toNat]? = some c ∧ (⟨#[c]⟩ : Str) = wayF n := by
      unfold wayF
      by_cases h : n % 12 > 9
      · rw [if_pos h, decide_eq_true (show 9 < n % 12 from h)]
        exact ⟨110, by decide, by decide, by decide, rfl, rfl⟩
      · rw [if_neg h, decide_eq_false (show ¬ 9 < n % 12 from h)]
        exact ⟨98, by decide, by decide, by decide, rfl, rfl⟩
    refine ⟨_, rfl, _, rfl, _, rfl, _, _, rfl, rfl, .inr ⟨_, rfl, _, _, c, rfl, rfl, w1, w2, w3, w4, t, ar, n / 12, al, _, rfl, g2.ht, prs2, a1, by omega, fun H3 k3 t3 => ?_⟩⟩
    rw [w5] at t3 ⊢
    clear w1 w2 w3 w4 w5
    have k3' := k2.trans (Kp.but k3 (.inl rfl))
    have g3 := g2.but k3 t3
    have prs3 := g2.prs prs2 a1 a2 (Kp.but k3 (.inl rfl))
    clear k2 g2 prs2 k3 t3
    generalize hpk : pickF (n / 12) al (wayF n) = pk at g3 ⊢
    obtain ⟨ox, m⟩ := pk
    change GP K H3 t kn sh er lw m rs sl el at g3
    cases ox with
    | none =>
      have hT : termF sl el (d + 1) n rs al kind room = leafG sl el m rs al kind := by
        show (if _ then _ else if _ then _ else _) = _
        rw [if_neg c0, if_neg c3, hpk]
      refine ⟨_, rfl, _, rfl, iteT ?_⟩
      exact ⟨_, rfl, _, rfl, _, rfl, _, rfl, hleaf H3 _ hT k3' g3 prs3⟩
    | some x =>
      have hT : termF sl el (d + 1) n rs al kind room = if room ≤ sl.length then leafG sl el m rs al kind else if n % 12 < 10 then openF x (casesF (fun n rs al sh => termF sl el d n rs al kind sh) sl al m rs room) else zeroF (termF sl el d) x m rs al kind room := by
        show (if _ then _ else if _ then _ else _) = _
        rw [if_neg c0, if_neg c3, hpk]
      obtain ⟨xsh, sh1, sh2⟩ := id g3.shp
      have lsh : xsh.length = sl.length := by
        rw [dpAll_len sh2, List.length_map]
      refine ⟨_, rfl, _, rfl, iteF ?_⟩
      refine ⟨_, rfl, _, rfl, kn, .ref sh, rfl, DGet.k (k := Sum.inr "shapes") g3.dk, sh, xsh, rfl, .inl (.inl (.inl sh1)), _, _, rfl, rfl, _, rfl, ite2 (fun e => ?_) (fun e => ?_)⟩
      · rw [if_pos (by have := of_decide_eq_true e; rw [lsh] at this; omega)] at hT
        exact ⟨_, rfl, _, rfl, _, rfl, _, rfl, hleaf H3 _ hT k3' g3 prs3⟩
      have c4 : ¬ room ≤ sl.length := fun z => e (decide_eq_true (by rw [lsh]; omega))
      rw [if_neg c4] at hT
      clear e hleaf sh1 sh2 lsh
      rw [hT] at q
      clear hT
      refine ⟨_, rfl, _, _, rfl, rfl, _, rfl, ite2 (fun e => ?_) (fun e => ?_)⟩
      · rw [if_pos (of_decide_eq_true e)] at q
        refine ⟨_, rfl, _, rfl, _, rfl, _, rfl, _, rfl, _, rfl, _, rfl, t, kn, sh, er, lw, ar, m, rs, sl, al, el, kind, room, rfl, hk, gs, g3, prs3, a1, a2, hal, hroom, by omega, fun H4 v4 k4 t4 w4 d4 => ⟨by show 3 ≤ sizeLine; decide, fun p hp => ?_⟩⟩
        have s5 := same_upd (o := HO.tup [.str "open", .str x, v4]) hp
        exact q _ _ ((k3'.trans k4).trans (Kp.of s5)) (s5 _ _ t4) (s5 _ _ w4) (.tup (.inl (.inl upd_same)) (.cons (.str _) (.cons (.str _) (.cons (dp_mono s5 d4) .nil))))
      rw [if_neg (fun z => e (decide_eq_true z))] at q
      clear e
      unfold zeroF at q
      -- one, two
      refine ⟨_, rfl, _, rfl, _, _, rfl, rfl, t, m, room - 1 - 2, 2, ?_, g3.ht, by omega, fun H5 l5 k5 t5 hl5 d5 => ?_⟩
      · show [V.ref t, V.int ((room : Int) - 1), V.int 2] = [V.ref t, V.int ((room - 1 - 2 + 2 : Nat) : Int), V.int ((2 : Nat) : Int)]
        rw [show ((room - 1 - 2 + 2 : Nat) : Int) = (room : Int) - 1 by omega]
        rfl
      have hsum := shares_sum 2 m (room - 1 - 2)
      have hlen := shares_len 2 m (room - 1 - 2)
      generalize hsh : sharesF m (room - 1 - 2) 2 = shs at q t5 d5 hsum hlen
      obtain ⟨sh1, m5⟩ := shs
      obtain ⟨one, two, rfl⟩ : ∃ a b, sh1 = [a, b] := by
        match sh1, hlen with
        | [a, b], _ => exact ⟨a, b, rfl⟩
      clear hsh hlen
      have k5' := k3'.trans (Kp.but k5 (.inl rfl))
      have g5 := g3.but k5 t5
      have prs5 := g3.prs prs3 a1 a2 (Kp.but k5 (.inl rfl))
      clear k3' g3 prs3 t5 k5
      have hsum' : one + two ≤ 1000 := by
        have : one + (two + 0) ≤ room - 1 - 2 + 2 := hsum
        omega
      have h1 : one ≤ 1000 := by omega
      have h2 : two ≤ 1000 := by omega
      refine ⟨l5, _, rfl, .inl (.inl d5), rfl, _, _, rfl, _, _, rfl, rfl, ?_⟩
      have ed : ((d + 1 : Nat) : Int) - 1 = (d : Int) := by omega
      have i7 := imm_term sl el d m5 rs al kind one
      change ∀ (H' : Hp) (v : V), Kp (Two t lw) H H' → H' t = some (.lst [.int (termF sl el d (termF sl el d m5 rs al kind one).2.1 (termF sl el d m5 rs al kind one).2.2 al kind two).2.1]) →
        H' lw = some (.lst ((termF sl el d (termF sl el d m5 rs al kind one).2.1 (termF sl el d m5 rs al kind one).2.2 al kind two).2.2.reverse.map V.str)) →
        Dp K H' v (.tuple [.str "zero", .str x, (termF sl el d m5 rs al kind one).1, (termF sl el d (termF sl el d m5 rs al kind one).2.1 (termF sl el d m5 rs al kind one).2.2 al kind two).1]) → Q v H' at q
      generalize hT1 : termF sl el d m5 rs al kind one = T1 at q i7
      refine ⟨_, rfl, _, rfl, _, rfl, _, rfl, _, rfl, _, rfl, _, _, rfl, rfl, t, kn, sh, er, lw, ar, m5, rs, sl, al, el, kind, one, ?_, hk, gs, g5, prs5, a1, a2, by omega, h1, fun H7 v7 k7 t7 w7 d7 => ?_⟩
      · rw [← ed]
        rfl
      rw [hT1] at t7 w7 d7
      have k7' := k5'.trans k7
      have g7 := g5.kp k7 t7 w7
      have prs7 := g5.prs prs5 a1 a2 k7
      refine ⟨_, rfl, _, rfl, _, rfl, _, rfl, _, rfl, _, rfl, _, _, rfl, rfl, t, kn, sh, er, lw, ar, T1.2.1, T1.2.2, sl, al, el, kind, two, ?_, hk, gs, g7, prs7, a1, a2, by omega, h2, fun H11 v11 k11 t11 w11 d11 => ?_⟩
      · rw [← ed]
        rfl
      have d12 := dp_tk (g7.tk k11) i7 d7
      refine ⟨_, rfl, _, rfl, _, rfl, by show 4 ≤ sizeLine; decide, fun p hp => ?_⟩
      have s12 := same_upd (o := HO.tup [.str "zero", .str x, v7, v11]) hp
      exact q _ _ ((k7'.trans k11).trans (Kp.of s12)) (s12 _ _ t11) (s12 _ _ w11) (.tup (.inl (.inl upd_same)) (.cons (.str _) (.cons (.str _) (.cons (dp_mono s12 d12) (.cons (dp_mono s12 d11) .nil)))))
end
end SP

namespace SP
open PySem PySem.Spec PyProof.Rows L2
open C8 (pss_cut tCut)
theorem cutV_from (xs : List V) (k : Nat) : cutV xs (some (k : Int)) none = xs.drop k := by
  unfold cutV
  rw [HT.sIx_nat, HT.sIx_none, List.take_of_length_le (by rw [List.length_drop]; omega)]
  by_cases h : k ≤ xs.length
  · rw [Nat.min_eq_left h]
  · rw [Nat.min_eq_right (by omega), List.drop_eq_nil_of_le (Nat.le_refl _), List.drop_eq_nil_of_le (by omega)]
theorem cutV_to (xs : List V) (k : Nat) : cutV xs none (some (k : Int)) = xs.take k := by
  unfold cutV
  rw [HT.sIx_nat, HT.sIx_none, List.drop_zero, Nat.sub_zero]
  by_cases h : k ≤ xs.length
  · rw [Nat.min_eq_left h]
  · rw [Nat.min_eq_right (by omega), List.take_of_length_le (Nat.le_refl _), List.take_of_length_le (by omega)]
theorem cutS_to (z : Str) (k : Nat) : (cutS z none (some (k : Int))).cps = (z.cps.toList.take k).toArray := by
  unfold cutS
  rw [HT.sIx_nat, HT.sIx_none, List.drop_zero, Nat.sub_zero]
  have hz : z.length = z.cps.toList.length := rfl
  by_cases h : k ≤ z.length
  · rw [Nat.min_eq_left h]
  · rw [Nat.min_eq_right (by omega), List.take_of_length_le (by omega), List.take_of_length_le (by omega)]
theorem kinds_len (n : Int) (ks : Str) (h : ks.length ≤ 9) : (kindsF n ks).length ≤ 9 := by
  unfold kindsF
  split
  · have h1 : (cutS ks none (some 2)).cps = _ := cutS_to ks 2
    show (cutS ks none (some 2) ++ ("n" : Str)).cps.size ≤ 9
    have h2 : (cutS ks none (some 2) ++ ("n" : Str)).cps = (cutS ks none (some 2)).cps ++ ("n" : Str).cps := rfl
    rw [h2, Array.size_append, h1]
    simp only [List.size_toArray, List.length_take]
    have : ("n" : Str).cps.size = 1 := rfl
    omega
  · exact h
theorem asg_by {te : TE} {g : TG} {r : TS} {D : Ends} {σ : L2.St} {H : Hp} (v : V) (H1 : Hp) (hc : ∀ Qv : VK, Qv v H1 → te σ H Qv) (h : g v σ H1 (r D)) : tSeq (tAsg te g) r D σ H := hc _ h
theorem turned_len (n : Int) (sl : List (Str × Str)) (h : sl ≠ []) : (turnedF n sl).length = sl.length := by
  have hp : 0 < sl.length := List.length_pos_iff.mpr h
  have h1 : 0 ≤ n % (sl.length : Int) := Int.emod_nonneg _ (by omega)
  have h2 : n % (sl.length : Int) < (sl.length : Int) := Int.emod_lt_of_pos _ (by omega)
  unfold turnedF
  rw [List.length_append, List.length_drop, List.length_take]
  omega
theorem shapes_len (n : Int) (sl : List (Str × Str)) (h : sl ≠ []) : (shapesF n sl).length = sl.length := by
  unfold shapesF
  split
  · rw [List.length_reverse, turned_len n sl h]
  · exact turned_len n sl h
theorem shapes_in (n : Int) (sl : List (Str × Str)) : ∀ p ∈ shapesF n sl, p ∈ sl := by
  have ht : ∀ p ∈ turnedF n sl, p ∈ sl := fun p h => by
    rcases List.mem_append.mp h with h | h
    · exact List.mem_of_mem_drop h
    · exact List.mem_of_mem_take h
  intro p h
  unfold shapesF at h
  split at h
  · exact ht p (List.mem_reverse.mp h)
  · exact ht p h
theorem many_le (n : Int) (sl : List (Str × Str)) (h : sl ≠ []) : 1 ≤ manyF n sl ∧ manyF n sl ≤ sl.length := by
  have hp : 0 < sl.length := List.length_pos_iff.mpr h
  unfold manyF
  split <;> omega
theorem dpAll_rev {K : PySem.W.Frag} {H : Hp} : ∀ {xs : List V} {ds : List PyData}, DpAll K H xs ds → DpAll K H xs.reverse ds.reverse
  | _, _, .nil => .nil
  | _, _, .cons a t => by
    rw [List.reverse_cons, List.reverse_cons]
    exact dpAll_snoc (dpAll_rev t) a
theorem mem_le_sum {x : Nat} : ∀ {l : List Nat}, x ∈ l → x ≤ l.sum
  | y :: l, h => by
    rw [List.sum_cons]
    rcases List.mem_cons.mp h with rfl | h
    · omega
    · have := mem_le_sum h
      omega
theorem take_min' {α : Type} (l : List α) (a : Nat) : l.take (min a l.length) = l.take a := by
  by_cases h : a ≤ l.length
  · rw [Nat.min_eq_left h]
  · rw [Nat.min_eq_right (by omega), List.take_of_length_le (Nat.le_refl _), List.take_of_length_le (by omega)]
theorem drop_min' {α : Type} (l : List α) (a : Nat) : l.drop (min a l.length) = l.drop a := by
  by_cases h : a ≤ l.length
  · rw [Nat.min_eq_left h]
  · rw [Nat.min_eq_right (by omega), List.drop_eq_nil_of_le (Nat.le_refl _), List.drop_eq_nil_of_le (by omega)]
theorem drop_at {α : Type} {l : List α} {i : Nat} {x : α} (h : l[i]? = some x) : l.drop i = x :: l.drop (i + 1) := by
  obtain ⟨h1, h2⟩ := List.getElem?_eq_some_iff.mp h
  rw [List.drop_eq_getElem_cons h1, h2]
theorem imm_snoc {d : PyData} (h2 : imm d = true) : ∀ {l : List PyData}, immAll l = true → immAll (l ++ [d]) = true
  | [], _ => by
    show (imm d && true) = true
    rw [h2]
    rfl
  | x :: l, h => by
    have h' := Bool.and_eq_true_iff.mp (show (imm x && immAll l) = true from h)
    show (imm x && immAll (l ++ [d])) = true
    rw [h'.1, imm_snoc h2 h'.2]
    rfl
theorem two_free {K : PySem.W.Frag} {H H' : Hp} {t kn sh er lw F : Addr} {n : Int} {rs : List Str} {sl : List (Str × Str)} {el : List (Str × Str × Str)} (k : Kp (Two t lw) H H') (g : GP K H' t kn sh er lw n rs sl el) (h : H' F = none) : H F = none := by
  cases e : H F with
  | none => rfl
  | some o =>
    have hF : ¬ Two t lw F := fun z => by
      rcases z with rfl | rfl
      · rw [g.ht] at h
        cases h
      · rw [g.hw] at h
        cases h
    rw [k _ _ hF e] at h
    cases h
theorem GP.side {K : PySem.W.Frag} {H : Hp} {t kn sh er lw F : Addr} {n : Int} {rs : List Str} {sl : List (Str × Str)} {el : List (Str × Str × Str)} {o : HO} {fv : List V} (g : GP K H t kn sh er lw n rs sl el) (h : H F = some (.lst fv)) (f1 : F ≠ t) (f2 : F ≠ lw) (f3 : F ≠ kn) (f4 : F ≠ sh) (f5 : F ≠ er) : GP K (upd H F o) t kn sh er lw n rs sl el := by
  obtain ⟨xs, x1, x2⟩ := g.err
  have tk : Tk H (upd H F o) := tk_put h
  refine ⟨by rw [upd_ne f1.symm]; exact g.ht, by rw [upd_ne f2.symm]; exact g.hw, by rw [upd_ne f3.symm]; exact g.dk, ?_, ⟨xs, by rw [upd_ne f5.symm]; exact x1, dpAll_tk tk (imm_trs el) x2⟩, g.k1, g.s1, g.e1, g.k2, g.s2, g.e2, g.tl⟩
  obtain ⟨ys, y1, y2⟩ := g.shp
  exact ⟨ys, by rw [upd_ne f4.symm]; exact y1, dpAll_tk tk (imm_prs sl) y2⟩
theorem prs_side {K : PySem.W.Frag} {H : Hp} {a F : Addr} {al : List (Str × Str)} {o : HO} {fv : List V} (p : Prs K H a al) (h : H F = some (.lst fv)) (f : F ≠ a) : Prs K (upd H F o) a al := by
  obtain ⟨ys, y1, y2⟩ := p
  exact ⟨ys, by rw [upd_ne f.symm]; exact y1, dpAll_tk (tk_put h) (imm_prs al) y2⟩
theorem prs_ne {K : PySem.W.Frag} {H : Hp} {a F : Addr} {al : List (Str × Str)} (p : Prs K H a al) (h : H F = none) : F ≠ a := by
  obtain ⟨ys, y1, y2⟩ := p
  exact ne_t y1 h
section
variable {P : Program} {w : World} {K : PySem.W.Frag} {mg : Str → Option Value} {base : Heap}
theorem ok_law_cases {f : Addr} {fd : FuncData} (F : Fun K "_law_cases" "_law_cases" s_law_cases f fd) (T : Txt mg) (d : Nat) (C_law_digit : Callee P w K mg base "_law_digit" ["tape", "many"] 1 (spDigit K)) (C_law_shares : Callee P w K mg base "_law_shares" ["tape", "room", "many"] 2 (spShares K)) (C_law_term : Callee P w K mg base "_law_term" ["tape", "known", "around", "kind", "room", "deep"] (2 * d + 4) (spTerm K d)) : FnOk P w K mg base CX0 (2 * d + 5) f fd ["tape", "known", "around", "kind", "room", "deep"] (spCases K d) := by
  refine F.ok sc_law_cases (fun vs H Q E h => ?_) (fun cdv A outer s H vs Q E hr h => ?_)
  · obtain ⟨t, kn, sh, er, lw, ar, n, rs, sl, al, el, kind, room, rfl, _⟩ := h
    rfl
  · obtain ⟨t, kn, sh, er, lw, ar, n, rs, sl, al, el, kind, room, rfl, hk, gs, g, prs, a1, a2, hal, hroom, hrs, q⟩ := h
    refine ⟨_, (pss_cons (ps_set (i := 6) sc_law_cases.nd rfl (Or.inl rfl) (pe_callB (r := rLenS K) call_lenS (by rfl) T.n_len (by decide +kernel) (pa_cons (pe_dget (hu_of hr) (pv 1) pe_str (fun _ _ => rfl)) pa_nil)))
      (pss_cons (ps_set (i := 7) sc_law_cases.nd rfl (Or.inl rfl) (pe_fn (hk := by omega) C_law_digit hr (by rfl) (pa_cons (pv 0) (pa_cons (pv 6) pa_nil))))
      (pss_cons (ps_set (i := 8) sc_law_cases.nd rfl (Or.inl rfl) (pe_op op_cat (pe_slice (r := rSlL K) sl_list (pe_dget (hu_of hr) (pv 1) pe_str (fun _ _ => rfl)) (po_some (pv 7)) po_none) (pe_slice (r := rSlL K) sl_list (pe_dget (hu_of hr) (pv 1) pe_str (fun _ _ => rfl)) po_none (po_some (pv 7)))))
      (pss_cut (ps_if (pt_cmpR op_eq (pe_fn (hk := by omega) C_law_digit hr (by rfl) (pa_cons (pv 0) (pa_cons pe_int pa_nil))) pe_int (nomark _)) (pss_one (ps_set (i := 8) sc_law_cases.nd rfl (Or.inl rfl) (pe_turned (pv 8) (pe_un un_neg pe_int)))) pss_nil)
      (pss_cons (ps_set (i := 9) sc_law_cases.nd rfl (Or.inl rfl) (pe_fn (hk := by omega) C_law_shares hr (by rfl) (pa_cons (pv 0) (pa_cons (pe_op op_sub (pv 4) pe_int) (pa_cons (pv 6) pa_nil)))))
      (pss_cons (ps_set (i := 10) sc_law_cases.nd rfl (Or.inl rfl) (pe_lst pa_nil))
      (pss_cons (ps_for PassesOwn.never rfl (pi_range1 rfl T.n_range (pa_cons (pe_callB (call_max2 rfl) (by rfl) T.n_max (by decide +kernel) (pa_cons pe_int (pa_cons (pe_op op_sub (pv 6) (pe_callTy call_int1 (by rfl) T.n_int (by decide +kernel) (pa_cons (pe_cmpR op_eq (pe_fn (hk := by omega) C_law_digit hr (by rfl) (pa_cons (pv 0) (pa_cons pe_int pa_nil))) pe_int (nomark _)) pa_nil))) pa_nil))) pa_nil)) (pg_name (i := 11) sc_law_cases.nd rfl (Or.inl rfl))
      (pss_cons (ps_asg (pe_ix (r := rIxL K) ix_list (pv 8) (pv 11) (fun _ _ => rfl)) (pg_tup rfl (pgs_cons (pg_name (i := 12) sc_law_cases.nd rfl (Or.inl rfl)) (pgs_cons (pg_name (i := 13) sc_law_cases.nd rfl (Or.inl rfl)) pgs_nil))))
      (pss_cons (ps_set (i := 13) sc_law_cases.nd rfl (Or.inl rfl) (pe_ifExp (pt_cmpR op_eq (pe_fn (hk := by omega) C_law_digit hr (by rfl) (pa_cons (pv 0) (pa_cons pe_int pa_nil))) pe_int (nomark _)) (pe_op op_add_str (pe_slice (r := rSlS) sl_str (pv 13) po_none (po_some pe_int)) pe_str) (pv 13)))
      (pss_cons (ps_setLc (i := 14) (own := [("one", 17)]) (g := gName 17) (tt := tYes) (te := tBM0 K "list" rPop (tDGet (tVar 1) (tC (V.str "words")))) rfl sc_law_cases.nd rfl rfl (sw_true rfl rfl rfl (by decide +kernel)) (pi_str (pe_slice (r := rSlS) sl_str (pv 13) po_none (po_some (pe_callB (r := rLenS K) call_lenS (by rfl) T.n_len (by decide +kernel) (pa_cons (pe_dget (hu_of hr) (pv 1) pe_str (fun _ _ => rfl)) pa_nil))))) (blkOk_by (own := [("one", 17)]) (N := ["tape", "known", "around", "kind", "room", "deep", "many", "turn", "shapes", "shares", "found", "k", "w", "kinds", "ys", "more", "part", "one", "y"]) (sc := defScope s_law_cases) (by decide +kernel)) (fun _ _ _ _ _ => (pg_name (i := 17) sc_law_cases.nd rfl (Or.inl rfl))) (fun _ _ _ _ _ => pts_nil) (fun _ _ _ _ _ => (pe_bm0 PySem.F.plainAttrs_list PySem.F.slot_list_pop PySem.F.type_list_pop mt_pop (pe_dget (hu_of hr) (pv 1) pe_str (fun _ _ => rfl)))))
      (pss_cons (ps_set (i := 15) sc_law_cases.nd rfl (Or.inl rfl) (pe_op op_cat (pv 2) (pe_lc (own := [("y", 18), ("one", 17)]) (g := gTup K 2 (gCons (gName 18) (gCons (gName 17) gNil))) (tt := tYes) rfl sc_law_cases.nd (pi_zipText (by rfl) T.n_zip (pa_cons (pv 14) (pa_cons (pv 13) pa_nil))) (blkOk_by (own := [("y", 18), ("one", 17)]) (N := ["tape", "known", "around", "kind", "room", "deep", "many", "turn", "shapes", "shares", "found", "k", "w", "kinds", "ys", "more", "part", "one", "y"]) (sc := defScope s_law_cases) (by decide +kernel)) (fun _ _ _ _ _ => (pg_tup rfl (pgs_cons (pg_name (i := 18) sc_law_cases.nd rfl (Or.inl rfl)) (pgs_cons (pg_name (i := 17) sc_law_cases.nd rfl (Or.inl rfl)) pgs_nil)))) (fun _ _ _ _ _ => pts_nil) (fun _ _ _ _ _ => (pe_tup (pa_cons (pv 18) (pa_cons (pv 17) pa_nil)))))))
      (pss_cons (ps_set (i := 16) sc_law_cases.nd rfl (Or.inl rfl) (pe_fn (hk := by omega) C_law_term hr (by rfl) (pa_cons (pv 0) (pa_cons (pv 1) (pa_cons (pv 15) (pa_cons (pv 3) (pa_cons (pe_ix (r := rIxL K) ix_list (pv 9) (pv 11) (fun _ _ => rfl)) (pa_cons (pe_op op_sub (pv 5) pe_int) pa_nil))))))))
      (pss_one (ps_expr (pe_bm PySem.F.plainAttrs_list PySem.F.slot_list_append PySem.F.type_list_append mt_append (pv 10) (pa_cons (pe_tup (pa_cons (pv 12) (pa_cons (pe_callTy (r := rTupleS K) call_tupleS (by rfl) T.n_tuple (by decide +kernel) (pa_cons (pv 14) pa_nil)) (pa_cons (pv 16) pa_nil)))) pa_nil))))))))))
      (pss_one (ps_ret (pe_callTy (r := rTupleS K) call_tupleS (by rfl) T.n_tuple (by decide +kernel) (pa_cons (pv 10) pa_nil))))))))))), ?_⟩
    have hp : 0 < sl.length := List.length_pos_iff.mpr gs.ne
    have hl1 := gs.l1
    obtain ⟨xsh, sh1, sh2⟩ := id g.shp
    have lsh : xsh.length = sl.length := by
      rw [dpAll_len sh2, List.length_map]
    -- many, turn
    refine ⟨_, rfl, kn, .ref sh, rfl, DGet.k (k := Sum.inr "shapes") g.dk, sh, xsh, rfl, .inl (.inl (.inl sh1)), ?_⟩
    rw [lsh]
    refine ⟨_, rfl, _, rfl, t, n, (sl.length : Int), rfl, g.ht, by omega, by omega, ?_⟩
    have h1 : 0 ≤ n % (sl.length : Int) := Int.emod_nonneg _ (by omega)
    have h2 : n % (sl.length : Int) < (sl.length : Int) := Int.emod_lt_of_pos _ (by omega)
    have hturn : (((n % (sl.length : Int)).toNat : Nat) : Int) = n % (sl.length : Int) := by omega
    have k1 : Kp (Two t lw) H (upd H t (.lst [.int (n / (sl.length : Int))])) := (Kp.refl _ H).put (.inl rfl)
    have g1 : GP K (upd H t (.lst [.int (n / (sl.length : Int))])) t kn sh er lw (n / (sl.length : Int)) rs sl el := g.put
    have prs1 := g.prs prs a1 a2 k1
    have shp1 : (upd H t (.lst [.int (n / (sl.length : Int))])) sh = some (.lst xsh) := by
      rw [upd_ne g.s1]
      exact sh1
    have shd1 := dpAll_tk (g.tk k1) (imm_prs sl) sh2
    generalize upd H t (.lst [.int (n / (sl.length : Int))]) = H1 at k1 g1 prs1 shp1 shd1 ⊢
    rw [← hturn]
    -- shapes
    refine ⟨_, rfl, kn, .ref sh, rfl, DGet.k (k := Sum.inr "shapes") g1.dk, _, rfl, _, rfl, sh, xsh, rfl, .inl (.inl shp1), fun p2 hp2 => ?_⟩
    rw [cutV_from]
    refine ⟨_, rfl, kn, .ref sh, rfl, DGet.k (k := Sum.inr "shapes") (same_upd hp2 _ _ g1.dk), _, rfl, _, rfl, sh, xsh, rfl, .inl (.inl (same_upd hp2 _ _ shp1)), fun p3 hp3 => ?_⟩
    rw [cutV_to]
    have lz : (xsh.drop (n % (sl.length : Int)).toNat).length + (xsh.take (n % (sl.length : Int)).toNat).length ≤ sizeLine := by
      rw [List.length_drop, List.length_take]
      exact Nat.le_trans (show _ ≤ 1000 by omega) (by decide)
    refine ⟨p2, p3, _, _, rfl, rfl, same_upd hp3 _ _ upd_same, upd_same, lz, fun p4 hp4 => ?_⟩
    clear lz
    have s4 := (same_upd (o := HO.lst (xsh.drop (n % (sl.length : Int)).toNat)) hp2).trans ((same_upd (o := HO.lst (xsh.take (n % (sl.length : Int)).toNat)) hp3).trans (same_upd (o := HO.lst (xsh.drop (n % (sl.length : Int)).toNat ++ xsh.take (n % (sl.length : Int)).toNat)) hp4))
    have k4 := k1.trans (Kp.of s4)
    have g4 := g1.same s4
    have prs4 := prs1.same s4
    have b1 : p4 ≠ t := ne_t (same_upd hp3 _ _ (same_upd hp2 _ _ g1.ht)) hp4
    have b2 : p4 ≠ lw := ne_t (same_upd hp3 _ _ (same_upd hp2 _ _ g1.hw)) hp4
    have hD4 : Prs K (upd (upd (upd H1 p2 (.lst (xsh.drop (n % (sl.length : Int)).toNat))) p3 (.lst (xsh.take (n % (sl.length : Int)).toNat))) p4 (.lst (xsh.drop (n % (sl.length : Int)).toNat ++ xsh.take (n % (sl.length : Int)).toNat))) p4 (turnedF n sl) := by
      refine ⟨_, upd_same, ?_⟩
      unfold turnedF
      rw [List.map_append, List.map_drop, List.map_take]
      exact dpAll_mono s4 (dpAll_append (dpAll_drop _ shd1) (dpAll_take _ shd1))
    change tNext _ _ (upd (upd (upd H1 p2 (.lst (xsh.drop (n % (sl.length : Int)).toNat))) p3 (.lst (xsh.take (n % (sl.length : Int)).toNat))) p4 (.lst (xsh.drop (n % (sl.length : Int)).toNat ++ xsh.take (n % (sl.length : Int)).toNat)))
    generalize upd (upd (upd H1 p2 (.lst (xsh.drop (n % (sl.length : Int)).toNat))) p3 (.lst (xsh.take (n % (sl.length : Int)).toNat))) p4 (.lst (xsh.drop (n % (sl.length : Int)).toNat ++ xsh.take (n % (sl.length : Int)).toNat)) = H4 at k4 g4 prs4 hD4 ⊢
    clear s4 hp2 hp3 hp4 k1 g1 prs1 shp1 shd1
    -- turned round, or not
    refine ⟨fun σ' H' => ∃ D, σ' = [some (.ref t), some (.ref kn), some (.ref ar), some (.str kind), some (.int (room : Int)), some (.int ((d + 1 : Nat) : Int)), some (.int (sl.length : Int)), some (.int (((n % (sl.length : Int)).toNat : Nat) : Int)), some (.ref D), none, none, none, none, none, none, none, none, none, none] ∧
      Kp (Two t lw) H H' ∧ GP K H' t kn sh er lw (n / (sl.length : Int) / 2) rs sl el ∧ Prs K H' ar al ∧ Prs K H' D (shapesF n sl) ∧ D ≠ t ∧ D ≠ lw, ?_, ?_⟩
    · refine ⟨_, rfl, t, n / (sl.length : Int), 2, rfl, g4.ht, by decide, by decide, rfl, _, rfl, ?_⟩
      have kk : Kp (Two t lw) H4 (upd H4 t (.lst [.int (n / (sl.length : Int) / 2)])) := (Kp.refl _ H4).put (.inl rfl)
      have k5 := k4.trans kk
      have g5 : GP K (upd H4 t (.lst [.int (n / (sl.length : Int) / 2)])) t kn sh er lw (n / (sl.length : Int) / 2) rs sl el := g4.put
      have prs5 := g4.prs prs4 a1 a2 kk
      have hD5 := g4.prs hD4 b1 b2 kk
      generalize upd H4 t (.lst [.int (n / (sl.length : Int) / 2)]) = H5 at k5 g5 prs5 hD5 ⊢
      refine ite2 (fun e => ?_) (fun e => ?_)
      · obtain ⟨ys, y1, y2⟩ := hD5
        refine ⟨_, rfl, _, rfl, rfl, p4, ys, rfl, .inl (.inl y1), fun p6 h6 => ?_⟩
        have s6 := same_upd (o := HO.lst ys.reverse) h6
        refine ⟨p6, rfl, k5.trans (Kp.of s6), g5.same s6, prs5.same s6, ⟨_, upd_same, ?_⟩, ne_t g5.ht h6, ne_t g5.hw h6⟩
        unfold shapesF
        rw [if_pos (int_eq_of e), List.map_reverse]
        exact dpAll_mono s6 (dpAll_rev y2)
      · refine ⟨p4, rfl, k5, g5, prs5, ?_, b1, b2⟩
        unfold shapesF
        rw [if_neg (int_ne_of e)]
        exact hD5
    rintro _ H5 ⟨D, rfl, k5, g5, prs5, hD5, c1, c2⟩
    clear b1 b2 hD4 k4 g4 prs4
    -- shares
    unfold casesF at q
    have lS := shapes_len n sl gs.ne
    have iS := shapes_in n sl
    generalize shapesF n sl = S at q hD5 lS iS
    generalize n / (sl.length : Int) / 2 = m at q g5
    refine ⟨_, rfl, _, rfl, _, _, rfl, rfl, _, rfl, t, m, room - 1 - sl.length, sl.length, ?_, g5.ht, by omega, fun H6 l6 k6 t6 hl6 d6 => ?_⟩
    · show [V.ref t, V.int ((room : Int) - 1), V.int (sl.length : Int)] = [V.ref t, V.int ((room - 1 - sl.length + sl.length : Nat) : Int), V.int (sl.length : Int)]
      rw [show ((room - 1 - sl.length + sl.length : Nat) : Int) = (room : Int) - 1 by omega]
    have hsum := shares_sum sl.length m (room - 1 - sl.length)
    have hlen := shares_len sl.length m (room - 1 - sl.length)
    generalize hsh : sharesF m (room - 1 - sl.length) sl.length = shs at q t6 d6 hsum hlen
    obtain ⟨shl, m6⟩ := shs
    change shl.length = sl.length at hlen
    change shl.sum ≤ _ at hsum
    have k6' := k5.trans (Kp.but k6 (.inl rfl))
    have g6 := g5.but k6 t6
    have prs6 := g5.prs prs5 a1 a2 (Kp.but k6 (.inl rfl))
    have hD6 := g5.prs hD5 c1 c2 (Kp.but k6 (.inl rfl))
    change GP K H6 t kn sh er lw m6 rs sl el at g6
    change H6 l6 = some (.lst (shl.map fun x => V.int (x : Nat))) at d6
    have n6 : l6 ≠ t := ne_t g5.ht hl6
    have n6' : l6 ≠ lw := ne_t g5.hw hl6
    clear hsh k5 g5 prs5 hD5 k6 t6 hl6
    -- found
    refine ⟨by show 0 ≤ sizeLine; decide, fun F7 h7 => ?_⟩
    have hF : H F7 = none := two_free k6' g6 h7
    have f1 : F7 ≠ t := ne_t g6.ht h7
    have f2 : F7 ≠ lw := ne_t g6.hw h7
    have f3 : F7 ≠ kn := ne_t g6.dk h7
    have f4 : F7 ≠ sh := prs_ne g6.shp h7
    have f5 : F7 ≠ er := by
      obtain ⟨xs, x1, _⟩ := g6.err
      exact ne_t x1 h7
    have f6 : F7 ≠ ar := prs_ne prs6 h7
    have f7 : F7 ≠ D := prs_ne hD6 h7
    have f8 : F7 ≠ l6 := ne_t d6 h7
    have s7 := same_upd (o := HO.lst []) h7
    have k7 := k6'.trans (Kp.of s7)
    have g7 := g6.same s7
    have prs7 := prs6.same s7
    have hD7 := hD6.same s7
    have d7 := s7 _ _ d6
    have F7s : (upd H6 F7 (.lst [])) F7 = some (.lst []) := upd_same
    change tNext _ _ (upd H6 F7 (.lst []))
    generalize upd H6 F7 (.lst []) = H7 at k7 g7 prs7 hD7 d7 F7s ⊢
    clear k6' g6 prs6 hD6 d6 h7 s7
    -- how many
    obtain ⟨mc1, mc2⟩ := many_le m6 sl gs.ne
    refine ⟨_, rfl, _, rfl, t, m6, 12, rfl, g7.ht, by decide, by decide, rfl, .inr ⟨_, rfl, _, _, rfl, rfl, _, _, rfl, manyF m6 sl, ?_, by omega, by omega, ?_⟩⟩
    · have hm : (manyF m6 sl : Int) = if (sl.length : Int) - (if decide (V.int (m6 % 12) = V.int 1) = true then 1 else 0) > 1 then (sl.length : Int) - (if decide (V.int (m6 % 12) = V.int 1) = true then 1 else 0) else 1 := by
        unfold manyF
        by_cases h : m6 % 12 = 1
        · rw [if_pos h, if_pos (decide_eq_true (by rw [h]))]
          split <;> omega
        · rw [if_neg h, if_neg (fun z => h (int_eq_of z))]
          split <;> omega
      rw [hm]
    have kk : Kp (Two t lw) H7 (upd H7 t (.lst [.int (m6 / 12)])) := (Kp.refl _ H7).put (.inl rfl)
    have k8 := k7.trans kk
    have g8 : GP K (upd H7 t (.lst [.int (m6 / 12)])) t kn sh er lw (m6 / 12) rs sl el := g7.put
    have prs8 := g7.prs prs7 a1 a2 kk
    have hD8 := g7.prs hD7 c1 c2 kk
    have d8 : (upd H7 t (.lst [.int (m6 / 12)])) l6 = some (.lst (shl.map fun x => V.int (x : Nat))) := by
      rw [upd_ne n6]
      exact d7
    have F8s : (upd H7 t (.lst [.int (m6 / 12)])) F7 = some (.lst []) := by
      rw [upd_ne f1]
      exact F7s
    generalize upd H7 t (.lst [.int (m6 / 12)]) = H8 at k8 g8 prs8 hD8 d8 F8s ⊢
    clear k7 g7 prs7 hD7 d7 F7s kk
    change ∀ (H' : Hp) (v : V), Kp (Two t lw) H H' → H' t = some (.lst [.int (casesL (fun n rs al sh => termF sl el d n rs al kind sh) al ((S.zip shl).take (manyF m6 sl)) (m6 / 12) rs).2.1]) →
        H' lw = some (.lst ((casesL (fun n rs al sh => termF sl el d n rs al kind sh) al ((S.zip shl).take (manyF m6 sl)) (m6 / 12) rs).2.2.reverse.map V.str)) →
        Dp K H' v (.tuple (casesL (fun n rs al sh => termF sl el d n rs al kind sh) al ((S.zip shl).take (manyF m6 sl)) (m6 / 12) rs).1) → Q v H' at q
    have hLl : ((S.zip shl).take (manyF m6 sl)).length = manyF m6 sl := by
      rw [List.length_take, List.length_zip]
      omega
    have hLi : ∀ (i : Nat) (p : Str × Str) (x : Nat), ((S.zip shl).take (manyF m6 sl))[i]? = some (p, x) → S[i]? = some p ∧ shl[i]? = some x := by
      intro i p x h
      rw [List.getElem?_take] at h
      split at h
      · rw [List.getElem?_zip_eq_some] at h
        exact h
      · cases h
    generalize hL : (S.zip shl).take (manyF m6 sl) = L at q hLl hLi
    generalize m6 / 12 = m8 at q g8
    generalize manyF m6 sl = cnt at mc1 mc2 hLl ⊢
    clear hL
    -- the cases
    refine for_range (lo := 0) (n := cnt) (fun i σ H' => ∃ (done : List PyData) (fv : List V) (n' : Int) (rs' : List Str) (y11 y12 y13 y14 y15 y16 : Option V), σ = [some (.ref t), some (.ref kn), some (.ref ar), some (.str kind), some (.int (room : Int)), some (.int ((d + 1 : Nat) : Int)), some (.int (sl.length : Int)), some (.int (((n % (sl.length : Int)).toNat : Nat) : Int)), some (.ref D), some (.ref l6), some (.ref F7), y11, y12, y13, y14, y15, y16, none, none] ∧
      fv.length = i ∧ casesL (fun n rs al sh => termF sl el d n rs al kind sh) al L m8 rs = (done ++ (casesL (fun n rs al sh => termF sl el d n rs al kind sh) al (L.drop i) n' rs').1, (casesL (fun n rs al sh => termF sl el d n rs al kind sh) al (L.drop i) n' rs').2) ∧
      Kp (Two t lw) H H' ∧ GP K H' t kn sh er lw n' rs' sl el ∧ Prs K H' ar al ∧ Prs K H' D S ∧ H' l6 = some (.lst (shl.map fun x => V.int (x : Nat))) ∧ H' F7 = some (.lst fv) ∧ DpAll K H' fv done ∧ immAll done = true)
      ⟨[], [], m8, rs, none, none, none, none, none, none, rfl, rfl, by simp, k8, g8, prs8, hD8, d8, F8s, .nil, rfl⟩ ?_ ?_
    · clear k8 g8 prs8 hD8 d8 F8s q
      rintro i σ H9 hi ⟨done, fv, n9, rs9, y11, y12, y13, y14, y15, y16, rfl, hfv, hC, k9, g9, prs9, hD9, d9, F9, dp9, im9⟩
      obtain ⟨⟨p, x⟩, hpx⟩ : ∃ q, L[i]? = some q := ⟨L[i]'(by omega), List.getElem?_eq_getElem (by omega)⟩
      obtain ⟨hSi, hxi⟩ := hLi i p x hpx
      rw [drop_at hpx] at hC
      have hx : x ≤ 1000 := by
        have := mem_le_sum (List.mem_of_getElem? hxi)
        omega
      have hp9 : p.2.length ≤ 9 := gs.hs p (iS p (List.mem_of_getElem? hSi))
      obtain ⟨ys, y1, y2⟩ := id hD9
      obtain ⟨v, hv, _⟩ := dpAll_get (i := i) y2 (by rw [List.getElem?_map, hSi]; rfl)
      obtain ⟨p', b, hp', rfl, hb⟩ := Prs.at y2 hv
      rw [hSi] at hp'
      cases hp'
      -- w, kinds
      refine ⟨_, rfl, _, rfl, D, ys, _, .ref b, rfl, rfl, .inl (.inl y1), atI_zero hv, b, _, rfl, hb, rfl, _, _, rfl, _, _, rfl, rfl, ?_⟩
      dsimp only []
      change tSeq (tAsg (tIf _ _ _) _) _ _ _ _
      refine asg_by (.str (kindsF n9 p.2)) (upd H9 t (.lst [.int (n9 / 30)])) (fun Qv hq => ?_) ?_
      · refine ⟨_, rfl, t, n9, 30, rfl, g9.ht, by decide, by decide, rfl, _, rfl, ite2 (fun e => ?_) (fun e => ?_)⟩
        · unfold kindsF at hq
          rw [if_pos (int_eq_of e)] at hq
          have hs := sizeLine_eq
          refine ⟨_, rfl, _, rfl, p.2, rfl, by omega, _, _, rfl, rfl, ?_, hq⟩
          have := cutS_length p.2 none (some 2)
          have h1 : ("n" : Str).length = 1 := rfl
          omega
        · unfold kindsF at hq
          rw [if_neg (int_ne_of e)] at hq
          exact ⟨_, rfl, hq⟩
      have hks := kinds_len n9 p.2 hp9
      have k10 : Kp (Two t lw) H9 (upd H9 t (.lst [.int (n9 / 30)])) := (Kp.refl _ H9).put (.inl rfl)
      have g10 : GP K (upd H9 t (.lst [.int (n9 / 30)])) t kn sh er lw (n9 / 30) rs9 sl el := g9.put
      change casesL _ al L m8 rs = (done ++ (caseD rs9 n9 p (caseR (fun n rs al sh => termF sl el d n rs al kind sh) al n9 rs9 p x).1 :: (casesL (fun n rs al sh => termF sl el d n rs al kind sh) al (L.drop (i + 1)) (caseR (fun n rs al sh => termF sl el d n rs al kind sh) al n9 rs9 p x).2.1 (caseR (fun n rs al sh => termF sl el d n rs al kind sh) al n9 rs9 p x).2.2).1), (casesL (fun n rs al sh => termF sl el d n rs al kind sh) al (L.drop (i + 1)) (caseR (fun n rs al sh => termF sl el d n rs al kind sh) al n9 rs9 p x).2.1 (caseR (fun n rs al sh => termF sl el d n rs al kind sh) al n9 rs9 p x).2.2).2) at hC
      unfold caseD caseR at hC
      generalize kindsF n9 p.2 = ks at hks hC ⊢
      generalize upd H9 t (.lst [.int (n9 / 30)]) = H10 at k10 g10 ⊢
      generalize n9 / 30 = n10 at g10 hC
      -- ys
      have hs := sizeLine_eq
      refine ⟨_, rfl, _, rfl, kn, .ref lw, rfl, DGet.k (k := Sum.inr "words") g10.dk, lw, _, rfl, .inl (.inl (.inl g10.hw)), _, rfl, ks, rfl, by omega, _, rfl, fun D2 hD2 => ?_⟩
      have hz : (cutS ks none (some ((rs9.reverse.map V.str).length : Int))).cps.size = min ks.length rs9.length := by
        rw [cutS_to, List.size_toArray, List.length_take, List.length_map, List.length_reverse]
        exact Nat.min_comm _ _
      refine lc_it walk_str (fun j H' => But lw H10 H' ∧ H' lw = some (.lst ((rs9.drop j).reverse.map V.str)) ∧ H' D2 = some (.lst ((rs9.take j).map V.str))) ⟨But.of (same_upd hD2), same_upd hD2 _ _ g10.hw, upd_same⟩ (fun _ _ _ _ => trivial) ?_ ?_
      · rintro j v H' H'' hj ⟨bw, w', d'⟩ ⟨rfl, c, hc, rfl⟩
        rw [hz] at hj
        have hjr : j < rs9.length := by omega
        have hrj : rs9.drop j = rs9[j] :: rs9.drop (j + 1) := drop_at (List.getElem?_eq_getElem hjr)
        have nD2 : D2 ≠ lw := ne_t g10.hw hD2
        rw [hrj] at w'
        refine ⟨rfl, ?_⟩
        refine lcYes ?_
        refine ⟨_, rfl, kn, .ref lw, rfl, DGet.k (k := Sum.inr "words") (bw _ _ g10.k2 g10.dk), .inl ⟨rfl, _, .inl (.inl w')⟩, lw, _, _, rfl, rfl, w', rev_last, ?_⟩
        rw [rev_drop]
        refine ⟨_, (upd_ne nD2).trans d', ?_, ?_, ?_, ?_⟩
        · rw [List.length_map, List.length_take]
          exact small1000 (by omega)
        · exact fun b o hb e => by
            rw [upd_ne (ne_of_none e hD2), upd_ne hb]
            exact bw b o hb e
        · rw [upd_ne nD2.symm]
          exact upd_same
        · rw [upd_same, List.take_add_one, List.getElem?_eq_getElem hjr, List.map_append]
          rfl
      rintro H11 ⟨b11, w11, d11⟩
      rw [hz] at w11 d11
      rw [drop_min'] at w11
      rw [take_min'] at d11
      have kk : Kp (Two t lw) H10 H11 := fun b o hb e => b11 b o (fun z => hb (.inr z)) e
      have k11 := k10.trans kk
      have g11 := g10.kp kk (b11 _ _ g10.tl g10.ht) w11
      have nD2t : D2 ≠ t := ne_t g10.ht hD2
      have nD2w : D2 ≠ lw := ne_t g10.hw hD2
      clear kk b11 w11 hz k10
      -- more
      refine ⟨_, rfl, _, rfl, _, rfl, D2, ks, _, rfl, .inl (.inl d11), fun D3 hD3 => ?_⟩
      have hcl : (charsF ks).length = ks.length := by
        unfold charsF
        rw [List.length_map]
        rfl
      have hzl : ((rs9.take ks.length).zip (charsF ks)).length = min ((rs9.take ks.length).map V.str).length ks.cps.size := by
        rw [List.length_zip, hcl, List.length_map]
        rfl
      refine lc_it (walk_zip_text (K := K) (a := D2) (x := ks) (xs := (rs9.take ks.length).map V.str) hzl) (fun j H' => Same H11 H' ∧ ∃ vs, vs.length = j ∧ H' D3 = some (.lst vs) ∧ DpAll K H' vs ((((rs9.take ks.length).zip (charsF ks)).take j).map prD)) ⟨same_upd hD3, [], rfl, upd_same, .nil⟩ (fun j H' _ h => .inl (.inl (h.1 _ _ d11))) ?_ ?_
      · rintro j v H' H'' hj ⟨s', vs, lv, dv, pv⟩ ⟨T, x1, x2, rfl, hT, rfl, e1, e2⟩
        have hjz : ((rs9.take ks.length).zip (charsF ks))[j]? = some (((rs9.take ks.length).zip (charsF ks))[j]) := List.getElem?_eq_getElem hj
        generalize ((rs9.take ks.length).zip (charsF ks))[j] = yc at hjz
        obtain ⟨y, c⟩ := yc
        obtain ⟨z1, z2⟩ := List.getElem?_zip_eq_some.mp hjz
        have e1' : x1 = .str y := by
          change ((rs9.take ks.length).map V.str)[j]? = some x1 at e1
          rw [List.getElem?_map, z1] at e1
          cases e1
          rfl
        have e2' : x2 = .str c := by
          change (ks.cps[j]?).map (fun c => V.str ⟨#[c]⟩) = some x2 at e2
          unfold charsF at z2
          rw [List.getElem?_map, Array.getElem?_toList] at z2
          cases hq : ks.cps[j]? with
          | none =>
            rw [hq] at z2
            cases z2
          | some u =>
            rw [hq] at z2 e2
            cases z2
            cases e2
            rfl
        subst e1' e2'
        have sT := same_upd (o := HO.tup [.str y, .str c]) hT
        refine ⟨T, _, rfl, .inl (.inl upd_same), rfl, _, _, rfl, _, _, rfl, rfl, rfl, ?_⟩
        refine lcYes ?_
        refine ⟨_, rfl, _, rfl, by show 2 ≤ sizeLine; decide, fun p5 h5 => ?_⟩
        have s5 := sT.trans (same_upd (o := HO.tup [.str y, .str c]) h5)
        have hjl : j ≤ 9 := by
          rw [List.length_zip, hcl] at hj
          omega
        refine ⟨vs, s5 _ _ dv, small1000 (by omega), same_put (s'.trans s5) hD3, vs ++ [.ref p5], by rw [List.length_append, lv]; rfl, upd_same, ?_⟩
        rw [List.take_add_one, hjz, List.map_append]
        refine dpAll_append (dpAll_tk (tk_put (s5 _ _ dv)) (imm_prs _) (dpAll_mono s5 pv)) (.cons (.tup (.inl (.inl ?_)) (.cons (.str _) (.cons (.str _) .nil))) .nil)
        rw [upd_ne (ne_t (sT _ _ dv) h5)]
        exact upd_same
      rintro H12 ⟨s12, vs, lv, dv, pv⟩
      rw [List.take_of_length_le (Nat.le_refl _)] at pv
      have k12 := k11.trans (Kp.of s12)
      have g12 := g11.same s12
      have d12 := s12 _ _ d11
      obtain ⟨xar, ar1, ar2⟩ := g9.prs prs9 a1 a2 k12
      have lxar : xar.length = al.length := by
        rw [dpAll_len ar2, List.length_map]
      have lvs : vs.length ≤ 9 := by
        rw [lv, List.length_zip, hcl]
        omega
      have hmore : (moreF al rs9 ks).length ≤ al.length + 9 := by
        unfold moreF
        rw [List.length_append, List.length_zip, hcl]
        omega
      refine ⟨ar, D3, xar, vs, rfl, rfl, ar1, dv, by omega, fun p13 h13 => ?_⟩
      have s13 := same_upd (o := HO.lst (xar ++ vs)) h13
      have k13 := k12.trans (Kp.of s13)
      have g13 := g12.same s13
      have d13 := s13 _ _ d12
      have m1 : p13 ≠ t := ne_t g12.ht h13
      have m2 : p13 ≠ lw := ne_t g12.hw h13
      have prs13 : Prs K (upd H12 p13 (.lst (xar ++ vs))) p13 (moreF al rs9 ks) := by
        refine ⟨_, upd_same, ?_⟩
        unfold moreF
        rw [List.map_append]
        exact dpAll_append (dpAll_mono s13 ar2) (dpAll_mono s13 pv)
      change tNext _ _ (upd H12 p13 (.lst (xar ++ vs)))
      generalize upd H12 p13 (.lst (xar ++ vs)) = H13 at k13 g13 d13 prs13 ⊢
      clear s12 s13 pv dv ar1 ar2 lxar lvs lv k12 g12 d12 h13 k11 g11 d11 hcl hzl hD3 hD2 g10
      -- the part
      have ed : ((d + 1 : Nat) : Int) - 1 = (d : Int) := by omega
      have F13 := k13 _ _ (fun z => z.elim f1 f2) F9
      have e13 := k13 _ _ (fun z => z.elim n6 n6') d9
      refine ⟨_, rfl, _, rfl, _, rfl, _, rfl, _, rfl, _, rfl, l6, _, _, .int (x : Int), rfl, rfl, .inl (.inl e13), atI_zero (by rw [List.getElem?_map, hxi]; rfl), _, rfl, _, _, rfl, rfl, t, kn, sh, er, lw, p13, n10, rs9.drop ks.length, sl, moreF al rs9 ks, el, kind, x, ?_, hk, gs, g13, prs13, m1, m2, by omega, hx, fun H14 v14 k14 t14 w14 d14 => ?_⟩
      · rw [← ed]
        rfl
      have k14' := k13.trans k14
      have g14 := g13.kp k14 t14 w14
      have i14 := imm_term sl el d n10 (rs9.drop ks.length) (moreF al rs9 ks) kind x
      have ys14 := k14 _ _ (fun z => z.elim nD2t nD2w) d13
      have F14 := k14 _ _ (fun z => z.elim f1 f2) F13
      refine ⟨_, rfl, .inl ⟨rfl, _, .inl (.inl F14)⟩, _, rfl, _, rfl, D2, _, rfl, .inl ⟨.inl (.inl ys14), fun l15 h15 => ⟨_, rfl, by show 3 ≤ sizeLine; decide, fun p16 h16 => ?_⟩⟩⟩
      have s15 := same_upd (o := HO.tup ((rs9.take ks.length).map V.str)) h15
      have s16 := s15.trans (same_upd (o := HO.tup [.str p.1, .ref l15, v14]) h16)
      refine ⟨F7, fv, _, rfl, rfl, s16 _ _ F14, small1000 (by omega), ?_⟩
      have kF : Kp (Two t lw) H9 (upd (upd H14 l15 (.tup ((rs9.take ks.length).map V.str))) p16 (.tup [.str p.1, .ref l15, v14])) := k14'.trans (Kp.of s16)
      have gF := g14.same s16
      have F16 := s16 _ _ F14
      have new : Dp K (upd (upd H14 l15 (.tup ((rs9.take ks.length).map V.str))) p16 (.tup [.str p.1, .ref l15, v14])) (.ref p16) (.tuple [.str p.1, .tuple ((rs9.take ks.length).map .str), (termF sl el d n10 (rs9.drop ks.length) (moreF al rs9 ks) kind x).1]) :=
        .tup (.inl (.inl upd_same)) (.cons (.str _) (.cons (.tup (.inl (.inl (same_upd h16 _ _ upd_same))) (dpAll_strs _)) (.cons (dp_mono s16 d14) .nil)))
      have dpF := dpAll_snoc (dpAll_tk (g9.tk kF) im9 dp9) new
      have prsF := g9.prs prs9 a1 a2 kF
      have hDF := g9.prs hD9 c1 c2 kF
      have dF := kF _ _ (fun z => z.elim n6 n6') d9
      have imN : imm (.tuple [.str p.1, .tuple ((rs9.take ks.length).map .str), (termF sl el d n10 (rs9.drop ks.length) (moreF al rs9 ks) kind x).1]) = true := by
        show (true && ((immAll _) && (imm _ && true))) = true
        rw [imm_strs, i14]
        rfl
      have imD : immAll (done ++ [.tuple [.str p.1, .tuple ((rs9.take ks.length).map .str), (termF sl el d n10 (rs9.drop ks.length) (moreF al rs9 ks) kind x).1]]) = true := imm_snoc imN im9
      generalize upd (upd H14 l15 (.tup ((rs9.take ks.length).map V.str))) p16 (.tup [.str p.1, .ref l15, v14]) = H16 at kF gF F16 dpF prsF hDF dF ⊢
      refine ⟨done ++ [.tuple [.str p.1, .tuple ((rs9.take ks.length).map .str), (termF sl el d n10 (rs9.drop ks.length) (moreF al rs9 ks) kind x).1]], fv ++ [.ref p16], (termF sl el d n10 (rs9.drop ks.length) (moreF al rs9 ks) kind x).2.1, (termF sl el d n10 (rs9.drop ks.length) (moreF al rs9 ks) kind x).2.2, some (.int (0 + (i : Int))), some (.str p.1), some (.str ks), some (.ref D2), some (.ref p13), some v14, rfl, ?_, ?_, ?_, ?_, ?_, ?_, ?_, upd_same, ?_, imD⟩
      · rw [List.length_append, hfv]
        rfl
      · rw [hC, List.append_assoc]
        rfl
      · exact fun b o hb e => by
          rw [upd_ne (ne_of_none e hF)]
          exact kF b o hb (k9 b o hb e)
      · exact gF.side F16 f1 f2 f3 f4 f5
      · exact prs_side prsF F16 f6
      · exact prs_side hDF F16 f7
      · rw [upd_ne f8.symm]
        exact dF
      · exact dpAll_tk (tk_put F16) imD dpF
    · rintro σ H9 ⟨done, fv, n9, rs9, y11, y12, y13, y14, y15, y16, rfl, hfv, hC, k9, g9, prs9, hD9, d9, F9, dp9, im9⟩
      rw [List.drop_eq_nil_of_le (by omega)] at hC
      have hC' : casesL (fun n rs al sh => termF sl el d n rs al kind sh) al L m8 rs = (done, n9, rs9) := by
        rw [hC]
        show (done ++ [], n9, rs9) = _
        rw [List.append_nil]
      rw [hC'] at q
      refine ⟨_, rfl, F7, fv, rfl, .inl ⟨.inl (.inl F9), fun p hp => ?_⟩⟩
      have s10 := same_upd (o := HO.tup fv) hp
      exact q _ _ (k9.trans (Kp.of s10)) (s10 _ _ g9.ht) (s10 _ _ g9.hw) (.tup (.inl (.inl upd_same)) (dpAll_mono s10 dp9))
end
end SP

namespace SP
open PySem PySem.Spec PyProof.Rows L2
open C8 (pss_cut tCut)
section
variable {P : Program} {w : World} {K : PySem.W.Frag} {mg : Str → Option Value} {base : Heap}
/-- a def that stands in the module -/
structure Dfn (K : PySem.W.Frag) (mg : Str → Option Value) (x : Str) (st : Stmt) (ps : List Str) : Prop where
  ex : ∃ (f : Addr) (fd : FuncData), Fun K x x st f fd ∧ mg x = some (.ref f) ∧ PySem.W.keepIn K (.ref f) = true ∧ Binds K fd ps []
theorem Dfn.callee {x : Str} {st : Stmt} {ps : List Str} {k : Nat} {sp : Sp} (D : Dfn K mg x st ps) (h : ∀ f fd, Fun K x x st f fd → FnOk P w K mg base CX0 k f fd ps sp) : Callee P w K mg base x ps k sp := by
  obtain ⟨f, fd, F, r⟩ := D.ex
  exact ⟨f, fd, h f fd F, r⟩
abbrev spTermO (K : PySem.W.Frag) : Sp := spTerm K 0
theorem ok_law_term0 {f : Addr} {fd : FuncData} (F : Fun K "_law_term" "_law_term" s_law_term f fd) (T : Txt mg) (C_law_digit : Callee P w K mg base "_law_digit" ["tape", "many"] 1 (spDigit K)) (C_law_pick : Callee P w K mg base "_law_pick" ["tape", "around", "kind"] 2 (spPick K)) (C_law_leaf : Callee P w K mg base "_law_leaf" ["tape", "known", "around", "kind"] 3 (spLeaf K)) (C_law_shares : Callee P w K mg base "_law_shares" ["tape", "room", "many"] 2 (spShares K)) (C_law_term : Callee P w K mg base "_law_term" ["tape", "known", "around", "kind", "room", "deep"] 1 spNever) (C_law_cases : Callee P w K mg base "_law_cases" ["tape", "known", "around", "kind", "room", "deep"] 1 spNever) : FnOk P w K mg base CX0 4 f fd ["tape", "known", "around", "kind", "room", "deep"] (spTerm K 0) := by
  refine F.ok sc_law_term (fun vs H Q E h => ?_) (fun cdv A outer s H vs Q E hr h => ?_)
  · obtain ⟨t, kn, sh, er, lw, ar, n, rs, sl, al, el, kind, room, rfl, _⟩ := h
    rfl
  · obtain ⟨t, kn, sh, er, lw, ar, n, rs, sl, al, el, kind, room, rfl, hk, gs, g, prs, a1, a2, hal, hroom, q⟩ := h
    refine ⟨_, (pss_cons (ps_set (i := 6) sc_law_term.nd rfl (Or.inl rfl) (pe_fn (hk := by omega) C_law_digit hr (by rfl) (pa_cons (pv 0) (pa_cons pe_int pa_nil))))
      (pss_cons (ps_if (PW.pt (pw_or (pt_cmpR op_lt (pv 4) pe_int (nomark _)) (pw_or (pt_cmpR op_eq (pv 5) pe_int (nomark _)) (pw_or1 (pt_cmpR op_eq (pv 6) pe_int (nomark _)))))) (pss_one (ps_ret (pe_fn (hk := by omega) C_law_leaf hr (by rfl) (pa_cons (pv 0) (pa_cons (pv 1) (pa_cons (pv 2) (pa_cons (pv 3) pa_nil))))))) pss_nil)
      (pss_cons (ps_if (PW.pt (pw_and (pt_cmpR op_lt (pv 6) pe_int (nomark _)) (pw_and1 (pt_cmpR (r := rNeP K 1) (op_neP (m := 1) (hu_of hr)) (pe_dget (hu_of hr) (pv 1) pe_str (fun _ _ => rfl)) (pe_lst pa_nil) (nomark _))))) (pss_cons (ps_set (i := 7) sc_law_term.nd rfl (Or.inl rfl) (pe_bm0 PySem.F.plainAttrs_list PySem.F.slot_list_pop PySem.F.type_list_pop mt_pop (pe_dget (hu_of hr) (pv 1) pe_str (fun _ _ => rfl))))
      (pss_cons (ps_set (i := 8) sc_law_term.nd rfl (Or.inl rfl) (pe_item_str pe_str (pe_fn (hk := by omega) C_law_digit hr (by rfl) (pa_cons (pv 0) (pa_cons pe_int pa_nil))) (fun _ _ => rfl)))
      (pss_cons (ps_asg (pe_fn (hk := by omega) C_law_shares hr (by rfl) (pa_cons (pv 0) (pa_cons (pe_op op_sub (pv 4) pe_int) (pa_cons pe_int pa_nil)))) (pg_unl rfl (pgs_cons (pg_name (i := 9) sc_law_term.nd rfl (Or.inl rfl)) (pgs_cons (pg_name (i := 10) sc_law_term.nd rfl (Or.inl rfl)) pgs_nil))))
      (pss_cons (ps_set (i := 9) sc_law_term.nd rfl (Or.inl rfl) (pe_ix (r := rIxL K) ix_list (pe_lst (pa_cons pe_int (pa_cons (pv 9) pa_nil))) (pe_fn (hk := by omega) C_law_digit hr (by rfl) (pa_cons (pv 0) (pa_cons pe_int pa_nil))) (fun _ _ => rfl)))
      (pss_cons (ps_set (i := 11) sc_law_term.nd rfl (Or.inl rfl) (pe_fn (hk := by omega) C_law_term hr (by rfl) (pa_cons (pv 0) (pa_cons (pv 1) (pa_cons (pv 2) (pa_cons (pv 8) (pa_cons (pv 9) (pa_cons (pe_op op_sub (pv 5) pe_int) pa_nil))))))))
      (pss_cons (ps_set (i := 12) sc_law_term.nd rfl (Or.inl rfl) (pe_op op_cat (pv 2) (pe_lst (pa_cons (pe_tup (pa_cons (pv 7) (pa_cons (pv 8) pa_nil))) pa_nil))))
      (pss_cons (ps_set (i := 13) sc_law_term.nd rfl (Or.inl rfl) (pe_fn (hk := by omega) C_law_term hr (by rfl) (pa_cons (pv 0) (pa_cons (pv 1) (pa_cons (pv 12) (pa_cons (pv 3) (pa_cons (pv 10) (pa_cons (pe_op op_sub (pv 5) pe_int) pa_nil))))))))
      (pss_one (ps_ret (pe_tup (pa_cons pe_str (pa_cons (pv 7) (pa_cons (pv 11) (pa_cons (pv 13) pa_nil)))))))))))))) pss_nil)
      (pss_cons (ps_set (i := 7) sc_law_term.nd rfl (Or.inl rfl) (pe_fn (hk := by omega) C_law_pick hr (by rfl) (pa_cons (pv 0) (pa_cons (pv 2) (pa_cons (pe_item_str pe_str (pe_callTy call_int1 (by rfl) T.n_int (by decide +kernel) (pa_cons (pe_cmpR op_gt (pv 6) pe_int (nomark _)) pa_nil)) (fun _ _ => rfl)) pa_nil)))))
      (pss_cons (ps_if (PW.pt (pw_or (pt_cmp (pc_isN (pv 7))) (pw_or1 (pt_cmpR op_le (pv 4) (pe_callB (r := rLenS K) call_lenS (by rfl) T.n_len (by decide +kernel) (pa_cons (pe_dget (hu_of hr) (pv 1) pe_str (fun _ _ => rfl)) pa_nil)) (nomark _))))) (pss_one (ps_ret (pe_fn (hk := by omega) C_law_leaf hr (by rfl) (pa_cons (pv 0) (pa_cons (pv 1) (pa_cons (pv 2) (pa_cons (pv 3) pa_nil))))))) pss_nil)
      (pss_cons (ps_if (pt_cmpR op_lt (pv 6) pe_int (nomark _)) (pss_one (ps_ret (pe_tup (pa_cons pe_str (pa_cons (pv 7) (pa_cons (pe_fn (hk := by omega) C_law_cases hr (by rfl) (pa_cons (pv 0) (pa_cons (pv 1) (pa_cons (pv 2) (pa_cons (pv 3) (pa_cons (pv 4) (pa_cons (pv 5) pa_nil))))))) pa_nil)))))) pss_nil)
      (pss_cons (ps_asg (pe_fn (hk := by omega) C_law_shares hr (by rfl) (pa_cons (pv 0) (pa_cons (pe_op op_sub (pv 4) pe_int) (pa_cons pe_int pa_nil)))) (pg_unl rfl (pgs_cons (pg_name (i := 9) sc_law_term.nd rfl (Or.inl rfl)) (pgs_cons (pg_name (i := 10) sc_law_term.nd rfl (Or.inl rfl)) pgs_nil))))
      (pss_cons (ps_set (i := 11) sc_law_term.nd rfl (Or.inl rfl) (pe_fn (hk := by omega) C_law_term hr (by rfl) (pa_cons (pv 0) (pa_cons (pv 1) (pa_cons (pv 2) (pa_cons (pv 3) (pa_cons (pv 9) (pa_cons (pe_op op_sub (pv 5) pe_int) pa_nil))))))))
      (pss_cons (ps_set (i := 13) sc_law_term.nd rfl (Or.inl rfl) (pe_fn (hk := by omega) C_law_term hr (by rfl) (pa_cons (pv 0) (pa_cons (pv 1) (pa_cons (pv 2) (pa_cons (pv 3) (pa_cons (pv 10) (pa_cons (pe_op op_sub (pv 5) pe_int) pa_nil))))))))
      (pss_one (ps_ret (pe_tup (pa_cons pe_str (pa_cons (pv 7) (pa_cons (pv 11) (pa_cons (pv 13) pa_nil)))))))))))))))), ?_⟩
    refine ⟨_, rfl, t, n, 12, rfl, g.ht, by decide, by decide, ?_⟩
    have k1 : Kp (Two t lw) H (upd H t (.lst [.int (n / 12)])) := (Kp.refl _ H).put (.inl rfl)
    have g1 : GP K (upd H t (.lst [.int (n / 12)])) t kn sh er lw (n / 12) rs sl el := g.put
    have prs1 := g.prs prs a1 a2 k1
    generalize upd H t (.lst [.int (n / 12)]) = H1 at k1 g1 prs1 ⊢
    have hleaf : ∀ (E : XK), spLeaf K [.ref t, .ref kn, .ref ar, .str kind] H1 Q E := fun E =>
      leaf_use g1 gs prs1 a1 a2 hk (by omega) fun H' v k3 t3 w3 d3 => q H' v (k1.trans k3) t3 w3 d3
    refine ⟨_, rfl, _, _, rfl, rfl, _, rfl, ite2 (fun e => ?_) (fun e => ?_)⟩
    · exact ⟨_, rfl, _, rfl, _, rfl, _, rfl, hleaf E⟩
    refine ⟨_, rfl, rfl, _, rfl, ite2 (fun e => ?_) (fun e => ?_)⟩
    · exact ⟨_, rfl, _, rfl, _, rfl, _, rfl, hleaf E⟩
    · exact absurd (decide_eq_true rfl) e
theorem never_ok {x : Str} {st : Stmt} {f : Addr} {fd : FuncData} {N ps : List Str} (F : Fun K x x st f fd) (S : FnScope N ps (defScope st)) : FnOk P w K mg base CX0 1 f fd ps spNever := F.ok S (fun _ _ _ _ h => h.elim) (fun _ _ _ _ _ _ _ _ _ h => h.elim)
/-- a term, however deep -/
theorem term_all (T : Txt mg) (DT : Dfn K mg "_law_term" s_law_term ["tape", "known", "around", "kind", "room", "deep"]) (DC : Dfn K mg "_law_cases" s_law_cases ["tape", "known", "around", "kind", "room", "deep"]) (C_law_digit : Callee P w K mg base "_law_digit" ["tape", "many"] 1 (spDigit K)) (C_law_pick : Callee P w K mg base "_law_pick" ["tape", "around", "kind"] 2 (spPick K)) (C_law_leaf : Callee P w K mg base "_law_leaf" ["tape", "known", "around", "kind"] 3 (spLeaf K)) (C_law_shares : Callee P w K mg base "_law_shares" ["tape", "room", "many"] 2 (spShares K)) :
    ∀ d : Nat, Callee P w K mg base "_law_term" ["tape", "known", "around", "kind", "room", "deep"] (2 * d + 4) (spTerm K d)
  | 0 => DT.callee fun f fd F => ok_law_term0 F T C_law_digit C_law_pick C_law_leaf C_law_shares (DT.callee fun f fd F => never_ok F sc_law_term) (DC.callee fun f fd F => never_ok F sc_law_cases)
  | d + 1 => DT.callee fun f fd F => ok_law_term F T d C_law_digit C_law_pick C_law_leaf C_law_shares (term_all T DT DC C_law_digit C_law_pick C_law_leaf C_law_shares d)
      (DC.callee fun f fd F => ok_law_cases F T d C_law_digit C_law_shares (term_all T DT DC C_law_digit C_law_pick C_law_leaf C_law_shares d))
end
end SP

namespace SP
open PySem PySem.Spec PyProof.Rows L2
open C8 (pss_cut tCut)
def kindL : List Str := ["nb", "b", "bb", "n", "bn", "nbb", "bbb", "nn"]
def errL : List Str := ["b", "n", "nb", "bb", "", "bn", "nbbn", "bbb", "bb"]
def shpsL : Nat → List Str → Int → List (Str × Str) × Int
  | _, [], n => ([], n)
  | k, w :: r, n => ((w, if k = 0 then "" else kindL.getD (n % 8).toNat "") :: (shpsL (k + 1) r (n / 8)).1, (shpsL (k + 1) r (n / 8)).2)
def shpsF (n : Int) : List (Str × Str) × Int := shpsL 0 (wordsF (n / 4) (1 + (n % 4).toNat)).1 (wordsF (n / 4) (1 + (n % 4).toNat)).2
theorem shpsL_len : ∀ (l : List Str) (k : Nat) (n : Int), (shpsL k l n).1.length = l.length
  | [], _, _ => rfl
  | w :: r, k, n => congrArg (· + 1) (shpsL_len r (k + 1) _)
theorem shpsL_le : ∀ (l : List Str) (k : Nat) (n : Int), ∀ s ∈ (shpsL k l n).1, s.2.length ≤ 9
  | [], _, _, s, h => by cases h
  | w :: r, k, n, s, h => by
    have h' : s = (w, if k = 0 then ("" : Str) else kindL.getD (n % 8).toNat "") ∨ s ∈ (shpsL (k + 1) r (n / 8)).1 := List.mem_cons.mp h
    rcases h' with rfl | h'
    · show (if k = 0 then ("" : Str) else kindL.getD (n % 8).toNat "").length ≤ 9
      split
      · decide
      · exact getD_mem kindL _ "" (fun x => x.length ≤ 9) (by decide +kernel) (by decide)
    · exact shpsL_le r (k + 1) _ s h'
section
variable {P : Program} {w : World} {K : PySem.W.Frag} {mg : Str → Option Value} {base : Heap}
def spShapes (K : PySem.W.Frag) : Sp := fun vs H Q _ => ∃ (t : Addr) (n : Int), vs = [.ref t] ∧ H t = some (.lst [.int n]) ∧
  ∀ (H' : Hp) (l : Addr), But t H H' → H' t = some (.lst [.int (shpsF n).2]) → H l = none → Prs K H' l (shpsF n).1 → Q (.ref l) H'
theorem ok_law_shapes {f : Addr} {fd : FuncData} (F : Fun K "_law_shapes" "_law_shapes" s_law_shapes f fd) (T : Txt mg) (C_law_digit : Callee P w K mg base "_law_digit" ["tape", "many"] 1 (spDigit K)) (C_law_words : Callee P w K mg base "_law_words" ["tape", "many"] 2 (spWords K)) : FnOk P w K mg base CX0 3 f fd ["tape"] (spShapes K) := by
  refine F.ok sc_law_shapes (fun vs H Q E h => ?_) (fun cdv A outer s H vs Q E hr h => ?_)
  · obtain ⟨t, n, rfl, _⟩ := h
    rfl
  · obtain ⟨t, n, rfl, ht, q⟩ := h
    refine ⟨_, (pss_cons (ps_set (i := 1) sc_law_shapes.nd rfl (Or.inl rfl) (pe_op op_add pe_int (pe_fn C_law_digit hr (by rfl) (pa_cons (pv 0) (pa_cons pe_int pa_nil)))))
      (pss_cons (ps_set (i := 2) sc_law_shapes.nd rfl (Or.inl rfl) (pe_lst pa_nil))
      (pss_cons (ps_for PassesOwn.never rfl (pi_enum (by rfl) T.n_enumerate (pa_cons (pe_fn C_law_words hr (by rfl) (pa_cons (pv 0) (pa_cons (pv 1) pa_nil))) pa_nil)) (pg_tup rfl (pgs_cons (pg_name (i := 3) sc_law_shapes.nd rfl (Or.inl rfl)) (pgs_cons (pg_name (i := 4) sc_law_shapes.nd rfl (Or.inl rfl)) pgs_nil)))
      (pss_cons (ps_set (i := 5) sc_law_shapes.nd rfl (Or.inl rfl) (pe_ix (r := rIxL K) ix_list (pe_lst (pa_cons pe_str (pa_cons pe_str (pa_cons pe_str (pa_cons pe_str (pa_cons pe_str (pa_cons pe_str (pa_cons pe_str (pa_cons pe_str pa_nil))))))))) (pe_fn C_law_digit hr (by rfl) (pa_cons (pv 0) (pa_cons pe_int pa_nil))) (fun _ _ => rfl)))
      (pss_one (ps_expr (pe_bm PySem.F.plainAttrs_list PySem.F.slot_list_append PySem.F.type_list_append mt_append (pv 2) (pa_cons (pe_tup (pa_cons (pv 4) (pa_cons (pe_ix (r := rIxL K) ix_list (pe_lst (pa_cons (pv 5) (pa_cons pe_str pa_nil))) (pe_callTy call_int1 (by rfl) T.n_int (by decide +kernel) (pa_cons (pe_cmpR op_eq (pv 3) pe_int (nomark _)) pa_nil)) (fun _ _ => rfl)) pa_nil))) pa_nil))))))
      (pss_one (ps_ret (pv 2)))))), ?_⟩
    refine ⟨_, rfl, t, n, 4, rfl, ht, by decide, by decide, _, _, rfl, rfl, ?_⟩
    have b1 : But t H (upd H t (.lst [.int (n / 4)])) := (But.refl t H).put
    have t1 : (upd H t (.lst [.int (n / 4)])) t = some (.lst [.int (n / 4)]) := upd_same
    generalize upd H t (.lst [.int (n / 4)]) = H1 at b1 t1 ⊢
    have hm : ((1 + (n % 4).toNat : Nat) : Int) = 1 + n % 4 := by omega
    have hm4 : 1 + (n % 4).toNat ≤ 4 := by omega
    dsimp only []
    rw [← hm]
    refine ⟨by show 0 ≤ sizeLine; decide, fun D hD => ?_⟩
    have D2 : (upd H1 D (.lst [])) D = some (.lst []) := upd_same
    have b2 := b1.alloc (o := HO.lst []) hD
    have t2 := same_upd (o := HO.lst []) hD _ _ t1
    have hDH : H D = none := b1.free t1 hD
    have nD := ne_t t1 hD
    change tNext _ _ (upd H1 D (.lst []))
    generalize upd H1 D (.lst []) = H2 at D2 b2 t2 ⊢
    unfold shpsF at q
    generalize 1 + (n % 4).toNat = many at q hm4 ⊢
    refine ⟨_, rfl, _, rfl, t, n / 4, many, rfl, t2, by omega, fun H3 l3 b3 t3 hl3 d3 => ?_⟩
    have lw := words_len (n / 4) many
    generalize wordsF (n / 4) many = wd at q t3 d3 lw
    obtain ⟨wl, m⟩ := wd
    change wl.length = many at lw
    change H3 l3 = some (.lst (wl.map V.str)) at d3
    have n3 : l3 ≠ t := ne_t t2 hl3
    have n3D : l3 ≠ D := ne_t D2 hl3
    have bb := b2.trans b3
    have D3 := b3 _ _ nD D2
    have e0 : shpsL 0 wl m = ([] ++ (shpsL 0 (wl.drop 0) m).1, (shpsL 0 (wl.drop 0) m).2) := rfl
    refine ⟨l3, _, rfl, .inl (.inl d3), ?_⟩
    refine for_it (walk_enum (K := K) (a := l3) (xs := wl.map V.str)) (fun i σ H' => ∃ (done : List (Str × Str)) (fv : List V) (n' : Int) (y3 y4 y5 : Option V), σ = [some (.ref t), some (.int (many : Int)), some (.ref D), y3, y4, y5] ∧ fv.length = i ∧
      shpsL 0 wl m = (done ++ (shpsL i (wl.drop i) n').1, (shpsL i (wl.drop i) n').2) ∧ But t H H' ∧ H' t = some (.lst [.int n']) ∧ H' l3 = some (.lst (wl.map V.str)) ∧ H' D = some (.lst fv) ∧ DpAll K H' fv (done.map prD))
      ⟨[], [], m, none, none, none, rfl, rfl, e0, bb, t3, d3, D3, .nil⟩ (fun i σ H' _ ⟨_, _, _, _, _, _, _, _, _, _, _, h, _, _⟩ => .inl (.inl h)) ?_ ?_
    · rintro i v σ H4 H5 hi ⟨done, fv, n4, y3, y4, y5, rfl, hfv, hC, b4, t4, d4, D4, p4⟩ ⟨T, x1, x2, rfl, hT, rfl, e1, e2⟩
      cases e1
      rw [List.length_map] at hi
      change (wl.map V.str)[i]? = some x2 at e2
      rw [List.getElem?_map, List.getElem?_eq_getElem hi] at e2
      cases e2
      rw [drop_at (List.getElem?_eq_getElem hi)] at hC
      have sT := same_upd (o := HO.tup [.int (i : Nat), .str wl[i]]) hT
      refine ⟨T, _, rfl, .inl (.inl upd_same), rfl, _, _, rfl, _, _, rfl, rfl, ?_⟩
      refine ⟨by show 8 ≤ sizeLine; decide, fun p6 h6 => ?_⟩
      have s6 := sT.trans (same_upd (o := HO.lst (kindL.map V.str)) h6)
      have n6 : p6 ≠ t := ne_t (sT _ _ t4) h6
      refine ⟨_, rfl, t, n4, 8, rfl, s6 _ _ t4, by decide, by decide, p6, kindL.map V.str, _, _, rfl, rfl, .inl (.inl (by rw [upd_ne n6]; exact upd_same)), str_item kindL n4 8 rfl (by decide), ?_⟩
      have b7 : But t H (upd (upd (upd H4 T (.tup [.int (i : Nat), .str wl[i]])) p6 (.lst (kindL.map V.str))) t (.lst [.int (n4 / 8)])) := (b4.trans (But.of s6)).put
      have t7 : (upd (upd (upd H4 T (.tup [.int (i : Nat), .str wl[i]])) p6 (.lst (kindL.map V.str))) t (.lst [.int (n4 / 8)])) t = some (.lst [.int (n4 / 8)]) := upd_same
      have k7 : But t H4 (upd (upd (upd H4 T (.tup [.int (i : Nat), .str wl[i]])) p6 (.lst (kindL.map V.str))) t (.lst [.int (n4 / 8)])) := (But.of s6).put
      change tNext _ _ (upd (upd (upd H4 T (.tup [.int (i : Nat), .str wl[i]])) p6 (.lst (kindL.map V.str))) t (.lst [.int (n4 / 8)]))
      generalize upd (upd (upd H4 T (.tup [.int (i : Nat), .str wl[i]])) p6 (.lst (kindL.map V.str))) t (.lst [.int (n4 / 8)]) = H7 at b7 t7 k7 ⊢
      have D7 := k7 _ _ nD D4
      have d7 := k7 _ _ n3 d4
      have p7 := dpAll_tk (k7.tk t4) (imm_prs done) p4
      change shpsL 0 wl m = (done ++ ((wl[i], if i = 0 then ("" : Str) else kindL.getD (n4 % 8).toNat "") :: (shpsL (i + 1) (wl.drop (i + 1)) (n4 / 8)).1), (shpsL (i + 1) (wl.drop (i + 1)) (n4 / 8)).2) at hC
      generalize kindL.getD (n4 % 8).toNat "" = kk at hC ⊢
      refine ⟨_, rfl, .inl ⟨rfl, _, .inl (.inl D7)⟩, _, rfl, _, rfl, by show 2 ≤ sizeLine; decide, fun p8 h8 => ⟨_, rfl, rfl, .inr ⟨_, rfl, p8, [.str kk, .str ""], _, .str (if i = 0 then ("" : Str) else kk), rfl, rfl, .inl (.inl upd_same), ?_, by show 2 ≤ sizeLine; decide, fun p9 h9 => ?_⟩⟩⟩
      · by_cases h : i = 0
        · subst h
          rfl
        · rw [if_neg h, if_neg (fun z => h (by have := int_eq_of z; omega))]
          rfl
      have s9 := (same_upd (o := HO.lst [.str kk, .str ""]) h8).trans (same_upd (o := HO.tup [.str wl[i], .str (if i = 0 then ("" : Str) else kk)]) h9)
      refine ⟨D, fv, _, rfl, rfl, s9 _ _ D7, small1000 (by omega), ?_⟩
      refine ⟨done ++ [(wl[i], if i = 0 then ("" : Str) else kk)], fv ++ [.ref p9], n4 / 8, _, _, _, rfl, by rw [List.length_append, hfv]; rfl, by rw [hC, List.append_assoc]; rfl, ?_, ?_, ?_, upd_same, ?_⟩
      · exact fun b o hb e => by
          rw [upd_ne (ne_of_none e hDH)]
          exact s9 _ _ (b7 b o hb e)
      · rw [upd_ne nD.symm]
        exact s9 _ _ t7
      · rw [upd_ne n3D]
        exact s9 _ _ d7
      · rw [List.map_append]
        refine dpAll_tk (tk_put (s9 _ _ D7)) ?_ (dpAll_append (dpAll_mono s9 p7) (.cons (.tup (.inl (.inl upd_same)) (.cons (.str _) (.cons (.str _) .nil))) .nil))
        have := imm_prs (done ++ [(wl[i], if i = 0 then ("" : Str) else kk)])
        rw [List.map_append] at this
        exact this
    · rintro σ H4 ⟨done, fv, n4, y3, y4, y5, rfl, hfv, hC, b4, t4, d4, D4, p4⟩
      rw [List.length_map, List.drop_eq_nil_of_le (Nat.le_refl _)] at hC
      have hC' : shpsL 0 wl m = (done, n4) := by
        rw [hC]
        show (done ++ [], n4) = _
        rw [List.append_nil]
      dsimp only [] at q
      rw [hC'] at q
      exact ⟨_, rfl, q H4 D b4 t4 hDH ⟨fv, D4, p4⟩⟩
end
end SP

namespace SP
open PySem PySem.Spec PyProof.Rows L2
open C8 (pss_cut tCut)
def errsL : List Str → Int → List (Str × Str × Str)
  | [], _ => []
  | w :: r, m => (w, errL.getD (m % 9).toNat "", givenF (m / 9)) :: errsL r (m / 9 / 3)
def manyK (n : Int) : Nat := 1 + (n % 6).toNat
def slF (n : Int) : List (Str × Str) := (shpsF (wordsF (n / 6) (manyK n)).2).1
def elF (n : Int) : List (Str × Str × Str) := errsL (wordsF (n / 6) (manyK n)).1 (shpsF (wordsF (n / 6) (manyK n)).2).2
theorem errsL_len : ∀ (l : List Str) (n : Int), (errsL l n).length = l.length
  | [], _ => rfl
  | w :: r, n => congrArg (· + 1) (errsL_len r _)
theorem errsL_le : ∀ (l : List Str) (n : Int), ∀ s ∈ errsL l n, s.2.1.length ≤ 9
  | [], _, s, h => by cases h
  | w :: r, n, s, h => by
    rcases List.mem_cons.mp h with rfl | h'
    · exact getD_mem errL _ "" (fun x => x.length ≤ 9) (by decide +kernel) (by decide)
    · exact errsL_le r _ s h'
theorem gs_of (n : Int) : GS (slF n) (elF n) := by
  have l1 : (slF n).length = (wordsF ((wordsF (n / 6) (manyK n)).2 / 4) (1 + ((wordsF (n / 6) (manyK n)).2 % 4).toNat)).1.length := shpsL_len _ _ _
  rw [words_len] at l1
  have l2 : (elF n).length = (wordsF (n / 6) (manyK n)).1.length := errsL_len _ _
  rw [words_len] at l2
  unfold manyK at l2
  refine ⟨?_, by omega, by omega, errsL_le _ _, shpsL_le _ _ _⟩
  intro z
  rw [z] at l1
  change 0 = _ at l1
  omega
section
variable {P : Program} {w : World} {K : PySem.W.Frag} {mg : Str → Option Value} {base : Heap}
def spKnown (K : PySem.W.Frag) : Sp := fun vs H Q _ => ∃ (a : Addr) (ns : List Int) (k : Nat), vs = [.ref a, .int (k : Int)] ∧ SqL K H a (ns.map V.int) ∧ k < 1000 ∧
  ∀ (H' : Hp) (kn sh er lw : Addr) (n : Int), Same H H' → H kn = none → H' kn = some (.dK (knL sh er lw)) → Prs K H' sh (slF n) → (∃ xs, H' er = some (.lst xs) ∧ DpAll K H' xs ((elF n).map trD)) → sh ≠ kn → er ≠ kn → Q (.ref kn) H'
theorem ok_law_known {f : Addr} {fd : FuncData} (F : Fun K "_law_known" "_law_known" s_law_known f fd) (T : Txt mg) (C_law_digit : Callee P w K mg base "_law_digit" ["tape", "many"] 1 (spDigit K)) (C_law_words : Callee P w K mg base "_law_words" ["tape", "many"] 2 (spWords K)) (C_law_shapes : Callee P w K mg base "_law_shapes" ["tape"] 3 (spShapes K)) (C_law_tape : Callee P w K mg base "_law_tape" ["script", "k"] 2 (spTape K)) : FnOk P w K mg base CX0 4 f fd ["script", "start"] (spKnown K) := by
  refine F.ok sc_law_known (fun vs H Q E h => ?_) (fun cdv A outer s H vs Q E hr h => ?_)
  · obtain ⟨a, ns, k, rfl, _⟩ := h
    rfl
  · obtain ⟨a, ns, k, rfl, hS, hk, q⟩ := h
    refine ⟨_, (pss_cons (ps_set (i := 2) sc_law_known.nd rfl (Or.inl rfl) (pe_fn C_law_tape hr (by rfl) (pa_cons (pv 0) (pa_cons (pv 1) pa_nil))))
      (pss_cons (ps_set (i := 3) sc_law_known.nd rfl (Or.inl rfl) (pe_op op_add pe_int (pe_fn C_law_digit hr (by rfl) (pa_cons (pv 2) (pa_cons pe_int pa_nil)))))
      (pss_cons (ps_set (i := 4) sc_law_known.nd rfl (Or.inl rfl) (pe_fn C_law_words hr (by rfl) (pa_cons (pv 2) (pa_cons (pv 3) pa_nil))))
      (pss_cons (ps_set (i := 5) sc_law_known.nd rfl (Or.inl rfl) (pe_disp (pps_cons pe_str (pe_fn C_law_shapes hr (by rfl) (pa_cons (pv 2) pa_nil)) (pps_cons pe_str (pe_lst pa_nil) (pps_cons pe_str (pe_lst pa_nil) pps_nil))) (by rfl) (by rfl) (fun z => by cases z) (by decide)))
      (pss_cons (ps_for PassesOwn.never rfl (pi_range1 rfl T.n_range (pa_cons (pv 3) pa_nil)) (pg_name (i := 6) sc_law_known.nd rfl (Or.inl rfl))
      (pss_cons (ps_set (i := 7) sc_law_known.nd rfl (Or.inl rfl) (pe_ix (r := rIxL K) ix_list (pe_lst (pa_cons pe_str (pa_cons pe_str (pa_cons pe_str (pa_cons pe_str (pa_cons pe_str (pa_cons pe_str (pa_cons pe_str (pa_cons pe_str (pa_cons pe_str pa_nil)))))))))) (pe_fn C_law_digit hr (by rfl) (pa_cons (pv 2) (pa_cons pe_int pa_nil))) (fun _ _ => rfl)))
      (pss_one (ps_expr (pe_bm PySem.F.plainAttrs_list PySem.F.slot_list_append PySem.F.type_list_append mt_append (pe_dget (hu_of hr) (pv 5) pe_str (fun _ _ => rfl)) (pa_cons (pe_tup (pa_cons (pe_ix (r := rIxL K) ix_list (pv 4) (pv 6) (fun _ _ => rfl)) (pa_cons (pv 7) (pa_cons (pe_item_str pe_str (pe_fn C_law_digit hr (by rfl) (pa_cons (pv 2) (pa_cons pe_int pa_nil))) (fun _ _ => rfl)) pa_nil)))) pa_nil))))))
      (pss_one (ps_ret (pv 5)))))))), ?_⟩
    refine ⟨_, rfl, _, rfl, a, ns, k, rfl, hS, hk, fun H1 t n s1 ht t1 => ?_⟩
    -- many, words
    refine ⟨_, rfl, t, n, 6, rfl, t1, by decide, by decide, _, _, rfl, rfl, ?_⟩
    have b2 : But t H (upd H1 t (.lst [.int (n / 6)])) := (But.of s1).put
    have t2 : (upd H1 t (.lst [.int (n / 6)])) t = some (.lst [.int (n / 6)]) := upd_same
    generalize upd H1 t (.lst [.int (n / 6)]) = H2 at b2 t2 ⊢
    have hm : ((manyK n : Nat) : Int) = 1 + n % 6 := by
      unfold manyK
      omega
    have hm6 : manyK n ≤ 6 := by
      unfold manyK
      omega
    dsimp only []
    rw [← hm]
    refine ⟨_, rfl, _, rfl, t, n / 6, manyK n, rfl, t2, by omega, fun H3 l3 b3 t3 hl3 d3 => ?_⟩
    have lw := words_len (n / 6) (manyK n)
    have q' : ∀ (H' : Hp) (kn sh er lw : Addr), Same H H' → H kn = none → H' kn = some (.dK (knL sh er lw)) → Prs K H' sh (shpsF (wordsF (n / 6) (manyK n)).2).1 → (∃ xs, H' er = some (.lst xs) ∧ DpAll K H' xs ((errsL (wordsF (n / 6) (manyK n)).1 (shpsF (wordsF (n / 6) (manyK n)).2).2).map trD)) → sh ≠ kn → er ≠ kn → Q (.ref kn) H' := fun H' kn sh er lw => q H' kn sh er lw n
    clear q
    generalize wordsF (n / 6) (manyK n) = wd at q' t3 d3 lw
    obtain ⟨wl, m⟩ := wd
    change wl.length = manyK n at lw
    change H3 l3 = some (.lst (wl.map V.str)) at d3
    change H3 t = some (.lst [.int m]) at t3
    dsimp only [] at q'
    have bb := b2.trans b3
    have n3 : l3 ≠ t := ne_t t2 hl3
    clear b2 t2 b3 hl3
    generalize manyK n = many at lw hm6 ⊢
    -- what is known
    refine fun p hp => ⟨_, rfl, t, m, rfl, same_upd hp _ _ t3, fun H4 sh b4 t4 hsh prs4 => ⟨by show 0 ≤ sizeLine; decide, fun er her => ⟨by show 0 ≤ sizeLine; decide, fun lw' hlw => ?_⟩⟩⟩
    have pt : p ≠ t := ne_t t3 hp
    have p4 : H4 p = some (.dK []) := b4 _ _ pt upd_same
    have d4 : H4 l3 = some (.lst (wl.map V.str)) := b4 _ _ n3 (same_upd hp _ _ d3)
    have st : sh ≠ t := ne_t (same_upd (o := HO.dK []) hp _ _ t3) hsh
    have sp : sh ≠ p := ne_t (upd_same (o := HO.dK [])) hsh
    have p6 := same_upd (o := HO.lst []) hlw _ _ (same_upd (o := HO.lst []) her _ _ p4)
    refine ⟨p6, knL sh er lw', rfl, by show 3 ≤ 15; decide, ?_⟩
    have ep : er ≠ p := ne_t p4 her
    have wp : lw' ≠ p := ne_t (same_upd (o := HO.lst []) her _ _ p4) hlw
    have et : er ≠ t := ne_t t4 her
    have e3 : er ≠ l3 := ne_t d4 her
    have es : er ≠ sh := prs_ne prs4 her
    have p3 : l3 ≠ p := fun z => by
      rw [z, p4] at d4
      cases d4
    have s6 : Same H4 (upd (upd H4 er (.lst [])) lw' (.lst [])) := (same_upd her).trans (same_upd hlw)
    have ew : er ≠ lw' := (ne_t upd_same hlw).symm
    have hpH : H p = none := by
      cases e : H p with
      | none => rfl
      | some o =>
        rw [bb _ _ pt e] at hp
        cases hp
    have hTH : H t = none := ht
    have herH : H er = none := by
      cases e : H er with
      | none => rfl
      | some o =>
        have h1 := same_upd (o := HO.dK []) hp _ _ (bb _ _ et e)
        rw [b4 _ _ et h1] at her
        cases her
    -- all of it
    have kk : ∀ b o, b ≠ p → b ≠ t → (upd H3 p (.dK [])) b = some o → (upd (upd (upd H4 er (.lst [])) lw' (.lst [])) p (.dK (knL sh er lw'))) b = some o := fun b o h1 h2 e => by
      rw [upd_ne h1]
      exact s6 _ _ (b4 _ _ h2 e)
    have S7 : Same H (upd (upd (upd H4 er (.lst [])) lw' (.lst [])) p (.dK (knL sh er lw'))) := fun b o e => by
      have h1 : b ≠ p := fun z => by
        rw [z, hpH] at e
        cases e
      have h2 : b ≠ t := fun z => by
        rw [z, hTH] at e
        cases e
      exact kk b o h1 h2 (same_upd hp _ _ (bb _ _ h2 e))
    have P7 : (upd (upd (upd H4 er (.lst [])) lw' (.lst [])) p (.dK (knL sh er lw'))) p = some (.dK (knL sh er lw')) := upd_same
    have T7 : (upd (upd (upd H4 er (.lst [])) lw' (.lst [])) p (.dK (knL sh er lw'))) t = some (.lst [.int (shpsF m).2]) := by
      rw [upd_ne pt.symm]
      exact s6 _ _ t4
    have W7 : (upd (upd (upd H4 er (.lst [])) lw' (.lst [])) p (.dK (knL sh er lw'))) l3 = some (.lst (wl.map V.str)) := by
      rw [upd_ne p3]
      exact s6 _ _ d4
    have E7 : (upd (upd (upd H4 er (.lst [])) lw' (.lst [])) p (.dK (knL sh er lw'))) er = some (.lst []) := by
      rw [upd_ne ep, upd_ne ew]
      exact upd_same
    have R7 : Prs K (upd (upd (upd H4 er (.lst [])) lw' (.lst [])) p (.dK (knL sh er lw'))) sh (shpsF m).1 := by
      obtain ⟨xs, x1, x2⟩ := prs4
      refine ⟨xs, ?_, dpAll_tk (fun b o h e => ?_) (imm_prs _) x2⟩
      · rw [upd_ne sp]
        exact s6 _ _ x1
      · have h1 : b ≠ p := fun z => by
          rw [z, p4] at e
          cases e
          cases h
        rw [upd_ne h1]
        exact s6 _ _ e
    change tNext _ _ (upd (upd (upd H4 er (.lst [])) lw' (.lst [])) p (.dK (knL sh er lw')))
    generalize upd (upd (upd H4 er (.lst [])) lw' (.lst [])) p (.dK (knL sh er lw')) = H7 at S7 P7 T7 W7 E7 R7 ⊢
    clear kk s6 p6 hlw her hsh prs4 p4 d4 b4 t4 hp
    generalize (shpsF m).1 = slx at q' R7
    generalize (shpsF m).2 = m7 at q' T7
    refine ⟨_, rfl, many, rfl, by omega, by omega, ?_⟩
    refine for_range (lo := 0) (n := many) (fun i σ H' => ∃ (doneL : List (Str × Str × Str)) (fv : List V) (n' : Int) (y6 y7 : Option V), σ = [some (.ref a), some (.int (k : Int)), some (.ref t), some (.int (many : Int)), some (.ref l3), some (.ref p), y6, y7] ∧ fv.length = i ∧
      errsL wl m7 = doneL ++ errsL (wl.drop i) n' ∧ Same H H' ∧ H' p = some (.dK (knL sh er lw')) ∧ H' t = some (.lst [.int n']) ∧ H' l3 = some (.lst (wl.map V.str)) ∧ H' er = some (.lst fv) ∧ DpAll K H' fv (doneL.map trD) ∧ Prs K H' sh slx)
      ⟨[], [], m7, none, none, rfl, rfl, rfl, S7, P7, T7, W7, E7, .nil, R7⟩ ?_ ?_
    · rintro i σ H8 hi ⟨doneL, fv, n8, y6, y7, rfl, hfv, hC, S8, P8, T8, W8, E8, D8, R8⟩
      have hil : i < wl.length := by omega
      rw [drop_at (List.getElem?_eq_getElem hil)] at hC
      refine ⟨by show 9 ≤ sizeLine; decide, fun p9 h9 => ?_⟩
      have s9 := same_upd (o := HO.lst (errL.map V.str)) h9
      have n9 : p9 ≠ t := ne_t T8 h9
      refine ⟨_, rfl, t, n8, 9, rfl, s9 _ _ T8, by decide, by decide, p9, errL.map V.str, _, _, rfl, rfl, .inl (.inl (by rw [upd_ne n9]; exact upd_same)), str_item errL n8 9 rfl (by decide), ?_⟩
      have kt : But t H8 (upd (upd H8 p9 (.lst (errL.map V.str))) t (.lst [.int (n8 / 9)])) := (But.of s9).put
      have T9 : (upd (upd H8 p9 (.lst (errL.map V.str))) t (.lst [.int (n8 / 9)])) t = some (.lst [.int (n8 / 9)]) := upd_same
      change tNext _ _ (upd (upd H8 p9 (.lst (errL.map V.str))) t (.lst [.int (n8 / 9)]))
      generalize upd (upd H8 p9 (.lst (errL.map V.str))) t (.lst [.int (n8 / 9)]) = H9 at kt T9 ⊢
      have P9 := kt _ _ pt P8
      have W9 := kt _ _ n3 W8
      have E9 := kt _ _ et E8
      have R9 := R8.kp kt.kp (kt.tk T8) st
      have D9 := dpAll_tk (kt.tk T8) (imm_trs doneL) D8
      have S9 : Same H H9 := fun b o e => kt b o (fun z => by rw [z, hTH] at e; cases e) (S8 b o e)
      obtain ⟨b0, b1, b2, c, b3, b4⟩ := given_at (n8 / 9)
      change errsL wl m7 = doneL ++ ((wl[i], errL.getD (n8 % 9).toNat "", givenF (n8 / 9)) :: errsL (wl.drop (i + 1)) (n8 / 9 / 3)) at hC
      generalize errL.getD (n8 % 9).toNat "" = kk at hC ⊢
      have b10 : But t H9 (upd H9 t (.lst [.int (n8 / 9 / 3)])) := (But.refl t H9).put
      have E10 : (upd H9 t (.lst [.int (n8 / 9 / 3)])) er = some (.lst fv) := b10 _ _ et E9
      refine ⟨_, rfl, p, .ref er, rfl, DGet.k (k := Sum.inr "errands") P9, .inl ⟨rfl, _, .inl (.inl E9)⟩, _, rfl, _, rfl, l3, _, _, .str wl[i], rfl, rfl, .inl (.inl W9), atI_zero (by rw [List.getElem?_map, List.getElem?_eq_getElem hil]; rfl), _, rfl, _, rfl, t, n8 / 9, 3, rfl, T9, by decide, by decide, _, _, c, rfl, rfl, b0, b1, b2, b3, by show 3 ≤ sizeLine; decide, fun p10 h10 => ?_⟩
      rw [b4]
      have P10 := b10 _ _ pt P9
      have W10 := b10 _ _ n3 W9
      have T10 : (upd H9 t (.lst [.int (n8 / 9 / 3)])) t = some (.lst [.int (n8 / 9 / 3)]) := upd_same
      have R10 := R9.kp b10.kp (b10.tk T9) st
      have D10 := dpAll_tk (b10.tk T9) (imm_trs doneL) D9
      have S10 : Same H (upd H9 t (.lst [.int (n8 / 9 / 3)])) := fun b o e => b10 b o (fun z => by rw [z, hTH] at e; cases e) (S9 b o e)
      generalize upd H9 t (.lst [.int (n8 / 9 / 3)]) = H10 at b10 E10 P10 W10 T10 R10 D10 S10 h10 ⊢
      generalize givenF (n8 / 9) = gv at hC ⊢
      have s11 := same_upd (o := HO.tup [.str wl[i], .str kk, .str gv]) h10
      refine ⟨er, fv, _, rfl, rfl, s11 _ _ E10, small1000 (by omega), ?_⟩
      refine ⟨doneL ++ [(wl[i], kk, gv)], fv ++ [.ref p10], n8 / 9 / 3, _, _, rfl, by rw [List.length_append, hfv]; rfl, by rw [hC, List.append_assoc]; rfl, ?_, ?_, ?_, ?_, upd_same, ?_, ?_⟩
      · exact fun b o e => by
          rw [upd_ne (ne_of_none e herH)]
          exact s11 _ _ (S10 b o e)
      · rw [upd_ne ep.symm]
        exact s11 _ _ P10
      · rw [upd_ne et.symm]
        exact s11 _ _ T10
      · rw [upd_ne e3.symm]
        exact s11 _ _ W10
      · rw [List.map_append]
        refine dpAll_tk (tk_put (s11 _ _ E10)) ?_ (dpAll_append (dpAll_mono s11 D10) (.cons (.tup (.inl (.inl upd_same)) (.cons (.str _) (.cons (.str _) (.cons (.str _) .nil)))) .nil))
        have := imm_trs (doneL ++ [(wl[i], kk, gv)])
        rw [List.map_append] at this
        exact this
      · exact prs_side (R10.same s11) (s11 _ _ E10) es
    · rintro σ H8 ⟨doneL, fv, n8, y6, y7, rfl, hfv, hC, S8, P8, T8, W8, E8, D8, R8⟩
      rw [List.drop_eq_nil_of_le (by omega)] at hC
      have hC' : errsL wl m7 = doneL := by
        rw [hC]
        show doneL ++ [] = _
        rw [List.append_nil]
      rw [hC'] at q'
      exact ⟨_, rfl, q' H8 p sh er lw' S8 hpH P8 R8 ⟨fv, E8, D8⟩ sp ep⟩
end
end SP

/-! the end of a list, from its last item back to just behind place j -/
namespace SP
open PySem PySem.Spec PyProof.Rows L2
theorem back_range (n j : Nat) : sliceRange ((n : Int) - 1) ((min j (n - 1) : Nat) : Int) (-1) = (List.range (n - 1 - min j (n - 1))).map fun k => n - 1 - k := by
  unfold sliceRange
  have h1 : ¬ ((-1 : Int) > 0) := by decide
  by_cases h : (n : Int) - 1 > ((min j (n - 1) : Nat) : Int)
  · have e : ((n : Int) - 1 - ((min j (n - 1) : Nat) : Int) - -1 - 1) / (- -1) = ((n - 1 - min j (n - 1) : Nat) : Int) := by
      rw [show (- -1 : Int) = 1 by decide, Int.ediv_one]
      omega
    simp only [h1, if_false, h, if_true, e, Int.toNat_natCast]
    apply List.map_congr_left
    intro k hk
    have := List.mem_range.mp hk
    omega
  · have e : n - 1 - min j (n - 1) = 0 := by omega
    rw [e]
    simp only [h1, if_false, h]
    rfl
theorem back_bounds (n j : Nat) (h : 1 ≤ n) : sliceBounds none (some (j : Int)) (some (-1)) n = ((n : Int) - 1, ((min j (n - 1) : Nat) : Int), -1) := by
  unfold sliceBounds
  simp only [Option.getD_some]
  have h1 : ¬ ((-1 : Int) > 0) := by decide
  have h2 : ¬ ((j : Int) < 0) := by omega
  simp only [h1, if_false, h2]
  refine Prod.ext rfl (Prod.ext ?_ rfl)
  show max (-1) (min (j : Int) ((n : Int) - 1)) = ((min j (n - 1) : Nat) : Int)
  omega
theorem fm_some {α β : Type} {f : β → Option α} {g : β → α} : ∀ {l : List β}, (∀ x ∈ l, f x = some (g x)) → l.filterMap f = l.map g
  | [], _ => rfl
  | x :: l, h => by
    rw [List.filterMap_cons_some (h x List.mem_cons_self), List.map_cons, fm_some fun y hy => h y (List.mem_cons_of_mem _ hy)]
theorem back_list (xs : List Value) (j : Nat) (h : 1 ≤ xs.length) : ((List.range (xs.length - 1 - min j (xs.length - 1))).map fun k => xs.length - 1 - k).filterMap (fun i => xs[i]?) = (xs.drop (j + 1)).reverse := by
  apply List.ext_getElem?
  intro i
  rw [fm_some (g := fun k => xs.getD k Value.none) (fun k hk => ?_), List.map_map, List.getElem?_map]
  · by_cases hi : i < xs.length - 1 - min j (xs.length - 1)
    · rw [List.getElem?_range hi, List.getElem?_reverse (by rw [List.length_drop]; omega), List.length_drop, List.getElem?_drop]
      show some (xs.getD (xs.length - 1 - i) Value.none) = _
      rw [show j + 1 + (xs.length - (j + 1) - 1 - i) = xs.length - 1 - i by omega, List.getD_eq_getElem?_getD, List.getElem?_eq_getElem (by omega)]
      rfl
    · rw [List.getElem?_eq_none (by rw [List.length_range]; omega), List.getElem?_eq_none (by rw [List.length_reverse, List.length_drop]; omega)]
      rfl
  · obtain ⟨k', hk', rfl⟩ := List.mem_map.mp hk
    show xs[xs.length - 1 - k']? = some _
    rw [List.getD_eq_getElem?_getD, List.getElem?_eq_getElem (by omega)]
    rfl
theorem back_pick (items : Array Value) (j : Nat) (h : 1 ≤ items.size) : slicePick items none (some (j : Int)) (some (-1)) = (items.toList.drop (j + 1)).reverse.toArray := by
  unfold slicePick
  rw [back_bounds _ _ h]
  show ((sliceRange ((items.size : Int) - 1) ((min j (items.size - 1) : Nat) : Int) (-1)).filterMap (items[·]?)).toArray = _
  rw [back_range]
  have := back_list items.toList j h
  congr 1
  rw [← this]
  simp only [Array.getElem?_toList, Array.length_toList]
def tBack (K : PySem.W.Frag) (te tu ts : TE) : TE := fun σ H Q => te σ H fun x H1 => tu σ H1 fun y H2 => ts σ H2 fun z H3 => z = .int (-1) ∧ ∃ a xs, ∃ j : Nat, y = .int (j : Int) ∧ x = .ref a ∧ SqL K H3 a xs ∧ 1 ≤ xs.length ∧ ∀ p, H3 p = none → Q (.ref p) (upd H3 p (.lst (xs.drop (j + 1)).reverse))
theorem pe_back {X : Cx} {e eu es : Expr} {te tu ts : TE} {pos p2 : Pos} (he : PE X e te) (hu : PE X eu tu) (hs : PE X es ts) : PE X (.Subscript e (.Slice none (some eu) (some es) p2) pos) (tBack X.K te tu ts) := by
  refine ⟨fun pins s σ H Q I h => ?_⟩
  refine Subscript_ (thn (he.run pins s σ H _ I h) fun v s1 ⟨x, H1, I1, r1, q1⟩ => ?_)
  refine wpAny_Slice ?_
  rw [evalPart_none]
  refine wpAny_pure ?_
  rw [evalPart_some]
  refine thn (hu.run pins s1 σ H1 _ I1 q1) fun ul s2 ⟨y, H2, I2, r2, q2⟩ => ?_
  rw [evalPart_some]
  refine thn (hs.run pins s2 σ H2 _ I2 q2) fun vl s3 ⟨z, H3, I3, r3, q3⟩ => ?_
  obtain ⟨rfl, a, xs, j, rfl, rfl, hx, h1, q⟩ := q3
  obtain ⟨t, rfl⟩ := r2
  obtain ⟨t3, rfl⟩ := r3
  cases r1
  have I4 : Inv X pins σ H3 { s3 with heap := s3.heap.push { cls := .type "slice", data := .fields #[.none, .int (j : Int) t, .int (-1) t3] } } := I3.kept (t' := s3.toks) fun b ob q => Heap.get?_push_of_some _ q
  obtain ⟨its', r', ht', hz'⟩ := I4.list hx
  have hlen := r'.length
  show wpAny (model X.prog X.w) X.A (subscriptTail e (.Slice none (some eu) (some es) p2) (.ref a) (.ref s3.heap.objs.size)) (EP X pins σ Q) X.xe { s3 with heap := s3.heap.push { cls := .type "slice", data := .fields #[.none, .int (j : Int) t, .int (-1) t3] } }
  refine tail_any (ops := [.ref a, .ref s3.heap.objs.size]) ht'.isList.typeIs slot_list_getitem.lookup ?_ (by with_unfolding_all rfl)
  refine wpAny_getItem_list_slice ht'.isList (Heap.IsSliceOf.new ..) .none (.int _ _) (.int _ _) (by decide) ?_ (by rw [List.size_toArray]; omega)
  rw [back_pick _ _ (by rw [List.size_toArray]; omega)]
  refine ⟨.ref _, _, I4.laid (t' := s3.toks) (o := .lst (xs.drop (j + 1)).reverse) (fun b ob q => Heap.get?_push_of_some _ q) (Nat.le_refl _) ?_, rfl, q _ (I4.hok.fresh (Nat.le_refl _))⟩
  exact ⟨by rw [List.length_reverse, List.length_drop]; exact Nat.le_trans (Nat.sub_le _ _) hz', _, 0, (r'.drop (j + 1)).reverse, Heap.get?_push_size _ rfl⟩
end SP

namespace SP
open PySem PySem.Spec PyProof.Rows L2
open C8 (pss_cut tCut)
def roomL : List Int := [40, 40, 20, 9, 3, 1]
def roomF (m : Int) : Nat := (roomL.getD (m % 6).toNat 0).toNat
theorem room_in (m : Int) : ((roomF m : Nat) : Int) = roomL.getD (m % 6).toNat 0 ∧ 1 ≤ roomF m ∧ roomF m ≤ 40 := by
  have : 0 ≤ roomL.getD (m % 6).toNat 0 ∧ roomL.getD (m % 6).toNat 0 ≤ 40 ∧ (m % 6).toNat < 6 ∧ (1 ≤ roomL.getD (m % 6).toNat 0) := by
    have h : m % 6 = 0 ∨ m % 6 = 1 ∨ m % 6 = 2 ∨ m % 6 = 3 ∨ m % 6 = 4 ∨ m % 6 = 5 := by omega
    rcases h with h | h | h | h | h | h <;> rw [h] <;> decide
  unfold roomF
  omega
def aroundF (m : Int) (ks : Str) : List (Str × Str) := ((wordsF m 24).1).zip (charsF ks)
def bodyF (n0 : Int) (e : Str × Str × Str) (m : Int) : Gen :=
  termF (slF n0) (elF n0) 12 ((wordsF m 24).2 / 6) ((wordsF m 24).1.drop 4) (aroundF m e.2.1) e.2.2 (roomF (wordsF m 24).2)
def errandF (n0 : Int) (e : Str × Str × Str) (m : Int) : PyData := .tuple [.str e.1, .tuple (((wordsF m 24).1.take e.2.1.length).map .str), (bodyF n0 e m).1]
theorem imm_errand (n0 : Int) (e : Str × Str × Str) (m : Int) : imm (errandF n0 e m) = true := by
  show (true && ((immAll _) && (imm _ && true))) = true
  rw [imm_strs]
  unfold bodyF
  rw [imm_term]
  rfl
theorem errs_gv : ∀ (l : List Str) (n : Int), ∀ s ∈ errsL l n, s.2.2 = "n" ∨ s.2.2 = "b"
  | [], _, s, h => by cases h
  | w :: r, n, s, h => by
    rcases List.mem_cons.mp h with rfl | h'
    · exact given_in _
    · exact errs_gv r _ s h'
/-- the books that are drawn so -/
def BookD (d : PyData) : Prop := ∃ (n0 : Int) (ts : List Int), ts.length = (elF n0).length ∧ d = .tuple (((elF n0).zip ts).map fun p => errandF n0 p.1 p.2)
theorem imm_book (n0 : Int) : ∀ (l : List ((Str × Str × Str) × Int)), immAll (l.map fun p => errandF n0 p.1 p.2) = true
  | [] => rfl
  | p :: l => by
    show (imm (errandF n0 p.1 p.2) && immAll (l.map fun p => errandF n0 p.1 p.2)) = true
    rw [imm_errand, imm_book n0 l]
    rfl
section
variable {P : Program} {w : World} {K : PySem.W.Frag} {mg : Str → Option Value} {base : Heap}
def spBook (K : PySem.W.Frag) : Sp := fun vs H Q _ => ∃ (a : Addr) (ns : List Int) (k : Nat), vs = [.ref a, .int (k : Int)] ∧ SqL K H a (ns.map V.int) ∧ k < 900 ∧
  ∀ (H' : Hp) (v : V) (d : PyData), Same H H' → BookD d → Dp K H' v d → Q v H'
theorem ok_law_book {f : Addr} {fd : FuncData} (F : Fun K "_law_book" "_law_book" s_law_book f fd) (T : Txt mg) (C_law_digit : Callee P w K mg base "_law_digit" ["tape", "many"] 1 (spDigit K)) (C_law_words : Callee P w K mg base "_law_words" ["tape", "many"] 2 (spWords K)) (C_law_tape : Callee P w K mg base "_law_tape" ["script", "k"] 2 (spTape K)) (C_law_known : Callee P w K mg base "_law_known" ["script", "start"] 4 (spKnown K)) (C_law_term : Callee P w K mg base "_law_term" ["tape", "known", "around", "kind", "room", "deep"] 28 (spTerm K 12)) : FnOk P w K mg base CX0 29 f fd ["script", "start"] (spBook K) := by
  refine F.ok sc_law_book (fun vs H Q E h => ?_) (fun cdv A outer s H vs Q E hr h => ?_)
  · obtain ⟨a, ns, k, rfl, _⟩ := h
    rfl
  · obtain ⟨a, ns, k, rfl, hS, hk, q⟩ := h
    refine ⟨_, (pss_cons (ps_set (i := 2) sc_law_book.nd rfl (Or.inl rfl) (pe_fn C_law_known hr (by rfl) (pa_cons (pv 0) (pa_cons (pv 1) pa_nil))))
      (pss_cons (ps_set (i := 3) sc_law_book.nd rfl (Or.inl rfl) (pe_lst pa_nil))
      (pss_cons (ps_for PassesOwn.never rfl (pi_range1 rfl T.n_range (pa_cons (pe_callB (r := rLenS K) call_lenS (by rfl) T.n_len (by decide +kernel) (pa_cons (pe_dget (hu_of hr) (pv 2) pe_str (fun _ _ => rfl)) pa_nil)) pa_nil)) (pg_name (i := 4) sc_law_book.nd rfl (Or.inl rfl))
      (pss_cons (ps_set (i := 5) sc_law_book.nd rfl (Or.inl rfl) (pe_fn C_law_tape hr (by rfl) (pa_cons (pv 0) (pa_cons (pe_op op_add (pe_op op_add (pv 1) pe_int) (pv 4)) pa_nil))))
      (pss_cons (ps_asg (pe_ix (r := rIxL K) ix_list (pe_dget (hu_of hr) (pv 2) pe_str (fun _ _ => rfl)) (pv 4) (fun _ _ => rfl)) (pg_tup rfl (pgs_cons (pg_name (i := 6) sc_law_book.nd rfl (Or.inl rfl)) (pgs_cons (pg_name (i := 7) sc_law_book.nd rfl (Or.inl rfl)) (pgs_cons (pg_name (i := 8) sc_law_book.nd rfl (Or.inl rfl)) pgs_nil)))))
      (pss_cons (ps_set (i := 9) sc_law_book.nd rfl (Or.inl rfl) (pe_fn C_law_words hr (by rfl) (pa_cons (pv 5) (pa_cons pe_int pa_nil))))
      (pss_cons (ps_dput (hu_of hr) (pv 2) pe_str (pe_back (pv 9) pe_int (pe_un un_neg pe_int)) rfl)
      (pss_cons (ps_set (i := 10) sc_law_book.nd rfl (Or.inl rfl) (pe_ix (r := rIxL K) ix_list (pe_lst (pa_cons pe_int (pa_cons pe_int (pa_cons pe_int (pa_cons pe_int (pa_cons pe_int (pa_cons pe_int pa_nil))))))) (pe_fn C_law_digit hr (by rfl) (pa_cons (pv 5) (pa_cons pe_int pa_nil))) (fun _ _ => rfl)))
      (pss_cons (ps_setLc (i := 11) (own := [("x", 13), ("kind", 14)]) (g := gTup K 2 (gCons (gName 13) (gCons (gName 14) gNil))) (tt := tYes) rfl sc_law_book.nd rfl rfl (sw_true rfl rfl rfl (by decide +kernel)) (pi_zipText (by rfl) T.n_zip (pa_cons (pv 9) (pa_cons (pv 7) pa_nil))) (blkOk_by (own := [("x", 13), ("kind", 14)]) (N := ["script", "start", "known", "found", "k", "tape", "f", "kinds", "given", "names", "room", "around", "body", "x", "kind"]) (sc := defScope s_law_book) (by decide +kernel)) (fun _ _ _ _ _ => (pg_tup rfl (pgs_cons (pg_name (i := 13) sc_law_book.nd rfl (Or.inl rfl)) (pgs_cons (pg_name (i := 14) sc_law_book.nd rfl (Or.inl rfl)) pgs_nil)))) (fun _ _ _ _ _ => pts_nil) (fun _ _ _ _ _ => (pe_tup (pa_cons (pv 13) (pa_cons (pv 14) pa_nil)))))
      (pss_cons (ps_set (i := 12) sc_law_book.nd rfl (Or.inl rfl) (pe_fn C_law_term hr (by rfl) (pa_cons (pv 5) (pa_cons (pv 2) (pa_cons (pv 11) (pa_cons (pv 8) (pa_cons (pv 10) (pa_cons pe_int pa_nil))))))))
      (pss_one (ps_expr (pe_bm PySem.F.plainAttrs_list PySem.F.slot_list_append PySem.F.type_list_append mt_append (pv 3) (pa_cons (pe_tup (pa_cons (pv 6) (pa_cons (pe_callTy (r := rTupleS K) call_tupleS (by rfl) T.n_tuple (by decide +kernel) (pa_cons (pe_slice (r := rSlL K) sl_list (pv 9) po_none (po_some (pe_callB call_len_str (by rfl) T.n_len (by decide +kernel) (pa_cons (pv 7) pa_nil)))) pa_nil)) (pa_cons (pv 12) pa_nil)))) pa_nil))))))))))))
      (pss_one (ps_ret (pe_callTy (r := rTupleS K) call_tupleS (by rfl) T.n_tuple (by decide +kernel) (pa_cons (pv 3) pa_nil))))))), ?_⟩
    refine ⟨_, rfl, _, rfl, a, ns, k, rfl, hS, by omega, fun H1 kn sh er lw0 n0 s1 hkn dk1 shp1 err1 skn ekn => ?_⟩
    have gs := gs_of n0
    have hgv : ∀ s ∈ elF n0, s.2.2 = "n" ∨ s.2.2 = "b" := errs_gv _ _
    have q' : ∀ (H' : Hp) (v : V) (ts : List Int), Same H H' → ts.length = (elF n0).length → Dp K H' v (.tuple (((elF n0).zip ts).map fun p => errandF n0 p.1 p.2)) → Q v H' := fun H' v ts s l d => q H' v _ s ⟨n0, ts, l, rfl⟩ d
    clear q
    have hsl : slF n0 = slF n0 := rfl
    -- found
    refine ⟨by show 0 ≤ sizeLine; decide, fun F hF => ?_⟩
    have sF := same_upd (o := HO.lst []) hF
    have hFH : H F = none := s1.free hF
    have fkn : F ≠ kn := ne_t dk1 hF
    have fsh : F ≠ sh := prs_ne shp1 hF
    obtain ⟨xer, er1, er2⟩ := err1
    have fer : F ≠ er := ne_t er1 hF
    have ler : xer.length = (elF n0).length := by
      rw [dpAll_len er2, List.length_map]
    have hl2 := gs.l2
    have F2 : (upd H1 F (.lst [])) F = some (.lst []) := upd_same
    have s2 := s1.trans sF
    have dk2 := sF _ _ dk1
    have shp2 := shp1.same sF
    have er12 := sF _ _ er1
    have er22 := dpAll_mono sF er2
    change tNext _ _ (upd H1 F (.lst []))
    generalize upd H1 F (.lst []) = H2 at F2 s2 dk2 shp2 er12 er22 ⊢
    clear sF shp1 dk1 er1 er2 s1
    -- the errands
    refine ⟨_, rfl, kn, .ref er, rfl, DGet.k (k := Sum.inr "errands") dk2, er, xer, rfl, .inl (.inl (.inl er12)), xer.length, rfl, by omega, by omega, ?_⟩
    refine for_range (lo := 0) (n := xer.length) (fun i σ H' => ∃ (ts : List Int) (fv : List V) (lw : Addr) (y4 y5 y6 y7 y8 y9 y10 y11 y12 : Option V), σ = [some (.ref a), some (.int (k : Int)), some (.ref kn), some (.ref F), y4, y5, y6, y7, y8, y9, y10, y11, y12, none, none] ∧ fv.length = i ∧ ts.length = i ∧
      Same H H' ∧ H' kn = some (.dK (knL sh er lw)) ∧ Prs K H' sh (slF n0) ∧ H' er = some (.lst xer) ∧ DpAll K H' xer ((elF n0).map trD) ∧ H' F = some (.lst fv) ∧ DpAll K H' fv ((((elF n0).take i).zip ts).map fun p => errandF n0 p.1 p.2))
      ⟨[], [], lw0, none, none, none, none, none, none, none, none, none, rfl, rfl, rfl, s2, dk2, shp2, er12, er22, F2, .nil⟩ ?_ ?_
    · rintro i σ H3 hi ⟨ts, fv, lw, y4, y5, y6, y7, y8, y9, y10, y11, y12, rfl, hfv, hts, s3, dk3, shp3, er31, er32, F3, p3⟩
      -- the tape
      refine ⟨_, rfl, _, rfl, _, _, rfl, rfl, _, rfl, _, _, rfl, rfl, a, ns, k + 1 + i, ?_, s3.seq hS, by omega, fun H4 t m s4 ht t4 => ?_⟩
      · show [V.ref a, V.int ((k : Int) + 1 + (0 + (i : Int)))] = [V.ref a, V.int ((k + 1 + i : Nat) : Int)]
        rw [show (k : Int) + 1 + (0 + (i : Int)) = ((k + 1 + i : Nat) : Int) by omega]
      have tkn : t ≠ kn := ne_t dk3 ht
      have tsh : t ≠ sh := prs_ne shp3 ht
      have ter : t ≠ er := ne_t er31 ht
      have tF : t ≠ F := ne_t F3 ht
      -- f, kinds, given
      have er42 := dpAll_mono s4 er32
      obtain ⟨e, b, he, hvb, hb⟩ := tr_at er42 (List.getElem?_eq_getElem hi)
      have em := List.mem_of_getElem? he
      have ek9 := gs.he e em
      have eg := hgv e em
      refine ⟨_, rfl, kn, .ref er, rfl, DGet.k (k := Sum.inr "errands") (s4 _ _ dk3), _, rfl, er, xer, _, .ref b, rfl, rfl, .inl (.inl (s4 _ _ er31)), atI_zero (by rw [← hvb]; exact List.getElem?_eq_getElem hi), b, _, rfl, hb, rfl, _, _, rfl, _, _, rfl, _, _, rfl, rfl, ?_⟩
      -- names
      refine ⟨_, rfl, t, m, 24, rfl, t4, by decide, fun H5 l5 b5 t5 hl5 d5 => ?_⟩
      have lwl := words_len m 24
      have hwd : ∃ wl m2, wordsF m 24 = (wl, m2) := ⟨_, _, rfl⟩
      obtain ⟨wl, m5, hwd⟩ := hwd
      rw [hwd] at t5 d5 lwl
      change wl.length = 24 at lwl
      change H5 l5 = some (.lst (wl.map V.str)) at d5
      change H5 t = some (.lst [.int m5]) at t5
      have l5t : l5 ≠ t := ne_t t4 hl5
      have l5k : l5 ≠ kn := ne_t (s4 _ _ dk3) hl5
      have l5F : l5 ≠ F := ne_t (s4 _ _ F3) hl5
      have dk5 := b5 _ _ tkn.symm (s4 _ _ dk3)
      -- the words that are new
      refine ⟨_, rfl, _, rfl, rfl, l5, wl.map V.str, 3, rfl, rfl, .inl (.inl d5), by rw [List.length_map]; omega, fun lw2 hlw2 => ⟨_, rfl, kn, _, rfl, DPut.k (k := Sum.inr "words") (same_upd hlw2 _ _ dk5) (by show 3 < sizeLine; decide), ?_⟩⟩
      have hrev : ((wl.map V.str).drop (3 + 1)).reverse = (wl.drop 4).reverse.map V.str := by
        rw [← List.map_drop, List.map_reverse]
      rw [hrev]
      change tNext _ _ (upd (upd H5 lw2 (.lst ((wl.drop 4).reverse.map V.str))) kn (.dK (knL sh er lw2)))
      have w2k : lw2 ≠ kn := ne_t dk5 hlw2
      have w2t : lw2 ≠ t := ne_t t5 hlw2
      have w2l : lw2 ≠ l5 := ne_t d5 hlw2
      have er5 := b5 _ _ ter.symm (s4 _ _ er31)
      have w2e : lw2 ≠ er := ne_t er5 hlw2
      have shp5 := (shp3.same s4).kp b5.kp (b5.tk t4) (fun z => tsh z.symm)
      have w2s : lw2 ≠ sh := prs_ne shp5 hlw2
      -- room
      refine ⟨by show 6 ≤ sizeLine; decide, fun p8 h8 => ?_⟩
      have s8 := same_upd (o := HO.lst (roomL.map V.int)) h8
      have T8 : (upd (upd (upd H5 lw2 (.lst ((wl.drop 4).reverse.map V.str))) kn (.dK (knL sh er lw2))) p8 (.lst (roomL.map V.int))) t = some (.lst [.int m5]) := s8 _ _ (by rw [upd_ne tkn, upd_ne w2t.symm]; exact t5)
      have n8 : p8 ≠ t := fun z => by
        rw [← z] at T8
        rw [upd_same] at T8
        cases T8
      refine ⟨_, rfl, t, m5, 6, rfl, T8, by decide, by decide, p8, roomL.map V.int, _, _, rfl, rfl, .inl (.inl (by rw [upd_ne n8]; exact upd_same)), int_item roomL m5 6 rfl (by decide), ?_⟩
      obtain ⟨hr1, hr2, hr3⟩ := room_in m5
      change tNext _ _ (upd (upd (upd (upd H5 lw2 (.lst ((wl.drop 4).reverse.map V.str))) kn (.dK (knL sh er lw2))) p8 (.lst (roomL.map V.int))) t (.lst [.int (m5 / 6)]))
      have k9 : Kp (fun b => b = kn) H3 (upd (upd (upd (upd H5 lw2 (.lst ((wl.drop 4).reverse.map V.str))) kn (.dK (knL sh er lw2))) p8 (.lst (roomL.map V.int))) t (.lst [.int (m5 / 6)])) := fun b o hb e => by
        have hbt : b ≠ t := fun z => by
          rw [z, ht] at e
          cases e
        rw [upd_ne hbt]
        refine s8 _ _ ?_
        rw [upd_ne hb]
        exact same_upd hlw2 _ _ (b5 b o hbt (s4 b o e))
      have dk9 : (upd (upd (upd (upd H5 lw2 (.lst ((wl.drop 4).reverse.map V.str))) kn (.dK (knL sh er lw2))) p8 (.lst (roomL.map V.int))) t (.lst [.int (m5 / 6)])) kn = some (.dK (knL sh er lw2)) := by
        rw [upd_ne tkn.symm]
        exact s8 _ _ upd_same
      have hw9 : (upd (upd (upd (upd H5 lw2 (.lst ((wl.drop 4).reverse.map V.str))) kn (.dK (knL sh er lw2))) p8 (.lst (roomL.map V.int))) t (.lst [.int (m5 / 6)])) lw2 = some (.lst ((wl.drop 4).reverse.map V.str)) := by
        rw [upd_ne w2t]
        refine s8 _ _ ?_
        rw [upd_ne w2k]
        exact upd_same
      have d9 : (upd (upd (upd (upd H5 lw2 (.lst ((wl.drop 4).reverse.map V.str))) kn (.dK (knL sh er lw2))) p8 (.lst (roomL.map V.int))) t (.lst [.int (m5 / 6)])) l5 = some (.lst (wl.map V.str)) := by
        rw [upd_ne l5t]
        refine s8 _ _ ?_
        rw [upd_ne l5k]
        exact same_upd hlw2 _ _ d5
      have t9 : (upd (upd (upd (upd H5 lw2 (.lst ((wl.drop 4).reverse.map V.str))) kn (.dK (knL sh er lw2))) p8 (.lst (roomL.map V.int))) t (.lst [.int (m5 / 6)])) t = some (.lst [.int (m5 / 6)]) := upd_same
      generalize upd (upd (upd (upd H5 lw2 (.lst ((wl.drop 4).reverse.map V.str))) kn (.dK (knL sh er lw2))) p8 (.lst (roomL.map V.int))) t (.lst [.int (m5 / 6)]) = H9 at k9 dk9 hw9 d9 t9 ⊢
      have tk9 : Tk H3 H9 := k9.tk fun b h => by
        rw [h]
        exact ⟨_, dk3, rfl⟩
      have shp9 := shp3.kp k9 tk9 skn
      have er91 := k9 _ _ ekn er31
      have er92 := dpAll_tk tk9 (imm_trs _) er32
      have F9 := k9 _ _ fkn F3
      have p9 := dpAll_tk tk9 (imm_book n0 _) p3
      have g9 : GP K H9 t kn sh er lw2 (m5 / 6) (wl.drop 4) (slF n0) (elF n0) := ⟨t9, hw9, dk9, shp9, ⟨xer, er91, er92⟩, tkn.symm, tsh.symm, ter.symm, w2k.symm, w2s.symm, w2e.symm, w2t.symm⟩
      have fw2 : F ≠ lw2 := fun z => by
        have := b5 _ _ tF.symm (s4 _ _ F3)
        rw [z] at this
        rw [hlw2] at this
        cases this
      have S9' : Same H H9 := fun b o e => k9 b o (fun z => by rw [z, hkn] at e; cases e) (s3 b o e)
      have htH : H t = none := s3.free ht
      have hw2H : H lw2 = none := by
        cases e' : H lw2 with
        | none => rfl
        | some o =>
          rw [b5 _ _ w2t (s4 _ _ (s3 _ _ e'))] at hlw2
          cases hlw2
      clear k9 tk9 hw9 dk9 t9 T8 s8 h8 hlw2 b5 t5 d5 hl5 er5 shp5 dk5 t4 n8
      -- around
      have hcl : (charsF e.2.1).length = e.2.1.length := by
        unfold charsF
        rw [List.length_map]
        rfl
      have hzl : (wl.zip (charsF e.2.1)).length = min (wl.map V.str).length e.2.1.cps.size := by
        rw [List.length_zip, hcl, List.length_map]
        rfl
      refine ⟨_, rfl, _, rfl, l5, e.2.1, _, rfl, .inl (.inl d9), fun D3 hD3 => ?_⟩
      refine lc_it (walk_zip_text (K := K) (a := l5) (x := e.2.1) (xs := wl.map V.str) hzl) (fun j H' => Same H9 H' ∧ ∃ vs, vs.length = j ∧ H' D3 = some (.lst vs) ∧ DpAll K H' vs (((wl.zip (charsF e.2.1)).take j).map prD)) ⟨same_upd hD3, [], rfl, upd_same, .nil⟩ (fun j H' _ h => .inl (.inl (h.1 _ _ d9))) ?_ ?_
      · rintro j v H' H'' hj ⟨s', vs, lv, dv, pv⟩ ⟨T, x1, x2, rfl, hT, rfl, e1, e2⟩
        have hjz : (wl.zip (charsF e.2.1))[j]? = some ((wl.zip (charsF e.2.1))[j]) := List.getElem?_eq_getElem hj
        generalize (wl.zip (charsF e.2.1))[j] = yc at hjz
        obtain ⟨y, c⟩ := yc
        obtain ⟨z1, z2⟩ := List.getElem?_zip_eq_some.mp hjz
        have e1' : x1 = .str y := by
          change (wl.map V.str)[j]? = some x1 at e1
          rw [List.getElem?_map, z1] at e1
          cases e1
          rfl
        have e2' : x2 = .str c := by
          change (e.2.1.cps[j]?).map (fun c => V.str ⟨#[c]⟩) = some x2 at e2
          unfold charsF at z2
          rw [List.getElem?_map, Array.getElem?_toList] at z2
          cases hq : e.2.1.cps[j]? with
          | none =>
            rw [hq] at z2
            cases z2
          | some u =>
            rw [hq] at z2 e2
            cases z2
            cases e2
            rfl
        subst e1' e2'
        have sT := same_upd (o := HO.tup [.str y, .str c]) hT
        refine ⟨T, _, rfl, .inl (.inl upd_same), rfl, _, _, rfl, _, _, rfl, rfl, rfl, ?_⟩
        refine lcYes ?_
        refine ⟨_, rfl, _, rfl, by show 2 ≤ sizeLine; decide, fun p5 h5 => ?_⟩
        have s5 := sT.trans (same_upd (o := HO.tup [.str y, .str c]) h5)
        have hjl : j ≤ 9 := by
          rw [List.length_zip, hcl] at hj
          omega
        refine ⟨vs, s5 _ _ dv, small1000 (by omega), same_put (s'.trans s5) hD3, vs ++ [.ref p5], by rw [List.length_append, lv]; rfl, upd_same, ?_⟩
        rw [List.take_add_one, hjz, List.map_append]
        refine dpAll_append (dpAll_tk (tk_put (s5 _ _ dv)) (imm_prs _) (dpAll_mono s5 pv)) (.cons (.tup (.inl (.inl ?_)) (.cons (.str _) (.cons (.str _) .nil))) .nil)
        rw [upd_ne (ne_t (sT _ _ dv) h5)]
        exact upd_same
      rintro H12 ⟨s12, vs, lv, dv, pv⟩
      rw [List.take_of_length_le (Nat.le_refl _)] at pv
      have g12 := g9.same s12
      have m1 : D3 ≠ t := ne_t g9.ht hD3
      have m2 : D3 ≠ lw2 := ne_t g9.hw hD3
      have d12 := s12 _ _ d9
      have prs12 : Prs K H12 D3 (wl.zip (charsF e.2.1)) := ⟨vs, dv, pv⟩
      have lz9 : (wl.zip (charsF e.2.1)).length ≤ 9 := by
        rw [List.length_zip, hcl]
        omega
      have F12 := s12 _ _ F9
      have p12 := dpAll_mono s12 p9
      have er121 := s12 _ _ er91
      have er122 := dpAll_mono s12 er92
      -- the body
      have S12 : Same H H12 := fun b o e => S9' b o e |> s12 b o
      refine ⟨_, rfl, _, rfl, _, rfl, _, rfl, _, rfl, t, kn, sh, er, lw2, D3, m5 / 6, wl.drop 4, slF n0, wl.zip (charsF e.2.1), elF n0, e.2.2, roomF m5, ?_, eg, gs, g12, prs12, m1, m2, by omega, by omega, fun H14 v14 k14 t14 w14 d14 => ?_⟩
      · rw [hr1]
        rfl
      have g14 := g12.kp k14 t14 w14
      have tk14 := g12.tk k14
      have F14 := k14 _ _ (fun z => z.elim tF.symm fw2) F12
      have l14 := k14 _ _ (fun z => z.elim l5t w2l.symm) d12
      have p14 := dpAll_tk tk14 (imm_book n0 _) p12
      have er141 := k14 _ _ (fun z => z.elim ter.symm w2e.symm) er121
      have er142 := dpAll_tk tk14 (imm_trs _) er122
      have S14 : Same H H14 := fun b o e' => k14 b o (fun z => by
        rcases z with z | z
        · rw [z, htH] at e'
          cases e'
        · rw [z, hw2H] at e'
          cases e') (S12 b o e')
      have hE : errandF n0 e m = .tuple [.str e.1, .tuple ((wl.take e.2.1.length).map .str), (termF (slF n0) (elF n0) 12 (m5 / 6) (wl.drop 4) (wl.zip (charsF e.2.1)) e.2.2 (roomF m5)).1] := by
        unfold errandF bodyF aroundF
        rw [hwd]
      have hs := sizeLine_eq
      refine ⟨_, rfl, .inl ⟨rfl, _, .inl (.inl F14)⟩, _, rfl, _, rfl, _, rfl, e.2.1, rfl, by omega, _, rfl, l5, _, rfl, .inl (.inl l14), fun p15 h15 => ⟨p15, _, rfl, .inl ⟨.inl (.inl upd_same), fun p16 h16 => ⟨_, rfl, by show 3 ≤ sizeLine; decide, fun p17 h17 => ?_⟩⟩⟩⟩
      rw [cutV_to, ← List.map_take] at h16 h17 ⊢
      have s15 := same_upd (o := HO.lst ((wl.take e.2.1.length).map V.str)) h15
      have s16 := same_upd (o := HO.tup ((wl.take e.2.1.length).map V.str)) h16
      have s17 := same_upd (o := HO.tup [.str e.1, .ref p16, v14]) h17
      have sA := s15.trans (s16.trans s17)
      refine ⟨F, fv, _, rfl, rfl, sA _ _ F14, small1000 (by omega), ?_⟩
      have new : Dp K (upd (upd (upd H14 p15 (.lst ((wl.take e.2.1.length).map V.str))) p16 (.tup ((wl.take e.2.1.length).map V.str))) p17 (.tup [.str e.1, .ref p16, v14])) (.ref p17) (errandF n0 e m) := by
        rw [hE]
        exact .tup (.inl (.inl upd_same)) (.cons (.str _) (.cons (.tup (.inl (.inl (s17 _ _ upd_same))) (dpAll_strs _)) (.cons (dp_mono sA d14) .nil)))
      have pA := dpAll_snoc (dpAll_mono sA p14) new
      have gA := g14.same sA
      have FA := sA _ _ F14
      have erA := sA _ _ er141
      have erB := dpAll_mono sA er142
      have SA := S14.trans sA
      generalize upd (upd (upd H14 p15 (.lst ((wl.take e.2.1.length).map V.str))) p16 (.tup ((wl.take e.2.1.length).map V.str))) p17 (.tup [.str e.1, .ref p16, v14]) = HA at pA gA FA erA erB SA ⊢
      have hz : (((elF n0).take (i + 1)).zip (ts ++ [m])).map (fun p => errandF n0 p.1 p.2) = (((elF n0).take i).zip ts).map (fun p => errandF n0 p.1 p.2) ++ [errandF n0 e m] := by
        rw [List.take_add_one, he, List.zip_append (by rw [List.length_take]; omega), List.map_append]
        rfl
      have imA : immAll ((((elF n0).take (i + 1)).zip (ts ++ [m])).map fun p => errandF n0 p.1 p.2) = true := imm_book n0 _
      refine ⟨ts ++ [m], fv ++ [.ref p17], lw2, _, _, _, _, _, _, _, _, _, rfl, by rw [List.length_append, hfv]; rfl, by rw [List.length_append, hts]; rfl, ?_, ?_, ?_, ?_, ?_, upd_same, ?_⟩
      · exact fun b o e' => by
          rw [upd_ne (ne_of_none e' hFH)]
          exact SA b o e'
      · rw [upd_ne fkn.symm]
        exact gA.dk
      · exact prs_side gA.shp FA fsh
      · rw [upd_ne fer.symm]
        exact erA
      · exact dpAll_tk (tk_put FA) (imm_trs _) erB
      · rw [← hz] at pA
        exact dpAll_tk (tk_put FA) imA pA
    · rintro σ H3 ⟨ts, fv, lw, y4, y5, y6, y7, y8, y9, y10, y11, y12, rfl, hfv, hts, s3, dk3, shp3, er31, er32, F3, p3⟩
      rw [ler, List.take_length] at p3
      refine ⟨_, rfl, F, fv, rfl, .inl ⟨.inl (.inl F3), fun p hp => ?_⟩⟩
      have s4 := same_upd (o := HO.tup fv) hp
      exact q' _ _ ts (s3.trans s4) (hts.trans ler) (.tup (.inl (.inl upd_same)) (dpAll_mono s4 p3))
end
end SP

namespace SP
open PySem PySem.Spec PyProof.Rows L2
open C8 (pss_cut tCut)
/-! ### terms, also of held books -/
mutual
inductive Tm where
  | flat (w : Str) (r : List PyData)
  | two (w x : Str) (a b : Tm)
  | one (w x : Str) (a : Tm)
  | many (w x : Str) (c : Cs)
inductive Cs where
  | nil
  | cons (w : Str) (ys : List Str) (t : Tm) (c : Cs)
end
mutual
def toD : Tm → PyData
  | .flat w r => .tuple (.str w :: r)
  | .two w x a b => .tuple [.str w, .str x, toD a, toD b]
  | .one w x a => .tuple [.str w, .str x, toD a]
  | .many w x c => .tuple [.str w, .str x, .tuple (csD c)]
def csD : Cs → List PyData
  | .nil => []
  | .cons w ys t c => .tuple [.str w, .tuple (ys.map .str), toD t] :: csD c
end
def csT : Cs → List Tm
  | .nil => []
  | .cons _ _ t c => t :: csT c
def kids : Tm → List Tm
  | .flat _ _ => []
  | .two _ _ a b => [a, b]
  | .one _ _ a => [a]
  | .many _ _ c => csT c
def wordT : Tm → Str
  | .flat w _ => w
  | .two w _ _ _ => w
  | .one w _ _ => w
  | .many w _ _ => w
def restT : Tm → List PyData
  | .flat _ r => r
  | .two _ x a b => [.str x, toD a, toD b]
  | .one _ x a => [.str x, toD a]
  | .many _ x c => [.str x, .tuple (csD c)]
def isTwo (w : Str) : Prop := w = "let" ∨ w = "zero"
def isOne (w : Str) : Prop := w = "keep" ∨ w = "loose"
def isMany (w : Str) : Prop := w = "open" ∨ w = "look"
mutual
def okT : Tm → Prop
  | .flat w r => ¬ isTwo w ∧ ¬ isOne w ∧ ¬ isMany w ∧ immAll r = true ∧ r.length ≤ (if w = "again" then 101 else 100) ∧ PyData.depthAll r ≤ 2
  | .two w _ a b => isTwo w ∧ okT a ∧ okT b
  | .one w _ a => isOne w ∧ okT a
  | .many w _ c => isMany w ∧ okC c ∧ (csT c).length ≤ 100
def okC : Cs → Prop
  | .nil => True
  | .cons _ ys t c => ys.length ≤ 100 ∧ okT t ∧ okC c
end
theorem toD_eq (tm : Tm) : toD tm = .tuple (.str (wordT tm) :: restT tm) := by
  cases tm <;> rw [toD] <;> rfl
mutual
theorem imm_toD : ∀ (tm : Tm), okT tm → imm (toD tm) = true
  | .flat w r, h => by
    rw [okT] at h
    rw [toD]
    show (true && immAll r) = true
    rw [h.2.2.2.1]
    rfl
  | .two w x a b, h => by
    rw [okT] at h
    rw [toD]
    show (true && (true && (imm (toD a) && (imm (toD b) && true)))) = true
    rw [imm_toD a h.2.1, imm_toD b h.2.2]
    rfl
  | .one w x a, h => by
    rw [okT] at h
    rw [toD]
    show (true && (true && (imm (toD a) && true))) = true
    rw [imm_toD a h.2]
    rfl
  | .many w x c, h => by
    rw [okT] at h
    rw [toD]
    show (true && (true && (immAll (csD c) && true))) = true
    rw [imm_csD c h.2.1]
    rfl
theorem imm_csD : ∀ (c : Cs), okC c → immAll (csD c) = true
  | .nil, _ => by
    rw [csD]
    rfl
  | .cons w ys t c, h => by
    rw [okC] at h
    rw [csD]
    show ((true && (immAll (ys.map PyData.str) && (imm (toD t) && true))) && immAll (csD c)) = true
    rw [imm_toD t h.2.1, imm_csD c h.2.2, imm_strs]
    rfl
end
theorem two_of {tm : Tm} (h : okT tm) (e : isTwo (wordT tm)) : ∃ w x a b, tm = .two w x a b := by
  cases tm with
  | two w x a b => exact ⟨w, x, a, b, rfl⟩
  | flat w r =>
    rw [okT] at h
    exact absurd e h.1
  | one w x a =>
    rw [okT] at h
    rcases h.1 with z | z <;> rcases e with e | e <;> rw [wordT, z] at e <;> cases e
  | many w x c =>
    rw [okT] at h
    rcases h.1 with z | z <;> rcases e with e | e <;> rw [wordT, z] at e <;> cases e
theorem one_of {tm : Tm} (h : okT tm) (e : isOne (wordT tm)) : ∃ w x a, tm = .one w x a := by
  cases tm with
  | one w x a => exact ⟨w, x, a, rfl⟩
  | flat w r =>
    rw [okT] at h
    exact absurd e h.2.1
  | two w x a b =>
    rw [okT] at h
    rcases h.1 with z | z <;> rcases e with e | e <;> rw [wordT, z] at e <;> cases e
  | many w x c =>
    rw [okT] at h
    rcases h.1 with z | z <;> rcases e with e | e <;> rw [wordT, z] at e <;> cases e
theorem many_of {tm : Tm} (h : okT tm) (e : isMany (wordT tm)) : ∃ w x c, tm = .many w x c := by
  cases tm with
  | many w x c => exact ⟨w, x, c, rfl⟩
  | flat w r =>
    rw [okT] at h
    exact absurd e h.2.2.1
  | two w x a b =>
    rw [okT] at h
    rcases h.1 with z | z <;> rcases e with e | e <;> rw [wordT, z] at e <;> cases e
  | one w x a =>
    rw [okT] at h
    rcases h.1 with z | z <;> rcases e with e | e <;> rw [wordT, z] at e <;> cases e
theorem flat_of {tm : Tm} (h : okT tm) (e1 : ¬ isTwo (wordT tm)) (e2 : ¬ isOne (wordT tm)) (e3 : ¬ isMany (wordT tm)) : kids tm = [] := by
  cases tm with
  | flat w r => rfl
  | two w x a b =>
    rw [okT] at h
    exact absurd h.1 e1
  | one w x a =>
    rw [okT] at h
    exact absurd h.1 e2
  | many w x c =>
    rw [okT] at h
    exact absurd h.1 e3
theorem in2 (w a b : Str) : inV (.str w) [.str a, .str b] = decide (w = a ∨ w = b) := by
  show ((a == w) || ((b == w) || false)) = _
  by_cases h1 : w = a
  · subst h1
    simp
  · by_cases h2 : w = b
    · subst h2
      simp
    · have h1' : ¬ a = w := fun z => h1 z.symm
      have h2' : ¬ b = w := fun z => h2 z.symm
      simp [h1, h2, h1', h2']
theorem csD_at : ∀ (c : Cs) (i : Nat) (d : PyData), (csD c)[i]? = some d → ∃ (w : Str) (ys : List Str) (t : Tm), d = .tuple [.str w, .tuple (ys.map .str), toD t] ∧ (csT c)[i]? = some t
  | .nil, i, d, h => by
    rw [csD] at h
    cases h
  | .cons w ys t c, 0, d, h => by
    rw [csD] at h
    cases h
    exact ⟨w, ys, t, rfl, rfl⟩
  | .cons w ys t c, i + 1, d, h => by
    rw [csD] at h
    obtain ⟨w', ys', t', e1, e2⟩ := csD_at c i d h
    exact ⟨w', ys', t', e1, e2⟩
theorem csD_len : ∀ (c : Cs), (csD c).length = (csT c).length
  | .nil => by
    rw [csD]
    rfl
  | .cons w ys t c => by
    rw [csD, csT, List.length_cons, List.length_cons, csD_len c]
section
variable {P : Program} {w : World} {K : PySem.W.Frag} {mg : Str → Option Value} {base : Heap}
def spParts (K : PySem.W.Frag) : Sp := fun vs H Q _ => ∃ (v : V) (tm : Tm), vs = [v] ∧ okT tm ∧ Dp K H v (toD tm) ∧ ∀ (H' : Hp) (v' : V), Same H H' → Dp K H' v' (.tuple ((kids tm).map toD)) → Q v' H'
/-- the third part of each case, in a new list -/
theorem comp_cases {a : Addr} {xs : List V} {c : Cs} {j : Nat} {vs : List Nat} {σ : L2.St} {H1 : Hp} {D : Addr} {Qd : Hp → Prop} (hS : SqT K H1 a xs) (hx : DpAll K H1 xs (csD c)) (hl : (csT c).length ≤ 100) (hD : H1 D = none) (hok : okC c)
    (hw : ∀ x, wipe ((wipe σ vs).set j (some x)) vs = wipe σ vs) (hj : ∀ x, ((wipe σ vs).set j (some x))[j]? = some (some x))
    (hd : ∀ H' ys, Same H1 H' → H' D = some (.lst ys) → DpAll K H' ys ((csT c).map toD) → Qd H') :
    ∃ W : Nat → Nat → Hp → Prop, (∃ m, W 0 m (upd H1 D (.lst []))) ∧ ∀ i m H, W i m H →
      ((Itt K a).stop i H ∧ Qd H) ∨ ((Itt K a).go i H ∧ ∃ Nx : Hp → Prop, (∀ H', Nx H' → ∃ m', m' < m ∧ W (i + 1) m' H') ∧ ∀ x H', (Itt K a).yld i H x H' → gName j x (wipe σ vs) H' fun σ2 H2 => wipe σ2 vs = wipe σ vs ∧ tYes σ2 H2 fun b H3 =>
        if b = true then tOp (rIxT K) (tVar j) (tC (V.int 2)) σ2 H3 fun y H4 => ∃ acc, H4 D = some (.lst acc) ∧ acc.length < sizeLine ∧ Nx (upd H4 D (.lst (acc ++ [y]))) else Nx H3) := by
  have lx : xs.length = (csT c).length := by
    rw [dpAll_len hx, csD_len]
  refine lc_it (walk_tup (xs := xs)) (fun i H' => Same H1 H' ∧ ∃ ys, ys.length = i ∧ H' D = some (.lst ys) ∧ DpAll K H' ys (((csT c).take i).map toD)) ⟨same_upd hD, [], rfl, upd_same, .nil⟩ (fun i H' _ h => Same.seqT h.1 hS) ?_ (fun H' h => ?_)
  · rintro i v H H' hi ⟨s1, ys, ly, d1, p1⟩ ⟨rfl, hv⟩
    obtain ⟨d, e1, e2⟩ := dpAll_at hx hv
    obtain ⟨w, zs, t, rfl, ht⟩ := csD_at c i d e1
    obtain ⟨b, us, rfl, e3, e4⟩ := dp_tup e2
    cases e4 with
    | cons x1 r1 =>
      cases r1 with
      | cons x2 r2 =>
        cases r2 with
        | cons x3 r3 =>
          cases r3
          refine ⟨hw _, ?_⟩
          refine lcYes ?_
          refine ⟨_, hj _, b, _, 2, _, rfl, rfl, Same.seqT s1 e3, atI_nat (j := 2) rfl, ys, d1, small1000 (by omega), same_put s1 hD, ys ++ [_], by rw [List.length_append, ly]; rfl, upd_same, ?_⟩
          have im : ∀ (l : List Tm), (∀ t ∈ l, okT t) → immAll (l.map toD) = true := by
            intro l hl
            induction l with
            | nil => rfl
            | cons t l ih =>
              show (imm (toD t) && immAll (l.map toD)) = true
              rw [imm_toD t (hl t List.mem_cons_self), ih fun u hu => hl u (List.mem_cons_of_mem _ hu)]
              rfl
          have okm : ∀ (c : Cs), okC c → ∀ t ∈ csT c, okT t := by
            intro c
            induction c using csT.induct with
            | case1 => intro _ t h; cases h
            | case2 w ys t c ih =>
              intro h u hu
              rw [okC] at h
              rcases List.mem_cons.mp hu with rfl | hu
              · exact h.2.1
              · exact ih h.2.2 u hu
          rw [List.take_add_one, ht, List.map_append]
          refine dpAll_tk (tk_put d1) ?_ (dpAll_append p1 (.cons (dp_mono s1 x3) .nil))
          have := im ((csT c).take (i + 1)) (fun u hu => okm c hok u (List.mem_of_mem_take hu))
          rw [List.take_add_one, ht, List.map_append] at this
          exact this
  · obtain ⟨s1, ys, _, d1, p1⟩ := h
    rw [lx, List.take_length] at p1
    exact hd H' ys s1 d1 p1
end
end SP

namespace SP
open PySem PySem.Spec PyProof.Rows L2
open C8 (pss_cut tCut)
theorem in2_yes {w a b : Str} (e : (if false = true then !inV (V.str w) [V.str a, V.str b] else inV (V.str w) [V.str a, V.str b]) = true) : w = a ∨ w = b := by
  have e' : inV (V.str w) [V.str a, V.str b] = true := e
  rw [in2] at e'
  exact of_decide_eq_true e'
theorem in2_no {w a b : Str} (e : ¬ (if false = true then !inV (V.str w) [V.str a, V.str b] else inV (V.str w) [V.str a, V.str b]) = true) : ¬ (w = a ∨ w = b) := fun z => e (by
  show inV (V.str w) [V.str a, V.str b] = true
  rw [in2]
  exact decide_eq_true z)
section
variable {P : Program} {w : World} {K : PySem.W.Frag} {mg : Str → Option Value} {base : Heap}
theorem ok_law_parts {f : Addr} {fd : FuncData} (F : Fun K "_law_parts" "_law_parts" s_law_parts f fd) (T : Txt mg)  : FnOk P w K mg base CX0 1 f fd ["term"] (spParts K) := by
  refine F.ok sc_law_parts (fun vs H Q E h => ?_) (fun cdv A outer s H vs Q E hr h => ?_)
  · obtain ⟨v, tm, rfl, _⟩ := h
    rfl
  · obtain ⟨v, tm, rfl, ok, hd, q⟩ := h
    refine ⟨_, (pss_cons (ps_if (pt_cmpR (r := rIn K false) op_in_seq (pe_ix (r := rIxT K) ix_tup (pv 0) pe_int (fun _ _ => rfl)) (pe_tup (pa_cons pe_str (pa_cons pe_str pa_nil))) rfl) (pss_one (ps_ret (pe_slice (r := rSlT K) sl_tup (pv 0) (po_some pe_int) po_none))) pss_nil)
      (pss_cons (ps_if (pt_cmpR (r := rIn K false) op_in_seq (pe_ix (r := rIxT K) ix_tup (pv 0) pe_int (fun _ _ => rfl)) (pe_tup (pa_cons pe_str (pa_cons pe_str pa_nil))) rfl) (pss_one (ps_ret (pe_slice (r := rSlT K) sl_tup (pv 0) (po_some pe_int) po_none))) pss_nil)
      (pss_cons (ps_if (pt_cmpR (r := rIn K false) op_in_seq (pe_ix (r := rIxT K) ix_tup (pv 0) pe_int (fun _ _ => rfl)) (pe_tup (pa_cons pe_str (pa_cons pe_str pa_nil))) rfl) (pss_one (ps_ret (pe_callTy (r := rTupleS K) call_tupleS (by rfl) T.n_tuple (by decide +kernel) (pa_cons (pe_lc (own := [("case", 1)]) (g := gName 1) (tt := tYes) rfl sc_law_parts.nd (pi_tup (pe_ix (r := rIxT K) ix_tup (pv 0) pe_int (fun _ _ => rfl))) (blkOk_by (own := [("case", 1)]) (N := ["term", "case"]) (sc := defScope s_law_parts) (by decide +kernel)) (fun _ _ _ _ _ => (pg_name (i := 1) sc_law_parts.nd rfl (Or.inl rfl))) (fun _ _ _ _ _ => pts_nil) (fun _ _ _ _ _ => (pe_ix (r := rIxT K) ix_tup (pv 1) pe_int (fun _ _ => rfl)))) pa_nil)))) pss_nil)
      (pss_one (ps_ret (pe_tup pa_nil)))))), ?_⟩
    rw [toD_eq] at hd
    obtain ⟨a0, xs, rfl, hs, ha⟩ := dp_tup hd
    cases ha with
    | @cons x1 xr _ _ hx hr1 =>
    have := dp_str hx
    subst this
    refine ⟨_, rfl, a0, _, 0, .str (wordT tm), rfl, rfl, hs, atI_nat (j := 0) rfl, by show 2 ≤ sizeLine; decide, fun p1 h1 => ⟨p1, _, rfl, .inr (.inl (.inl upd_same)), rfl, rfl, _, rfl, ite2 (fun e => ?_) (fun e => ?_)⟩⟩
    · obtain ⟨w, x, a, b, rfl⟩ := two_of ok (in2_yes e)
      have s1 := same_upd (o := HO.tup [.str "let", .str "zero"]) h1
      change DpAll K H xr [.str x, toD a, toD b] at hr1
      cases hr1 with
      | cons y1 r1 =>
        cases r1 with
        | cons y2 r2 =>
          cases r2 with
          | cons y3 r3 =>
            cases r3
            refine ⟨_, rfl, _, rfl, a0, _, rfl, Same.seqT s1 hs, by show ¬ (2 = 0 ∧ 4 = 4); decide, fun p2 h2 => ?_⟩
            exact q _ _ (s1.trans (same_upd h2)) (.tup (.inl (.inl upd_same)) (.cons (dp_mono (s1.trans (same_upd h2)) y2) (.cons (dp_mono (s1.trans (same_upd h2)) y3) .nil)))
    have n1 := in2_no e
    have s1 := same_upd (o := HO.tup [.str "let", .str "zero"]) h1
    change tNext _ _ (upd H p1 (.tup [.str "let", .str "zero"]))
    generalize upd H p1 (.tup [.str "let", .str "zero"]) = H1 at s1 ⊢
    clear e h1
    refine ⟨_, rfl, a0, _, 0, .str (wordT tm), rfl, rfl, Same.seqT s1 hs, atI_nat (j := 0) rfl, by show 2 ≤ sizeLine; decide, fun p2 h2 => ⟨p2, _, rfl, .inr (.inl (.inl upd_same)), rfl, rfl, _, rfl, ite2 (fun e => ?_) (fun e => ?_)⟩⟩
    · obtain ⟨w, x, a, rfl⟩ := one_of ok (in2_yes e)
      have s2 := s1.trans (same_upd (o := HO.tup [.str "keep", .str "loose"]) h2)
      change DpAll K H xr [.str x, toD a] at hr1
      cases hr1 with
      | cons y1 r1 =>
        cases r1 with
        | cons y2 r2 =>
          cases r2
          refine ⟨_, rfl, _, rfl, a0, _, rfl, Same.seqT s2 hs, by show ¬ (2 = 0 ∧ 3 = 3); decide, fun p3 h3 => ?_⟩
          exact q _ _ (s2.trans (same_upd h3)) (.tup (.inl (.inl upd_same)) (.cons (dp_mono (s2.trans (same_upd h3)) y2) .nil))
    have n2 := in2_no e
    have s2 := s1.trans (same_upd (o := HO.tup [.str "keep", .str "loose"]) h2)
    change tNext _ _ (upd H1 p2 (.tup [.str "keep", .str "loose"]))
    generalize upd H1 p2 (.tup [.str "keep", .str "loose"]) = H2 at s2 ⊢
    clear e h2 s1
    refine ⟨_, rfl, a0, _, 0, .str (wordT tm), rfl, rfl, Same.seqT s2 hs, atI_nat (j := 0) rfl, by show 2 ≤ sizeLine; decide, fun p3 h3 => ⟨p3, _, rfl, .inr (.inl (.inl upd_same)), rfl, rfl, _, rfl, ite2 (fun e => ?_) (fun e => ?_)⟩⟩
    · obtain ⟨w, x, c, rfl⟩ := many_of ok (in2_yes e)
      have s3 := s2.trans (same_upd (o := HO.tup [.str "open", .str "look"]) h3)
      rw [okT] at ok
      change DpAll K H xr [.str x, .tuple (csD c)] at hr1
      cases hr1 with
      | cons y1 r1 =>
        cases r1 with
        | cons y2 r2 =>
          cases r2
          obtain ⟨b0, us, rfl, u1, u2⟩ := dp_tup y2
          refine ⟨_, rfl, a0, _, 2, _, rfl, rfl, Same.seqT s3 hs, atI_nat (j := 2) rfl, b0, rfl, ⟨_, Same.seqT s3 u1⟩, fun D hD => ?_⟩
          refine comp_cases (Same.seqT s3 u1) (dpAll_mono s3 u2) ok.2.2 hD ok.2.1 (fun _ => rfl) (fun _ => rfl) (fun H4 ys s4 d4 p4 => ?_)
          refine ⟨D, ys, rfl, .inl ⟨.inl (.inl d4), fun p hp => ?_⟩⟩
          have s5 := same_upd (o := HO.tup ys) hp
          exact q _ _ (s3.trans (s4.trans s5)) (.tup (.inl (.inl upd_same)) (dpAll_mono s5 p4))
    have n3 := in2_no e
    have s3 := s2.trans (same_upd (o := HO.tup [.str "open", .str "look"]) h3)
    have hk := flat_of ok n1 n2 n3
    rw [hk] at q
    refine ⟨by show 0 ≤ sizeLine; decide, fun p hp => ?_⟩
    have s5 := same_upd (o := HO.tup []) hp
    exact q _ _ (s3.trans s5) (.tup (.inl (.inl upd_same)) .nil)
theorem ok_parts_of {f : Addr} {fd : FuncData} (F : Fun K "parts_of" "parts_of" s_parts_of f fd) (T : Txt mg)  : FnOk P w K mg base CX0 1 f fd ["term"] (spParts K) := by
  refine F.ok sc_parts_of (fun vs H Q E h => ?_) (fun cdv A outer s H vs Q E hr h => ?_)
  · obtain ⟨v, tm, rfl, _⟩ := h
    rfl
  · obtain ⟨v, tm, rfl, ok, hd, q⟩ := h
    refine ⟨_, (pss_cons (ps_set (i := 1) sc_parts_of.nd rfl (Or.inl rfl) (pe_ix (r := rIxT K) ix_tup (pv 0) pe_int (fun _ _ => rfl)))
      (pss_cons (ps_if (pt_cmpR (r := rIn K false) op_in_seq (pv 1) (pe_tup (pa_cons pe_str (pa_cons pe_str pa_nil))) rfl) (pss_one (ps_ret (pe_tup (pa_cons (pe_ix (r := rIxT K) ix_tup (pv 0) pe_int (fun _ _ => rfl)) (pa_cons (pe_ix (r := rIxT K) ix_tup (pv 0) pe_int (fun _ _ => rfl)) pa_nil))))) pss_nil)
      (pss_cons (ps_if (pt_cmpR (r := rIn K false) op_in_seq (pv 1) (pe_tup (pa_cons pe_str (pa_cons pe_str pa_nil))) rfl) (pss_one (ps_ret (pe_callTy (r := rTupleS K) call_tupleS (by rfl) T.n_tuple (by decide +kernel) (pa_cons (pe_lc (own := [("case", 2)]) (g := gName 2) (tt := tYes) rfl sc_parts_of.nd (pi_tup (pe_ix (r := rIxT K) ix_tup (pv 0) pe_int (fun _ _ => rfl))) (blkOk_by (own := [("case", 2)]) (N := ["term", "kind", "case"]) (sc := defScope s_parts_of) (by decide +kernel)) (fun _ _ _ _ _ => (pg_name (i := 2) sc_parts_of.nd rfl (Or.inl rfl))) (fun _ _ _ _ _ => pts_nil) (fun _ _ _ _ _ => (pe_ix (r := rIxT K) ix_tup (pv 2) pe_int (fun _ _ => rfl)))) pa_nil)))) pss_nil)
      (pss_cons (ps_if (pt_cmpR (r := rIn K false) op_in_seq (pv 1) (pe_tup (pa_cons pe_str (pa_cons pe_str pa_nil))) rfl) (pss_one (ps_ret (pe_tup (pa_cons (pe_ix (r := rIxT K) ix_tup (pv 0) pe_int (fun _ _ => rfl)) pa_nil)))) pss_nil)
      (pss_one (ps_ret (pe_tup pa_nil))))))), ?_⟩
    rw [toD_eq] at hd
    obtain ⟨a0, xs, rfl, hs, ha⟩ := dp_tup hd
    cases ha with
    | @cons x1 xr _ _ hx hr1 =>
    have := dp_str hx
    subst this
    refine ⟨_, rfl, a0, _, 0, .str (wordT tm), rfl, rfl, hs, atI_nat (j := 0) rfl, ?_⟩
    refine ⟨_, rfl, by show 2 ≤ sizeLine; decide, fun p1 h1 => ⟨p1, _, rfl, .inr (.inl (.inl upd_same)), rfl, rfl, _, rfl, ite2 (fun e => ?_) (fun e => ?_)⟩⟩
    · obtain ⟨w, x, a, b, rfl⟩ := two_of ok (in2_yes e)
      have s1 := same_upd (o := HO.tup [.str "let", .str "zero"]) h1
      change DpAll K H xr [.str x, toD a, toD b] at hr1
      cases hr1 with
      | cons y1 r1 =>
        cases r1 with
        | cons y2 r2 =>
          cases r2 with
          | cons y3 r3 =>
            cases r3
            refine ⟨_, rfl, a0, _, 2, _, rfl, rfl, Same.seqT s1 hs, atI_nat (j := 2) rfl, _, rfl, a0, _, 3, _, rfl, rfl, Same.seqT s1 hs, atI_nat (j := 3) rfl, by show 2 ≤ sizeLine; decide, fun p2 h2 => ?_⟩
            exact q _ _ (s1.trans (same_upd h2)) (.tup (.inl (.inl upd_same)) (.cons (dp_mono (s1.trans (same_upd h2)) y2) (.cons (dp_mono (s1.trans (same_upd h2)) y3) .nil)))
    have n1 := in2_no e
    have s1 := same_upd (o := HO.tup [.str "let", .str "zero"]) h1
    change tNext _ _ (upd H p1 (.tup [.str "let", .str "zero"]))
    generalize upd H p1 (.tup [.str "let", .str "zero"]) = H1 at s1 ⊢
    clear e h1
    refine ⟨_, rfl, by show 2 ≤ sizeLine; decide, fun p2 h2 => ⟨p2, _, rfl, .inr (.inl (.inl upd_same)), rfl, rfl, _, rfl, ite2 (fun e => ?_) (fun e => ?_)⟩⟩
    · obtain ⟨w, x, c, rfl⟩ := many_of ok (in2_yes e)
      have s3 := s1.trans (same_upd (o := HO.tup [.str "open", .str "look"]) h2)
      rw [okT] at ok
      change DpAll K H xr [.str x, .tuple (csD c)] at hr1
      cases hr1 with
      | cons y1 r1 =>
        cases r1 with
        | cons y2 r2 =>
          cases r2
          obtain ⟨b0, us, rfl, u1, u2⟩ := dp_tup y2
          refine ⟨_, rfl, a0, _, 2, _, rfl, rfl, Same.seqT s3 hs, atI_nat (j := 2) rfl, b0, rfl, ⟨_, Same.seqT s3 u1⟩, fun D hD => ?_⟩
          refine comp_cases (Same.seqT s3 u1) (dpAll_mono s3 u2) ok.2.2 hD ok.2.1 (fun _ => rfl) (fun _ => rfl) (fun H4 ys s4 d4 p4 => ?_)
          refine ⟨D, ys, rfl, .inl ⟨.inl (.inl d4), fun p hp => ?_⟩⟩
          have s5 := same_upd (o := HO.tup ys) hp
          exact q _ _ (s3.trans (s4.trans s5)) (.tup (.inl (.inl upd_same)) (dpAll_mono s5 p4))
    have n3 := in2_no e
    have s2 := s1.trans (same_upd (o := HO.tup [.str "open", .str "look"]) h2)
    change tNext _ _ (upd H1 p2 (.tup [.str "open", .str "look"]))
    generalize upd H1 p2 (.tup [.str "open", .str "look"]) = H2 at s2 ⊢
    clear e h2 s1
    refine ⟨_, rfl, by show 2 ≤ sizeLine; decide, fun p3 h3 => ⟨p3, _, rfl, .inr (.inl (.inl upd_same)), rfl, rfl, _, rfl, ite2 (fun e => ?_) (fun e => ?_)⟩⟩
    · obtain ⟨w, x, a, rfl⟩ := one_of ok (in2_yes e)
      have s3 := s2.trans (same_upd (o := HO.tup [.str "keep", .str "loose"]) h3)
      change DpAll K H xr [.str x, toD a] at hr1
      cases hr1 with
      | cons y1 r1 =>
        cases r1 with
        | cons y2 r2 =>
          cases r2
          refine ⟨_, rfl, a0, _, 2, _, rfl, rfl, Same.seqT s3 hs, atI_nat (j := 2) rfl, by show 1 ≤ sizeLine; decide, fun p4 h4 => ?_⟩
          exact q _ _ (s3.trans (same_upd h4)) (.tup (.inl (.inl upd_same)) (.cons (dp_mono (s3.trans (same_upd h4)) y2) .nil))
    have n2 := in2_no e
    have s3 := s2.trans (same_upd (o := HO.tup [.str "keep", .str "loose"]) h3)
    have hk := flat_of ok n1 n2 n3
    rw [hk] at q
    refine ⟨by show 0 ≤ sizeLine; decide, fun p hp => ?_⟩
    have s5 := same_upd (o := HO.tup []) hp
    exact q _ _ (s3.trans s5) (.tup (.inl (.inl upd_same)) .nil)
end
end SP

namespace SP
open PySem PySem.Spec PyProof.Rows L2
/-! ### what is drawn is a term, not greater than its room, not deeper than its depth -/
mutual
def sz : Tm → Nat
  | .flat _ _ => 1
  | .two _ _ a b => 1 + sz a + sz b
  | .one _ _ a => 1 + sz a
  | .many _ _ c => 1 + szC c
def szC : Cs → Nat
  | .nil => 0
  | .cons _ _ t c => sz t + szC c
end
mutual
def dpt : Tm → Nat
  | .flat _ _ => 1
  | .two _ _ a b => 1 + max (dpt a) (dpt b)
  | .one _ _ a => 1 + dpt a
  | .many _ _ c => 1 + dptC c
def dptC : Cs → Nat
  | .nil => 0
  | .cons _ _ t c => max (dpt t) (dptC c)
end
mutual
/-- no keeps, no looses, no looks -/
def plainT : Tm → Prop
  | .flat _ _ => True
  | .two _ _ a b => plainT a ∧ plainT b
  | .one _ _ _ => False
  | .many w _ c => w = "open" ∧ plainC c
def plainC : Cs → Prop
  | .nil => True
  | .cons _ _ t c => plainT t ∧ plainC c
end
def okP (tm : Tm) : Prop := okT tm ∧ plainT tm
def okQ (c : Cs) : Prop := okC c ∧ plainC c
def TermD (n d : Nat) (x : PyData) : Prop := ∃ tm, okP tm ∧ toD tm = x ∧ sz tm ≤ n ∧ dpt tm ≤ d
def flatW (w : Str) : Prop := ¬ isTwo w ∧ ¬ isOne w ∧ ¬ isMany w
theorem depth_strs : ∀ l : List Str, PyData.depthAll (l.map .str) = 0
  | [] => rfl
  | x :: l => by
    show max 0 (PyData.depthAll (l.map .str)) = 0
    rw [depth_strs l]
    rfl
theorem depth_opts : ∀ l : List (Option Str), PyData.depthAll (l.map fun o => PyData.str (o.getD "")) = 0
  | [] => rfl
  | x :: l => by
    show max 0 (PyData.depthAll (l.map fun o => PyData.str (o.getD ""))) = 0
    rw [depth_opts l]
    rfl
theorem flat_tm {w : Str} {r : List PyData} (h : flatW w) (i : immAll r = true) (l : r.length ≤ 100) (dd : PyData.depthAll r ≤ 2) : TermD 1 1 (.tuple (.str w :: r)) :=
  ⟨.flat w r, ⟨by rw [okT]; exact ⟨h.1, h.2.1, h.2.2, i, by split <;> omega, dd⟩, by rw [plainT]; trivial⟩, by rw [toD], by rw [sz]; exact Nat.le_refl _, by rw [dpt]; exact Nat.le_refl _⟩
theorem TermD.mono {n n' d d' : Nat} {x : PyData} (h : TermD n d x) (h1 : n ≤ n') (h2 : d ≤ d') : TermD n' d' x := by
  obtain ⟨tm, o, e, a, b⟩ := h
  exact ⟨tm, o, e, Nat.le_trans a h1, Nat.le_trans b h2⟩
theorem flatW_of (w : Str) (h : w ∈ ([("name" : Str), "number", "box", "ask", "plus", "less", "again", ""] : List Str)) : flatW w := by
  have : ∀ x ∈ ([("name" : Str), "number", "box", "ask", "plus", "less", "again", ""] : List Str), ¬ (x = "let" ∨ x = "zero") ∧ ¬ (x = "keep" ∨ x = "loose") ∧ ¬ (x = "open" ∨ x = "look") := by decide +kernel
  exact this w h
theorem leafL_in (sl : List (Str × Str)) (el : List (Str × Str × Str)) (kind : Str) : ∀ c ∈ leafL sl el kind, c.1 ∈ ([("name" : Str), "number", "box", "ask", "plus", "less", "again", ""] : List Str) := by
  intro c hc
  unfold leafL at hc
  rcases List.mem_append.mp hc with h | h
  · obtain ⟨e, h1, rfl⟩ := List.mem_map.mp h
    simp
  · split at h
    · obtain ⟨s, h1, rfl⟩ := List.mem_map.mp h
      simp
    · simp only [List.mem_cons, List.not_mem_nil, or_false] at h
      rcases h with rfl | rfl | rfl <;> simp
theorem leaf_tm (n : Int) (sl : List (Str × Str)) (el : List (Str × Str × Str)) (al : List (Str × Str)) (kind : Str) (gs : GS sl el) : TermD 1 1 (leafF n sl el al kind).1 := by
  have hc : (leafC n sl el kind).1 ∈ ([("name" : Str), "number", "box", "ask", "plus", "less", "again", ""] : List Str) ∧ (leafC n sl el kind).2.2.length ≤ 9 := by
    unfold leafC
    refine getD_mem _ _ _ (fun c : Str × Str × Str => c.1 ∈ ([("name" : Str), "number", "box", "ask", "plus", "less", "again", ""] : List Str) ∧ c.2.2.length ≤ 9) (fun c h => ⟨leafL_in _ _ _ c h, (leafL_ok sl el _ gs.ne gs.l1 gs.l2 gs.he gs.hs).2.2 c h⟩) ⟨by simp, by decide⟩
  unfold leafF
  have hl := picks_len al (leafC n sl el kind).2.2.cps.toList (pickF (leafN n sl el kind) al (kind1F n kind)).2
  have hl9 : (leafC n sl el kind).2.2.cps.toList.length ≤ 9 := hc.2
  generalize (picksF al (pickF (leafN n sl el kind) al (kind1F n kind)).2 (leafC n sl el kind).2.2.cps.toList).1 = names at hl ⊢
  generalize (picksF al (pickF (leafN n sl el kind) al (kind1F n kind)).2 (leafC n sl el kind).2.2.cps.toList).2 = m
  generalize (pickF (leafN n sl el kind) al (kind1F n kind)).1 = x
  generalize leafC n sl el kind = c at hc hl hl9
  unfold leafEnd
  split
  · exact flat_tm (flatW_of _ (by simp)) rfl (by show 1 ≤ 100; decide) (by show 0 ≤ 2; decide)
  · split
    · exact flat_tm (flatW_of _ (by simp)) rfl (by show 1 ≤ 100; decide) (by show 0 ≤ 2; decide)
    · split
      · exact flat_tm (flatW_of _ (by simp)) rfl (by show 2 ≤ 100; decide) (by show 1 ≤ 2; decide)
      · split
        · refine flat_tm (flatW_of _ hc.1) (imm_opts _) ?_ (by rw [depth_opts]; decide)
          rw [List.length_map]
          omega
        · refine flat_tm (flatW_of _ hc.1) ?_ (by show 2 ≤ 100; decide) ?_
          · show (true && (immAll _ && true)) = true
            rw [imm_opts]
            rfl
          · show max 0 (max (PyData.depthAll _ + 1) 0) ≤ 2
            rw [depth_opts]
            decide
theorem two_tm {w x : Str} {n1 n2 d : Nat} {a b : PyData} (hw : isTwo w) (ha : TermD n1 d a) (hb : TermD n2 d b) : TermD (1 + n1 + n2) (d + 1) (.tuple [.str w, .str x, a, b]) := by
  obtain ⟨t1, o1, rfl, s1, d1⟩ := ha
  obtain ⟨t2, o2, rfl, s2, d2⟩ := hb
  exact ⟨.two w x t1 t2, ⟨by rw [okT]; exact ⟨hw, o1.1, o2.1⟩, by rw [plainT]; exact ⟨o1.2, o2.2⟩⟩, by rw [toD], by rw [sz]; omega, by rw [dpt]; omega⟩
/-- cases, as data -/
def CasesD (n d m : Nat) (l : List PyData) : Prop := ∃ c, okQ c ∧ csD c = l ∧ szC c ≤ n ∧ dptC c ≤ d ∧ (csT c).length ≤ m
theorem many_tm {w x : Str} {n d : Nat} {l : List PyData} (hw : w = "open") (h : CasesD n d 100 l) : TermD (1 + n) (d + 1) (.tuple [.str w, .str x, .tuple l]) := by
  obtain ⟨c, o, rfl, s, e, m⟩ := h
  exact ⟨.many w x c, ⟨by rw [okT]; exact ⟨.inl hw, o.1, m⟩, by rw [plainT]; exact ⟨hw, o.2⟩⟩, by rw [toD], by rw [sz]; omega, by rw [dpt]; omega⟩
theorem casesL_tm (T : Int → List Str → List (Str × Str) → Nat → Gen) (d : Nat) (hT : ∀ n rs al sh, 1 ≤ sh → TermD sh d (T n rs al sh).1) (al : List (Str × Str)) : ∀ (l : List ((Str × Str) × Nat)) (n : Int) (rs : List Str), (∀ q ∈ l, 1 ≤ q.2 ∧ q.1.2.length ≤ 9) →
    CasesD (l.map (·.2)).sum d l.length (casesL T al l n rs).1
  | [], _, _, _ => ⟨.nil, ⟨by rw [okC]; trivial, by rw [plainC]; trivial⟩, by rw [csD]; rfl, by rw [szC]; exact Nat.zero_le _, by rw [dptC]; exact Nat.zero_le _, Nat.zero_le _⟩
  | q :: r, n, rs, h => by
    obtain ⟨c, o, e, s, dd, m⟩ := casesL_tm T d hT al r (caseR T al n rs q.1 q.2).2.1 (caseR T al n rs q.1 q.2).2.2 (fun p hp => h p (List.mem_cons_of_mem _ hp))
    obtain ⟨tm, o1, e1, s1, d1⟩ := hT (n / 30) (rs.drop (kindsF n q.1.2).length) (moreF al rs (kindsF n q.1.2)) q.2 (h q List.mem_cons_self).1
    have hk := kinds_len n q.1.2 (h q List.mem_cons_self).2
    refine ⟨.cons q.1.1 (rs.take (kindsF n q.1.2).length) tm c, ?_, ?_, ?_, ?_, ?_⟩
    · refine ⟨?_, by rw [plainC]; exact ⟨o1.2, o.2⟩⟩
      rw [okC]
      refine ⟨?_, o1.1, o.1⟩
      rw [List.length_take]
      omega
    · rw [csD, e1, e]
      rfl
    · rw [szC, List.map_cons, List.sum_cons]
      omega
    · rw [dptC]
      omega
    · rw [csT]
      exact Nat.succ_le_succ m
theorem sum_take_le (k : Nat) : ∀ (l : List Nat), (l.take k).sum ≤ l.sum := by
  induction k with
  | zero => intro l; exact Nat.zero_le _
  | succ k ih =>
    intro l
    cases l with
    | nil => exact Nat.le_refl _
    | cons x l =>
      rw [List.take_succ_cons, List.sum_cons, List.sum_cons]
      exact Nat.add_le_add_left (ih l) x
theorem zip_snd_le : ∀ (l : List (Str × Str)) (s : List Nat), ((l.zip s).map (·.2)).sum ≤ s.sum
  | [], s => Nat.zero_le _
  | _ :: _, [] => Nat.le_refl _
  | p :: l, x :: s => by
    rw [List.zip_cons_cons, List.map_cons, List.sum_cons, List.sum_cons]
    exact Nat.add_le_add_left (zip_snd_le l s) x
theorem term_tm (sl : List (Str × Str)) (el : List (Str × Str × Str)) (gs : GS sl el) : ∀ (d : Nat) (n : Int) (rs : List Str) (al : List (Str × Str)) (kind : Str) (room : Nat), 1 ≤ room → TermD room (d + 1) (termF sl el d n rs al kind room).1
  | 0, n, rs, al, kind, room, hr => (leaf_tm _ sl el _ _ gs).mono hr (Nat.le_refl _)
  | d + 1, n, rs, al, kind, room, hr => by
    have lf : ∀ (m : Int), TermD room (d + 1 + 1) (leafG sl el m rs al kind).1 := fun m => (leaf_tm m sl el al kind gs).mono hr (by omega)
    unfold termF
    split
    · exact lf _
    · rename_i c0
      have hr3 : 3 ≤ room := by
        have := fun z => c0 (.inl z)
        omega
      split
      · show TermD room (d + 1 + 1) (.tuple [.str "let", .str _, _, _])
        have h1 := shares_pos 2 (n / 12 / 3) (room - 1 - 2)
        have h2 := shares_sum 2 (n / 12 / 3) (room - 1 - 2)
        have h3 := shares_len 2 (n / 12 / 3) (room - 1 - 2)
        generalize sharesF (n / 12 / 3) (room - 1 - 2) 2 = s at h1 h2 h3 ⊢
        obtain ⟨sl', m⟩ := s
        match sl', h3 with
        | [a, b], _ =>
          have ha := h1 a (by simp)
          have hb := h1 b (by simp)
          have hs : a + (b + 0) ≤ room - 1 - 2 + 2 := h2
          dsimp only [List.getD_cons_zero, List.getD_cons_succ]
          refine (two_tm (.inl rfl) (term_tm sl el gs d _ _ _ _ (if m % 2 = 1 then a else 1) (by split <;> omega)) (term_tm sl el gs d _ _ _ _ b hb)).mono ?_ (Nat.le_refl _)
          split <;> omega
      · split
        · exact lf _
        · split
          · exact lf _
          · rename_i c4
            split
            · show TermD room (d + 1 + 1) (.tuple [.str "open", .str _, .tuple _])
              unfold casesF
              generalize (pickF (n / 12) al (wayF n)).2 = m
              have hS := shapes_in m sl
              generalize shapesF m sl = S at hS
              have h1 := shares_pos sl.length (m / (sl.length : Int) / 2) (room - 1 - sl.length)
              have h2 := shares_sum sl.length (m / (sl.length : Int) / 2) (room - 1 - sl.length)
              have h3 := shares_len sl.length (m / (sl.length : Int) / 2) (room - 1 - sl.length)
              generalize sharesF (m / (sl.length : Int) / 2) (room - 1 - sl.length) sl.length = sh at h1 h2 h3 ⊢
              have hq : ∀ q ∈ (S.zip sh.1).take (manyF sh.2 sl), 1 ≤ q.2 ∧ q.1.2.length ≤ 9 := fun q hq => by
                have := List.mem_of_mem_take hq
                obtain ⟨z1, z2⟩ := List.of_mem_zip this
                exact ⟨h1 _ z2, gs.hs _ (hS _ z1)⟩
              obtain ⟨c, o, e, s, dd, mm⟩ := casesL_tm (fun n rs al sh => termF sl el d n rs al kind sh) (d + 1) (fun n rs al sh hsh => term_tm sl el gs d n rs al kind sh hsh) al ((S.zip sh.1).take (manyF sh.2 sl)) (sh.2 / 12) rs hq
              refine (many_tm (n := room - 1) (d := d + 1) rfl ⟨c, o, e, ?_, dd, ?_⟩).mono (by omega) (by omega)
              · refine Nat.le_trans s ?_
                rw [List.map_take]
                refine Nat.le_trans (sum_take_le _ _) (Nat.le_trans (zip_snd_le _ _) ?_)
                omega
              · refine Nat.le_trans mm ?_
                rw [List.length_take, List.length_zip]
                have := gs.l1
                omega
            · show TermD room (d + 1 + 1) (.tuple [.str "zero", .str _, _, _])
              generalize (pickF (n / 12) al (wayF n)).2 = m0
              have h1 := shares_pos 2 m0 (room - 1 - 2)
              have h2 := shares_sum 2 m0 (room - 1 - 2)
              have h3 := shares_len 2 m0 (room - 1 - 2)
              generalize sharesF m0 (room - 1 - 2) 2 = s at h1 h2 h3 ⊢
              obtain ⟨sl', m⟩ := s
              match sl', h3 with
              | [a, b], _ =>
                have ha := h1 a (by simp)
                have hb := h1 b (by simp)
                have hs : a + (b + 0) ≤ room - 1 - 2 + 2 := h2
                dsimp only [List.getD_cons_zero, List.getD_cons_succ]
                refine (two_tm (.inr rfl) (term_tm sl el gs d _ _ _ _ a ha) (term_tm sl el gs d _ _ _ _ b hb)).mono ?_ (Nat.le_refl _)
                omega
/-! ### books -/
abbrev Er := Str × List Str × Tm
def errD (e : Er) : PyData := .tuple [.str e.1, .tuple (e.2.1.map .str), toD e.2.2]
structure ErOk (n d : Nat) (e : Er) : Prop where
  ok : okP e.2.2
  s : sz e.2.2 ≤ n
  d : dpt e.2.2 ≤ d
  l : e.2.1.length ≤ 9
theorem words_errs : ∀ (l : List Str) (n : Int), (errsL l n).map (·.1) = l
  | [], _ => rfl
  | w :: r, n => by
    show w :: (errsL r _).map (·.1) = _
    rw [words_errs r]
theorem errs_tm (n0 : Int) : ∀ (l : List ((Str × Str × Str) × Int)), (∀ p ∈ l, p.1.2.1.length ≤ 9) → ∃ bs : List Er, l.map (fun p => errandF n0 p.1 p.2) = bs.map errD ∧ bs.map (·.1) = l.map (·.1.1) ∧ ∀ e ∈ bs, ErOk 40 13 e
  | [], _ => ⟨[], rfl, rfl, fun e h => by cases h⟩
  | p :: l, h => by
    obtain ⟨bs, e1, e2, e3⟩ := errs_tm n0 l (fun q hq => h q (List.mem_cons_of_mem _ hq))
    obtain ⟨hr1, hr2, hr3⟩ := room_in (wordsF p.2 24).2
    obtain ⟨tm, o, e, s, d⟩ := term_tm (slF n0) (elF n0) (gs_of n0) 12 ((wordsF p.2 24).2 / 6) ((wordsF p.2 24).1.drop 4) (aroundF p.2 p.1.2.1) p.1.2.2 (roomF (wordsF p.2 24).2) hr2
    refine ⟨(p.1.1, (wordsF p.2 24).1.take p.1.2.1.length, tm) :: bs, ?_, ?_, ?_⟩
    · rw [List.map_cons, List.map_cons, e1]
      show errandF n0 p.1 p.2 :: _ = errD (p.1.1, (wordsF p.2 24).1.take p.1.2.1.length, tm) :: _
      unfold errandF bodyF errD
      rw [e]
    · rw [List.map_cons, List.map_cons, e2]
    · intro q hq
      rcases List.mem_cons.mp hq with rfl | hq
      · refine ⟨o, Nat.le_trans s hr3, d, ?_⟩
        show ((wordsF p.2 24).1.take p.1.2.1.length).length ≤ 9
        rw [List.length_take]
        have := h p List.mem_cons_self
        omega
      · exact e3 q hq
theorem zip_fst {α β : Type} : ∀ (l : List α) (s : List β), s.length = l.length → (l.zip s).map (·.1) = l
  | [], _, _ => rfl
  | x :: l, [], h => by cases h
  | x :: l, y :: s, h => by
    rw [List.zip_cons_cons, List.map_cons, zip_fst l s (Nat.succ.inj h)]
/-- a drawn book: one to six errands, their words as drawn -/
theorem book_tm {d : PyData} (h : BookD d) : ∃ (m : Int) (k : Nat) (bs : List Er), d = .tuple (bs.map errD) ∧ bs.map (·.1) = (wordsF m k).1 ∧ k ≤ 6 ∧ 1 ≤ k ∧ bs.length = k ∧ ∀ e ∈ bs, ErOk 40 13 e := by
  obtain ⟨n0, ts, hl, rfl⟩ := h
  have gs := gs_of n0
  obtain ⟨bs, e1, e2, e3⟩ := errs_tm n0 ((elF n0).zip ts) (fun p hp => gs.he _ (List.of_mem_zip hp).1)
  have hw : bs.map (·.1) = (wordsF (n0 / 6) (manyK n0)).1 := by
    rw [e2]
    have : ((elF n0).zip ts).map (·.1.1) = (((elF n0).zip ts).map (·.1)).map (·.1) := by
      rw [List.map_map]
      rfl
    rw [this, zip_fst _ _ hl]
    exact words_errs _ _
  refine ⟨n0 / 6, manyK n0, bs, by rw [e1], hw, ?_, ?_, ?_, e3⟩
  · unfold manyK
    omega
  · unfold manyK
    omega
  · have := congrArg List.length hw
    rw [List.length_map, words_len] at this
    exact this
end SP

/-! enumerate of a tuple -/
namespace SP
open PySem PySem.Spec PyProof.Rows L2
open Sem (wp)
theorem enum_new1 {v : Value} {o : Obj} {G : Heap → Prop} (B : Begins v o G) :
    Meets (Builtin.«enumerate.__new__» ⟨[.type "enumerate", v], []⟩) (fun _ R s => G s.heap ∧
      R (.ok (.ret (.ref (s.heap.push o).objs.size))) { s with heap := (s.heap.push o).push { cls := .type "enumerate", data := .fields #[.none, .bool false, .ref s.heap.objs.size, rawInt 0, .none, .none] } }) :=
  .of_wp fun pg wd A R s h => by
    obtain ⟨hp, gn, dr, tk, os⟩ := s
    obtain ⟨h1, h⟩ := h
    have sube := sub_enumerate
    have q1 : ∀ {A' : Around} {E : Value → Shared → Prop} {Q : Value → Shared → Prop}, Q (.ref hp.objs.size) ⟨hp.push o, gn, dr, tk, os⟩ → wpAny (model pg wd) A' (pyIter v) Q E ⟨hp, gn, dr, tk, os⟩ :=
      fun q => B.iter pg wd _ _ ⟨hp, gn, dr, tk, os⟩ _ h1 q
    wp_walk using q1
    refine wpAny_stack_any fun stk => wpAny_pure ?_
    split
    · rename_i c _ _ _ _ _
      generalize (c == Value.type "enumerate") = same
      cases same
      · wp_walk using q1
        exact ⟨_, rfl, h⟩
      · wp_walk using q1
        exact ⟨_, rfl, h⟩
    · wp_walk using q1
      exact ⟨_, rfl, h⟩
section
variable {prog : Program} {w : World} {A : Around} {E : Value → Shared → Prop} {s : Shared}
theorem enum_begins1 {v : Value} {o : Obj} {G : Heap → Prop} {Q : Value → Shared → Prop} (B : Begins v o G) (h1 : G s.heap)
    (h : ∀ h', IsEnum h' (s.heap.objs.size + 1) s.heap.objs.size 0 .none → h'.get? s.heap.objs.size = some o → h'.objs.size = s.heap.objs.size + 2 →
      (∀ c oc, s.heap.get? c = some oc → h'.get? c = some oc) → Q (.ref (s.heap.objs.size + 1)) { s with heap := h' }) :
    wpAny (model prog w) A (call (.type "enumerate") [v]) Q E s := by
  refine callType_new F.called_enumerate (by decide) (F.typeCall_enumerate_1 _) (F.newCall_enumerate_1 _)
    (fun ob => F.args_object_init_2 ob _) F.entry_enumerate_new (enum_new1 B) ⟨h1, ?_⟩
  have grown : (s.heap.push o).objs.size = s.heap.objs.size + 1 := Heap.size_push ..
  show _ ∧ _
  rw [grown]
  have he : IsEnum ((s.heap.push o).push { cls := .type "enumerate", data := .fields #[.none, .bool false, .ref s.heap.objs.size, rawInt 0, .none, .none] }) (s.heap.objs.size + 1) s.heap.objs.size 0 .none := by
    have := Heap.get?_push_size (s.heap.push o) (o := { cls := .type "enumerate", data := .fields #[.none, .bool false, .ref s.heap.objs.size, rawInt 0, .none, .none] }) rfl
    rw [grown] at this
    exact this
  exact ⟨⟨_, he, rfl⟩, h _ he (Heap.get?_push_of_some _ (Heap.get?_push_size _ B.free)) (by rw [Heap.size_push, grown]) fun b o x => Heap.get?_push_of_some _ (Heap.get?_push_of_some _ x)⟩
end
def Itet (K : PySem.W.Frag) (a : Addr) : It :=
  ⟨fun i H => ∃ (xs : List V) (x : V), SqT K H a xs ∧ xs[i]? = some x, fun i H v H' => ∃ T x, v = .ref T ∧ H T = none ∧ H' = upd H T (.tup [.int (i : Nat), x]) ∧ ∀ xs, SqT K H a xs → xs[i]? = some x, fun i H => ∃ xs : List V, SqT K H a xs ∧ xs.length = i⟩
theorem turn_enumT {P : Program} {w : World} {K : PySem.W.Frag} {elts : List Expr} {kk : Nat} {tpos : Pos} (a e it : Addr) (ha : a ≠ it) (hea : e ≠ a) :
    Turn P w K (.Tuple elts kk tpos) (Itet K a) [e, it] e (fun i h => (∃ o0, IsEnum h e it ((i : Nat) : Int) o0) ∧ h.IsTupleIter it a i ∧ e ≠ it) := by
  have both : ∀ c, c ∈ [e, it] → c = e ∨ c = it := fun c hc => by simpa using hc
  refine ⟨by simp, ?_, ?_, ?_, ?_, fun A i s Q E st h => wpAny_pyIter_enum st.1.choose_spec h⟩
  · rintro i h ⟨⟨o0, en⟩, ⟨oi, ei, _, di⟩, _⟩ c hc
    rcases both c hc with r | r
    · rw [r]
      exact ⟨_, en, fun v q => nomatch q⟩
    · rw [r]
      exact ⟨oi, ei, fun v q => by rw [di] at q; cases q⟩
  · rintro i h h' ⟨⟨o0, en⟩, ti, ne⟩ k
    exact ⟨⟨o0, k e (by simp) _ en⟩, ti.at fun o q => k it (by simp) o q, ne⟩
  · intro X pP pw pK hc i pins s σ H E I hf st hg
    subst pP pw pK
    obtain ⟨⟨o0, en⟩, ti, ne⟩ := st
    obtain ⟨xs, x, sq, xi⟩ := hg
    obtain ⟨js, rj, tj, _⟩ := I.tuple sq
    have le' : e < s.heap.objs.size := Heap.lt_size en
    have li' : it < s.heap.objs.size := by
      obtain ⟨_, q, _⟩ := ti
      exact Heap.lt_size q
    have nohd : X.A.handled = none := I.ok.hd hc
    have D := Draws.tuple (prog := X.prog) (w := X.w) (A := X.A.in1) nohd it a ha js.toArray
    have lj : i < js.toArray.size := by
      have h := (List.getElem?_eq_some_iff.mp xi).1
      have := rj.length
      simp only [List.size_toArray]
      omega
    refine wpAny_pyNext_enum_itemD D en ⟨ti, tj⟩ lj ne (by simp [ne, hea]) ?_
    intro y h1 tk gy out st1 new1 sz1 kp1
    obtain ⟨y', gy', ry⟩ := rj.get xi
    have same : y = y' := by
      have : js[i]? = some y := by simpa using gy
      rw [this] at gy'
      exact Option.some.inj gy'
    subst same
    refine ⟨_, rfl, wpAny_letOwnedTupleGo_enum (s := { s with heap := h1, toks := tk + 1 }) out ?_⟩
    intro h2 en2 sb
    have at2 : h2.get? s.heap.objs.size = some { cls := .type "tuple", data := .seq #[.int i tk, y] } := (sb.2 _ (Nat.ne_of_gt le')).trans new1
    have fresh : ObjOk X.prog X.w (upd H s.heap.objs.size (.tup [.int (i : Nat), x])) h2 s.heap.objs.size (.tup [.int (i : Nat), x]) :=
      ⟨by show 2 ≤ sizeLine; decide, [.int i tk, y], .cons ⟨_, rfl⟩ (.cons ry .nil), ⟨_, at2, rfl, _, rfl⟩⟩
    have kept : ∀ d o, d ∉ [e, it] → s.heap.get? d = some o → h2.get? d = some o := fun d o hd q =>
      (sb.2 d (fun z => hd (by simp [z]))).trans (kp1 d o (fun z => hd (by simp [z])) (fun z => hd (by simp [z])) q)
    have J : Inv X pins σ (upd H s.heap.objs.size (.tup [.int (i : Nat), x])) { s with heap := h2, toks := tk + 1 } := I.turnedNew (ch := [e, it]) kept hf (Nat.le_refl _) fresh
    refine ⟨.ref s.heap.objs.size, _, J, rfl, ⟨_, x, rfl, I.hok.fresh (Nat.le_refl _), rfl, fun l hl => ?_⟩, ⟨⟨y, ?_⟩, st1.1.at fun o q => (sb.2 it (Ne.symm ne)).trans q, ne⟩, fun d hd => ?_⟩
    · rw [I.tuple_inj hl sq]
      exact xi
    · rw [show ((i + 1 : Nat) : Int) = (i : Int) + 1 by omega]
      exact en2
    · have ld : d < s.heap.objs.size := by
        rcases both d hd with z | z
        · rw [z]
          exact le'
        · rw [z]
          exact li'
      rw [upd_ne (Nat.ne_of_lt ld)]
      exact (hf d hd).1
  · intro X pP pw pK hc i pins s σ H E I hf st hg
    subst pP pw pK
    obtain ⟨⟨o0, en⟩, ti, ne⟩ := st
    obtain ⟨xs, sq, lx⟩ := hg
    obtain ⟨js, rj, tj, _⟩ := I.tuple sq
    have fr := hf it (by simp)
    have lj := rj.length
    have nohd : X.A.handled = none := I.ok.hd hc
    have D := Draws.tuple (prog := X.prog) (w := X.w) (A := X.A.in1) nohd it a ha js.toArray
    have stand : s.heap.IsTupleIter it a js.toArray.size ∧ s.heap.IsTuple a js.toArray := ⟨by rw [List.size_toArray, ← lj, lx]; exact ti, tj⟩
    exact wpAny_pyNext_enum_endD D en stand fun h1 eb => ⟨rfl, I.turned (t' := s.toks) (fun b o hb q => eb b o hb q) fr.1 fr.2.1 fr.2.2.2.1 fr.2.2.2.2.1 fr.2.2.2.2.2⟩
def iEnumT (K : PySem.W.Frag) (ta : TA) : TI := fun σ H R => ta σ H fun vs H1 => ∃ a xs, vs = [.ref a] ∧ SqT K H1 a xs ∧ R (Itet K a) H1
theorem pi_enumT {X : Cx} {e : Expr} {ta : TA} {p pos tpos : Pos} {elts : List Expr} {kk : Nat} (hg : Gl X "enumerate") (hm : X.mg "enumerate" = none) (ha : PA X [e] ta) (hs : starEach [e] X.env = [(false, eval e X.env)] := by rfl) :
    PI X (.Tuple elts kk tpos) (.Call (.Name "enumerate" p) [e] [] pos) (iEnumT X.K ta) := by
  refine ⟨fun pins s σ H R I h => ?_⟩
  refine Call_ (ld_blt I hg hm boot_enumerate (PyProof.Rows.callWith_type1 (thn (ha.run pos pins s σ H _ I h) fun us s1 ⟨vs, H1, I1, r1, q1⟩ => ?_) hs rfl))
  obtain ⟨a, xs, rfl, hq, q⟩ := q1
  cases r1 with
  | cons r rr =>
    cases rr
    cases r
    obtain ⟨js, rj, tj, _⟩ := I1.tuple hq
    have hal : a < s1.heap.objs.size := by
      obtain ⟨o, ho, _⟩ := tj
      exact Heap.lt_size ho
    refine enum_begins1 (begins_tuple a js.toArray) tj fun h' he hit hsz hk => wpAny_pyIter_enum he ?_
    have J : Inv X pins σ H1 { s1 with heap := h' } := I1.kept (t' := s1.toks) hk
    refine ⟨s1.heap.objs.size + 1, [s1.heap.objs.size + 1, s1.heap.objs.size], _, _, H1, rfl, J, turn_enumT a (s1.heap.objs.size + 1) s1.heap.objs.size (Nat.ne_of_lt hal) (fun z => absurd hal (by rw [← z]; exact Nat.not_lt.mpr (Nat.le_add_right _ _))), ⟨⟨.none, he⟩, ⟨_, hit, rfl, rfl⟩, Nat.succ_ne_self _⟩, fun b hb => ?_, q⟩
    have late : s1.heap.objs.size ≤ b := by
      have two : b = s1.heap.objs.size + 1 ∨ b = s1.heap.objs.size := by simpa using hb
      rcases two with z | z <;> rw [z]
      · exact Nat.le_add_right _ _
      · exact Nat.le_refl _
    exact I1.fpOk late (I1.hok.fresh late)
theorem walk_enumT {K : PySem.W.Frag} {a : Addr} {xs : List V} : Walk (Itet K a) xs.length (fun H => SqT K H a xs) (YPair (fun i => some (.int (i : Nat))) (fun i => xs[i]?)) := by
  refine ⟨fun i _ hi q => ⟨xs, xs[i], q, by simp [hi]⟩, fun _ q => ⟨xs, q, rfl⟩, fun i H v H' _ q y => ?_⟩
  obtain ⟨T, x, y1, y2, y3, y4⟩ := y
  exact ⟨T, .int (i : Nat), x, y1, y2, y3, rfl, y4 xs q⟩
end SP

namespace SP
open PySem PySem.Spec PyProof.Rows L2
open C8 (pss_cut tCut)
mutual
def allD : Tm → List PyData → List PyData
  | .flat w r, pl => [.tuple [.tuple pl, toD (.flat w r)]]
  | .two w x a b, pl => .tuple [.tuple pl, toD (.two w x a b)] :: (allD a (pl ++ [.int ((0 : Nat) : Int)]) ++ (allD b (pl ++ [.int ((1 : Nat) : Int)]) ++ []))
  | .one w x a, pl => .tuple [.tuple pl, toD (.one w x a)] :: (allD a (pl ++ [.int ((0 : Nat) : Int)]) ++ [])
  | .many w x c, pl => .tuple [.tuple pl, toD (.many w x c)] :: allC c 0 pl
def allC : Cs → Nat → List PyData → List PyData
  | .nil, _, _ => []
  | .cons _ _ t c, k, pl => allD t (pl ++ [.int (k : Int)]) ++ allC c (k + 1) pl
end
def allK : List Tm → Nat → List PyData → List PyData
  | [], _, _ => []
  | t :: l, k, pl => allD t (pl ++ [.int (k : Int)]) ++ allK l (k + 1) pl
theorem allC_eq : ∀ (c : Cs) (k : Nat) (pl : List PyData), allC c k pl = allK (csT c) k pl
  | .nil, k, pl => by rw [allC, csT, allK]
  | .cons w ys t c, k, pl => by rw [allC, csT, allK, allC_eq c]
theorem allD_eq (tm : Tm) (pl : List PyData) : allD tm pl = .tuple [.tuple pl, toD tm] :: allK (kids tm) 0 pl := by
  cases tm with
  | flat w r =>
    rw [allD]
    rfl
  | two w x a b =>
    rw [allD]
    rfl
  | one w x a =>
    rw [allD]
    rfl
  | many w x c =>
    rw [allD, allC_eq]
    rfl
theorem csT_sz : ∀ c : Cs, szC c = ((csT c).map sz).sum
  | .nil => by
    rw [szC]
    rfl
  | .cons w ys t c => by
    rw [szC, csT, List.map_cons, List.sum_cons, csT_sz c]
theorem kids_sz (tm : Tm) : sz tm = 1 + ((kids tm).map sz).sum := by
  cases tm with
  | flat w r =>
    rw [sz]
    rfl
  | two w x a b =>
    rw [sz]
    show 1 + sz a + sz b = 1 + (sz a + (sz b + 0))
    omega
  | one w x a =>
    rw [sz]
    show 1 + sz a = 1 + (sz a + 0)
    omega
  | many w x c =>
    rw [sz, csT_sz]
    rfl
theorem csT_dp : ∀ c : Cs, ∀ t ∈ csT c, dpt t ≤ dptC c
  | .nil, t, h => by cases h
  | .cons w ys u c, t, h => by
    rw [dptC]
    rcases List.mem_cons.mp h with rfl | h
    · omega
    · have := csT_dp c t h
      omega
theorem kids_dp (tm : Tm) : ∀ t ∈ kids tm, dpt t < dpt tm := by
  cases tm with
  | flat w r => intro t h; cases h
  | two w x a b =>
    intro t h
    rw [dpt]
    have : t = a ∨ t = b := by simpa [kids] using h
    rcases this with rfl | rfl <;> omega
  | one w x a =>
    intro t h
    rw [dpt]
    have : t = a := by simpa [kids] using h
    subst this
    omega
  | many w x c =>
    intro t h
    rw [dpt]
    have := csT_dp c t h
    omega
theorem csT_ok : ∀ c : Cs, okC c → ∀ t ∈ csT c, okT t
  | .nil, _, t, h => by cases h
  | .cons w ys u c, hc, t, h => by
    rw [okC] at hc
    rcases List.mem_cons.mp h with rfl | h
    · exact hc.2.1
    · exact csT_ok c hc.2.2 t h
theorem kids_ok {tm : Tm} (ok : okT tm) : ∀ t ∈ kids tm, okT t := by
  cases tm with
  | flat w r => intro t h; cases h
  | two w x a b =>
    intro t h
    rw [okT] at ok
    have : t = a ∨ t = b := by simpa [kids] using h
    rcases this with rfl | rfl
    · exact ok.2.1
    · exact ok.2.2
  | one w x a =>
    intro t h
    rw [okT] at ok
    have : t = a := by simpa [kids] using h
    subst this
    exact ok.2
  | many w x c =>
    intro t h
    rw [okT] at ok
    exact csT_ok c ok.2.1 t h
theorem dpt_pos (tm : Tm) : 1 ≤ dpt tm := by
  cases tm <;> rw [dpt] <;> omega
theorem sz_pos (tm : Tm) : 1 ≤ sz tm := by
  rw [kids_sz]
  omega
theorem all_len : ∀ (d : Nat) (tm : Tm) (pl : List PyData), dpt tm ≤ d → (allD tm pl).length = sz tm
  | 0, tm, pl, h => absurd (dpt_pos tm) (by omega)
  | d + 1, tm, pl, h => by
    rw [allD_eq, List.length_cons, kids_sz]
    have : ∀ (l : List Tm) (k : Nat), (∀ t ∈ l, dpt t ≤ d) → (allK l k pl).length = (l.map sz).sum := by
      intro l
      induction l with
      | nil => intro k _; rfl
      | cons t l ih =>
        intro k hl
        rw [allK, List.length_append, all_len d t _ (hl t List.mem_cons_self), ih _ fun u hu => hl u (List.mem_cons_of_mem _ hu), List.map_cons, List.sum_cons]
    rw [this _ _ fun t ht => by have := kids_dp tm t ht; omega]
    omega
theorem allK_len (pl : List PyData) : ∀ (l : List Tm) (k : Nat), (allK l k pl).length = (l.map sz).sum
  | [], _ => rfl
  | t :: l, k => by rw [allK, List.length_append, all_len _ t _ (Nat.le_refl _), allK_len pl l, List.map_cons, List.sum_cons]
theorem immAll_append : ∀ {l m : List PyData}, immAll l = true → immAll m = true → immAll (l ++ m) = true
  | [], _, _, h => h
  | x :: l, m, h, h2 => by
    have h' := Bool.and_eq_true_iff.mp (show (imm x && immAll l) = true from h)
    show (imm x && immAll (l ++ m)) = true
    rw [h'.1, immAll_append h'.2 h2]
    rfl
theorem all_imm : ∀ (d : Nat) (tm : Tm) (pl : List PyData), dpt tm ≤ d → okT tm → immAll pl = true → immAll (allD tm pl) = true
  | 0, tm, pl, h, _, _ => absurd (dpt_pos tm) (by omega)
  | d + 1, tm, pl, h, ok, hp => by
    rw [allD_eq]
    have : ∀ (l : List Tm) (k : Nat), (∀ t ∈ l, dpt t ≤ d ∧ okT t) → immAll (allK l k pl) = true := by
      intro l
      induction l with
      | nil => intro k _; rfl
      | cons t l ih =>
        intro k hl
        rw [allK]
        exact immAll_append (all_imm d t _ (hl t List.mem_cons_self).1 (hl t List.mem_cons_self).2 (immAll_append hp rfl)) (ih _ fun u hu => hl u (List.mem_cons_of_mem _ hu))
    show ((immAll pl && (imm (toD tm) && true)) && immAll (allK (kids tm) 0 pl)) = true
    rw [hp, imm_toD tm ok, this _ _ fun t ht => ⟨by have := kids_dp tm t ht; omega, kids_ok ok t ht⟩]
    rfl
theorem imm_kids {tm : Tm} (ok : okT tm) : immAll ((kids tm).map toD) = true := by
  have : ∀ l : List Tm, (∀ t ∈ l, okT t) → immAll (l.map toD) = true := by
    intro l
    induction l with
    | nil => intro _; rfl
    | cons t l ih =>
      intro h
      show (imm (toD t) && immAll (l.map toD)) = true
      rw [imm_toD t (h t List.mem_cons_self), ih fun u hu => h u (List.mem_cons_of_mem _ hu)]
      rfl
  exact this _ (kids_ok ok)
section
variable {P : Program} {w : World} {K : PySem.W.Frag} {mg : Str → Option Value} {base : Heap}
def spAll (K : PySem.W.Frag) (d : Nat) : Sp := fun vs H Q _ => ∃ (v : V) (p : Addr) (qv : List V) (tm : Tm) (pl : List PyData), vs = [v, .ref p] ∧ okT tm ∧ dpt tm ≤ d ∧ sz tm ≤ 1000 ∧ Dp K H v (toD tm) ∧ SqT K H p qv ∧ DpAll K H qv pl ∧ pl ≠ [] ∧ immAll pl = true ∧ pl.length + d ≤ 1000 ∧
  ∀ (H' : Hp) (l : Addr) (ys : List V), Same H H' → H l = none → H' l = some (.lst ys) → DpAll K H' ys (allD tm pl) → Q (.ref l) H'
abbrev spAllS (K : PySem.W.Frag) (d : Nat) : Sp := spAll K (d + 1)
theorem ok_law_all {f : Addr} {fd : FuncData} (F : Fun K "_law_all" "_law_all" s_law_all f fd) (T : Txt mg) (d : Nat) (C_law_parts : Callee P w K mg base "_law_parts" ["term"] 1 (spParts K)) (C_law_all : Callee P w K mg base "_law_all" ["term", "place"] (d + 2) (spAll K d)) : FnOk P w K mg base CX0 (d + 3) f fd ["term", "place"] (spAllS K d) := by
  refine F.ok sc_law_all (fun vs H Q E h => ?_) (fun cdv A outer s H vs Q E hr h => ?_)
  · obtain ⟨v, p, qv, tm, pl, rfl, _⟩ := h
    rfl
  · obtain ⟨v, p, qv, tm, pl, rfl, ok, hd, hs, hv, hp, hpl, hne, him, hlen, q⟩ := h
    refine ⟨_, (pss_cons (ps_set (i := 2) sc_law_all.nd rfl (Or.inl rfl) (pe_lst (pa_cons (pe_tup (pa_cons (pv 1) (pa_cons (pv 0) pa_nil))) pa_nil)))
      (pss_cons (ps_for PassesOwn.never rfl (pi_enumT (by rfl) T.n_enumerate (pa_cons (pe_fn (hk := by omega) C_law_parts hr (by rfl) (pa_cons (pv 0) pa_nil)) pa_nil)) (pg_tup rfl (pgs_cons (pg_name (i := 3) sc_law_all.nd rfl (Or.inl rfl)) (pgs_cons (pg_name (i := 4) sc_law_all.nd rfl (Or.inl rfl)) pgs_nil)))
      (pss_one (ps_expr (pe_bm PySem.F.plainAttrs_list PySem.F.slot_list_extend PySem.F.type_list_extend mt_extend (pv 2) (pa_cons (pe_fn (hk := by omega) C_law_all hr (by rfl) (pa_cons (pv 4) (pa_cons (pe_op (r := rCatA K) op_catA (pv 1) (pe_tup (pa_cons (pv 3) pa_nil))) pa_nil))) pa_nil)))))
      (pss_one (ps_ret (pv 2))))), ?_⟩
    -- found
    refine ⟨_, rfl, _, rfl, by show 2 ≤ sizeLine; decide, fun p1 h1 => ⟨by show 1 ≤ sizeLine; decide, fun F h2 => ?_⟩⟩
    have s1 := same_upd (o := HO.tup [.ref p, v]) h1
    have s2 := s1.trans (same_upd (o := HO.lst [.ref p1]) h2)
    have hFH : H F = none := s1.free h2
    have F2 : (upd (upd H p1 (.tup [.ref p, v])) F (.lst [.ref p1])) F = some (.lst [.ref p1]) := upd_same
    have e2 : Dp K (upd (upd H p1 (.tup [.ref p, v])) F (.lst [.ref p1])) (.ref p1) (.tuple [.tuple pl, toD tm]) := .tup (.inl (.inl (same_upd h2 _ _ upd_same))) (.cons (.tup (Same.seqT s2 hp) (dpAll_mono s2 hpl)) (.cons (dp_mono s2 hv) .nil))
    change tNext _ _ (upd (upd H p1 (.tup [.ref p, v])) F (.lst [.ref p1]))
    generalize upd (upd H p1 (.tup [.ref p, v])) F (.lst [.ref p1]) = H2 at s2 F2 e2 ⊢
    clear s1 h1 h2
    -- the parts
    refine ⟨_, rfl, v, tm, rfl, ok, dp_mono s2 hv, fun H3 v3 s3 d3 => ?_⟩
    obtain ⟨a, xs, rfl, a1, a2⟩ := dp_tup d3
    have lx : xs.length = (kids tm).length := by
      rw [dpAll_len a2, List.length_map]
    refine ⟨a, xs, rfl, a1, ?_⟩
    have F3 := s3 _ _ F2
    have e3 := dp_mono s3 e2
    have S3 := s2.trans s3
    have hen : imm (.tuple [.tuple pl, toD tm]) = true := by
      show (immAll pl && (imm (toD tm) && true)) = true
      rw [him, imm_toD tm ok]
      rfl
    have hsz := kids_sz tm
    refine for_it (walk_enumT (K := K) (a := a) (xs := xs)) (fun i σ H' => ∃ (fv : List V) (pre : List PyData) (y3 y4 : Option V), σ = [some v, some (.ref p), some (.ref F), y3, y4] ∧ Same H H' ∧ Tk H3 H' ∧ H' F = some (.lst fv) ∧ allK (kids tm) 0 pl = pre ++ allK ((kids tm).drop i) i pl ∧ DpAll K H' fv (.tuple [.tuple pl, toD tm] :: pre) ∧ immAll pre = true)
      ⟨_, [], none, none, rfl, S3, Tk.refl _, F3, rfl, .cons e3 .nil, rfl⟩ (fun i σ H' _ ⟨_, _, _, _, _, _, h, _, _, _, _⟩ => Tk.seqT h a1) ?_ ?_
    · rintro i w0 σ H4 H5 hi ⟨fv, pre, y3, y4, rfl, S4, T4, F4, hC, D4, im4⟩ ⟨T0, x1, x2, rfl, hT, rfl, z1, z2⟩
      cases z1
      have hik : i < (kids tm).length := by omega
      have htk : (kids tm)[i]? = some (kids tm)[i] := List.getElem?_eq_getElem hik
      have htm : (kids tm)[i] ∈ kids tm := List.getElem_mem hik
      obtain ⟨dd, y1, y2⟩ := dpAll_at a2 z2
      rw [List.getElem?_map, htk] at y1
      cases y1
      rw [drop_at htk] at hC
      generalize (kids tm)[i] = t at htm y2 hC
      have okt := kids_ok ok t htm
      have dtt := kids_dp tm t htm
      have hszt : sz t ≤ sz tm := by
        rw [hsz]
        have : sz t ≤ ((kids tm).map sz).sum := mem_le_sum (List.mem_map_of_mem htm)
        omega
      have sT := same_upd (o := HO.tup [.int (i : Nat), x2]) hT
      refine ⟨T0, _, rfl, .inl (.inl upd_same), rfl, _, _, rfl, _, _, rfl, rfl, ?_⟩
      have hv5 := dp_mono sT (dp_tk T4 (imm_toD t okt) y2)
      refine ⟨_, rfl, .inl ⟨rfl, _, .inl (.inl (sT _ _ F4))⟩, _, rfl, _, rfl, _, rfl, by show 1 ≤ sizeLine; decide, fun p6 h6 => ?_⟩
      have s6 := sT.trans (same_upd (o := HO.tup [.int (i : Nat)]) h6)
      have hp6 := Same.seqT (S4.trans s6) hp
      have lpv : qv.length = pl.length := dpAll_len hpl
      have hsl := sizeLine_eq
      have pvne : qv ≠ [] := fun z => hne (by rw [z] at lpv; exact List.length_eq_zero_iff.mp lpv.symm)
      refine ⟨p, p6, qv, [.int (i : Nat)], rfl, rfl, hp6, .inl (.inl upd_same), ?_, fun z => absurd z pvne, fun _ z => (by cases z), fun _ _ p7 h7 => ?_⟩
      · show qv.length + 1 ≤ sizeLine
        omega
      have s7 := s6.trans (same_upd (o := HO.tup (qv ++ [.int (i : Nat)])) h7)
      have S7 := S4.trans s7
      refine ⟨x2, p7, qv ++ [.int (i : Nat)], t, pl ++ [.int (i : Nat)], rfl, okt, by omega, by omega, dp_mono ((same_upd h6).trans (same_upd h7)) hv5, .inl (.inl upd_same), dpAll_append (dpAll_mono S7 hpl) (.cons (.int _) .nil), by simp, immAll_append him rfl, by rw [List.length_append]; show pl.length + 1 + d ≤ 1000; omega, fun H8 l8 ys8 s8 hl8 d8 p8 => ?_⟩
      have s9 := s7.trans s8
      have D9 := dpAll_mono s9 D4
      have T9 : Tk H3 H8 := T4.trans (Tk.of s9)
      have F9 := s9 _ _ F4
      have im8 := all_imm _ t (pl ++ [.int (i : Nat)]) (Nat.le_refl _) okt (immAll_append him rfl)
      have ly : ys8.length = sz t := by
        rw [dpAll_len p8, all_len _ t _ (Nat.le_refl _)]
      have lf : fv.length + sz t ≤ sz tm := by
        have h1 : fv.length = 1 + pre.length := by
          rw [dpAll_len D4, List.length_cons]
          omega
        have h2 := congrArg List.length hC
        rw [allK_len, List.length_append, allK, List.length_append, all_len _ t _ (Nat.le_refl _)] at h2
        omega
      refine ⟨F, l8, fv, ys8, rfl, rfl, F9, d8, by omega, ?_⟩
      refine ⟨fv ++ ys8, pre ++ allD t (pl ++ [.int (i : Nat)]), _, _, rfl, ?_, T9.trans (tk_put F9), upd_same, ?_, ?_, immAll_append im4 im8⟩
      · exact fun b o e => by
          rw [upd_ne (ne_of_none e hFH)]
          exact s9 _ _ (S4 b o e)
      · rw [hC, allK, List.append_assoc]
      · have := dpAll_append D9 p8
        refine dpAll_tk (tk_put F9) ?_ this
        show (imm (.tuple [.tuple pl, toD tm]) && immAll (pre ++ allD t (pl ++ [.int (i : Nat)]))) = true
        rw [hen, immAll_append im4 im8]
        rfl
    · rintro σ H4 ⟨fv, pre, y3, y4, rfl, S4, T4, F4, hC, D4, im4⟩
      rw [lx, List.drop_eq_nil_of_le (Nat.le_refl _)] at hC
      have hC' : allD tm pl = .tuple [.tuple pl, toD tm] :: pre := by
        rw [allD_eq, hC]
        show _ :: (pre ++ []) = _
        rw [List.append_nil]
      refine ⟨_, rfl, q H4 F fv S4 hFH F4 ?_⟩
      rw [hC']
      exact D4
theorem all_all (T : Txt mg) (DA : Dfn K mg "_law_all" s_law_all ["term", "place"]) (C_law_parts : Callee P w K mg base "_law_parts" ["term"] 1 (spParts K)) : ∀ d : Nat, Callee P w K mg base "_law_all" ["term", "place"] (d + 2) (spAll K d)
  | 0 => DA.callee fun f fd F => F.ok sc_law_all (fun vs H Q E h => by
      obtain ⟨v, p, qv, tm, pl, _, _, hd, _⟩ := h
      exact absurd (dpt_pos tm) (by omega)) (fun cdv A outer s H vs Q E hr h => by
      obtain ⟨v, p, qv, tm, pl, _, _, hd, _⟩ := h
      exact absurd (dpt_pos tm) (by omega))
  | d + 1 => DA.callee fun f fd F => ok_law_all F T d C_law_parts (all_all T DA C_law_parts d)
end
end SP

namespace SP
open PySem PySem.Spec PyProof.Rows L2
open C8 (pss_cut tCut)
def csW : Cs → List (List Str)
  | .nil => []
  | .cons _ ys _ c => ys :: csW c
def boundW : Tm → List (List Str)
  | .flat _ _ => []
  | .two w x _ _ => if w = "let" then [[], [x]] else [[], []]
  | .one _ _ _ => [[]]
  | .many _ _ c => csW c
def wsD (ws : List Str) : PyData := .tuple (ws.map .str)
theorem csW_len : ∀ c : Cs, (csW c).length = (csT c).length
  | .nil => rfl
  | .cons w ys t c => congrArg (· + 1) (csW_len c)
theorem bound_len (tm : Tm) : (boundW tm).length = (kids tm).length := by
  cases tm with
  | flat w r => rfl
  | two w x a b =>
    show (if w = "let" then [[], [x]] else [[], []] : List (List Str)).length = 2
    split <;> rfl
  | one w x a => rfl
  | many w x c => exact csW_len c
theorem csW_at : ∀ (c : Cs) (i : Nat) (d : PyData), (csD c)[i]? = some d → ∃ (w : Str) (ys : List Str) (t : Tm), d = .tuple [.str w, .tuple (ys.map .str), toD t] ∧ (csW c)[i]? = some ys
  | .nil, i, d, h => by
    rw [csD] at h
    cases h
  | .cons w ys t c, 0, d, h => by
    rw [csD] at h
    cases h
    exact ⟨w, ys, t, rfl, rfl⟩
  | .cons w ys t c, i + 1, d, h => by
    rw [csD] at h
    obtain ⟨w', ys', t', e1, e2⟩ := csW_at c i d h
    exact ⟨w', ys', t', e1, e2⟩
theorem imm_wsD : ∀ l : List (List Str), immAll (l.map wsD) = true
  | [] => rfl
  | ws :: l => by
    show (immAll (ws.map PyData.str) && immAll (l.map wsD)) = true
    rw [imm_strs, imm_wsD l]
    rfl
section
variable {P : Program} {w : World} {K : PySem.W.Frag} {mg : Str → Option Value} {base : Heap}
def spBound (K : PySem.W.Frag) : Sp := fun vs H Q _ => ∃ (v : V) (tm : Tm), vs = [v] ∧ okT tm ∧ Dp K H v (toD tm) ∧ ∀ (H' : Hp) (l : Addr) (ys : List V), Same H H' → H l = none → H' l = some (.lst ys) → DpAll K H' ys ((boundW tm).map wsD) → Q (.ref l) H'
theorem ok_law_bound_words {f : Addr} {fd : FuncData} (F : Fun K "_law_bound_words" "_law_bound_words" s_law_bound_words f fd) (T : Txt mg) (C_law_parts : Callee P w K mg base "_law_parts" ["term"] 1 (spParts K)) : FnOk P w K mg base CX0 2 f fd ["term"] (spBound K) := by
  refine F.ok sc_law_bound_words (fun vs H Q E h => ?_) (fun cdv A outer s H vs Q E hr h => ?_)
  · obtain ⟨v, tm, rfl, _⟩ := h
    rfl
  · obtain ⟨v, tm, rfl, ok, hd, q⟩ := h
    refine ⟨_, (pss_cons (ps_if (pt_cmpR op_eq (pe_ix (r := rIxT K) ix_tup (pv 0) pe_int (fun _ _ => rfl)) pe_str (nomark _)) (pss_one (ps_ret (pe_lst (pa_cons (pe_tup pa_nil) (pa_cons (pe_slice (r := rSlT K) sl_tup (pv 0) (po_some pe_int) (po_some pe_int)) pa_nil))))) pss_nil)
      (pss_cons (ps_if (pt_cmpR (r := rIn K false) op_in_seq (pe_ix (r := rIxT K) ix_tup (pv 0) pe_int (fun _ _ => rfl)) (pe_tup (pa_cons pe_str (pa_cons pe_str pa_nil))) rfl) (pss_one (ps_ret (pe_lc (own := [("case", 1)]) (g := gName 1) (tt := tYes) rfl sc_law_bound_words.nd (pi_tup (pe_ix (r := rIxT K) ix_tup (pv 0) pe_int (fun _ _ => rfl))) (blkOk_by (own := [("case", 1)]) (N := ["term", "case", "part"]) (sc := defScope s_law_bound_words) (by decide +kernel)) (fun _ _ _ _ _ => (pg_name (i := 1) sc_law_bound_words.nd rfl (Or.inl rfl))) (fun _ _ _ _ _ => pts_nil) (fun _ _ _ _ _ => (pe_ix (r := rIxT K) ix_tup (pv 1) pe_int (fun _ _ => rfl)))))) pss_nil)
      (pss_one (ps_ret (pe_lc (own := [("part", 2)]) (g := gName 2) (tt := tYes) rfl sc_law_bound_words.nd (pi_tup (pe_fn C_law_parts hr (by rfl) (pa_cons (pv 0) pa_nil))) (blkOk_by (own := [("part", 2)]) (N := ["term", "case", "part"]) (sc := defScope s_law_bound_words) (by decide +kernel)) (fun _ _ _ _ _ => (pg_name (i := 2) sc_law_bound_words.nd rfl (Or.inl rfl))) (fun _ _ _ _ _ => pts_nil) (fun _ _ _ _ _ => (pe_tup pa_nil))))))), ?_⟩
    have hd0 := hd
    rw [toD_eq] at hd
    obtain ⟨a0, xs, rfl, hs, ha⟩ := dp_tup hd
    cases ha with
    | @cons x1 xr _ _ hx hr1 =>
    have := dp_str hx
    subst this
    refine ⟨_, rfl, a0, _, 0, .str (wordT tm), rfl, rfl, hs, atI_nat (j := 0) rfl, rfl, _, rfl, ?_⟩
    rw [dec_str]
    refine ite2 (fun e => ?_) (fun e => ?_)
    · have e' := of_decide_eq_true e
      obtain ⟨w, x, a, b, rfl⟩ := two_of ok (.inl e')
      change DpAll K H xr [.str x, toD a, toD b] at hr1
      cases hr1 with
      | cons y1 r1 =>
        cases r1 with
        | cons y2 r2 =>
          cases r2 with
          | cons y3 r3 =>
            cases r3
            have := dp_str y1
            subst this
            have hb : boundW (.two w x a b) = [[], [x]] := by
              show (if w = "let" then [[], [x]] else [[], []] : List (List Str)) = _
              rw [if_pos (show w = "let" from e')]
            rw [hb] at q
            refine ⟨by show 0 ≤ sizeLine; decide, fun p1 h1 => ⟨_, rfl, _, rfl, _, rfl, a0, _, rfl, Same.seqT (same_upd h1) hs, by show ¬ (1 = 0 ∧ 2 = 4); decide, fun p2 h2 => ⟨by show 2 ≤ sizeLine; decide, fun p3 h3 => ?_⟩⟩⟩
            refine q _ p3 _ ((same_upd h1).trans ((same_upd h2).trans (same_upd h3))) (((same_upd h1).trans (same_upd h2)).free h3) upd_same (.cons (.tup (.inl (.inl (same_upd h3 _ _ (same_upd h2 _ _ upd_same)))) .nil) (.cons (.tup (.inl (.inl (same_upd h3 _ _ upd_same))) (.cons (.str x) .nil)) .nil))
    have e1 : ¬ wordT tm = "let" := fun z => e (decide_eq_true z)
    clear e
    refine ⟨_, rfl, a0, _, 0, .str (wordT tm), rfl, rfl, hs, atI_nat (j := 0) rfl, by show 2 ≤ sizeLine; decide, fun p1 h1 => ⟨p1, _, rfl, .inr (.inl (.inl upd_same)), rfl, rfl, _, rfl, ite2 (fun e => ?_) (fun e => ?_)⟩⟩
    · obtain ⟨w, x, c, rfl⟩ := many_of ok (in2_yes e)
      have s1 := same_upd (o := HO.tup [.str "open", .str "look"]) h1
      rw [okT] at ok
      change DpAll K H xr [.str x, .tuple (csD c)] at hr1
      cases hr1 with
      | cons y1 r1 =>
        cases r1 with
        | cons y2 r2 =>
          cases r2
          obtain ⟨b0, us, rfl, u1, u2⟩ := dp_tup y2
          have u1' := Same.seqT s1 u1
          have u2' := dpAll_mono s1 u2
          have lx : us.length = (csW c).length := by
            rw [dpAll_len u2, csD_len, csW_len]
          refine ⟨_, rfl, a0, _, 2, _, rfl, rfl, Same.seqT s1 hs, atI_nat (j := 2) rfl, b0, rfl, ⟨_, u1'⟩, fun D hD => ?_⟩
          refine lc_it (walk_tup (xs := us)) (fun i H' => Same (upd H p1 (.tup [.str "open", .str "look"])) H' ∧ ∃ ys, ys.length = i ∧ H' D = some (.lst ys) ∧ DpAll K H' ys (((csW c).take i).map wsD)) ⟨same_upd hD, [], rfl, upd_same, .nil⟩ (fun i H' _ h => Same.seqT h.1 u1') ?_ ?_
          · rintro i v H' H'' hi ⟨s2, ys, ly, d1, p2⟩ ⟨rfl, hv⟩
            obtain ⟨d, z1, z2⟩ := dpAll_at u2' hv
            obtain ⟨w', zs, t, rfl, ht⟩ := csW_at c i d z1
            obtain ⟨b, us', rfl, e3, e4⟩ := dp_tup z2
            cases e4 with
            | cons x1 r1 =>
              cases r1 with
              | cons x2 r2 =>
                refine ⟨rfl, ?_⟩
                refine lcYes ?_
                refine ⟨_, rfl, b, _, 1, _, rfl, rfl, Same.seqT s2 e3, atI_nat (j := 1) rfl, ys, d1, small1000 (by have := ok.2.2; rw [← csW_len] at this; omega), same_put s2 hD, ys ++ [_], by rw [List.length_append, ly]; rfl, upd_same, ?_⟩
                rw [List.take_add_one, ht, List.map_append]
                have := imm_wsD ((csW c).take (i + 1))
                rw [List.take_add_one, ht, List.map_append] at this
                exact dpAll_tk (tk_put d1) this (dpAll_append p2 (.cons (dp_mono s2 x2) .nil))
          · rintro H4 ⟨s2, ys, _, d1, p2⟩
            rw [lx, List.take_length] at p2
            exact q _ D ys (s1.trans s2) (s1.free hD) d1 p2
    have e2 := in2_no e
    have s1 := same_upd (o := HO.tup [.str "open", .str "look"]) h1
    change tNext _ _ (upd H p1 (.tup [.str "open", .str "look"]))
    generalize upd H p1 (.tup [.str "open", .str "look"]) = H1 at s1 ⊢
    clear e h1
    have hb : boundW tm = List.replicate (kids tm).length [] := by
      cases tm with
      | flat w r => rfl
      | two w x a b =>
        show (if w = "let" then [[], [x]] else [[], []] : List (List Str)) = _
        rw [if_neg (show ¬ w = "let" from e1)]
        rfl
      | one w x a => rfl
      | many w x c =>
        rw [okT] at ok
        exact absurd ok.1 e2
    rw [hb] at q
    refine ⟨_, rfl, _, tm, rfl, ok, dp_mono s1 hd0, fun H2 v2 s2 d2 => ?_⟩
    obtain ⟨b0, us, rfl, u1, u2⟩ := dp_tup d2
    have lu : us.length = (kids tm).length := by
      rw [dpAll_len u2, List.length_map]
    have lk : (kids tm).length ≤ 100 := by
      cases tm with
      | flat w r => exact Nat.zero_le _
      | two w x a b => show 2 ≤ 100; decide
      | one w x a => show 1 ≤ 100; decide
      | many w x c =>
        rw [okT] at ok
        exact ok.2.2
    refine ⟨b0, rfl, ⟨_, u1⟩, fun D hD => ?_⟩
    refine lc_it (walk_tup (xs := us)) (fun i H' => Same H2 H' ∧ ∃ ys, ys.length = i ∧ H' D = some (.lst ys) ∧ DpAll K H' ys ((List.replicate i ([] : List Str)).map wsD)) ⟨same_upd hD, [], rfl, upd_same, .nil⟩ (fun i H' _ h => Same.seqT h.1 u1) ?_ ?_
    · rintro i v H' H'' hi ⟨s3, ys, ly, d1, p2⟩ ⟨rfl, hv⟩
      refine ⟨rfl, ?_⟩
      refine lcYes ?_
      refine ⟨by show 0 ≤ sizeLine; decide, fun p3 h3 => ?_⟩
      have s4 := s3.trans (same_upd (o := HO.tup []) h3)
      refine ⟨ys, same_upd h3 _ _ d1, small1000 (by omega), same_put s4 hD, ys ++ [.ref p3], by rw [List.length_append, ly]; rfl, upd_same, ?_⟩
      have hr : List.replicate (i + 1) ([] : List Str) = List.replicate i [] ++ [[]] := List.replicate_succ'
      rw [hr, List.map_append]
      have := imm_wsD (List.replicate i [] ++ [[]])
      rw [List.map_append] at this
      refine dpAll_tk (tk_put (same_upd h3 _ _ d1)) this (dpAll_append (dpAll_mono (same_upd h3) p2) (.cons (.tup (.inl (.inl upd_same)) .nil) .nil))
    · rintro H4 ⟨s3, ys, _, d1, p2⟩
      rw [lu] at p2
      exact q _ D ys ((s1.trans s2).trans s3) ((s1.trans s2).free hD) d1 p2
end
end SP

namespace SP
open PySem PySem.Spec PyProof.Rows L2
open C8 (pss_cut tCut)
/-- words of errands with how many names each has -/
def hdD (p : Str × Nat) : PyData := .tuple [.str p.1, .int (p.2 : Int)]
def Hds (K : PySem.W.Frag) (H : Hp) (a : Addr) (hl : List (Str × Nat)) : Prop := ∃ xs, H a = some (.lst xs) ∧ DpAll K H xs (hl.map hdD)
theorem imm_hds (hl : List (Str × Nat)) : immAll (hl.map hdD) = true := by
  induction hl with
  | nil => rfl
  | cons p hl ih =>
    show (imm (hdD p) && immAll (hl.map hdD)) = true
    rw [ih]
    rfl
theorem Hds.kp {K : PySem.W.Frag} {M : Addr → Prop} {H H' : Hp} {a : Addr} {hl : List (Str × Nat)} (h : Hds K H a hl) (s : Kp M H H') (t : Tk H H') (n : ¬ M a) : Hds K H' a hl := by
  obtain ⟨xs, h1, h2⟩ := h
  exact ⟨xs, s _ _ n h1, dpAll_tk t (imm_hds hl) h2⟩
theorem Hds.at {K : PySem.W.Frag} {H : Hp} {hl : List (Str × Nat)} {xs : List V} {i : Nat} {v : V} (h2 : DpAll K H xs (hl.map hdD)) (e : xs[i]? = some v) : ∃ p b, hl[i]? = some p ∧ v = .ref b ∧ SqT K H b [.str p.1, .int (p.2 : Int)] := by
  obtain ⟨d, e1, e2⟩ := dpAll_at h2 e
  rw [List.getElem?_map] at e1
  obtain ⟨p, hp, rfl⟩ := Option.map_eq_some_iff.mp e1
  obtain ⟨b, ys, rfl, e3, e4⟩ := dp_tup e2
  cases e4 with
  | cons x1 r1 =>
    cases r1 with
    | cons x2 r2 =>
      cases r2
      have z1 := dp_str x1
      have z2 := dp_int x2
      subst z1 z2
      exact ⟨p, b, hp, rfl, e3⟩
theorem slA_use {K : PySem.W.Frag} {a : Addr} {xs : List V} {i : Int} {H : Hp} {Q : VK} (h0 : 0 ≤ i) (h : SqT K H a xs) (q : ∀ (H' : Hp) (p : Addr), Same H H' → SqT K H' p (xs.take i.toNat) → Q (.ref p) H') : rSlA K (.ref a) none (some i) H Q := by
  obtain ⟨k, rfl⟩ := Int.eq_ofNat_of_zero_le h0
  rw [Int.toNat_natCast] at q
  refine ⟨a, xs, rfl, h, fun e => ?_, fun _ p hp => ?_⟩
  · have hk : xs.length ≤ k := by
      have := e.2
      rw [HT.sIx_nat] at this
      omega
    rw [List.take_of_length_le hk] at q
    exact q H a (Same.refl _) h
  · refine q _ p (same_upd hp) ?_
    rw [show cutV xs none (some (k : Int)) = xs.take k from cutV_to xs k]
    exact .inl (.inl upd_same)
theorem flatD_tm {K : PySem.W.Frag} {w : Str} {r : List PyData} (h : w ∈ ([("name" : Str), "number", "box", "ask", "plus", "less", "again", ""] : List Str)) (i : immAll r = true) (l : r.length ≤ 100) (dd : PyData.depthAll r ≤ 2) : TermD 1 1 (.tuple (.str w :: r)) := flat_tm (flatW_of w h) i l dd
section
variable {P : Program} {w : World} {K : PySem.W.Frag} {mg : Str → Option Value} {base : Heap}
def spSleaf (K : PySem.W.Frag) : Sp := fun vs H Q _ => ∃ (t ar hd : Addr) (n : Int) (ws : List Str) (hl : List (Str × Nat)), vs = [.ref t, .ref ar, .ref hd] ∧ H t = some (.lst [.int n]) ∧ H ar = some (.lst (ws.map V.str)) ∧ Hds K H hd hl ∧ ar ≠ t ∧ hd ≠ t ∧ ws ≠ [] ∧ ws.length ≤ 500 ∧ hl ≠ [] ∧ hl.length ≤ 500 ∧
  ∀ (H' : Hp) (v : V) (n' : Int) (d : PyData), But t H H' → H' t = some (.lst [.int n']) → TermD 1 1 d → Dp K H' v d → Q v H'
theorem ok_law_simple_leaf {f : Addr} {fd : FuncData} (F : Fun K "_law_simple_leaf" "_law_simple_leaf" s_law_simple_leaf f fd) (T : Txt mg) (C_law_digit : Callee P w K mg base "_law_digit" ["tape", "many"] 1 (spDigit K)) (C_law_number : Callee P w K mg base "_law_number" ["tape"] 2 (spNumber K)) : FnOk P w K mg base CX0 3 f fd ["tape", "around", "heads"] (spSleaf K) := by
  refine F.ok sc_law_simple_leaf (fun vs H Q E h => ?_) (fun cdv A outer s H vs Q E hr h => ?_)
  · obtain ⟨t, ar, hd, n, ws, hl, rfl, _⟩ := h
    rfl
  · obtain ⟨t, ar, hd, n, ws, hl, rfl, ht, har, hhd, n1, n2, hws, lws, hhl, lhl, q⟩ := h
    refine ⟨_, (pss_cons (ps_set (i := 3) sc_law_simple_leaf.nd rfl (Or.inl rfl) (pe_fn C_law_digit hr (by rfl) (pa_cons (pv 0) (pa_cons pe_int pa_nil))))
      (pss_cons (ps_asg (pe_lc (own := [("k", 9)]) (g := gName 9) (tt := tYes) rfl sc_law_simple_leaf.nd (pi_range1 rfl T.n_range (pa_cons pe_int pa_nil)) (blkOk_by (own := [("k", 9)]) (N := ["tape", "around", "heads", "way", "x", "y", "z", "f", "many", "k"]) (sc := defScope s_law_simple_leaf) (by decide +kernel)) (fun _ _ _ _ _ => (pg_name (i := 9) sc_law_simple_leaf.nd rfl (Or.inl rfl))) (fun _ _ _ _ _ => pts_nil) (fun _ _ _ _ _ => (pe_ix (r := rIxL K) ix_list (pv 1) (pe_fn C_law_digit hr (by rfl) (pa_cons (pv 0) (pa_cons (pe_callB (r := rLenS K) call_lenS (by rfl) T.n_len (by decide +kernel) (pa_cons (pv 1) pa_nil)) pa_nil))) (fun _ _ => rfl)))) (pg_unl rfl (pgs_cons (pg_name (i := 4) sc_law_simple_leaf.nd rfl (Or.inl rfl)) (pgs_cons (pg_name (i := 5) sc_law_simple_leaf.nd rfl (Or.inl rfl)) (pgs_cons (pg_name (i := 6) sc_law_simple_leaf.nd rfl (Or.inl rfl)) pgs_nil)))))
      (pss_cons (ps_if (pt_cmpR op_eq (pv 3) pe_int (nomark _)) (pss_one (ps_ret (pe_tup (pa_cons pe_str (pa_cons (pe_fn C_law_number hr (by rfl) (pa_cons (pv 0) pa_nil)) pa_nil))))) pss_nil)
      (pss_cons (ps_if (pt_cmpR op_eq (pv 3) pe_int (nomark _)) (pss_one (ps_ret (pe_tup (pa_cons pe_str (pa_cons (pv 4) pa_nil))))) pss_nil)
      (pss_cons (ps_if (pt_cmpR op_eq (pv 3) pe_int (nomark _)) (pss_one (ps_ret (pe_tup (pa_cons (pe_ix (r := rIxL K) ix_list (pe_lst (pa_cons pe_str (pa_cons pe_str pa_nil))) (pe_fn C_law_digit hr (by rfl) (pa_cons (pv 0) (pa_cons pe_int pa_nil))) (fun _ _ => rfl)) (pa_cons (pv 4) (pa_cons (pv 5) pa_nil)))))) pss_nil)
      (pss_cons (ps_if (pt_cmpR op_eq (pv 3) pe_int (nomark _)) (pss_one (ps_ret (pe_tup (pa_cons pe_str (pa_cons (pe_item_str pe_str (pe_fn C_law_digit hr (by rfl) (pa_cons (pv 0) (pa_cons pe_int pa_nil))) (fun _ _ => rfl)) (pa_cons (pe_slice (r := rSlA K) sl_tupA (pe_tup (pa_cons (pv 4) (pa_cons (pv 5) (pa_cons (pv 6) pa_nil)))) po_none (po_some (pe_fn C_law_digit hr (by rfl) (pa_cons (pv 0) (pa_cons pe_int pa_nil))))) pa_nil)))))) pss_nil)
      (pss_cons (ps_asg (pe_ix (r := rIxL K) ix_list (pv 2) (pe_fn C_law_digit hr (by rfl) (pa_cons (pv 0) (pa_cons (pe_callB (r := rLenS K) call_lenS (by rfl) T.n_len (by decide +kernel) (pa_cons (pv 2) pa_nil)) pa_nil))) (fun _ _ => rfl)) (pg_tup rfl (pgs_cons (pg_name (i := 7) sc_law_simple_leaf.nd rfl (Or.inl rfl)) (pgs_cons (pg_name (i := 8) sc_law_simple_leaf.nd rfl (Or.inl rfl)) pgs_nil))))
      (pss_one (ps_ret (pe_tup (pa_cons pe_str (pa_cons (pv 7) (pa_cons (pe_slice (r := rSlA K) sl_tupA (pe_tup (pa_cons (pv 4) (pa_cons (pv 5) (pa_cons (pv 6) (pa_cons (pv 4) pa_nil))))) po_none (po_some (pv 8))) pa_nil))))))))))))), ?_⟩
    have pw : 0 < ws.length := List.length_pos_iff.mpr hws
    refine ⟨_, rfl, t, n, 6, rfl, ht, by decide, by decide, ?_⟩
    have b1 : But t H (upd H t (.lst [.int (n / 6)])) := (But.refl t H).put
    have t1 : (upd H t (.lst [.int (n / 6)])) t = some (.lst [.int (n / 6)]) := upd_same
    generalize upd H t (.lst [.int (n / 6)]) = H1 at b1 t1 ⊢
    generalize n % 6 = way
    generalize n / 6 = m at t1
    -- x, y, z
    refine ⟨3, rfl, by decide, by decide, fun D hD => ?_⟩
    refine lc_range (lo := 0) (n := 3) (fun i H' => But t H1 H' ∧ (∃ n', H' t = some (.lst [.int n'])) ∧ ∃ cs : List Str, cs.length = i ∧ H' D = some (.lst (cs.map V.str))) ⟨But.of (same_upd hD), ⟨m, same_upd hD _ _ t1⟩, [], rfl, upd_same⟩ ?_ ?_
    · rintro i H' hi ⟨b', ⟨n', t'⟩, cs, lcs, d'⟩
      have ar' := b' _ _ n1 (b1 _ _ n1 har)
      have nD : D ≠ t := ne_t t1 hD
      refine ⟨rfl, ?_⟩
      refine lcYes ?_
      refine ⟨_, rfl, _, rfl, _, rfl, ar, _, rfl, .inl (.inl (.inl ar')), t, n', (ws.length : Int), by rw [List.length_map]; rfl, t', by omega, by omega, ar, ws.map V.str, _, _, rfl, rfl, .inl (.inl (by rw [upd_ne n1]; exact ar')), str_item ws n' ws.length rfl pw, cs.map V.str, (upd_ne nD).trans d', small1000 (by rw [List.length_map]; omega), ?_, ⟨n' / (ws.length : Int), (upd_ne nD.symm).trans upd_same⟩, cs ++ [_], by rw [List.length_append, lcs]; rfl, by rw [upd_same, List.map_append]; rfl⟩
      exact fun b o hb e => by
        rw [upd_ne (ne_of_none e hD), upd_ne hb]
        exact b' b o hb e
    rintro H2 ⟨b', ⟨n2', t2⟩, cs, lcs, d2⟩
    obtain ⟨x, y, z, rfl⟩ : ∃ x y z, cs = [x, y, z] := by
      match cs, lcs with
      | [x, y, z], _ => exact ⟨x, y, z, rfl⟩
    have b2 := b1.trans b'
    have har2 := b2 _ _ n1 har
    have hhd2 := hhd.kp (Kp.but b2 (M := fun b => b = t) rfl) (b2.tk ht) n2
    clear b' b1 t1 hD har hhd lcs
    refine ⟨D, _, rfl, .inl (.inl d2), rfl, _, _, rfl, _, _, rfl, _, _, rfl, rfl, ?_⟩
    clear d2
    -- number
    refine ⟨_, rfl, rfl, _, rfl, ite2 (fun e => ?_) (fun e => ?_)⟩
    · refine ⟨_, rfl, t, n2', rfl, t2, fun H3 b3 t3 => ⟨by show 2 ≤ sizeLine; decide, fun p hp => ?_⟩⟩
      exact q _ _ _ _ ((b2.trans b3).alloc hp) (same_upd hp _ _ t3) (flatD_tm (K := K) (w := "number") (r := [.int (numberF n2').1]) (by simp) rfl (by show 1 ≤ 100; decide) (by show 0 ≤ 2; decide)) (.tup (.inl (.inl upd_same)) (.cons (.str _) (.cons (.int _) .nil)))
    clear e
    refine ⟨_, rfl, rfl, _, rfl, ite2 (fun e => ?_) (fun e => ?_)⟩
    · refine ⟨_, rfl, by show 2 ≤ sizeLine; decide, fun p hp => ?_⟩
      exact q _ _ _ _ (b2.alloc hp) (same_upd hp _ _ t2) (flatD_tm (K := K) (w := "name") (r := [.str x]) (by simp) rfl (by show 1 ≤ 100; decide) (by show 0 ≤ 2; decide)) (.tup (.inl (.inl upd_same)) (.cons (.str _) (.cons (.str _) .nil)))
    clear e
    refine ⟨_, rfl, rfl, _, rfl, ite2 (fun e => ?_) (fun e => ?_)⟩
    · refine ⟨by show 2 ≤ sizeLine; decide, fun p3 h3 => ?_⟩
      have n3 := ne_t t2 h3
      refine ⟨_, rfl, t, n2', 2, rfl, same_upd h3 _ _ t2, by decide, by decide, p3, ([("plus" : Str), "less"]).map V.str, _, _, rfl, rfl, .inl (.inl (by rw [upd_ne n3]; exact upd_same)), str_item [("plus" : Str), "less"] n2' 2 rfl (by decide), _, rfl, _, rfl, by show 3 ≤ sizeLine; decide, fun p hp => ?_⟩
      refine q _ _ (n2' / 2) _ (((b2.alloc h3).put).alloc hp) (same_upd hp _ _ upd_same) (flatD_tm (K := K) (w := ([("plus" : Str), "less"]).getD (n2' % 2).toNat "") (r := [.str x, .str y]) ?_ rfl (by show 2 ≤ 100; decide) (by show 0 ≤ 2; decide)) (.tup (.inl (.inl upd_same)) (.cons (.str _) (.cons (.str _) (.cons (.str _) .nil))))
      exact getD_mem [("plus" : Str), "less"] _ "" (fun u => u ∈ ([("name" : Str), "number", "box", "ask", "plus", "less", "again", ""] : List Str)) (by decide +kernel) (by decide +kernel)
    clear e
    refine ⟨_, rfl, rfl, _, rfl, ite2 (fun e => ?_) (fun e => ?_)⟩
    · have h0 : n2' % 3 = 0 ∨ n2' % 3 = 1 ∨ n2' % 3 = 2 := by omega
      obtain ⟨c, c1, c2, c3, c4⟩ : ∃ c, 0 ≤ n2' % 3 ∧ n2' % 3 < 2 ^ 63 ∧ n2' % 3 < (("wnc" : Str).length : Int) ∧ ("wnc" : Str).cps[(n2' % 3).toNat]? = some c := by
        rcases h0 with h | h | h <;> rw [h]
        · exact ⟨119, by decide, by decide, by decide, rfl⟩
        · exact ⟨110, by decide, by decide, by decide, rfl⟩
        · exact ⟨99, by decide, by decide, by decide, rfl⟩
      refine ⟨_, rfl, t, n2', 3, rfl, t2, by decide, by decide, _, _, c, rfl, rfl, c1, c2, c3, c4, _, rfl, _, rfl, _, rfl, by show 3 ≤ sizeLine; decide, fun p3 h3 => ?_⟩
      have t3 : (upd H2 t (.lst [.int (n2' / 3)])) t = some (.lst [.int (n2' / 3)]) := upd_same
      have n3 := ne_t t3 h3
      refine ⟨_, rfl, t, n2' / 3, 4, rfl, same_upd h3 _ _ t3, by decide, by decide, _, rfl, ?_⟩
      refine slA_use (xs := [.str x, .str y, .str z]) (Int.emod_nonneg _ (by decide)) (.inl (.inl (by rw [upd_ne n3]; exact upd_same))) fun H5 p5 s5 h5 => ⟨by show 3 ≤ sizeLine; decide, fun p hp => ?_⟩
      have b5 : But t H H5 := (((b2.put).alloc h3).put).trans (But.of s5)
      have hst : ([V.str x, V.str y, V.str z]).take (n2' / 3 % 4).toNat = ([x, y, z].take (n2' / 3 % 4).toNat).map V.str := by
        rw [List.map_take]
        rfl
      rw [hst] at h5
      refine q _ _ (n2' / 3 / 4) _ (b5.alloc hp) (same_upd hp _ _ (s5 _ _ upd_same)) (flatD_tm (K := K) (w := "box") (r := [.str ⟨#[c]⟩, .tuple (([x, y, z].take (n2' / 3 % 4).toNat).map .str)]) (by simp) ?_ (by show 2 ≤ 100; decide) (by show max 0 (max (PyData.depthAll _ + 1) 0) ≤ 2; rw [depth_strs]; decide)) (.tup (.inl (.inl upd_same)) (.cons (.str _) (.cons (.str _) (.cons (.tup (Same.seqT (same_upd hp) h5) (dpAll_strs _)) .nil))))
      show (true && (immAll _ && true)) = true
      rw [imm_strs]
      rfl
    clear e
    -- an ask
    obtain ⟨xh, h1, h2⟩ := hhd2
    have lh : xh.length = hl.length := by
      rw [dpAll_len h2, List.length_map]
    have ph : 0 < hl.length := List.length_pos_iff.mpr hhl
    obtain ⟨i, hi, e1, e2, e3⟩ := item_at xh n2' hl.length lh ph
    have bb : But t H2 (upd H2 t (.lst [.int (n2' / (hl.length : Int))])) := (But.refl t H2).put
    obtain ⟨pp, b, hpp, hvb, hb⟩ := Hds.at (dpAll_tk (bb.tk t2) (imm_hds hl) h2) (List.getElem?_eq_getElem hi)
    refine ⟨_, rfl, _, rfl, _, rfl, hd, xh, rfl, .inl (.inl (.inl h1)), t, n2', (hl.length : Int), by rw [lh]; rfl, t2, by omega, by omega, hd, xh, n2' % (hl.length : Int), .ref b, rfl, rfl, .inl (.inl (bb _ _ n2 h1)), by rw [e3, hvb], b, _, rfl, hb, rfl, _, _, rfl, _, _, rfl, rfl, ?_⟩
    have b3 := b2.trans bb
    have t3 : (upd H2 t (.lst [.int (n2' / (hl.length : Int))])) t = some (.lst [.int (n2' / (hl.length : Int))]) := upd_same
    generalize upd H2 t (.lst [.int (n2' / (hl.length : Int))]) = H3 at b3 t3 ⊢
    refine ⟨_, rfl, _, rfl, _, rfl, _, rfl, _, rfl, by show 4 ≤ sizeLine; decide, fun p4 h4 => ⟨_, rfl, _, rfl, ?_⟩⟩
    refine slA_use (xs := [.str x, .str y, .str z, .str x]) (Int.natCast_nonneg _) (.inl (.inl upd_same)) fun H5 p5 s5 h5 => ⟨by show 3 ≤ sizeLine; decide, fun p hp => ?_⟩
    have b5 : But t H H5 := (b3.alloc h4).trans (But.of s5)
    have hst : ([V.str x, V.str y, V.str z, V.str x]).take ((pp.2 : Int)).toNat = ([x, y, z, x].take ((pp.2 : Int)).toNat).map V.str := by
      rw [List.map_take]
      rfl
    rw [hst] at h5
    refine q _ _ _ _ (b5.alloc hp) (same_upd hp _ _ (s5 _ _ (same_upd h4 _ _ t3))) (flatD_tm (K := K) (w := "ask") (r := [.str pp.1, .tuple (([x, y, z, x].take ((pp.2 : Int)).toNat).map .str)]) (by simp) ?_ (by show 2 ≤ 100; decide) (by show max 0 (max (PyData.depthAll _ + 1) 0) ≤ 2; rw [depth_strs]; decide)) (.tup (.inl (.inl upd_same)) (.cons (.str _) (.cons (.str _) (.cons (.tup (Same.seqT (same_upd hp) h5) (dpAll_strs _)) .nil))))
    show (true && (immAll _ && true)) = true
    rw [imm_strs]
    rfl
end
end SP

/-! zip of a text and a list -/
namespace SP
open PySem PySem.Spec PyProof.Rows L2
/-- the signs of x beside the list at a, in new pairs -/
def Itzl (K : PySem.W.Frag) (a : Addr) (x : Str) : It where
  go := fun i H => ∃ xs v c, SqL K H a xs ∧ xs[i]? = some v ∧ x.cps[i]? = some c
  yld := fun i H v H' => ∃ T y c, v = .ref T ∧ H T = none ∧ H' = upd H T (.tup [.str ⟨#[c]⟩, y]) ∧ (∀ xs, SqL K H a xs → xs[i]? = some y) ∧ x.cps[i]? = some c
  stop := fun i H => ∃ xs, SqL K H a xs ∧ i ≤ xs.length ∧ i ≤ x.cps.size ∧ (i = xs.length ∨ i = x.cps.size)
theorem turn_text_zip {P : Program} {w : World} {K : PySem.W.Frag} {elts : List Expr} {kk : Nat} {tpos : Pos} {a z TI TO i1 i2 : Addr} {x : Str} {t : Tok} (S : ZipSep2 z TI TO i1 i2 [i1] [i2, a]) (ha : a ≠ i2) :
    Turn P w K (.Tuple elts kk tpos) (Itzl K a x) [z, TI, TO, i1, i2] z (fun i h => IsZip h z TI TO .none ∧ IsPair h TI (.ref i1) (.ref i2) ∧ (∃ p q, IsPair h TO p q) ∧ h.IsStrIter i1 (strIterType x) x t i ∧ h.IsListIter i2 a i) := by
  have five : ∀ c, c ∈ [z, TI, TO, i1, i2] → c = z ∨ c = TI ∨ c = TO ∨ c = i1 ∨ c = i2 := fun c hc => by simpa using hc
  refine ⟨by simp, ?_, ?_, ?_, ?_, fun A i s Q E st h => wpAny_pyIter_zip st.1 h⟩
  · rintro i h ⟨hz, hTI, ⟨p, q, hTO⟩, ⟨o1, e1, _, d1⟩, ⟨o2, e2, _, d2⟩⟩ c hc
    rcases five c hc with r | r | r | r | r
    · rw [r]
      exact ⟨_, hz, fun v q => nomatch q⟩
    · rw [r]
      exact ⟨_, hTI, fun v q => nomatch q⟩
    · rw [r]
      exact ⟨_, hTO, fun v q => nomatch q⟩
    · rw [r]
      exact ⟨o1, e1, fun v q => by rw [d1] at q; cases q⟩
    · rw [r]
      exact ⟨o2, e2, fun v q => by rw [d2] at q; cases q⟩
  · rintro i h h' ⟨hz, hTI, ⟨p, q, hTO⟩, h1, h2⟩ k
    exact ⟨k z (by simp) _ hz, k TI (by simp) _ hTI, ⟨p, q, k TO (by simp) _ hTO⟩, (let ⟨o, e1, e2, e3⟩ := h1; ⟨o, k i1 (by simp) o e1, e2, e3⟩), h2.at fun o e => k i2 (by simp) o e⟩
  · intro X hP hw hK hc i pins s σ H E I hf st hg
    subst hP hw hK
    obtain ⟨hz, hTI, ⟨x0, y0, hTO⟩, h1, h2⟩ := st
    obtain ⟨xs, v, c, hq, hv, hch⟩ := hg
    obtain ⟨its, rv, pl, _⟩ := I.list hq
    have hh : X.A.handled = none := I.ok.hd hc
    have lv : i < its.toArray.size := by
      have h := (List.getElem?_eq_some_iff.mp hv).1
      have := rv.length
      simp only [List.size_toArray]
      omega
    have lx : i < x.cps.size := (Array.getElem?_eq_some_iff.mp hch).1
    have zl : z < s.heap.objs.size := Heap.lt_size hz
    have D1 := Draws.text (prog := X.prog) (w := X.w) (A := X.A.in1) hh i1 x t
    have D2 := Draws.list (prog := X.prog) (w := X.w) (A := X.A.in1) hh i2 a ha its.toArray
    refine wpAny_pyNext_zipD2_item S D1 D2 hz hTI hTO h1 ⟨h2, pl.isList⟩ lx lv ?_
    intro u2 u1 h' tk g2 g1 z' TO' st2 st1 hT hsz hk
    obtain ⟨u, hu, ru⟩ := rv.get hv
    have eu : u1 = u := by
      have : its[i]? = some u1 := by simpa using g1
      rw [this] at hu
      exact Option.some.inj hu
    subst eu
    obtain ⟨c2, t2, hc2, rfl⟩ := g2
    rw [hch] at hc2
    cases hc2
    refine ⟨_, rfl, wpAny_letOwnedTupleGo_zip (s := { s with heap := h', toks := tk }) z' ?_⟩
    intro h'' z'' sb
    have hT2 : h''.get? s.heap.objs.size = some { cls := .type "tuple", data := .seq #[.str ⟨#[c]⟩ t2, u1] } := (sb.2 _ (Nat.ne_of_gt zl)).trans hT
    have new : ObjOk X.prog X.w (upd H s.heap.objs.size (.tup [.str ⟨#[c]⟩, v])) h'' s.heap.objs.size (.tup [.str ⟨#[c]⟩, v]) :=
      ⟨by show 2 ≤ sizeLine; decide, [.str ⟨#[c]⟩ t2, u1], .cons ⟨t2, rfl⟩ (.cons ru .nil), ⟨_, hT2, rfl, _, rfl⟩⟩
    have kept : ∀ d o, d ∉ [z, TI, TO, i1, i2] → s.heap.get? d = some o → h''.get? d = some o := fun d o hd e =>
      (sb.2 d (fun r => hd (by simp [r]))).trans (hk d o (fun r => hd (by simp [r])) (fun r => hd (by simp [r])) (fun r => hd (by simp [r])) (fun r => hd (by simp [r])) e)
    have I1 : Inv X pins σ (upd H s.heap.objs.size (.tup [.str ⟨#[c]⟩, v])) { s with heap := h'', toks := tk } :=
      I.turnedNew (t' := tk) (ch := [z, TI, TO, i1, i2]) kept hf (Nat.le_refl _) new
    refine ⟨.ref s.heap.objs.size, _, I1, rfl, ⟨_, v, c, rfl, I.hok.fresh (Nat.le_refl _), rfl, fun l hl => ?_, hch⟩, ⟨z'', ?_, ⟨_, _, (sb.2 _ S.TOz).trans TO'⟩, ?_, ?_⟩, fun d hd => ?_⟩
    · rw [I.list_inj hl hq]
      exact hv
    · exact (sb.2 _ S.TIz).trans (hk _ _ S.TIz S.TITO S.TIi1 S.TIi2 hTI)
    · exact (let ⟨o, e1, e2, e3⟩ := st2; ⟨o, (sb.2 _ S.zi1.symm).trans e1, e2, e3⟩)
    · exact st1.1.at fun o e => (sb.2 _ S.zi2.symm).trans e
    · have hlt : d < s.heap.objs.size := by
        rcases five d hd with r | r | r | r | r
        · rw [r]
          exact zl
        · rw [r]
          exact Heap.lt_size hTI
        · rw [r]
          exact Heap.lt_size hTO
        · rw [r]
          obtain ⟨_, e1, _⟩ := h1
          exact Heap.lt_size e1
        · rw [r]
          obtain ⟨_, e2, _⟩ := h2
          exact Heap.lt_size e2
      rw [upd_ne (Nat.ne_of_lt hlt)]
      exact (hf d hd).1
  · intro X hP hw hK hc i pins s σ H E I hf st hg
    subst hP hw hK
    obtain ⟨hz, hTI, ⟨x0, y0, hTO⟩, h1, h2⟩ := st
    obtain ⟨xs, hq, l1, l2, hend⟩ := hg
    obtain ⟨its, rv, pl, _⟩ := I.list hq
    have hh : X.A.handled = none := I.ok.hd hc
    have lr := rv.length
    have D1 := Draws.text (prog := X.prog) (w := X.w) (A := X.A.in1) hh i1 x t
    have D2 := Draws.list (prog := X.prog) (w := X.w) (A := X.A.in1) hh i2 a ha its.toArray
    refine wpAny_pyNext_zipD2_end S D1 D2 hz hTI hTO h1 ⟨h2, pl.isList⟩ l2 (by simp only [List.size_toArray]; omega) (by simp only [List.size_toArray]; omega) ?_
    intro h' tk hk
    exact ⟨rfl, I.turnedL (t' := tk) (ch := [z, TI, TO, i1, i2]) (fun d o hd e => hk d o (fun r => hd (by simp [r])) (fun r => hd (by simp [r])) (fun r => hd (by simp [r])) (fun r => hd (by simp [r])) e) hf⟩
def iTZip (K : PySem.W.Frag) (ta : TA) : TI := fun σ H R => ta σ H fun vs H1 => ∃ a x xs, vs = [.str x, .ref a] ∧ SqL K H1 a xs ∧ R (Itzl K a x) H1
theorem pi_textZip {X : Cx} {e e2 : Expr} {ta : TA} {p pos tpos : Pos} {elts : List Expr} {kk : Nat} (hg : Gl X "zip") (hm : X.mg "zip" = none) (ha : PA X [e, e2] ta)
    (hs : starEach [e, e2] X.env = (false, eval e X.env) :: starEach [e2] X.env := by rfl) (hpl : (backTo pos (starEach [e2] X.env)).any (·.1) = false := by rfl) : PI X (.Tuple elts kk tpos) (.Call (.Name "zip" p) [e, e2] [] pos) (iTZip X.K ta) := by
  refine ⟨fun pins s σ H R I h => ?_⟩
  refine Call_ (ld_blt I hg hm PyProof.Rows.boot_zip (PyProof.Rows.callWith_type1 (thn (ha.run pos pins s σ H _ I h) fun us s1 ⟨vs, H1, I1, r1, q1⟩ => ?_) hs hpl))
  obtain ⟨a, x, xs, rfl, hq, q⟩ := q1
  obtain ⟨u1, u2, rfl, ⟨t, rfl⟩, ra⟩ := vals2 r1
  cases ra
  obtain ⟨its, rv, pl, _⟩ := I1.list hq
  have la : a < s1.heap.objs.size := pl.lt
  refine zip_begins2 (begins_text x t) (begins_list a its.toArray) trivial pl.isList ?_
  intro h' hz hTI hTO g1 g2 hsz hk
  refine wpAny_pyIter_zip hz ?_
  have I2 : Inv X pins σ H1 { s1 with heap := h' } := I1.kept (t' := s1.toks) hk
  have S : ZipSep2 (s1.heap.objs.size + 4) (s1.heap.objs.size + 2) (s1.heap.objs.size + 3) s1.heap.objs.size (s1.heap.objs.size + 1) [s1.heap.objs.size] [s1.heap.objs.size + 1, a] := zip_sep2 (fp1 := []) (fp2 := [a]) (fun b hb => nomatch hb) (fun b hb => by rw [List.mem_singleton.mp hb]; exact la)
  refine ⟨s1.heap.objs.size + 4, [s1.heap.objs.size + 4, s1.heap.objs.size + 2, s1.heap.objs.size + 3, s1.heap.objs.size, s1.heap.objs.size + 1], _, _, H1, rfl, I2, turn_text_zip (t := t) S (Nat.ne_of_lt (Nat.lt_succ_of_lt la)), ⟨hz, hTI, ⟨_, _, hTO⟩, ⟨_, g1, rfl, rfl⟩, ⟨_, g2, rfl, rfl⟩⟩, fun c hc => ?_, q⟩
  have hle : s1.heap.objs.size ≤ c := by
    have : c = s1.heap.objs.size + 4 ∨ c = s1.heap.objs.size + 2 ∨ c = s1.heap.objs.size + 3 ∨ c = s1.heap.objs.size ∨ c = s1.heap.objs.size + 1 := by simpa using hc
    rcases this with r | r | r | r | r <;> rw [r] <;> first | exact Nat.le_add_right _ _ | exact Nat.le_refl _
  exact I1.fpOk hle (I1.hok.fresh hle)
theorem walk_text_zip {K : PySem.W.Frag} {a : Addr} {x : Str} {xs : List V} {n : Nat} (hn : n = min xs.length x.cps.size) : Walk (Itzl K a x) n (fun H => SqL K H a xs) (YPair (fun i => x.cps[i]?.map fun c => V.str ⟨#[c]⟩) (fun i => xs[i]?)) := by
  subst hn
  refine ⟨fun i H hi q => ?_, fun H q => ⟨xs, q, by omega, by omega, by omega⟩, fun i H v H' hi q y => ?_⟩
  · have h1 : i < xs.length := by omega
    have h2 : i < x.cps.size := by omega
    exact ⟨xs, xs[i], x.cps[i], q, by simp [h1], by simp [h2]⟩
  · obtain ⟨T, y1, c, e1, e2, e3, e4, e5⟩ := y
    exact ⟨T, .str ⟨#[c]⟩, y1, e1, e2, e3, by show Option.map _ x.cps[i]? = _; rw [e5]; rfl, e4 xs q⟩
end SP

namespace SP
open PySem PySem.Spec PyProof.Rows L2
open C8 (pss_cut tCut)
structure SG (K : PySem.W.Frag) (H : Hp) (t hd lw : Addr) (n : Int) (rs : List Str) (hl : List (Str × Nat)) : Prop where
  ht : H t = some (.lst [.int n])
  hw : H lw = some (.lst (rs.reverse.map V.str))
  hh : Hds K H hd hl
  h1 : hd ≠ t
  h2 : hd ≠ lw
  tl : t ≠ lw
section
variable {K : PySem.W.Frag} {H H' : Hp} {t hd lw : Addr} {n n' : Int} {rs rs' : List Str} {hl : List (Str × Nat)}
theorem SG.tk (g : SG K H t hd lw n rs hl) (s : Kp (Two t lw) H H') : Tk H H' := s.tk fun b h => by
  rcases h with rfl | rfl
  · exact ⟨_, g.ht, rfl⟩
  · exact ⟨_, g.hw, rfl⟩
theorem SG.kp (g : SG K H t hd lw n rs hl) (s : Kp (Two t lw) H H') (ht : H' t = some (.lst [.int n'])) (hw : H' lw = some (.lst (rs'.reverse.map V.str))) : SG K H' t hd lw n' rs' hl :=
  ⟨ht, hw, g.hh.kp s (g.tk s) (fun z => z.elim g.h1 g.h2), g.h1, g.h2, g.tl⟩
theorem SG.but (g : SG K H t hd lw n rs hl) (s : But t H H') (ht : H' t = some (.lst [.int n'])) : SG K H' t hd lw n' rs hl := g.kp (Kp.but s (.inl rfl)) ht (s _ _ g.tl.symm g.hw)
theorem SG.put (g : SG K H t hd lw n rs hl) : SG K (upd H t (.lst [.int n'])) t hd lw n' rs hl := g.but (But.refl t H).put upd_same
theorem SG.side {F : Addr} {o : HO} {fv : List V} (g : SG K H t hd lw n rs hl) (h : H F = some (.lst fv)) (f1 : F ≠ t) (f2 : F ≠ lw) (f3 : F ≠ hd) : SG K (upd H F o) t hd lw n rs hl := by
  obtain ⟨xs, x1, x2⟩ := g.hh
  exact ⟨by rw [upd_ne f1.symm]; exact g.ht, by rw [upd_ne f2.symm]; exact g.hw, ⟨xs, by rw [upd_ne f3.symm]; exact x1, dpAll_tk (tk_put h) (imm_hds hl) x2⟩, g.h1, g.h2, g.tl⟩
theorem SG.ne (g : SG K H t hd lw n rs hl) {F : Addr} (h : H F = none) : F ≠ t ∧ F ≠ lw ∧ F ≠ hd := by
  obtain ⟨xs, x1, x2⟩ := g.hh
  exact ⟨ne_t g.ht h, ne_t g.hw h, ne_t x1 h⟩
theorem SG.same (g : SG K H t hd lw n rs hl) (s : Same H H') : SG K H' t hd lw n rs hl := g.kp (Kp.of s) (s _ _ g.ht) (s _ _ g.hw)
end
def CaseD (n d : Nat) (x : PyData) : Prop := ∃ (w : Str) (ys : List Str) (tm : Tm), okP tm ∧ ys.length ≤ 100 ∧ x = .tuple [.str w, .tuple (ys.map .str), toD tm] ∧ sz tm ≤ n ∧ dpt tm ≤ d
def csApp : Cs → Cs → Cs
  | .nil, c => c
  | .cons w ys t c, e => .cons w ys t (csApp c e)
theorem cases_snoc {n n' d m : Nat} {l : List PyData} {x : PyData} (h : CasesD n d m l) (hx : CaseD n' d x) : CasesD (n + n') d (m + 1) (l ++ [x]) := by
  obtain ⟨c, o, e, s, dd, mm⟩ := h
  obtain ⟨w, ys, tm, ok, ly, rfl, sx, dx⟩ := hx
  have key : ∀ c : Cs, okQ c → okQ (csApp c (.cons w ys tm .nil)) ∧ csD (csApp c (.cons w ys tm .nil)) = csD c ++ [.tuple [.str w, .tuple (ys.map .str), toD tm]] ∧ szC (csApp c (.cons w ys tm .nil)) = szC c + sz tm ∧ dptC (csApp c (.cons w ys tm .nil)) = max (dptC c) (dpt tm) ∧ (csT (csApp c (.cons w ys tm .nil))).length = (csT c).length + 1 := by
    intro c
    induction c using csT.induct with
    | case1 =>
      intro _
      refine ⟨?_, ?_, ?_, ?_, ?_⟩
      · rw [csApp]
        exact ⟨by rw [okC, okC]; exact ⟨ly, ok.1, trivial⟩, by rw [plainC, plainC]; exact ⟨ok.2, trivial⟩⟩
      · rw [csApp, csD, csD]
        rfl
      · simp only [csApp, szC]
        omega
      · simp only [csApp, dptC]
        omega
      · rfl
    | case2 w' ys' t' c ih =>
      rintro ⟨h, hp⟩
      rw [okC] at h
      rw [plainC] at hp
      obtain ⟨i1, i2, i3, i4, i5⟩ := ih ⟨h.2.2, hp.2⟩
      refine ⟨?_, ?_, ?_, ?_, ?_⟩
      · rw [csApp]
        exact ⟨by rw [okC]; exact ⟨h.1, h.2.1, i1.1⟩, by rw [plainC]; exact ⟨hp.1, i1.2⟩⟩
      · rw [csApp, csD, csD, i2]
        rfl
      · simp only [csApp, szC, i3]
        omega
      · simp only [csApp, dptC, i4]
        omega
      · rw [csApp, csT, csT, List.length_cons, List.length_cons, i5]
  obtain ⟨i1, i2, i3, i4, i5⟩ := key c o
  exact ⟨_, i1, by rw [i2, e], by omega, by omega, by omega⟩
theorem cases_nil (d : Nat) : CasesD 0 d 0 [] := ⟨.nil, ⟨by rw [okC]; trivial, by rw [plainC]; trivial⟩, by rw [csD], by rw [szC]; exact Nat.le_refl _, by rw [dptC]; exact Nat.zero_le _, Nat.le_refl _⟩
theorem cases_imm {n d m : Nat} {l : List PyData} (h : CasesD n d m l) : immAll l = true := by
  obtain ⟨c, o, rfl, _⟩ := h
  exact imm_csD c o.1
theorem term_imm {n d : Nat} {x : PyData} (h : TermD n d x) : imm x = true := by
  obtain ⟨tm, o, rfl, _⟩ := h
  exact imm_toD tm o.1
theorem at_last {xs : List V} {y : V} : atI (xs ++ [y]) (-1) = some y := by
  unfold atI ixN
  rw [if_neg (by decide), if_pos (by rw [List.length_append]; simp only [List.length_singleton]; omega)]
  show (xs ++ [y])[(-1 + ((xs ++ [y]).length : Int)).toNat]? = some y
  rw [show (-1 + ((xs ++ [y]).length : Int)).toNat = xs.length by rw [List.length_append]; simp only [List.length_singleton]; omega, List.getElem?_append_right (Nat.le_refl _), Nat.sub_self]
  rfl
def orderL : List Str := ["wn", "nw", "cw", "nc", "n", "w", "cwn", "nvcw", "wvn", "vcnw"]
section
variable {P : Program} {w : World} {K : PySem.W.Frag} {mg : Str → Option Value} {base : Heap}
def spSt (K : PySem.W.Frag) (d : Nat) : Sp := fun vs H Q _ => ∃ (t hd ar lw : Addr) (n : Int) (ws rs : List Str) (hl : List (Str × Nat)) (room : Nat), vs = [.ref t, .ref hd, .ref ar, .ref lw, .int (room : Int), .int (d : Int)] ∧ SG K H t hd lw n rs hl ∧ H ar = some (.lst (ws.map V.str)) ∧ ar ≠ t ∧ ar ≠ lw ∧
  ws ≠ [] ∧ ws.length + 10 * d ≤ 400 ∧ hl ≠ [] ∧ hl.length ≤ 500 ∧ 1 ≤ room ∧ room ≤ 1000 ∧
  ∀ (H' : Hp) (v : V) (n' : Int) (rs' : List Str) (x : PyData), Kp (Two t lw) H H' → H' t = some (.lst [.int n']) → H' lw = some (.lst (rs'.reverse.map V.str)) → TermD room (d + 1) x → Dp K H' v x → Q v H'
abbrev spStS (K : PySem.W.Frag) (d : Nat) : Sp := spSt K (d + 1)
theorem ok_law_simple_term {f : Addr} {fd : FuncData} (F : Fun K "_law_simple_term" "_law_simple_term" s_law_simple_term f fd) (T : Txt mg) (d : Nat) (C_law_digit : Callee P w K mg base "_law_digit" ["tape", "many"] 1 (spDigit K)) (C_law_shares : Callee P w K mg base "_law_shares" ["tape", "room", "many"] 2 (spShares K)) (C_law_simple_leaf : Callee P w K mg base "_law_simple_leaf" ["tape", "around", "heads"] 3 (spSleaf K)) (C_law_simple_term : Callee P w K mg base "_law_simple_term" ["tape", "heads", "around", "words", "room", "deep"] (d + 4) (spSt K d)) : FnOk P w K mg base CX0 (d + 5) f fd ["tape", "heads", "around", "words", "room", "deep"] (spStS K d) := by
  refine F.ok sc_law_simple_term (fun vs H Q E h => ?_) (fun cdv A outer s H vs Q E hr h => ?_)
  · obtain ⟨t, hd, ar, lw, n, ws, rs, hl, room, rfl, _⟩ := h
    rfl
  · obtain ⟨t, hd, ar, lw, n, ws, rs, hl, room, rfl, g, har, a1, a2, hws, lws, hhl, lhl, hr1, hr2, q⟩ := h
    refine ⟨_, (pss_cons (ps_set (i := 6) sc_law_simple_term.nd rfl (Or.inl rfl) (pe_fn (hk := by omega) C_law_digit hr (by rfl) (pa_cons (pv 0) (pa_cons pe_int pa_nil))))
      (pss_cons (ps_if (PW.pt (pw_or (pt_cmpR op_lt (pv 4) pe_int (nomark _)) (pw_or (pt_cmpR op_eq (pv 5) pe_int (nomark _)) (pw_or (pt_cmpR op_eq (pv 6) pe_int (nomark _)) (pw_or1 (pt_cmpR op_lt (pe_callB (r := rLenS K) call_lenS (by rfl) T.n_len (by decide +kernel) (pa_cons (pv 3) pa_nil)) pe_int (nomark _))))))) (pss_one (ps_ret (pe_fn (hk := by omega) C_law_simple_leaf hr (by rfl) (pa_cons (pv 0) (pa_cons (pv 2) (pa_cons (pv 1) pa_nil)))))) pss_nil)
      (pss_cons (ps_asg (pe_fn (hk := by omega) C_law_shares hr (by rfl) (pa_cons (pv 0) (pa_cons (pe_op op_sub (pv 4) pe_int) (pa_cons pe_int pa_nil)))) (pg_unl rfl (pgs_cons (pg_name (i := 7) sc_law_simple_term.nd rfl (Or.inl rfl)) (pgs_cons (pg_name (i := 8) sc_law_simple_term.nd rfl (Or.inl rfl)) pgs_nil))))
      (pss_cons (ps_set (i := 9) sc_law_simple_term.nd rfl (Or.inl rfl) (pe_ix (r := rIxL K) ix_list (pv 2) (pe_fn (hk := by omega) C_law_digit hr (by rfl) (pa_cons (pv 0) (pa_cons (pe_callB (r := rLenS K) call_lenS (by rfl) T.n_len (by decide +kernel) (pa_cons (pv 2) pa_nil)) pa_nil))) (fun _ _ => rfl)))
      (pss_cons (ps_if (pt_cmpR op_lt (pv 6) pe_int (nomark _)) (pss_cons (ps_set (i := 10) sc_law_simple_term.nd rfl (Or.inl rfl) (pe_callTy (r := rListS K) call_listS (by rfl) T.n_list (by decide +kernel) (pa_cons (pv 2) pa_nil)))
      (pss_cons (ps_set (i := 11) sc_law_simple_term.nd rfl (Or.inl rfl) (pe_fn (hk := by omega) C_law_simple_term hr (by rfl) (pa_cons (pv 0) (pa_cons (pv 1) (pa_cons (pv 2) (pa_cons (pv 3) (pa_cons (pv 7) (pa_cons (pe_op op_sub (pv 5) pe_int) pa_nil))))))))
      (pss_cons (ps_if (PW.pt (pw_and (pt_cmpR op_lt (pv 6) pe_int (nomark _)) (pw_and1 (pt_cmpR (r := rNeP K 1) (op_neP (m := 1) (hu_of hr)) (pv 3) (pe_lst pa_nil) (nomark _))))) (pss_cons (ps_expr (pe_bm PySem.F.plainAttrs_list PySem.F.slot_list_append PySem.F.type_list_append mt_append (pv 10) (pa_cons (pe_bm0 PySem.F.plainAttrs_list PySem.F.slot_list_pop PySem.F.type_list_pop mt_pop (pv 3)) pa_nil)))
      (pss_cons (ps_set (i := 12) sc_law_simple_term.nd rfl (Or.inl rfl) (pe_fn (hk := by omega) C_law_simple_term hr (by rfl) (pa_cons (pv 0) (pa_cons (pv 1) (pa_cons (pv 10) (pa_cons (pv 3) (pa_cons (pv 8) (pa_cons (pe_op op_sub (pv 5) pe_int) pa_nil))))))))
      (pss_one (ps_ret (pe_tup (pa_cons pe_str (pa_cons (pe_ix (r := rIxL K) ix_list (pv 10) (pe_un un_neg pe_int) (fun _ _ => rfl)) (pa_cons (pv 11) (pa_cons (pv 12) pa_nil))))))))) pss_nil)
      (pss_cons (ps_set (i := 12) sc_law_simple_term.nd rfl (Or.inl rfl) (pe_fn (hk := by omega) C_law_simple_term hr (by rfl) (pa_cons (pv 0) (pa_cons (pv 1) (pa_cons (pv 2) (pa_cons (pv 3) (pa_cons (pv 8) (pa_cons (pe_op op_sub (pv 5) pe_int) pa_nil))))))))
      (pss_one (ps_ret (pe_tup (pa_cons pe_str (pa_cons (pv 9) (pa_cons (pv 11) (pa_cons (pv 12) pa_nil))))))))))) pss_nil)
      (pss_cons (ps_set (i := 13) sc_law_simple_term.nd rfl (Or.inl rfl) (pe_lst pa_nil))
      (pss_cons (ps_set (i := 14) sc_law_simple_term.nd rfl (Or.inl rfl) (pe_ix (r := rIxL K) ix_list (pe_lst (pa_cons pe_str (pa_cons pe_str (pa_cons pe_str (pa_cons pe_str (pa_cons pe_str (pa_cons pe_str (pa_cons pe_str (pa_cons pe_str (pa_cons pe_str (pa_cons pe_str pa_nil))))))))))) (pe_fn (hk := by omega) C_law_digit hr (by rfl) (pa_cons (pv 0) (pa_cons pe_int pa_nil))) (fun _ _ => rfl)))
      (pss_cons (ps_set (i := 14) sc_law_simple_term.nd rfl (Or.inl rfl) (pe_slice (r := rSlS) sl_str (pv 14) po_none (po_some (pe_op op_sub (pv 4) pe_int))))
      (pss_cons (ps_for PassesOwn.never rfl (pi_textZip (by rfl) T.n_zip (pa_cons (pv 14) (pa_cons (pe_fn (hk := by omega) C_law_shares hr (by rfl) (pa_cons (pv 0) (pa_cons (pe_op op_sub (pv 4) pe_int) (pa_cons (pe_callB call_len_str (by rfl) T.n_len (by decide +kernel) (pa_cons (pv 14) pa_nil)) pa_nil)))) pa_nil))) (pg_tup rfl (pgs_cons (pg_name (i := 15) sc_law_simple_term.nd rfl (Or.inl rfl)) (pgs_cons (pg_name (i := 16) sc_law_simple_term.nd rfl (Or.inl rfl)) pgs_nil)))
      (pss_cons (ps_set (i := 17) sc_law_simple_term.nd rfl (Or.inl rfl) (pe_callB (call_min2 rfl) (by rfl) T.n_min (by decide +kernel) (pa_cons (pe_callB (r := rLenS K) call_lenS (by rfl) T.n_len (by decide +kernel) (pa_cons (pv 3) pa_nil)) (pa_cons (pe_fn (hk := by omega) C_law_digit hr (by rfl) (pa_cons (pv 0) (pa_cons pe_int pa_nil))) pa_nil))))
      (pss_cons (ps_setLc (i := 18) (own := [("k", 20)]) (g := gName 20) (tt := tYes) (te := tBM0 K "list" rPop (tVar 3)) rfl sc_law_simple_term.nd rfl rfl (sw_true rfl rfl rfl (by decide +kernel)) (pi_range1 rfl T.n_range (pa_cons (pv 17) pa_nil)) (blkOk_by (own := [("k", 20)]) (N := ["tape", "heads", "around", "words", "room", "deep", "way", "one", "two", "x", "more", "first", "second", "cases", "order", "w", "share", "many", "ys", "part", "k"]) (sc := defScope s_law_simple_term) (by decide +kernel)) (fun _ _ _ _ _ => (pg_name (i := 20) sc_law_simple_term.nd rfl (Or.inl rfl))) (fun _ _ _ _ _ => pts_nil) (fun _ _ _ _ _ => (pe_bm0 PySem.F.plainAttrs_list PySem.F.slot_list_pop PySem.F.type_list_pop mt_pop (pv 3))))
      (pss_cons (ps_set (i := 10) sc_law_simple_term.nd rfl (Or.inl rfl) (pe_op op_cat (pv 2) (pv 18)))
      (pss_cons (ps_set (i := 19) sc_law_simple_term.nd rfl (Or.inl rfl) (pe_fn (hk := by omega) C_law_simple_term hr (by rfl) (pa_cons (pv 0) (pa_cons (pv 1) (pa_cons (pv 10) (pa_cons (pv 3) (pa_cons (pv 16) (pa_cons (pe_op op_sub (pv 5) pe_int) pa_nil))))))))
      (pss_one (ps_expr (pe_bm PySem.F.plainAttrs_list PySem.F.slot_list_append PySem.F.type_list_append mt_append (pv 13) (pa_cons (pe_tup (pa_cons (pv 15) (pa_cons (pe_callTy (r := rTupleS K) call_tupleS (by rfl) T.n_tuple (by decide +kernel) (pa_cons (pv 18) pa_nil)) (pa_cons (pv 19) pa_nil)))) pa_nil)))))))))
      (pss_one (ps_ret (pe_tup (pa_cons pe_str (pa_cons (pv 9) (pa_cons (pe_callTy (r := rTupleS K) call_tupleS (by rfl) T.n_tuple (by decide +kernel) (pa_cons (pv 13) pa_nil)) pa_nil))))))))))))))), ?_⟩
    -- way
    refine ⟨_, rfl, t, n, 8, rfl, g.ht, by decide, by decide, ?_⟩
    have k1 : Kp (Two t lw) H (upd H t (.lst [.int (n / 8)])) := (Kp.refl _ H).put (.inl rfl)
    have g1 : SG K (upd H t (.lst [.int (n / 8)])) t hd lw (n / 8) rs hl := g.put
    have har1 := k1 _ _ (fun z => z.elim a1 a2) har
    generalize upd H t (.lst [.int (n / 8)]) = H1 at k1 g1 har1 ⊢
    generalize n % 8 = way
    generalize n / 8 = m1 at g1
    have hleaf : ∀ (E : XK), spSleaf K [.ref t, .ref ar, .ref hd] H1 Q E := fun E =>
      ⟨t, ar, hd, m1, ws, hl, rfl, g1.ht, har1, g1.hh, a1, g1.h1, hws, by omega, hhl, lhl, fun H' v n' x b t' tm dp => q H' v n' rs x (k1.trans (Kp.but b (.inl rfl))) t' (b _ _ g1.tl.symm g1.hw) (tm.mono hr1 (by omega)) dp⟩
    refine ⟨_, rfl, _, _, rfl, rfl, _, rfl, ite2 (fun e => ?_) (fun e => ?_)⟩
    · exact ⟨_, rfl, _, rfl, _, rfl, hleaf E⟩
    have c0 : ¬ room < 3 := fun z => e (decide_eq_true (by omega))
    have c1 : 3 ≤ room := by omega
    clear e
    refine ⟨_, rfl, rfl, _, rfl, ite2 (fun e => ?_) (fun e => ?_)⟩
    · exact absurd (int_eq_of e) (by omega)
    clear e
    refine ⟨_, rfl, rfl, _, rfl, ite2 (fun e => ?_) (fun e => ?_)⟩
    · exact ⟨_, rfl, _, rfl, _, rfl, hleaf E⟩
    clear e
    refine ⟨_, rfl, lw, _, rfl, .inl (.inl (.inl g1.hw)), _, _, rfl, rfl, _, rfl, ite2 (fun e => ?_) (fun e => ?_)⟩
    · exact ⟨_, rfl, _, rfl, _, rfl, hleaf E⟩
    clear e hleaf
    have ed : ((d + 1 : Nat) : Int) - 1 = (d : Int) := by omega
    have pw : 0 < ws.length := List.length_pos_iff.mpr hws
    -- one, two
    refine ⟨_, rfl, _, rfl, _, _, rfl, rfl, t, m1, room - 1 - 2, 2, ?_, g1.ht, by omega, fun H5 l5 k5 t5 hl5 d5 => ?_⟩
    · show [V.ref t, V.int ((room : Int) - 1), V.int 2] = [V.ref t, V.int ((room - 1 - 2 + 2 : Nat) : Int), V.int ((2 : Nat) : Int)]
      rw [show ((room - 1 - 2 + 2 : Nat) : Int) = (room : Int) - 1 by omega]
      rfl
    have hpos := shares_pos 2 m1 (room - 1 - 2)
    have hsum := shares_sum 2 m1 (room - 1 - 2)
    have hlen := shares_len 2 m1 (room - 1 - 2)
    generalize sharesF m1 (room - 1 - 2) 2 = shs at t5 d5 hpos hsum hlen
    obtain ⟨sh1, m5⟩ := shs
    obtain ⟨one, two, rfl⟩ : ∃ a b, sh1 = [a, b] := by
      match sh1, hlen with
      | [a, b], _ => exact ⟨a, b, rfl⟩
    have ho1 := hpos one (by simp)
    have ho2 := hpos two (by simp)
    have hsum' : one + (two + 0) ≤ room - 1 - 2 + 2 := hsum
    clear hsum hlen hpos
    have k5' := k1.trans (Kp.but k5 (.inl rfl))
    have g5 := g1.but k5 t5
    change SG K H5 t hd lw m5 rs hl at g5
    have har5 := k5 _ _ a1 har1
    clear k1 g1 har1 t5 k5
    refine ⟨l5, _, rfl, .inl (.inl d5), rfl, _, _, rfl, _, _, rfl, rfl, ?_⟩
    clear d5 hl5
    -- x
    refine ⟨_, rfl, _, rfl, _, rfl, ar, _, rfl, .inl (.inl (.inl har5)), t, m5, (ws.length : Int), by rw [List.length_map]; rfl, g5.ht, by omega, by omega, ar, ws.map V.str, _, _, rfl, rfl, .inl (.inl (by rw [upd_ne a1]; exact har5)), str_item ws m5 ws.length rfl pw, ?_⟩
    generalize ws.getD (m5 % (ws.length : Int)).toNat "" = x
    have k6 : Kp (Two t lw) H (upd H5 t (.lst [.int (m5 / (ws.length : Int))])) := k5'.put (.inl rfl)
    have g6 : SG K (upd H5 t (.lst [.int (m5 / (ws.length : Int))])) t hd lw (m5 / (ws.length : Int)) rs hl := g5.put
    have har6 : (upd H5 t (.lst [.int (m5 / (ws.length : Int))])) ar = some (.lst (ws.map V.str)) := by
      rw [upd_ne a1]
      exact har5
    change tNext _ _ (upd H5 t (.lst [.int (m5 / (ws.length : Int))]))
    generalize upd H5 t (.lst [.int (m5 / (ws.length : Int))]) = H6 at k6 g6 har6 ⊢
    generalize m5 / (ws.length : Int) = m6 at g6
    clear k5' g5 har5
    refine ⟨_, rfl, _, _, rfl, rfl, _, rfl, ite2 (fun e => ?_) (fun e => ?_)⟩
    · -- let or zero
      refine ⟨_, rfl, ar, _, rfl, .inl (.inl (.inl har6)), fun l7 h7 => ?_⟩
      have s7 := same_upd (o := HO.lst (ws.map V.str)) h7
      have k7 := k6.trans (Kp.of s7)
      have g7 := g6.same s7
      have har7 := s7 _ _ har6
      have l7t := ne_t g6.ht h7
      have l7w := ne_t g6.hw h7
      have l7h := (g6.ne h7).2.2
      have l7a : l7 ≠ ar := ne_t har6 h7
      have l7H : H l7 = none := by
        cases e0 : H l7 with
        | none => rfl
        | some o =>
          rw [k6 _ _ (fun z => z.elim l7t l7w) e0] at h7
          cases h7
      have d7 : (upd H6 l7 (.lst (ws.map V.str))) l7 = some (.lst (ws.map V.str)) := upd_same
      change tNext _ _ (upd H6 l7 (.lst (ws.map V.str)))
      generalize upd H6 l7 (.lst (ws.map V.str)) = H7 at k7 g7 har7 d7 ⊢
      clear k6 g6 har6 s7 h7
      refine ⟨_, rfl, _, rfl, _, rfl, _, rfl, _, rfl, _, rfl, _, _, rfl, rfl, t, hd, ar, lw, m6, ws, rs, hl, one, ?_, g7, har7, a1, a2, hws, by omega, hhl, lhl, ho1, by omega, fun H8 v8 n8 rs8 x8 k8 t8 w8 tm8 dp8 => ?_⟩
      · rw [← ed]
        rfl
      have k8' := k7.trans k8
      have g8 := g7.kp k8 t8 w8
      have har8 := k8 _ _ (fun z => z.elim a1 a2) har7
      have d8 := k8 _ _ (fun z => z.elim l7t l7w) d7
      clear k7 g7 har7 d7 k8 t8 w8
      have hcond : ∀ (Qb : Bool → Hp → Prop), (∀ H9 (b : Bool), Same H8 H9 → (b = true → rs8 ≠ []) → Qb b H9) → tAnd (tTest (tOp (rI0 fun i j => V.bl (decide (i < j))) (tVar 6) (tC (V.int 4)))) (tTest (tOp (rNeP K 1) (tVar 3) (tLst tNil)))
          [some (.ref t), some (.ref hd), some (.ref ar), some (.ref lw), some (.int (room : Int)), some (.int ((d + 1 : Nat) : Int)), some (.int way), some (.int (one : Int)), some (.int (two : Int)), some (.str x), some (.ref l7), some v8, none, none, none, none, none, none, none, none, none] H8 Qb := fun Qb hq => by
        refine ⟨_, rfl, _, _, rfl, rfl, _, rfl, ?_⟩
        by_cases h1 : way < 4
        · refine ite_T (decide_eq_true h1) ?_
          refine ⟨_, rfl, by show 0 ≤ sizeLine; decide, fun p hp => ?_⟩
          refine ⟨.list (rs8.reverse.map .str), .list [], .lst (.inl (.inl (same_upd hp _ _ g8.hw))) (dpAll_strs rs8.reverse), .lst (.inl (.inl upd_same)) .nil, plain_strs rs8.reverse, rfl, ?_, _, rfl, ?_⟩
          · show min _ (PyData.depthAll [] + 1) ≤ 1
            exact Nat.min_le_right _ _
          rw [eqv_strs_nil]
          refine hq _ _ (same_upd (o := HO.lst []) hp) fun hb z => ?_
          subst z
          exact absurd hb (by decide)
        · refine ite_F (decide_eq_false h1) ?_
          exact hq _ _ (Same.refl _) fun hb => absurd hb (by decide)
      refine hcond _ fun H9 bb s9 hbb => ?_
      have k9 := k8'.trans (Kp.of s9)
      have g9 := g8.same s9
      have har9 := s9 _ _ har8
      have d9 := s9 _ _ d8
      have dp9 := dp_mono s9 dp8
      have im8 := term_imm tm8
      clear k8' g8 har8 d8 dp8 s9 hcond
      refine ite2 (fun e2 => ?_) (fun e2 => ?_)
      · have hne := hbb e2
        obtain ⟨y, r, rfl⟩ : ∃ y r, rs8 = y :: r := by
          cases rs8 with
          | nil => exact absurd rfl hne
          | cons y r => exact ⟨y, r, rfl⟩
        refine ⟨_, rfl, .inl ⟨rfl, _, .inl (.inl d9)⟩, _, rfl, .inl ⟨rfl, _, .inl (.inl g9.hw)⟩, lw, _, _, rfl, rfl, g9.hw, rev_last, ?_⟩
        rw [rev_drop]
        have k10 : Kp (Two t lw) H9 (upd H9 lw (.lst (r.reverse.map V.str))) := (Kp.refl _ H9).put (.inr rfl)
        have g10 : SG K (upd H9 lw (.lst (r.reverse.map V.str))) t hd lw n8 r hl := g9.kp k10 (by rw [upd_ne g9.tl]; exact g9.ht) upd_same
        have d10 := k10 _ _ (fun z => z.elim l7t l7w) d9
        have dp10 := dp_tk (g9.tk k10) im8 dp9
        have k10' := k9.trans k10
        refine ⟨l7, _, _, rfl, rfl, d10, small1000 (by rw [List.length_map]; omega), ?_⟩
        have har10 := k10 _ _ (fun z => z.elim a1 a2) har9
        have k11 : Kp (Two t lw) H (upd (upd H9 lw (.lst (r.reverse.map V.str))) l7 (.lst (ws.map V.str ++ [.str y]))) := fun b o hb e' => by
          rw [upd_ne (ne_of_none e' l7H)]
          exact k10' b o hb e'
        have g11 := g10.side (o := .lst (ws.map V.str ++ [.str y])) d10 l7t l7w l7h
        have d11 : (upd (upd H9 lw (.lst (r.reverse.map V.str))) l7 (.lst (ws.map V.str ++ [.str y]))) l7 = some (.lst ((ws ++ [y]).map V.str)) := by
          rw [upd_same, List.map_append]
          rfl
        have dp11 := dp_tk (tk_put (o := .lst (ws.map V.str ++ [.str y])) d10) im8 dp10
        change Ends.nx _ _ (upd (upd H9 lw (.lst (r.reverse.map V.str))) l7 (.lst (ws.map V.str ++ [.str y])))
        generalize upd (upd H9 lw (.lst (r.reverse.map V.str))) l7 (.lst (ws.map V.str ++ [.str y])) = H11 at k11 g11 d11 dp11 ⊢
        clear k9 g9 har9 d9 dp9 k10 g10 d10 dp10 k10'
        refine ⟨_, rfl, _, rfl, _, rfl, _, rfl, _, rfl, _, rfl, _, _, rfl, rfl, t, hd, l7, lw, n8, ws ++ [y], r, hl, two, ?_, g11, d11, l7t, l7w, by simp, by rw [List.length_append]; show ws.length + 1 + 10 * d ≤ 400; omega, hhl, lhl, ho2, by omega, fun H12 v12 n12 rs12 x12 k12 t12 w12 tm12 dp12 => ?_⟩
        · rw [← ed]
          rfl
        have d12 := k12 _ _ (fun z => z.elim l7t l7w) d11
        have dpf := dp_tk (g11.tk k12) im8 dp11
        refine ⟨_, rfl, _, rfl, l7, _, -1, .str y, rfl, rfl, .inl (.inl d12), by rw [List.map_append]; exact at_last, _, rfl, _, rfl, by show 4 ≤ sizeLine; decide, fun p hp => ?_⟩
        have sp := same_upd (o := HO.tup [.str "let", .str y, v8, v12]) hp
        exact q _ _ n12 rs12 _ ((k11.trans k12).trans (Kp.of sp)) (sp _ _ t12) (sp _ _ w12) ((two_tm (w := "let") (x := y) (.inl rfl) tm8 tm12).mono (by omega) (Nat.le_refl _)) (.tup (.inl (.inl upd_same)) (.cons (.str _) (.cons (.str _) (.cons (dp_mono sp dpf) (.cons (dp_mono sp dp12) .nil)))))
      · refine ⟨_, rfl, _, rfl, _, rfl, _, rfl, _, rfl, _, rfl, _, _, rfl, rfl, t, hd, ar, lw, n8, ws, rs8, hl, two, ?_, g9, har9, a1, a2, hws, by omega, hhl, lhl, ho2, by omega, fun H12 v12 n12 rs12 x12 k12 t12 w12 tm12 dp12 => ?_⟩
        · rw [← ed]
          rfl
        have dpf := dp_tk (g9.tk k12) im8 dp9
        refine ⟨_, rfl, _, rfl, _, rfl, by show 4 ≤ sizeLine; decide, fun p hp => ?_⟩
        have sp := same_upd (o := HO.tup [.str "zero", .str x, v8, v12]) hp
        exact q _ _ n12 rs12 _ ((k9.trans k12).trans (Kp.of sp)) (sp _ _ t12) (sp _ _ w12) ((two_tm (w := "zero") (x := x) (.inr rfl) tm8 tm12).mono (by omega) (Nat.le_refl _)) (.tup (.inl (.inl upd_same)) (.cons (.str _) (.cons (.str _) (.cons (dp_mono sp dpf) (.cons (dp_mono sp dp12) .nil)))))
    · clear e l5 ho1 ho2 hsum'
      -- cases, order
      refine ⟨by show 0 ≤ sizeLine; decide, fun F hF => ?_⟩
      have sF := same_upd (o := HO.lst []) hF
      obtain ⟨f1, f2, f3⟩ := g6.ne hF
      have f4 : F ≠ ar := ne_t har6 hF
      have hFH : H F = none := by
        cases e0 : H F with
        | none => rfl
        | some o =>
          rw [k6 _ _ (fun z => z.elim f1 f2) e0] at hF
          cases hF
      have k7 := k6.trans (Kp.of sF)
      have g7 := g6.same sF
      have har7 := sF _ _ har6
      have F7 : (upd H6 F (.lst [])) F = some (.lst []) := upd_same
      change tNext _ _ (upd H6 F (.lst []))
      generalize upd H6 F (.lst []) = H7 at k7 g7 har7 F7 ⊢
      clear k6 g6 har6 sF hF
      refine ⟨by show 10 ≤ sizeLine; decide, fun p8 h8 => ?_⟩
      have s8 := same_upd (o := HO.lst (orderL.map V.str)) h8
      have n8 := ne_t g7.ht h8
      refine ⟨_, rfl, t, m6, 10, rfl, s8 _ _ g7.ht, by decide, by decide, p8, orderL.map V.str, _, _, rfl, rfl, .inl (.inl (by rw [upd_ne n8]; exact upd_same)), str_item orderL m6 10 rfl (by decide), ?_⟩
      have ho4 : (orderL.getD (m6 % ((10 : Nat) : Int)).toNat "").length ≤ 4 := getD_mem orderL _ "" (fun u => u.length ≤ 4) (by decide +kernel) (by decide)
      generalize orderL.getD (m6 % ((10 : Nat) : Int)).toNat "" = od at ho4 ⊢
      have k9 : Kp (Two t lw) H (upd (upd H7 p8 (.lst (orderL.map V.str))) t (.lst [.int (m6 / 10)])) := (k7.trans (Kp.of s8)).put (.inl rfl)
      have g9 : SG K (upd (upd H7 p8 (.lst (orderL.map V.str))) t (.lst [.int (m6 / 10)])) t hd lw (m6 / 10) rs hl := (g7.same s8).put
      have har9 : (upd (upd H7 p8 (.lst (orderL.map V.str))) t (.lst [.int (m6 / 10)])) ar = some (.lst (ws.map V.str)) := by
        rw [upd_ne a1]
        exact s8 _ _ har7
      have F9 : (upd (upd H7 p8 (.lst (orderL.map V.str))) t (.lst [.int (m6 / 10)])) F = some (.lst []) := by
        rw [upd_ne f1]
        exact s8 _ _ F7
      change tNext _ _ (upd (upd H7 p8 (.lst (orderL.map V.str))) t (.lst [.int (m6 / 10)]))
      generalize upd (upd H7 p8 (.lst (orderL.map V.str))) t (.lst [.int (m6 / 10)]) = H9 at k9 g9 har9 F9 ⊢
      generalize m6 / 10 = m9 at g9
      clear k7 g7 har7 F7 h8 s8 n8
      have hsl := sizeLine_eq
      have er1 : (room : Int) - 1 = ((room - 1 : Nat) : Int) := by omega
      refine ⟨_, rfl, _, rfl, _, _, rfl, rfl, _, rfl, od, rfl, by omega, ?_⟩
      dsimp only []
      rw [er1]
      have hz : (cutS od none (some ((room - 1 : Nat) : Int))).length = min (room - 1) od.length := by
        show (cutS od none (some ((room - 1 : Nat) : Int))).cps.size = _
        rw [cutS_to, List.size_toArray, List.length_take]
        rfl
      generalize cutS od none (some ((room - 1 : Nat) : Int)) = z at hz ⊢
      -- the shares
      refine ⟨_, rfl, _, rfl, _, rfl, _, _, rfl, rfl, _, rfl, z, rfl, by omega, t, m9, room - 1 - z.length, z.length, ?_, g9.ht, by omega, fun H10 l10 k10 t10 hl10 d10 => ?_⟩
      · show [V.ref t, V.int ((room : Int) - 1), V.int (z.length : Int)] = [V.ref t, V.int ((room - 1 - z.length + z.length : Nat) : Int), V.int (z.length : Int)]
        rw [show ((room - 1 - z.length + z.length : Nat) : Int) = (room : Int) - 1 by omega]
      have hpos := shares_pos z.length m9 (room - 1 - z.length)
      have hsum := shares_sum z.length m9 (room - 1 - z.length)
      have hlen := shares_len z.length m9 (room - 1 - z.length)
      generalize sharesF m9 (room - 1 - z.length) z.length = shs at t10 d10 hpos hsum hlen
      obtain ⟨shl, m10⟩ := shs
      change shl.length = z.length at hlen
      change shl.sum ≤ _ at hsum
      change ∀ x ∈ shl, 1 ≤ x at hpos
      have k10' := k9.trans (Kp.but k10 (.inl rfl))
      have g10 := g9.but k10 t10
      change SG K H10 t hd lw m10 rs hl at g10
      change H10 l10 = some (.lst (shl.map fun x => V.int (x : Nat))) at d10
      have har10 := k10 _ _ a1 har9
      have F10 := k10 _ _ f1 F9
      obtain ⟨n1, n2, n3⟩ := g9.ne hl10
      have n4 : F ≠ l10 := (ne_t F9 hl10).symm
      clear k9 g9 har9 F9 k10 t10 hl10
      refine ⟨l10, z, _, rfl, .inl (.inl d10), ?_⟩
      have hzl : z.length = min (shl.map fun x => V.int ((x : Nat) : Int)).length z.cps.size := by
        rw [List.length_map, hlen]
        exact (Nat.min_self _).symm
      refine for_it (walk_text_zip (K := K) (a := l10) (x := z) (xs := shl.map fun x => V.int (x : Nat)) hzl) (fun i σ H' => ∃ (cd : List PyData) (fv : List V) (n' : Int) (rs' : List Str) (y15 y16 y17 y18 y19 y10 : Option V), σ = [some (.ref t), some (.ref hd), some (.ref ar), some (.ref lw), some (.int (room : Int)), some (.int ((d + 1 : Nat) : Int)), some (.int way), some (.int (one : Int)), some (.int (two : Int)), some (.str x), y10, none, none, some (.ref F), some (.str z), y15, y16, y17, y18, y19, none] ∧
        fv.length = i ∧ CasesD ((shl.take i).sum) (d + 1) i cd ∧ DpAll K H' fv cd ∧ Kp (Two t lw) H H' ∧ SG K H' t hd lw n' rs' hl ∧ H' ar = some (.lst (ws.map V.str)) ∧ H' l10 = some (.lst (shl.map fun x => V.int (x : Nat))) ∧ H' F = some (.lst fv))
        ⟨[], [], m10, rs, none, none, none, none, none, none, rfl, rfl, cases_nil _, .nil, k10', g10, har10, d10, F10⟩ (fun i σ H' _ ⟨_, _, _, _, _, _, _, _, _, _, _, _, _, _, _, _, _, h, _⟩ => .inl (.inl h)) ?_ ?_
      · rintro i v σ H11 H12 hi ⟨cd, fv, n11, rs11, y15, y16, y17, y18, y19, y10, rfl, hfv, cs11, dp11, k11, g11, har11, d11, F11⟩ ⟨T0, x1, x2, rfl, hT, rfl, e1, e2⟩
        change (shl.map fun x => V.int ((x : Nat) : Int))[i]? = some x2 at e2
        change (z.cps[i]?).map (fun c => V.str ⟨#[c]⟩) = some x1 at e1
        obtain ⟨sh, hsh, rfl⟩ : ∃ sh : Nat, shl[i]? = some sh ∧ x2 = .int (sh : Int) := by
          rw [List.getElem?_map] at e2
          obtain ⟨a, b, c⟩ := Option.map_eq_some_iff.mp e2
          exact ⟨a, b, c.symm⟩
        obtain ⟨c, _, rfl⟩ := Option.map_eq_some_iff.mp e1
        have hs1 := hpos _ (List.mem_of_getElem? hsh)
        have hs2 : sh ≤ shl.sum := mem_le_sum (List.mem_of_getElem? hsh)
        have sT := same_upd (o := HO.tup [.str ⟨#[c]⟩, .int (sh : Int)]) hT
        have g12 := g11.same sT
        refine ⟨T0, _, rfl, .inl (.inl upd_same), rfl, _, _, rfl, _, _, rfl, rfl, ?_⟩
        -- many
        have emn : (if n11 % 4 < ((rs11.reverse.map V.str).length : Int) then n11 % 4 else ((rs11.reverse.map V.str).length : Int)) = ((min rs11.length (n11 % 4).toNat : Nat) : Int) := by
          rw [List.length_map, List.length_reverse]
          split <;> omega
        refine ⟨_, rfl, lw, _, rfl, .inl (.inl (.inl g12.hw)), _, rfl, t, n11, 4, rfl, g12.ht, by decide, by decide, _, _, rfl, ?_⟩
        rw [emn]
        have hmn : min rs11.length (n11 % 4).toNat ≤ rs11.length := Nat.min_le_left _ _
        have hmn3 : min rs11.length (n11 % 4).toNat ≤ 3 := by omega
        generalize min rs11.length (n11 % 4).toNat = mn at hmn hmn3 ⊢
        have kT : Kp (Two t lw) H11 (upd (upd H11 T0 (.tup [.str ⟨#[c]⟩, .int (sh : Int)])) t (.lst [.int (n11 / 4)])) := (Kp.of sT).put (.inl rfl)
        have g13 : SG K (upd (upd H11 T0 (.tup [.str ⟨#[c]⟩, .int (sh : Int)])) t (.lst [.int (n11 / 4)])) t hd lw (n11 / 4) rs11 hl := g12.put
        change tNext _ _ (upd (upd H11 T0 (.tup [.str ⟨#[c]⟩, .int (sh : Int)])) t (.lst [.int (n11 / 4)]))
        generalize upd (upd H11 T0 (.tup [.str ⟨#[c]⟩, .int (sh : Int)])) t (.lst [.int (n11 / 4)]) = H13 at kT g13 ⊢
        generalize n11 / 4 = n13 at g13
        clear g12 sT hT
        -- ys
        refine ⟨_, rfl, mn, rfl, by omega, by omega, fun D2 hD2 => ?_⟩
        refine lc_range (lo := 0) (n := mn) (fun j H' => But lw H13 H' ∧ H' lw = some (.lst ((rs11.drop j).reverse.map V.str)) ∧ H' D2 = some (.lst ((rs11.take j).map V.str))) ⟨But.of (same_upd hD2), same_upd hD2 _ _ g13.hw, upd_same⟩ ?_ ?_
        · rintro j H' hj ⟨bw, w', d'⟩
          have hjr : j < rs11.length := by omega
          have hrj : rs11.drop j = rs11[j] :: rs11.drop (j + 1) := drop_at (List.getElem?_eq_getElem hjr)
          have nD2 : D2 ≠ lw := ne_t g13.hw hD2
          rw [hrj] at w'
          refine ⟨rfl, ?_⟩
          refine lcYes ?_
          refine ⟨_, rfl, .inl ⟨rfl, _, .inl (.inl w')⟩, lw, _, _, rfl, rfl, w', rev_last, ?_⟩
          rw [rev_drop]
          refine ⟨_, (upd_ne nD2).trans d', ?_, ?_, ?_, ?_⟩
          · rw [List.length_map, List.length_take]
            exact small1000 (by omega)
          · exact fun b o hb e => by
              rw [upd_ne (ne_of_none e hD2), upd_ne hb]
              exact bw b o hb e
          · rw [upd_ne nD2.symm]
            exact upd_same
          · rw [upd_same, List.take_add_one, List.getElem?_eq_getElem hjr, List.map_append]
            rfl
        rintro H14 ⟨b14, w14, d14⟩
        have kk : Kp (Two t lw) H13 H14 := fun b o hb e => b14 b o (fun z => hb (.inr z)) e
        have g14 := g13.kp kk (b14 _ _ g13.tl g13.ht) w14
        have k14 := kT.trans kk
        have har14 := k14 _ _ (fun z => z.elim a1 a2) har11
        have nD2t : D2 ≠ t := ne_t g13.ht hD2
        have nD2w : D2 ≠ lw := ne_t g13.hw hD2
        clear kk b14 w14 kT g13 hD2
        -- more
        refine ⟨_, rfl, _, rfl, ar, D2, _, _, rfl, rfl, har14, d14, ?_, fun p15 h15 => ?_⟩
        · rw [List.length_map, List.length_map, List.length_take]
          omega
        have s15 := same_upd (o := HO.lst (ws.map V.str ++ (rs11.take mn).map V.str)) h15
        have k15 := k14.trans (Kp.of s15)
        have g15 := g14.same s15
        have d15 := s15 _ _ d14
        have pm : (upd H14 p15 (.lst (ws.map V.str ++ (rs11.take mn).map V.str))) p15 = some (.lst ((ws ++ rs11.take mn).map V.str)) := by
          rw [upd_same, List.map_append]
        have p15t := ne_t g14.ht h15
        have p15w := ne_t g14.hw h15
        change tNext _ _ (upd H14 p15 (.lst (ws.map V.str ++ (rs11.take mn).map V.str)))
        generalize upd H14 p15 (.lst (ws.map V.str ++ (rs11.take mn).map V.str)) = H15 at k15 g15 d15 pm ⊢
        clear k14 g14 d14 har14 s15 h15
        -- part
        have lmore : (ws ++ rs11.take mn).length ≤ ws.length + 3 := by
          rw [List.length_append, List.length_take]
          omega
        refine ⟨_, rfl, _, rfl, _, rfl, _, rfl, _, rfl, _, rfl, _, _, rfl, rfl, t, hd, p15, lw, n13, ws ++ rs11.take mn, rs11.drop mn, hl, sh, ?_, g15, pm, p15t, p15w, by simp [hws], by omega, hhl, lhl, hs1, by omega, fun H16 v16 n16 rs16 x16 k16 t16 w16 tm16 dp16 => ?_⟩
        · rw [← ed]
          rfl
        have k16' := k15.trans k16
        have g16 := g15.kp k16 t16 w16
        have F16 := k16' _ _ (fun z => z.elim f1 f2) F11
        have ys16 := k16 _ _ (fun z => z.elim nD2t nD2w) d15
        have har16 := k16' _ _ (fun z => z.elim a1 a2) har11
        have e16 := k16' _ _ (fun z => z.elim n1 n2) d11
        have dp17 := dpAll_tk (g11.tk k16') (cases_imm cs11) dp11
        have kA := k11.trans k16'
        clear k16 t16 w16 g15 d15 pm k15
        refine ⟨_, rfl, .inl ⟨rfl, _, .inl (.inl F16)⟩, _, rfl, _, rfl, D2, _, rfl, .inl ⟨.inl (.inl ys16), fun l17 h17 => ⟨_, rfl, by show 3 ≤ sizeLine; decide, fun p18 h18 => ?_⟩⟩⟩
        have s17 := same_upd (o := HO.tup ((rs11.take mn).map V.str)) h17
        have s18 := s17.trans (same_upd (o := HO.tup [.str ⟨#[c]⟩, .ref l17, v16]) h18)
        refine ⟨F, fv, _, rfl, rfl, s18 _ _ F16, small1000 (by omega), ?_⟩
        obtain ⟨tm, okm, etm, szm, dpm⟩ := tm16
        have cse : CaseD sh (d + 1) (.tuple [.str ⟨#[c]⟩, .tuple ((rs11.take mn).map .str), x16]) := ⟨_, rs11.take mn, tm, okm, by rw [List.length_take]; omega, by rw [etm], szm, dpm⟩
        have csN := cases_snoc cs11 cse
        have new : Dp K (upd (upd H16 l17 (.tup ((rs11.take mn).map V.str))) p18 (.tup [.str ⟨#[c]⟩, .ref l17, v16])) (.ref p18) (.tuple [.str ⟨#[c]⟩, .tuple ((rs11.take mn).map .str), x16]) :=
          .tup (.inl (.inl upd_same)) (.cons (.str _) (.cons (.tup (.inl (.inl (same_upd h18 _ _ upd_same))) (dpAll_strs _)) (.cons (dp_mono s18 dp16) .nil)))
        have dpN := dpAll_snoc (dpAll_mono s18 dp17) new
        have gN := g16.same s18
        have FN := s18 _ _ F16
        have haN := s18 _ _ har16
        have eN := s18 _ _ e16
        have kN := kA.trans (Kp.of s18)
        generalize upd (upd H16 l17 (.tup ((rs11.take mn).map V.str))) p18 (.tup [.str ⟨#[c]⟩, .ref l17, v16]) = HN at dpN gN FN haN eN kN ⊢
        refine ⟨cd ++ [.tuple [.str ⟨#[c]⟩, .tuple ((rs11.take mn).map .str), x16]], fv ++ [.ref p18], n16, rs16, _, _, _, _, _, _, rfl, by rw [List.length_append, hfv]; rfl, ?_, ?_, ?_, gN.side FN f1 f2 f3, ?_, ?_, upd_same⟩
        · rw [List.take_add_one, hsh]
          show CasesD (shl.take i ++ [sh]).sum _ _ _
          rw [List.sum_append]
          exact csN
        · exact dpAll_tk (tk_put FN) (cases_imm csN) dpN
        · exact fun b o hb e' => by
            rw [upd_ne (ne_of_none e' hFH)]
            exact kN b o hb e'
        · rw [upd_ne f4.symm]
          exact haN
        · rw [upd_ne n4.symm]
          exact eN
      · rintro σ H11 ⟨cd, fv, n11, rs11, y15, y16, y17, y18, y19, y10, rfl, hfv, cs11, dp11, k11, g11, har11, d11, F11⟩
        refine ⟨_, rfl, _, rfl, F, fv, rfl, .inl ⟨.inl (.inl F11), fun p hp => ⟨by show 3 ≤ sizeLine; decide, fun p2 h2 => ?_⟩⟩⟩
        have s12 := (same_upd (o := HO.tup fv) hp).trans (same_upd (o := HO.tup [.str "open", .str x, .ref p]) h2)
        rw [List.take_of_length_le (by omega)] at cs11
        obtain ⟨cc, oc, ec, sc, dc, mc⟩ := cs11
        have tmo : TermD room (d + 1 + 1) (.tuple [.str "open", .str x, .tuple cd]) := (many_tm (n := room - 1) rfl ⟨cc, oc, ec, by omega, dc, by omega⟩).mono (by omega) (Nat.le_refl _)
        exact q _ _ n11 rs11 _ (k11.trans (Kp.of s12)) (s12 _ _ g11.ht) (s12 _ _ g11.hw) tmo (.tup (.inl (.inl upd_same)) (.cons (.str _) (.cons (.str _) (.cons (.tup (.inl (.inl (same_upd h2 _ _ upd_same))) (dpAll_mono s12 dp11)) .nil))))
theorem ok_st0 {f : Addr} {fd : FuncData} (F : Fun K "_law_simple_term" "_law_simple_term" s_law_simple_term f fd) (T : Txt mg) (C_law_digit : Callee P w K mg base "_law_digit" ["tape", "many"] 1 (spDigit K)) (C_law_shares : Callee P w K mg base "_law_shares" ["tape", "room", "many"] 2 (spShares K)) (C_law_simple_leaf : Callee P w K mg base "_law_simple_leaf" ["tape", "around", "heads"] 3 (spSleaf K)) (C_law_simple_term : Callee P w K mg base "_law_simple_term" ["tape", "heads", "around", "words", "room", "deep"] 1 spNever) : FnOk P w K mg base CX0 4 f fd ["tape", "heads", "around", "words", "room", "deep"] (spSt K 0) := by
  refine F.ok sc_law_simple_term (fun vs H Q E h => ?_) (fun cdv A outer s H vs Q E hr h => ?_)
  · obtain ⟨t, hd, ar, lw, n, ws, rs, hl, room, rfl, _⟩ := h
    rfl
  · obtain ⟨t, hd, ar, lw, n, ws, rs, hl, room, rfl, g, har, a1, a2, hws, lws, hhl, lhl, hr1, hr2, q⟩ := h
    refine ⟨_, (pss_cons (ps_set (i := 6) sc_law_simple_term.nd rfl (Or.inl rfl) (pe_fn (hk := by omega) C_law_digit hr (by rfl) (pa_cons (pv 0) (pa_cons pe_int pa_nil))))
      (pss_cons (ps_if (PW.pt (pw_or (pt_cmpR op_lt (pv 4) pe_int (nomark _)) (pw_or (pt_cmpR op_eq (pv 5) pe_int (nomark _)) (pw_or (pt_cmpR op_eq (pv 6) pe_int (nomark _)) (pw_or1 (pt_cmpR op_lt (pe_callB (r := rLenS K) call_lenS (by rfl) T.n_len (by decide +kernel) (pa_cons (pv 3) pa_nil)) pe_int (nomark _))))))) (pss_one (ps_ret (pe_fn (hk := by omega) C_law_simple_leaf hr (by rfl) (pa_cons (pv 0) (pa_cons (pv 2) (pa_cons (pv 1) pa_nil)))))) pss_nil)
      (pss_cons (ps_asg (pe_fn (hk := by omega) C_law_shares hr (by rfl) (pa_cons (pv 0) (pa_cons (pe_op op_sub (pv 4) pe_int) (pa_cons pe_int pa_nil)))) (pg_unl rfl (pgs_cons (pg_name (i := 7) sc_law_simple_term.nd rfl (Or.inl rfl)) (pgs_cons (pg_name (i := 8) sc_law_simple_term.nd rfl (Or.inl rfl)) pgs_nil))))
      (pss_cons (ps_set (i := 9) sc_law_simple_term.nd rfl (Or.inl rfl) (pe_ix (r := rIxL K) ix_list (pv 2) (pe_fn (hk := by omega) C_law_digit hr (by rfl) (pa_cons (pv 0) (pa_cons (pe_callB (r := rLenS K) call_lenS (by rfl) T.n_len (by decide +kernel) (pa_cons (pv 2) pa_nil)) pa_nil))) (fun _ _ => rfl)))
      (pss_cons (ps_if (pt_cmpR op_lt (pv 6) pe_int (nomark _)) (pss_cons (ps_set (i := 10) sc_law_simple_term.nd rfl (Or.inl rfl) (pe_callTy (r := rListS K) call_listS (by rfl) T.n_list (by decide +kernel) (pa_cons (pv 2) pa_nil)))
      (pss_cons (ps_set (i := 11) sc_law_simple_term.nd rfl (Or.inl rfl) (pe_fn (hk := by omega) C_law_simple_term hr (by rfl) (pa_cons (pv 0) (pa_cons (pv 1) (pa_cons (pv 2) (pa_cons (pv 3) (pa_cons (pv 7) (pa_cons (pe_op op_sub (pv 5) pe_int) pa_nil))))))))
      (pss_cons (ps_if (PW.pt (pw_and (pt_cmpR op_lt (pv 6) pe_int (nomark _)) (pw_and1 (pt_cmpR (r := rNeP K 1) (op_neP (m := 1) (hu_of hr)) (pv 3) (pe_lst pa_nil) (nomark _))))) (pss_cons (ps_expr (pe_bm PySem.F.plainAttrs_list PySem.F.slot_list_append PySem.F.type_list_append mt_append (pv 10) (pa_cons (pe_bm0 PySem.F.plainAttrs_list PySem.F.slot_list_pop PySem.F.type_list_pop mt_pop (pv 3)) pa_nil)))
      (pss_cons (ps_set (i := 12) sc_law_simple_term.nd rfl (Or.inl rfl) (pe_fn (hk := by omega) C_law_simple_term hr (by rfl) (pa_cons (pv 0) (pa_cons (pv 1) (pa_cons (pv 10) (pa_cons (pv 3) (pa_cons (pv 8) (pa_cons (pe_op op_sub (pv 5) pe_int) pa_nil))))))))
      (pss_one (ps_ret (pe_tup (pa_cons pe_str (pa_cons (pe_ix (r := rIxL K) ix_list (pv 10) (pe_un un_neg pe_int) (fun _ _ => rfl)) (pa_cons (pv 11) (pa_cons (pv 12) pa_nil))))))))) pss_nil)
      (pss_cons (ps_set (i := 12) sc_law_simple_term.nd rfl (Or.inl rfl) (pe_fn (hk := by omega) C_law_simple_term hr (by rfl) (pa_cons (pv 0) (pa_cons (pv 1) (pa_cons (pv 2) (pa_cons (pv 3) (pa_cons (pv 8) (pa_cons (pe_op op_sub (pv 5) pe_int) pa_nil))))))))
      (pss_one (ps_ret (pe_tup (pa_cons pe_str (pa_cons (pv 9) (pa_cons (pv 11) (pa_cons (pv 12) pa_nil))))))))))) pss_nil)
      (pss_cons (ps_set (i := 13) sc_law_simple_term.nd rfl (Or.inl rfl) (pe_lst pa_nil))
      (pss_cons (ps_set (i := 14) sc_law_simple_term.nd rfl (Or.inl rfl) (pe_ix (r := rIxL K) ix_list (pe_lst (pa_cons pe_str (pa_cons pe_str (pa_cons pe_str (pa_cons pe_str (pa_cons pe_str (pa_cons pe_str (pa_cons pe_str (pa_cons pe_str (pa_cons pe_str (pa_cons pe_str pa_nil))))))))))) (pe_fn (hk := by omega) C_law_digit hr (by rfl) (pa_cons (pv 0) (pa_cons pe_int pa_nil))) (fun _ _ => rfl)))
      (pss_cons (ps_set (i := 14) sc_law_simple_term.nd rfl (Or.inl rfl) (pe_slice (r := rSlS) sl_str (pv 14) po_none (po_some (pe_op op_sub (pv 4) pe_int))))
      (pss_cons (ps_for PassesOwn.never rfl (pi_textZip (by rfl) T.n_zip (pa_cons (pv 14) (pa_cons (pe_fn (hk := by omega) C_law_shares hr (by rfl) (pa_cons (pv 0) (pa_cons (pe_op op_sub (pv 4) pe_int) (pa_cons (pe_callB call_len_str (by rfl) T.n_len (by decide +kernel) (pa_cons (pv 14) pa_nil)) pa_nil)))) pa_nil))) (pg_tup rfl (pgs_cons (pg_name (i := 15) sc_law_simple_term.nd rfl (Or.inl rfl)) (pgs_cons (pg_name (i := 16) sc_law_simple_term.nd rfl (Or.inl rfl)) pgs_nil)))
      (pss_cons (ps_set (i := 17) sc_law_simple_term.nd rfl (Or.inl rfl) (pe_callB (call_min2 rfl) (by rfl) T.n_min (by decide +kernel) (pa_cons (pe_callB (r := rLenS K) call_lenS (by rfl) T.n_len (by decide +kernel) (pa_cons (pv 3) pa_nil)) (pa_cons (pe_fn (hk := by omega) C_law_digit hr (by rfl) (pa_cons (pv 0) (pa_cons pe_int pa_nil))) pa_nil))))
      (pss_cons (ps_setLc (i := 18) (own := [("k", 20)]) (g := gName 20) (tt := tYes) (te := tBM0 K "list" rPop (tVar 3)) rfl sc_law_simple_term.nd rfl rfl (sw_true rfl rfl rfl (by decide +kernel)) (pi_range1 rfl T.n_range (pa_cons (pv 17) pa_nil)) (blkOk_by (own := [("k", 20)]) (N := ["tape", "heads", "around", "words", "room", "deep", "way", "one", "two", "x", "more", "first", "second", "cases", "order", "w", "share", "many", "ys", "part", "k"]) (sc := defScope s_law_simple_term) (by decide +kernel)) (fun _ _ _ _ _ => (pg_name (i := 20) sc_law_simple_term.nd rfl (Or.inl rfl))) (fun _ _ _ _ _ => pts_nil) (fun _ _ _ _ _ => (pe_bm0 PySem.F.plainAttrs_list PySem.F.slot_list_pop PySem.F.type_list_pop mt_pop (pv 3))))
      (pss_cons (ps_set (i := 10) sc_law_simple_term.nd rfl (Or.inl rfl) (pe_op op_cat (pv 2) (pv 18)))
      (pss_cons (ps_set (i := 19) sc_law_simple_term.nd rfl (Or.inl rfl) (pe_fn (hk := by omega) C_law_simple_term hr (by rfl) (pa_cons (pv 0) (pa_cons (pv 1) (pa_cons (pv 10) (pa_cons (pv 3) (pa_cons (pv 16) (pa_cons (pe_op op_sub (pv 5) pe_int) pa_nil))))))))
      (pss_one (ps_expr (pe_bm PySem.F.plainAttrs_list PySem.F.slot_list_append PySem.F.type_list_append mt_append (pv 13) (pa_cons (pe_tup (pa_cons (pv 15) (pa_cons (pe_callTy (r := rTupleS K) call_tupleS (by rfl) T.n_tuple (by decide +kernel) (pa_cons (pv 18) pa_nil)) (pa_cons (pv 19) pa_nil)))) pa_nil)))))))))
      (pss_one (ps_ret (pe_tup (pa_cons pe_str (pa_cons (pv 9) (pa_cons (pe_callTy (r := rTupleS K) call_tupleS (by rfl) T.n_tuple (by decide +kernel) (pa_cons (pv 13) pa_nil)) pa_nil))))))))))))))), ?_⟩
    refine ⟨_, rfl, t, n, 8, rfl, g.ht, by decide, by decide, ?_⟩
    have k1 : Kp (Two t lw) H (upd H t (.lst [.int (n / 8)])) := (Kp.refl _ H).put (.inl rfl)
    have g1 : SG K (upd H t (.lst [.int (n / 8)])) t hd lw (n / 8) rs hl := g.put
    have har1 := k1 _ _ (fun z => z.elim a1 a2) har
    generalize upd H t (.lst [.int (n / 8)]) = H1 at k1 g1 har1 ⊢
    have hleaf : ∀ (E : XK), spSleaf K [.ref t, .ref ar, .ref hd] H1 Q E := fun E =>
      ⟨t, ar, hd, n / 8, ws, hl, rfl, g1.ht, har1, g1.hh, a1, g1.h1, hws, by omega, hhl, lhl, fun H' v n' x b t' tm dp => q H' v n' rs x (k1.trans (Kp.but b (.inl rfl))) t' (b _ _ g1.tl.symm g1.hw) (tm.mono hr1 (by omega)) dp⟩
    refine ⟨_, rfl, _, _, rfl, rfl, _, rfl, ite2 (fun e => ?_) (fun e => ?_)⟩
    · exact ⟨_, rfl, _, rfl, _, rfl, hleaf E⟩
    refine ⟨_, rfl, rfl, _, rfl, ite2 (fun e => ?_) (fun e => ?_)⟩
    · exact ⟨_, rfl, _, rfl, _, rfl, hleaf E⟩
    · exact absurd (decide_eq_true rfl) e
theorem st_all (T : Txt mg) (D : Dfn K mg "_law_simple_term" s_law_simple_term ["tape", "heads", "around", "words", "room", "deep"]) (C_law_digit : Callee P w K mg base "_law_digit" ["tape", "many"] 1 (spDigit K)) (C_law_shares : Callee P w K mg base "_law_shares" ["tape", "room", "many"] 2 (spShares K)) (C_law_simple_leaf : Callee P w K mg base "_law_simple_leaf" ["tape", "around", "heads"] 3 (spSleaf K)) :
    ∀ d : Nat, Callee P w K mg base "_law_simple_term" ["tape", "heads", "around", "words", "room", "deep"] (d + 4) (spSt K d)
  | 0 => D.callee fun f fd F => ok_st0 F T C_law_digit C_law_shares C_law_simple_leaf (D.callee fun f fd F => never_ok F sc_law_simple_term)
  | d + 1 => D.callee fun f fd F => ok_law_simple_term F T d C_law_digit C_law_shares C_law_simple_leaf (st_all T D C_law_digit C_law_shares C_law_simple_leaf d)
end
end SP

namespace SP
open PySem PySem.Spec PyProof.Rows L2
open C8 (pss_cut tCut)
/-- books as either drawing gives them -/
def SBookD (d : PyData) : Prop := ∃ (m : Int) (k : Nat) (bs : List Er), d = .tuple (bs.map errD) ∧ bs.map (·.1) = (wordsF m k).1 ∧ k ≤ 6 ∧ 1 ≤ k ∧ bs.length = k ∧ ∀ e ∈ bs, ErOk 40 13 e
theorem sbook_of {d : PyData} (h : BookD d) : SBookD d := book_tm h
def roomS : List Int := [40, 20, 9, 3, 1]
theorem roomS_in (m : Int) : ∃ r : Nat, roomS.getD (m % 5).toNat 0 = (r : Int) ∧ 1 ≤ r ∧ r ≤ 40 := by
  have h : m % 5 = 0 ∨ m % 5 = 1 ∨ m % 5 = 2 ∨ m % 5 = 3 ∨ m % 5 = 4 := by omega
  rcases h with h | h | h | h | h <;> rw [h]
  · exact ⟨40, rfl, by decide, by decide⟩
  · exact ⟨20, rfl, by decide, by decide⟩
  · exact ⟨9, rfl, by decide, by decide⟩
  · exact ⟨3, rfl, by decide, by decide⟩
  · exact ⟨1, rfl, by decide, by decide⟩
theorem imm_err {n d : Nat} : ∀ {bs : List Er}, (∀ e ∈ bs, ErOk n d e) → immAll (bs.map errD) = true
  | [], _ => rfl
  | e :: bs, h => by
    show ((true && (immAll (e.2.1.map PyData.str) && (imm (toD e.2.2) && true))) && immAll (bs.map errD)) = true
    rw [imm_strs, imm_toD _ (h e List.mem_cons_self).ok.1, imm_err fun u hu => h u (List.mem_cons_of_mem _ hu)]
    rfl
section
variable {P : Program} {w : World} {K : PySem.W.Frag} {mg : Str → Option Value} {base : Heap}
def spSBook (K : PySem.W.Frag) : Sp := fun vs H Q _ => ∃ (a : Addr) (ns : List Int) (k : Nat), vs = [.ref a, .int (k : Int)] ∧ SqL K H a (ns.map V.int) ∧ k < 900 ∧
  ∀ (H' : Hp) (v : V) (d : PyData), Same H H' → SBookD d → Dp K H' v d → Q v H'
theorem ok_law_simple_book {f : Addr} {fd : FuncData} (F : Fun K "_law_simple_book" "_law_simple_book" s_law_simple_book f fd) (T : Txt mg) (C_law_digit : Callee P w K mg base "_law_digit" ["tape", "many"] 1 (spDigit K)) (C_law_words : Callee P w K mg base "_law_words" ["tape", "many"] 2 (spWords K)) (C_law_tape : Callee P w K mg base "_law_tape" ["script", "k"] 2 (spTape K)) (C_law_simple_term : Callee P w K mg base "_law_simple_term" ["tape", "heads", "around", "words", "room", "deep"] 16 (spSt K 12)) : FnOk P w K mg base CX0 17 f fd ["script", "start"] (spSBook K) := by
  refine F.ok sc_law_simple_book (fun vs H Q E h => ?_) (fun cdv A outer s H vs Q E hr h => ?_)
  · obtain ⟨a, ns, k, rfl, _⟩ := h
    rfl
  · obtain ⟨a, ns, k, rfl, hS, hk, q⟩ := h
    refine ⟨_, (pss_cons (ps_set (i := 2) sc_law_simple_book.nd rfl (Or.inr rfl) (pe_fn C_law_tape hr (by rfl) (pa_cons (pv 0) (pa_cons (pv 1) pa_nil))))
      (pss_cons (ps_set (i := 3) sc_law_simple_book.nd rfl (Or.inl rfl) (pe_fn C_law_words hr (by rfl) (pa_cons (pv 2) (pa_cons (pe_op op_add pe_int (pe_fn C_law_digit hr (by rfl) (pa_cons (pv 2) (pa_cons pe_int pa_nil)))) pa_nil))))
      (pss_cons (ps_setLc (i := 4) (own := [("f", 7)]) (g := gName 7) (tt := tYes) rfl sc_law_simple_book.nd rfl rfl (sw_true rfl rfl rfl (by decide +kernel)) (pi_list (pv 3)) (blkOk_by (own := [("f", 7)]) (N := ["script", "start", "head", "some", "heads", "found", "k", "f", "many", "tape", "names", "room", "around", "words", "body"]) (sc := defScope s_law_simple_book) (by decide +kernel)) (fun _ _ _ _ _ => (pg_name (i := 7) sc_law_simple_book.nd rfl (Or.inl rfl))) (fun _ _ _ _ _ => pts_nil) (fun _ _ _ _ _ => (pe_tup (pa_cons (pv 7) (pa_cons (pe_op op_add pe_int (pe_fn C_law_digit hr (by rfl) (pa_cons (pv 2) (pa_cons pe_int pa_nil)))) pa_nil)))))
      (pss_cons (ps_set (i := 5) sc_law_simple_book.nd rfl (Or.inl rfl) (pe_lst pa_nil))
      (pss_cons (ps_for PassesOwn.never rfl (pi_enum (by rfl) T.n_enumerate (pa_cons (pv 4) pa_nil)) (pg_tup rfl (pgs_cons (pg_name (i := 6) sc_law_simple_book.nd rfl (Or.inl rfl)) (pgs_cons (pg_tup rfl (pgs_cons (pg_name (i := 7) sc_law_simple_book.nd rfl (Or.inl rfl)) (pgs_cons (pg_name (i := 8) sc_law_simple_book.nd rfl (Or.inl rfl)) pgs_nil))) pgs_nil)))
      (pss_cons (ps_set (i := 9) sc_law_simple_book.nd rfl (Or.inl rfl) (pe_fn C_law_tape hr (by rfl) (pa_cons (pv 0) (pa_cons (pe_op op_add (pe_op op_add (pv 1) pe_int) (pv 6)) pa_nil))))
      (pss_cons (ps_set (i := 10) sc_law_simple_book.nd rfl (Or.inl rfl) (pe_fn C_law_words hr (by rfl) (pa_cons (pv 9) (pa_cons pe_int pa_nil))))
      (pss_cons (ps_set (i := 11) sc_law_simple_book.nd rfl (Or.inl rfl) (pe_ix (r := rIxL K) ix_list (pe_lst (pa_cons pe_int (pa_cons pe_int (pa_cons pe_int (pa_cons pe_int (pa_cons pe_int pa_nil)))))) (pe_fn C_law_digit hr (by rfl) (pa_cons (pv 9) (pa_cons pe_int pa_nil))) (fun _ _ => rfl)))
      (pss_cons (ps_set (i := 12) sc_law_simple_book.nd rfl (Or.inl rfl) (pe_slice (r := rSlL K) sl_list (pv 10) po_none (po_some (pv 8))))
      (pss_cons (ps_set (i := 13) sc_law_simple_book.nd rfl (Or.inl rfl) (pe_back (pv 10) pe_int (pe_un un_neg pe_int)))
      (pss_cons (ps_set (i := 14) sc_law_simple_book.nd rfl (Or.inl rfl) (pe_fn C_law_simple_term hr (by rfl) (pa_cons (pv 9) (pa_cons (pv 4) (pa_cons (pv 12) (pa_cons (pv 13) (pa_cons (pv 11) (pa_cons pe_int pa_nil))))))))
      (pss_one (ps_expr (pe_bm PySem.F.plainAttrs_list PySem.F.slot_list_append PySem.F.type_list_append mt_append (pv 5) (pa_cons (pe_tup (pa_cons (pv 7) (pa_cons (pe_callTy (r := rTupleS K) call_tupleS (by rfl) T.n_tuple (by decide +kernel) (pa_cons (pv 12) pa_nil)) (pa_cons (pv 14) pa_nil)))) pa_nil)))))))))))
      (pss_one (ps_ret (pe_callTy (r := rTupleS K) call_tupleS (by rfl) T.n_tuple (by decide +kernel) (pa_cons (pv 5) pa_nil))))))))), ?_⟩
    refine ⟨_, rfl, _, rfl, a, ns, k, rfl, hS, by omega, fun H1 th n s1 hth t1 => ?_⟩
    -- words
    refine ⟨_, rfl, _, rfl, th, n, 6, rfl, t1, by decide, by decide, _, _, rfl, rfl, th, n / 6, 1 + (n % 6).toNat, ?_, upd_same, by omega, fun H3 l3 b3 t3 hl3 d3 => ?_⟩
    · show [V.ref th, V.int (1 + n % 6)] = [V.ref th, V.int ((1 + (n % 6).toNat : Nat) : Int)]
      rw [show ((1 + (n % 6).toNat : Nat) : Int) = 1 + n % 6 by omega]
    have hm6 : 1 + (n % 6).toNat ≤ 6 := by omega
    have hm1 : 1 ≤ 1 + (n % 6).toNat := by omega
    have S3 : Same H H3 := fun b o e => b3 b o (fun z => by rw [z, hth] at e; cases e) (by rw [upd_ne (fun z => by rw [z, hth] at e; cases e)]; exact s1 _ _ e)
    generalize 1 + (n % 6).toNat = kk at t3 d3 hm6 hm1
    have lws := words_len (n / 6) kk
    have q' : ∀ (H' : Hp) (v : V) (bs : List Er), Same H H' → bs.map (·.1) = (wordsF (n / 6) kk).1 → (∀ e ∈ bs, ErOk 40 13 e) → Dp K H' v (.tuple (bs.map errD)) → Q v H' := fun H' v bs s e1 e2 dp => q H' v _ s ⟨n / 6, kk, bs, rfl, e1, hm6, hm1, by have := congrArg List.length e1; rw [List.length_map, lws] at this; exact this, e2⟩ dp
    clear q
    generalize (wordsF (n / 6) kk).1 = ws at q' d3 lws
    generalize (wordsF (n / 6) kk).2 = m3 at t3
    clear b3 hl3 t1 s1
    have n3 : l3 ≠ th := fun z => by
      rw [z, t3] at d3
      cases ws with
      | nil => simp only [List.length_nil] at lws; omega
      | cons x r => cases d3
    -- heads
    refine ⟨_, rfl, l3, rfl, ⟨_, .inl (.inl d3)⟩, fun D hD => ?_⟩
    have nD : D ≠ th := ne_t t3 hD
    have nDl : D ≠ l3 := ne_t d3 hD
    refine lc_it (walk_list (K := K) (a := l3) (xs := ws.map V.str)) (fun j H' => But th H3 H' ∧ (∃ n', H' th = some (.lst [.int n'])) ∧ ∃ vs hl', H' D = some (.lst vs) ∧ DpAll K H' vs (hl'.map hdD) ∧ hl'.map (·.1) = ws.take j ∧ ∀ p ∈ hl', 1 ≤ p.2 ∧ p.2 ≤ 4) ⟨But.of (same_upd hD), ⟨m3, same_upd hD _ _ t3⟩, [], [], upd_same, .nil, rfl, fun p h => by cases h⟩ (fun j H' _ h => .inl (.inl (h.1 _ _ n3 d3))) ?_ ?_
    · rintro j v H0 H' hj ⟨b', ⟨n', t'⟩, vs, hl', d', p', e', o'⟩ ⟨rfl, hv⟩
      rw [List.length_map] at hj
      rw [List.getElem?_map, List.getElem?_eq_getElem hj] at hv
      cases hv
      refine ⟨rfl, ?_⟩
      refine lcYes ?_
      refine ⟨_, rfl, _, rfl, th, n', 4, rfl, t', by decide, by decide, _, _, rfl, rfl, by show 2 ≤ sizeLine; decide, fun p5 h5 => ?_⟩
      have kt : But th H' (upd H' th (.lst [.int (n' / 4)])) := (But.refl th H').put
      have tt := (kt.tk t').trans (Tk.of (same_upd (o := HO.tup [.str ws[j], .int (1 + n' % 4)]) h5))
      have hD4 := same_upd (o := HO.tup [.str ws[j], .int (1 + n' % 4)]) h5 _ _ (kt _ _ nD d')
      have lhl : hl'.length ≤ 6 := by
        have := congrArg List.length e'
        rw [List.length_map, List.length_take] at this
        omega
      have lvs : vs.length = hl'.length := by
        rw [dpAll_len p', List.length_map]
      refine ⟨vs, hD4, small1000 (by omega), ?_, ⟨n' / 4, ?_⟩, vs ++ [.ref p5], hl' ++ [(ws[j], 1 + (n' % 4).toNat)], upd_same, ?_, ?_, ?_⟩
      · exact fun b o hb e => by
          rw [upd_ne (ne_of_none e hD)]
          exact same_upd h5 _ _ (kt b o hb (b' b o hb e))
      · rw [upd_ne nD.symm]
        exact same_upd h5 _ _ upd_same
      · rw [List.map_append]
        have im := imm_hds (hl' ++ [(ws[j], 1 + (n' % 4).toNat)])
        rw [List.map_append] at im
        refine dpAll_tk (tk_put hD4) im (dpAll_append (dpAll_tk tt (imm_hds hl') p') (.cons (.tup (.inl (.inl upd_same)) (.cons (.str _) (.cons ?_ .nil))) .nil))
        rw [show (1 + n' % 4 : Int) = ((1 + (n' % 4).toNat : Nat) : Int) by omega]
        exact .int _
      · rw [List.map_append, e', List.take_add_one, List.getElem?_eq_getElem hj]
        rfl
      · intro p hp
        rcases List.mem_append.mp hp with h | h
        · exact o' p h
        · rw [List.mem_singleton.mp h]
          show 1 ≤ 1 + (n' % 4).toNat ∧ 1 + (n' % 4).toNat ≤ 4
          omega
    rintro H4 ⟨b4, _, vs, hl, d4, p4, e4, o4⟩
    rw [List.length_map, List.take_of_length_le (Nat.le_refl _)] at e4
    have hthH : H th = none := hth
    have hDH : H D = none := by
      cases e : H D with
      | none => rfl
      | some o =>
        rw [S3 _ _ e] at hD
        cases hD
    have S4 : Same H H4 := fun b o e => b4 b o (fun z => by rw [z, hthH] at e; cases e) (S3 b o e)
    have lhl : hl.length = kk := by
      have := congrArg List.length e4
      rw [List.length_map] at this
      omega
    have lvs : vs.length = hl.length := by
      rw [dpAll_len p4, List.length_map]
    have hh4 : Hds K H4 D hl := ⟨vs, d4, p4⟩
    clear S3 t3 d3 b4 n3 nD nDl hD
    -- found
    refine ⟨by show 0 ≤ sizeLine; decide, fun F hF => ?_⟩
    have sF := same_upd (o := HO.lst []) hF
    have fD : F ≠ D := ne_t d4 hF
    have hFH : H F = none := S4.free hF
    have F5 : (upd H4 F (.lst [])) F = some (.lst []) := upd_same
    have S5 := S4.trans sF
    have d5 := sF _ _ d4
    have p5 := dpAll_mono sF p4
    change tNext _ _ (upd H4 F (.lst []))
    generalize upd H4 F (.lst []) = H5 at F5 S5 d5 p5 ⊢
    clear sF hF S4 hh4 d4 p4
    refine ⟨_, rfl, D, vs, rfl, .inl (.inl d5), ?_⟩
    refine for_it (walk_enum (K := K) (a := D) (xs := vs)) (fun i σ H' => ∃ (bs : List Er) (fv : List V) (y6 y7 y8 y9 y10 y11 y12 y13 y14 : Option V), σ = [some (.ref a), some (.int (k : Int)), some (.ref th), some (.ref l3), some (.ref D), some (.ref F), y6, y7, y8, y9, y10, y11, y12, y13, y14] ∧ fv.length = i ∧
      Same H H' ∧ H' D = some (.lst vs) ∧ DpAll K H' vs (hl.map hdD) ∧ H' F = some (.lst fv) ∧ DpAll K H' fv (bs.map errD) ∧ bs.map (·.1) = (hl.map (·.1)).take i ∧ ∀ e ∈ bs, ErOk 40 13 e)
      ⟨[], [], none, none, none, none, none, none, none, none, none, rfl, rfl, S5, d5, p5, F5, .nil, rfl, fun e h => by cases h⟩ (fun i σ H' _ ⟨_, _, _, _, _, _, _, _, _, _, _, _, _, _, h, _⟩ => .inl (.inl h)) ?_ ?_
    · rintro i v σ H6 H7 hi ⟨bs, fv, y6, y7, y8, y9, y10, y11, y12, y13, y14, rfl, hfv, S6, d6, p6, F6, bp6, be6, bo6⟩ ⟨T0, x1, x2, rfl, hT, rfl, e1, e2⟩
      cases e1
      obtain ⟨p, b, hp, rfl, hb⟩ := Hds.at p6 e2
      have sT := same_upd (o := HO.tup [.int (i : Nat), .ref b]) hT
      have po := o4 p (List.mem_of_getElem? hp)
      refine ⟨T0, _, rfl, .inl (.inl upd_same), rfl, _, _, rfl, _, _, rfl, ⟨b, _, rfl, Same.seqT sT hb, rfl, _, _, rfl, _, _, rfl, rfl, rfl, ?_⟩⟩
      have S7 := S6.trans sT
      have d7 := sT _ _ d6
      have p7 := dpAll_mono sT p6
      have F7 := sT _ _ F6
      have bp7 := dpAll_mono sT bp6
      change tSeq _ _ _ _ (upd H6 T0 (.tup [.int (i : Nat), .ref b]))
      generalize upd H6 T0 (.tup [.int (i : Nat), .ref b]) = H7 at S7 d7 p7 F7 bp7 ⊢
      clear S6 d6 p6 F6 bp6 sT hT hb e2
      -- the tape
      refine ⟨_, rfl, _, rfl, _, _, rfl, rfl, _, rfl, _, _, rfl, rfl, a, ns, k + 1 + i, ?_, S7.seq hS, by omega, fun H8 t m s8 ht t8 => ?_⟩
      · show [V.ref a, V.int ((k : Int) + 1 + (i : Int))] = [V.ref a, V.int ((k + 1 + i : Nat) : Int)]
        rw [show (k : Int) + 1 + (i : Int) = ((k + 1 + i : Nat) : Int) by omega]
      have tD : t ≠ D := ne_t d7 ht
      have tF : t ≠ F := ne_t F7 ht
      have htH : H t = none := S7.free ht
      -- names
      refine ⟨_, rfl, t, m, 24, rfl, t8, by decide, fun H9 l9 b9 t9 hl9 d9 => ?_⟩
      have lwl := words_len m 24
      generalize (wordsF m 24).1 = wl at d9 lwl
      generalize (wordsF m 24).2 = m9 at t9
      have l9t : l9 ≠ t := ne_t t8 hl9
      have K9 : Same H7 H9 := fun b o e => b9 b o (fun z => by rw [z, ht] at e; cases e) (s8 b o e)
      clear b9 hl9 t8 s8
      -- room
      refine ⟨by show 5 ≤ sizeLine; decide, fun p10 h10 => ?_⟩
      have s10 := same_upd (o := HO.lst (roomS.map V.int)) h10
      have n10 := ne_t t9 h10
      obtain ⟨rm, hrm, hrm1, hrm2⟩ := roomS_in m9
      refine ⟨_, rfl, t, m9, 5, rfl, s10 _ _ t9, by decide, by decide, p10, roomS.map V.int, _, _, rfl, rfl, .inl (.inl (by rw [upd_ne n10]; exact upd_same)), int_item roomS m9 5 rfl (by decide), ?_⟩
      have hrm' : roomS.getD (m9 % ((5 : Nat) : Int)).toNat 0 = (rm : Int) := hrm
      rw [hrm']
      have K11 : Same H7 (upd (upd H9 p10 (.lst (roomS.map V.int))) t (.lst [.int (m9 / 5)])) := fun b o e => by
        rw [upd_ne (fun z => by rw [z, ht] at e; cases e)]
        exact s10 _ _ (K9 b o e)
      have d11 : (upd (upd H9 p10 (.lst (roomS.map V.int))) t (.lst [.int (m9 / 5)])) l9 = some (.lst (wl.map V.str)) := by
        rw [upd_ne l9t]
        exact s10 _ _ d9
      have t11 : (upd (upd H9 p10 (.lst (roomS.map V.int))) t (.lst [.int (m9 / 5)])) t = some (.lst [.int (m9 / 5)]) := upd_same
      change tNext _ _ (upd (upd H9 p10 (.lst (roomS.map V.int))) t (.lst [.int (m9 / 5)]))
      generalize upd (upd H9 p10 (.lst (roomS.map V.int))) t (.lst [.int (m9 / 5)]) = H11 at K11 d11 t11 ⊢
      clear K9 d9 t9 s10 h10 n10
      -- around, words
      refine ⟨_, rfl, _, rfl, _, rfl, l9, _, rfl, .inl (.inl d11), fun pA hA => ?_⟩
      have hct : cutV (wl.map V.str) none (some (p.2 : Int)) = (wl.take p.2).map V.str := by rw [cutV_to, List.map_take]
      rw [hct]
      have sA := same_upd (o := HO.lst ((wl.take p.2).map V.str)) hA
      have pAt := ne_t t11 hA
      have tA := sA _ _ t11
      have dA := sA _ _ d11
      have arA : (upd H11 pA (.lst ((wl.take p.2).map V.str))) pA = some (.lst ((wl.take p.2).map V.str)) := upd_same
      have KA := K11.trans sA
      change tNext _ _ (upd H11 pA (.lst ((wl.take p.2).map V.str)))
      generalize upd H11 pA (.lst ((wl.take p.2).map V.str)) = HA at tA dA arA KA ⊢
      clear sA hA K11 d11 t11
      refine ⟨_, rfl, _, rfl, rfl, l9, wl.map V.str, 3, rfl, rfl, .inl (.inl dA), by rw [List.length_map]; omega, fun lw hlw => ?_⟩
      have hrev : ((wl.map V.str).drop (3 + 1)).reverse = (wl.drop 4).reverse.map V.str := by
        rw [← List.map_drop, List.map_reverse]
      rw [hrev]
      have sB := same_upd (o := HO.lst ((wl.drop 4).reverse.map V.str)) hlw
      have lwt := ne_t tA hlw
      have lwA := ne_t arA hlw
      have tB := sB _ _ tA
      have arB := sB _ _ arA
      have KB := KA.trans sB
      have lwH7 : H7 lw = none := KA.free hlw
      have wB : (upd HA lw (.lst ((wl.drop 4).reverse.map V.str))) lw = some (.lst ((wl.drop 4).reverse.map V.str)) := upd_same
      change tNext _ _ (upd HA lw (.lst ((wl.drop 4).reverse.map V.str)))
      generalize upd HA lw (.lst ((wl.drop 4).reverse.map V.str)) = HB at tB arB KB wB ⊢
      clear sB hlw tA dA arA KA
      have gB : SG K HB t D lw (m9 / 5) (wl.drop 4) hl := ⟨tB, wB, ⟨vs, KB _ _ d7, dpAll_mono KB p7⟩, tD.symm, (ne_t d7 lwH7).symm, lwt.symm⟩
      -- the body
      have lwa : (wl.take p.2).length = p.2 := by
        rw [List.length_take]
        omega
      refine ⟨_, rfl, _, rfl, _, rfl, _, rfl, _, rfl, t, D, pA, lw, m9 / 5, wl.take p.2, wl.drop 4, hl, rm, rfl, gB, arB, pAt, lwA.symm, ?_, by omega, ?_, by omega, hrm1, by omega, fun H12 v12 n12 rs12 x12 k12 t12 w12 tm12 dp12 => ?_⟩
      · intro z
        rw [z] at lwa
        change 0 = p.2 at lwa
        omega
      · intro z
        rw [z] at lhl
        change 0 = kk at lhl
        omega
      have kF : Kp (Two t lw) H7 H12 := fun b o hb e => k12 b o hb (KB b o e)
      have nF : ¬ Two t lw F := fun z => z.elim (fun z => tF z.symm) (fun z => (ne_t F7 lwH7) z.symm)
      have nDD : ¬ Two t lw D := fun z => z.elim (fun z => tD z.symm) (fun z => (ne_t d7 lwH7) z.symm)
      have F12 := kF _ _ nF F7
      have d12 := kF _ _ nDD d7
      have tk12 : Tk H7 H12 := (Tk.of KB).trans (gB.tk k12)
      have p12 := dpAll_tk tk12 (imm_hds hl) p7
      have bp12 := dpAll_tk tk12 (imm_err bo6) bp7
      have ar12 := k12 _ _ (fun z => z.elim pAt (fun z => lwA z.symm)) arB
      have lwH : H lw = none := S7.free lwH7
      have S12 : Same H H12 := fun b o e => kF b o (fun z => by
        rcases z with z | z
        · rw [z, htH] at e
          cases e
        · rw [z, lwH] at e
          cases e) (S7 b o e)
      refine ⟨_, rfl, .inl ⟨rfl, _, .inl (.inl F12)⟩, _, rfl, _, rfl, pA, _, rfl, .inl ⟨.inl (.inl ar12), fun l17 h17 => ⟨_, rfl, by show 3 ≤ sizeLine; decide, fun p18 h18 => ?_⟩⟩⟩
      have s17 := same_upd (o := HO.tup ((wl.take p.2).map V.str)) h17
      have s18 := s17.trans (same_upd (o := HO.tup [.str p.1, .ref l17, v12]) h18)
      refine ⟨F, fv, _, rfl, rfl, s18 _ _ F12, small1000 (by omega), ?_⟩
      obtain ⟨tm, okm, etm, szm, dpm⟩ := tm12
      have ero : ErOk 40 13 (p.1, wl.take p.2, tm) := ⟨okm, Nat.le_trans szm hrm2, dpm, by show (wl.take p.2).length ≤ 9; omega⟩
      have new : Dp K (upd (upd H12 l17 (.tup ((wl.take p.2).map V.str))) p18 (.tup [.str p.1, .ref l17, v12])) (.ref p18) (errD (p.1, wl.take p.2, tm)) := by
        show Dp K _ _ (.tuple [.str p.1, .tuple ((wl.take p.2).map .str), toD tm])
        rw [etm]
        exact .tup (.inl (.inl upd_same)) (.cons (.str _) (.cons (.tup (.inl (.inl (same_upd h18 _ _ upd_same))) (dpAll_strs _)) (.cons (dp_mono s18 dp12) .nil)))
      have boN : ∀ e ∈ bs ++ [(p.1, wl.take p.2, tm)], ErOk 40 13 e := fun e he => by
        rcases List.mem_append.mp he with h | h
        · exact bo6 e h
        · rw [List.mem_singleton.mp h]
          exact ero
      have bpN := dpAll_snoc (dpAll_mono s18 bp12) new
      have FN := s18 _ _ F12
      have dN := s18 _ _ d12
      have pN := dpAll_mono s18 p12
      have SN := S12.trans s18
      generalize upd (upd H12 l17 (.tup ((wl.take p.2).map V.str))) p18 (.tup [.str p.1, .ref l17, v12]) = HN at bpN FN dN pN SN ⊢
      refine ⟨bs ++ [(p.1, wl.take p.2, tm)], fv ++ [.ref p18], _, _, _, _, _, _, _, _, _, rfl, by rw [List.length_append, hfv]; rfl, ?_, ?_, ?_, upd_same, ?_, ?_, boN⟩
      · exact fun b o e => by
          rw [upd_ne (ne_of_none e hFH)]
          exact SN b o e
      · rw [upd_ne fD.symm]
        exact dN
      · exact dpAll_tk (tk_put FN) (imm_hds hl) pN
      · have im := imm_err boN
        rw [List.map_append] at im ⊢
        exact dpAll_tk (tk_put FN) im bpN
      · rw [List.map_append, be6, List.take_add_one, List.getElem?_map, hp]
        rfl
    · rintro σ H6 ⟨bs, fv, y6, y7, y8, y9, y10, y11, y12, y13, y14, rfl, hfv, S6, d6, p6, F6, bp6, be6, bo6⟩
      rw [lvs, ← List.length_map (f := fun p : Str × Nat => p.1), List.take_length] at be6
      refine ⟨_, rfl, F, fv, rfl, .inl ⟨.inl (.inl F6), fun p hp => ?_⟩⟩
      have s7 := same_upd (o := HO.tup fv) hp
      exact q' _ _ bs (S6.trans s7) (be6.trans e4) bo6 (.tup (.inl (.inl upd_same)) (dpAll_mono s7 bp6))
end
end SP

namespace SP
open PySem PySem.Spec PyProof.Rows L2
open C8 (pss_cut tCut)
/-! ### errands of plain and of held books: a word, things, a term -/
abbrev Gr := Str × List PyData × Tm
def grD (e : Gr) : PyData := .tuple (.str e.1 :: (e.2.1 ++ [toD e.2.2]))
structure GrOk (n d : Nat) (e : Gr) : Prop where
  ok : okT e.2.2
  s : sz e.2.2 ≤ n
  d : dpt e.2.2 ≤ d
  i : immAll e.2.1 = true
def ofEr (e : Er) : Gr := (e.1, [.tuple (e.2.1.map .str)], e.2.2)
theorem ofEr_D (e : Er) : grD (ofEr e) = errD e := rfl
section
variable {P : Program} {w : World} {K : PySem.W.Frag} {mg : Str → Option Value} {base : Heap}
theorem gr_at {H : Hp} {v : V} {e : Gr} (h : Dp K H v (grD e)) : ∃ (b : Addr) (ys : List V) (y : V), v = .ref b ∧ SqT K H b (.str e.1 :: (ys ++ [y])) ∧ Dp K H y (toD e.2.2) := by
  obtain ⟨b, xs, rfl, e3, e4⟩ := dp_tup h
  cases e4 with
  | @cons x1 xr _ _ h1 h2 =>
    have := dp_str h1
    subst this
    have hl : xr.length = (e.2.1 ++ [toD e.2.2]).length := dpAll_len h2
    rw [List.length_append] at hl
    change xr.length = e.2.1.length + 1 at hl
    have hsplit : xr = xr.take e.2.1.length ++ xr.drop e.2.1.length := (List.take_append_drop _ _).symm
    obtain ⟨y, hy⟩ : ∃ y, xr.drop e.2.1.length = [y] := by
      match hd : xr.drop e.2.1.length with
      | [] =>
        have := congrArg List.length hd
        rw [List.length_drop] at this
        change xr.length - e.2.1.length = 0 at this
        omega
      | [y] => exact ⟨y, rfl⟩
      | y :: z :: r =>
        have := congrArg List.length hd
        rw [List.length_drop] at this
        change xr.length - e.2.1.length = r.length + 2 at this
        omega
    have hd2 := dpAll_drop e.2.1.length h2
    rw [hy, List.drop_append_of_le_length (Nat.le_refl _), List.drop_length] at hd2
    cases hd2 with
    | cons z1 z2 =>
      rw [hy] at hsplit
      rw [hsplit] at e3
      exact ⟨b, _, y, rfl, e3, z1⟩
/-- the errand that is found: the first of that word -/
def spFind (K : PySem.W.Frag) : Sp := fun vs H Q _ => ∃ (v : V) (f : Str) (gs : List Gr), vs = [v, .str f] ∧ Dp K H v (.tuple (gs.map grD)) ∧ f ∈ gs.map (·.1) ∧
  ∀ (v' : V) (i : Nat) (e : Gr), gs[i]? = some e → e.1 = f → (∀ j e', j < i → gs[j]? = some e' → e'.1 ≠ f) → Dp K H v' (grD e) → Q v' H
theorem ok_find_errand {f : Addr} {fd : FuncData} (F : Fun K "find_errand" "find_errand" s_find_errand f fd) (T : Txt mg)  : FnOk P w K mg base CX0 1 f fd ["book", "word"] (spFind K) := by
  refine F.ok sc_find_errand (fun vs H Q E h => ?_) (fun cdv A outer s H vs Q E hr h => ?_)
  · obtain ⟨v, f, gs, rfl, _⟩ := h
    rfl
  · obtain ⟨v, f, gs, rfl, hd, hf, q⟩ := h
    refine ⟨_, (pss_cons (ps_for PassesOwn.never rfl (pi_tup (pv 0)) (pg_name (i := 2) sc_find_errand.nd rfl (Or.inl rfl))
      (pss_one (ps_if (pt_cmpR op_eq (pe_ix (r := rIxT K) ix_tup (pv 2) pe_int (fun _ _ => rfl)) (pv 1) (nomark _)) (pss_one (ps_ret (pv 2))) pss_nil)))
      (pss_one (ps_ret pe_non))), ?_⟩
    obtain ⟨a, xs, rfl, a1, a2⟩ := dp_tup hd
    have lx : xs.length = gs.length := by
      rw [dpAll_len a2, List.length_map]
    refine ⟨_, rfl, a, rfl, ⟨_, a1⟩, ?_⟩
    refine for_it (walk_tup (K := K) (a := a) (xs := xs)) (fun i σ H' => ∃ y, σ = [some (.ref a), some (.str f), y] ∧ H' = H ∧ ∀ j e', j < i → gs[j]? = some e' → e'.1 ≠ f) ⟨none, rfl, rfl, fun j e' h => by omega⟩ (fun i σ H' _ ⟨_, _, h, _⟩ => by rw [h]; exact a1) ?_ ?_
    · rintro i v0 σ H0 H' hi ⟨y, rfl, rfl, hno⟩ ⟨rfl, hv⟩
      obtain ⟨d, z1, z2⟩ := dpAll_at a2 hv
      rw [List.getElem?_map] at z1
      obtain ⟨e, he, rfl⟩ := Option.map_eq_some_iff.mp z1
      obtain ⟨b, ys, yl, rfl, b1, b2⟩ := gr_at z2
      refine ⟨_, rfl, b, _, 0, .str e.1, rfl, rfl, b1, atI_nat (j := 0) rfl, _, rfl, rfl, _, rfl, ?_⟩
      rw [dec_str]
      refine ite2 (fun c => ?_) (fun c => ?_)
      · exact ⟨_, rfl, q _ i e he (of_decide_eq_true c) hno z2⟩
      · refine ⟨_, rfl, rfl, fun j e' hj hje => ?_⟩
        by_cases h : j = i
        · subst h
          rw [he] at hje
          cases hje
          exact fun z => c (decide_eq_true z)
        · exact hno j e' (by omega) hje
    · rintro σ H' ⟨y, rfl, rfl, hno⟩
      obtain ⟨e, he, rfl⟩ := List.mem_map.mp hf
      obtain ⟨j, hj⟩ := List.getElem?_of_mem he
      have := (List.getElem?_eq_some_iff.mp hj).1
      exact absurd rfl (hno j e (by omega) hj)
/-- a place as data, and the term there -/
def termG : Tm → List Nat → Option Tm
  | tm, [] => some tm
  | tm, k :: r => match (kids tm)[k]? with
    | none => none
    | some t => termG t r
def spTermAt (K : PySem.W.Frag) : Sp := fun vs H Q _ => ∃ (v : V) (p : Addr) (f : Str) (ks : List Nat) (gs : List Gr) (i : Nat) (e : Gr) (tm : Tm), vs = [v, .ref p] ∧ Dp K H v (.tuple (gs.map grD)) ∧ SqT K H p (.str f :: ks.map fun (k : Nat) => V.int (k : Int)) ∧ (gs.map (·.1)).Nodup ∧ gs[i]? = some e ∧ e.1 = f ∧ okT e.2.2 ∧ termG e.2.2 ks = some tm ∧ ks.length ≤ 1000 ∧
  ∀ (H' : Hp) (v' : V), Same H H' → okT tm → Dp K H' v' (toD tm) → Q v' H'
theorem ok_term_at {f : Addr} {fd : FuncData} (F : Fun K "term_at" "term_at" s_term_at f fd) (T : Txt mg) (C_find_errand : Callee P w K mg base "find_errand" ["book", "word"] 1 (spFind K)) (C_parts_of : Callee P w K mg base "parts_of" ["term"] 1 (spParts K)) : FnOk P w K mg base CX0 2 f fd ["book", "place"] (spTermAt K) := by
  refine F.ok sc_term_at (fun vs H Q E h => ?_) (fun cdv A outer s H vs Q E hr h => ?_)
  · obtain ⟨v, p, f, ks, gs, i, e, tm, rfl, _⟩ := h
    rfl
  · obtain ⟨v, p, f, ks, gs, i, e, tm, rfl, hd, hp, hnd, hie, hef, ok, htm, hks, q⟩ := h
    refine ⟨_, (pss_cons (ps_set (i := 2) sc_term_at.nd rfl (Or.inl rfl) (pe_ix (r := rIxT K) ix_tup (pe_fn C_find_errand hr (by rfl) (pa_cons (pv 0) (pa_cons (pe_ix (r := rIxT K) ix_tup (pv 1) pe_int (fun _ _ => rfl)) pa_nil))) (pe_un un_neg pe_int) (fun _ _ => rfl)))
      (pss_cons (ps_for PassesOwn.never rfl (pi_tup (pe_slice (r := rSlT K) sl_tup (pv 1) (po_some pe_int) po_none)) (pg_name (i := 3) sc_term_at.nd rfl (Or.inl rfl))
      (pss_one (ps_set (i := 2) sc_term_at.nd rfl (Or.inl rfl) (pe_ix (r := rIxT K) ix_tup (pe_fn C_parts_of hr (by rfl) (pa_cons (pv 2) pa_nil)) (pv 3) (fun _ _ => rfl)))))
      (pss_one (ps_ret (pv 2))))), ?_⟩
    refine ⟨_, rfl, _, rfl, p, _, 0, .str f, rfl, rfl, hp, atI_nat (j := 0) rfl, v, f, gs, rfl, hd, by rw [← hef]; exact List.mem_map_of_mem (List.mem_of_getElem? hie), fun v1 j e1 h1 h2 h3 h4 => ?_⟩
    have hij : j = i := by
      have l1 := (List.getElem?_eq_some_iff.mp h1).1
      have l2 := (List.getElem?_eq_some_iff.mp hie).1
      have g1 : (gs.map (·.1))[j]? = some f := by rw [List.getElem?_map, h1, ← h2]; rfl
      have g2 : (gs.map (·.1))[i]? = some f := by rw [List.getElem?_map, hie, ← hef]; rfl
      have lm : j < (gs.map (·.1)).length := by rw [List.length_map]; exact l1
      exact (List.getElem?_inj lm hnd).mp (g1.trans g2.symm)
    subst hij
    rw [hie] at h1
    cases h1
    obtain ⟨b, ys, y, rfl, b1, b2⟩ := gr_at h4
    refine ⟨_, rfl, b, _, -1, y, rfl, rfl, b1, at_last (xs := .str e.1 :: ys), ?_⟩
    refine ⟨_, rfl, _, rfl, p, _, rfl, hp, ?_, fun p2 h2 => ?_⟩
    · rintro ⟨z, _⟩
      rw [show (1 : Int) = ((1 : Nat) : Int) from rfl, HT.sIx_nat, List.length_cons] at z
      omega
    have hct : cutV (.str f :: ks.map fun (k : Nat) => V.int (k : Int)) (some 1) none = ks.map fun (k : Nat) => V.int (k : Int) := cutV_from _ 1
    rw [hct]
    have s2 := same_upd (o := HO.tup (ks.map fun (k : Nat) => V.int (k : Int))) h2
    have p2t : SqT K (upd H p2 (.tup (ks.map fun (k : Nat) => V.int (k : Int)))) p2 (ks.map fun (k : Nat) => V.int (k : Int)) := .inl (.inl upd_same)
    refine ⟨p2, rfl, ⟨_, p2t⟩, ?_⟩
    refine for_it (walk_tup (K := K) (a := p2) (xs := ks.map fun (k : Nat) => V.int (k : Int))) (fun j σ H' => ∃ (vt : V) (tj : Tm) (y3 : Option V), σ = [some v, some (.ref p), some vt, y3] ∧ Same (upd H p2 (.tup (ks.map fun (k : Nat) => V.int (k : Int)))) H' ∧ okT tj ∧ Dp K H' vt (toD tj) ∧ termG tj (ks.drop j) = some tm)
      ⟨y, e.2.2, none, rfl, Same.refl _, ok, dp_mono s2 b2, htm⟩ (fun j σ H' _ ⟨_, _, _, _, h, _⟩ => Same.seqT h p2t) ?_ ?_
    · rintro j v0 σ H0 H' hj ⟨vt, tj, y3, rfl, s3, okj, dj, gj⟩ ⟨rfl, hv⟩
      rw [List.length_map] at hj
      rw [List.getElem?_map, List.getElem?_eq_getElem hj] at hv
      cases hv
      rw [drop_at (List.getElem?_eq_getElem hj), termG] at gj
      cases hk : (kids tj)[ks[j]]? with
      | none =>
        rw [hk] at gj
        cases gj
      | some t =>
        rw [hk] at gj
        refine ⟨_, rfl, vt, tj, rfl, okj, dj, fun H4 v4 s4 d4 => ?_⟩
        obtain ⟨a4, xs4, rfl, x1, x2⟩ := dp_tup d4
        obtain ⟨u, u1, u2⟩ := dpAll_get (i := ks[j]) x2 (by rw [List.getElem?_map, hk]; rfl)
        exact ⟨_, rfl, a4, xs4, _, u, rfl, rfl, x1, atI_nat u1, u, t, _, rfl, s3.trans s4, kids_ok okj t (List.mem_of_getElem? hk), u2, gj⟩
    · rintro σ H' ⟨vt, tj, y3, rfl, s3, okj, dj, gj⟩
      rw [List.length_map, List.drop_eq_nil_of_le (Nat.le_refl _), termG] at gj
      cases gj
      exact ⟨_, rfl, q H' vt (s2.trans s3) okj dj⟩
end
end SP

namespace SP
open PySem PySem.Spec PyProof.Rows L2
open C8 (pss_cut tCut)
abbrev Pt := List PyData × Tm
def entD (q : Pt) : PyData := .tuple [.tuple q.1, toD q.2]
def plsQ (q : Pt) : List PyData := allD q.2 q.1
def enumK : List Tm → Nat → List PyData → List Pt
  | [], _, _ => []
  | t :: l, k, pl => (pl ++ [.int (k : Int)], t) :: enumK l (k + 1) pl
theorem enumK_pls (pl : List PyData) : ∀ (l : List Tm) (k : Nat), (enumK l k pl).flatMap plsQ = allK l k pl
  | [], _ => rfl
  | t :: l, k => by
    rw [enumK, allK, List.flatMap_cons, enumK_pls pl l]
    rfl
theorem enumK_len (pl : List PyData) : ∀ (l : List Tm) (k : Nat), (enumK l k pl).length = l.length
  | [], _ => rfl
  | t :: l, k => congrArg (· + 1) (enumK_len pl l (k + 1))
theorem enumK_at (pl : List PyData) : ∀ (l : List Tm) (k i : Nat) (t : Tm), l[i]? = some t → (enumK l k pl)[i]? = some (pl ++ [.int ((k + i : Nat) : Int)], t)
  | t :: l, k, 0, u, h => by
    cases h
    rfl
  | t :: l, k, i + 1, u, h => by
    have := enumK_at pl l (k + 1) i u h
    rw [show k + 1 + i = k + (i + 1) by omega] at this
    exact this
theorem enumK_sz (pl : List PyData) : ∀ (l : List Tm) (k : Nat), ((enumK l k pl).map fun q => sz q.2).sum = (l.map sz).sum
  | [], _ => rfl
  | t :: l, k => by
    rw [enumK, List.map_cons, List.sum_cons, enumK_sz pl l, List.map_cons, List.sum_cons]
theorem plsQ_eq (q : Pt) : plsQ q = entD q :: (enumK (kids q.2) 0 q.1).flatMap plsQ := by
  rw [enumK_pls]
  exact allD_eq _ _
structure PtOk (q : Pt) : Prop where
  ok : okT q.2
  i : immAll q.1 = true
  ne : q.1 ≠ []
  l : q.1.length + dpt q.2 ≤ 500
theorem imm_ents : ∀ {S : List Pt}, (∀ q ∈ S, PtOk q) → immAll (S.map entD) = true
  | [], _ => rfl
  | q :: S, h => by
    show ((immAll q.1 && (imm (toD q.2) && true)) && immAll (S.map entD)) = true
    rw [(h q List.mem_cons_self).i, imm_toD _ (h q List.mem_cons_self).ok, imm_ents fun u hu => h u (List.mem_cons_of_mem _ hu)]
    rfl
theorem enumK_ok {q : Pt} (h : PtOk q) : ∀ u ∈ enumK (kids q.2) 0 q.1, PtOk u := by
  intro u hu
  obtain ⟨i, hi⟩ := List.getElem?_of_mem hu
  have hl := (List.getElem?_eq_some_iff.mp hi).1
  rw [enumK_len] at hl
  have e := enumK_at q.1 (kids q.2) 0 i _ (List.getElem?_eq_getElem hl)
  rw [hi] at e
  cases e
  have hm : (kids q.2)[i] ∈ kids q.2 := List.getElem_mem hl
  have hd := kids_dp q.2 _ hm
  refine ⟨kids_ok h.ok _ hm, immAll_append h.i rfl, by simp, ?_⟩
  have := h.l
  rw [List.length_append]
  show q.1.length + 1 + dpt (kids q.2)[i] ≤ 500
  omega
def stS (S : List Pt) : Nat := (S.map fun q => sz q.2).sum
theorem stS_app (S R : List Pt) : stS (S ++ R) = stS S + stS R := by
  unfold stS
  rw [List.map_append, List.sum_append]
theorem stS_rev (S : List Pt) : stS S.reverse = stS S := by
  unfold stS
  rw [List.map_reverse, List.sum_reverse]
theorem dpAll_snoc_inv {K : PySem.W.Frag} {H : Hp} : ∀ {ds : List PyData} {tv : List V} {d : PyData}, DpAll K H tv (ds ++ [d]) → ∃ tv' x, tv = tv' ++ [x] ∧ DpAll K H tv' ds ∧ Dp K H x d
  | [], tv, d, h => by
    cases h with
    | cons a t =>
      cases t
      exact ⟨[], _, rfl, .nil, a⟩
  | e :: ds, tv, d, h => by
    cases h with
    | cons a t =>
      obtain ⟨tv', x, rfl, b, c⟩ := dpAll_snoc_inv t
      exact ⟨_ :: tv', x, rfl, .cons a b, c⟩
theorem len_st : ∀ S : List Pt, S.length ≤ stS S
  | [] => Nat.zero_le _
  | q :: S => by
    have := len_st S
    have := sz_pos q.2
    show S.length + 1 ≤ sz q.2 + stS S
    omega
section
variable {P : Program} {w : World} {K : PySem.W.Frag} {mg : Str → Option Value} {base : Heap}
def spPlaced (K : PySem.W.Frag) : Sp := fun vs H Q _ => ∃ (v : V) (e : Gr), vs = [v] ∧ GrOk 1000 400 e ∧ Dp K H v (grD e) ∧
  ∀ (H' : Hp) (l : Addr) (ys : List V), Same H H' → H l = none → H' l = some (.lst ys) → DpAll K H' ys (plsQ ([.str e.1], e.2.2)) → Q (.ref l) H'
theorem ok_placed_terms {f : Addr} {fd : FuncData} (F : Fun K "placed_terms" "placed_terms" s_placed_terms f fd) (T : Txt mg) (C_parts_of : Callee P w K mg base "parts_of" ["term"] 1 (spParts K)) : FnOk P w K mg base CX0 2 f fd ["errand"] (spPlaced K) := by
  refine F.ok sc_placed_terms (fun vs H Q E h => ?_) (fun cdv A outer s H vs Q E hr h => ?_)
  · obtain ⟨v, e, rfl, _⟩ := h
    rfl
  · obtain ⟨v, e, rfl, go, hd, q⟩ := h
    refine ⟨_, (pss_cons (ps_set (i := 1) sc_placed_terms.nd rfl (Or.inl rfl) (pe_lst pa_nil))
      (pss_cons (ps_set (i := 2) sc_placed_terms.nd rfl (Or.inl rfl) (pe_lst (pa_cons (pe_tup (pa_cons (pe_tup (pa_cons (pe_ix (r := rIxT K) ix_tup (pv 0) pe_int (fun _ _ => rfl)) pa_nil)) (pa_cons (pe_ix (r := rIxT K) ix_tup (pv 0) (pe_un un_neg pe_int) (fun _ _ => rfl)) pa_nil))) pa_nil)))
      (pss_cons (ps_while PassesOwn.never (pt_truth (pv 2) (by intro _; rfl)) (pss_cons (ps_asg (pe_bm0 PySem.F.plainAttrs_list PySem.F.slot_list_pop PySem.F.type_list_pop mt_pop (pv 2)) (pg_tup rfl (pgs_cons (pg_name (i := 3) sc_placed_terms.nd rfl (Or.inl rfl)) (pgs_cons (pg_name (i := 4) sc_placed_terms.nd rfl (Or.inl rfl)) pgs_nil))))
      (pss_cons (ps_expr (pe_bm PySem.F.plainAttrs_list PySem.F.slot_list_append PySem.F.type_list_append mt_append (pv 1) (pa_cons (pe_tup (pa_cons (pv 3) (pa_cons (pv 4) pa_nil))) pa_nil)))
      (pss_cons (ps_set (i := 5) sc_placed_terms.nd rfl (Or.inl rfl) (pe_fn C_parts_of hr (by rfl) (pa_cons (pv 4) pa_nil)))
      (pss_one (ps_for PassesOwn.never rfl (pi_revR (by rfl) T.n_reversed (prg_1 (by rfl) T.n_range (pe_callB (r := rLenS K) call_lenS (by rfl) T.n_len (by decide +kernel) (pa_cons (pv 5) pa_nil)))) (pg_name (i := 6) sc_placed_terms.nd rfl (Or.inl rfl))
      (pss_one (ps_expr (pe_bm PySem.F.plainAttrs_list PySem.F.slot_list_append PySem.F.type_list_append mt_append (pv 2) (pa_cons (pe_tup (pa_cons (pe_op (r := rCatA K) op_catA (pv 3) (pe_tup (pa_cons (pv 6) pa_nil))) (pa_cons (pe_ix (r := rIxT K) ix_tup (pv 5) (pv 6) (fun _ _ => rfl)) pa_nil))) pa_nil))))))))))
      (pss_one (ps_ret (pv 1)))))), ?_⟩
    obtain ⟨b, ys, y, rfl, b1, b2⟩ := gr_at hd
    have hsl := sizeLine_eq
    refine ⟨by show 0 ≤ sizeLine; decide, fun Pl hP => ?_⟩
    have sP := same_upd (o := HO.lst []) hP
    refine ⟨_, rfl, b, _, 0, .str e.1, rfl, rfl, Same.seqT sP b1, atI_nat (j := 0) rfl, by show 1 ≤ sizeLine; decide, fun p1 h1 => ⟨_, rfl, _, rfl, b, _, -1, y, rfl, rfl, Same.seqT (sP.trans (same_upd h1)) b1, at_last (xs := .str e.1 :: ys), by show 2 ≤ sizeLine; decide, fun p2 h2 => ⟨by show 1 ≤ sizeLine; decide, fun D h3 => ?_⟩⟩⟩
    have s3 := sP.trans ((same_upd (o := HO.tup [.str e.1]) h1).trans ((same_upd (o := HO.tup [.ref p1, y]) h2).trans (same_upd (o := HO.lst [.ref p2]) h3)))
    have sD := (same_upd (o := HO.tup [.str e.1]) h1).trans ((same_upd (o := HO.tup [.ref p1, y]) h2).trans (same_upd (o := HO.lst [.ref p2]) h3))
    have P3 := sD _ _ (upd_same (H := H) (a := Pl) (o := HO.lst []))
    have nPD : D ≠ Pl := ne_t (same_upd (o := HO.tup [.ref p1, y]) h2 _ _ (same_upd (o := HO.tup [.str e.1]) h1 _ _ (upd_same (H := H) (a := Pl) (o := HO.lst [])))) h3
    have hDH : H D = none := (sP.trans ((same_upd (o := HO.tup [.str e.1]) h1).trans (same_upd (o := HO.tup [.ref p1, y]) h2))).free h3
    have D3 : (upd (upd (upd (upd H Pl (.lst [])) p1 (.tup [.str e.1])) p2 (.tup [.ref p1, y])) D (.lst [.ref p2])) D = some (.lst [.ref p2]) := upd_same
    have E3 : Dp K (upd (upd (upd (upd H Pl (.lst [])) p1 (.tup [.str e.1])) p2 (.tup [.ref p1, y])) D (.lst [.ref p2])) (.ref p2) (entD ([.str e.1], e.2.2)) :=
      .tup (.inl (.inl (same_upd h3 _ _ upd_same))) (.cons (.tup (.inl (.inl (same_upd h3 _ _ (same_upd h2 _ _ upd_same)))) (.cons (.str _) .nil)) (.cons (dp_mono s3 b2) .nil))
    change tNext _ _ (upd (upd (upd (upd H Pl (.lst [])) p1 (.tup [.str e.1])) p2 (.tup [.ref p1, y])) D (.lst [.ref p2]))
    generalize upd (upd (upd (upd H Pl (.lst [])) p1 (.tup [.str e.1])) p2 (.tup [.ref p1, y])) D (.lst [.ref p2]) = H3 at s3 P3 D3 E3 ⊢
    clear sD sP h1 h2 h3
    have pk0 : PtOk ([.str e.1], e.2.2) := ⟨go.ok, rfl, by simp, by have := go.d; show 1 + dpt e.2.2 ≤ 500; omega⟩
    have hsz := go.s
    generalize hq0 : (([.str e.1], e.2.2) : Pt) = q0 at E3 pk0 q
    have hsz0 : sz q0.2 ≤ 1000 := by rw [← hq0]; exact hsz
    refine ⟨fun m σ H' => ∃ (done : List PyData) (S : List Pt) (fv tv : List V) (y3 y4 y5 y6 : Option V), m = stS S ∧ σ = [some (.ref b), some (.ref Pl), some (.ref D), y3, y4, y5, y6] ∧ Same H H' ∧ H' Pl = some (.lst fv) ∧ DpAll K H' fv done ∧ H' D = some (.lst tv) ∧ DpAll K H' tv (S.map entD) ∧ (∀ q ∈ S, PtOk q) ∧
      plsQ q0 = done ++ S.reverse.flatMap plsQ ∧ done.length + stS S ≤ 1000 ∧ immAll done = true,
      ⟨_, [], [q0], [], [.ref p2], none, none, none, none, rfl, rfl, s3, P3, .nil, D3, .cons E3 .nil, fun u hu => by rw [List.mem_singleton.mp hu]; exact pk0, by simp, by show 0 + (sz q0.2 + 0) ≤ 1000; omega, rfl⟩, ?_⟩
    rintro m σ H4 ⟨done, S, fv, tv, y3, y4, y5, y6, rfl, rfl, s4, P4, dn4, D4, tv4, ok4, eq4, le4, im4⟩
    have ltv : tv.length = S.length := by
      rw [dpAll_len tv4, List.length_map]
    have lfv : fv.length = done.length := dpAll_len dn4
    refine ⟨_, rfl, !tv.isEmpty, .inl ⟨tv, .inl (.inl D4), rfl⟩, ?_⟩
    rcases List.eq_nil_or_concat S with rfl | ⟨S', qq, rfl⟩
    · have : tv = [] := List.length_eq_zero_iff.mp ltv
      subst this
      refine iteF ⟨_, rfl, q H4 Pl fv s4 hP P4 ?_⟩
      rw [eq4]
      simpa using dn4
    rw [List.concat_eq_append, List.map_append] at tv4
    obtain ⟨tv', x0, rfl, tv1, tv2⟩ := dpAll_snoc_inv tv4
    have htv : tv' ++ [x0] ≠ [] := by simp
    have hnot : (!(tv' ++ [x0]).isEmpty) = true := by
      cases tv' <;> rfl
    refine ite_T hnot ?_
    rw [List.concat_eq_append] at *
    refine ⟨fun σ' H' => ∃ m', m' < stS (S' ++ [qq]) ∧ ∃ (done : List PyData) (S : List Pt) (fv tv : List V) (y3 y4 y5 y6 : Option V), m' = stS S ∧ σ' = [some (.ref b), some (.ref Pl), some (.ref D), y3, y4, y5, y6] ∧ Same H H' ∧ H' Pl = some (.lst fv) ∧ DpAll K H' fv done ∧ H' D = some (.lst tv) ∧ DpAll K H' tv (S.map entD) ∧ (∀ q ∈ S, PtOk q) ∧
      plsQ q0 = done ++ S.reverse.flatMap plsQ ∧ done.length + stS S ≤ 1000 ∧ immAll done = true, fun σ' H' h => h, ?_⟩
    have okq : PtOk qq := ok4 qq (by simp)
    have okS : ∀ q ∈ S', PtOk q := fun q hq => ok4 q (List.mem_append_left _ hq)
    have hlast : (tv' ++ [x0])[(tv' ++ [x0]).length - 1]? = some x0 := by simp
    have hdrop : (tv' ++ [x0]).dropLast = tv' := by simp
    obtain ⟨bb, us, rfl, u1, u2⟩ := dp_tup tv2
    cases u2 with
    | @cons xa xr1 _ _ ua ur =>
    cases ur with
    | @cons yt xr2 _ _ ub ur2 =>
    cases ur2
    obtain ⟨pa, pav, rfl, pa1, pa2⟩ := dp_tup ua
    refine ⟨_, rfl, .inl ⟨rfl, _, .inl (.inl D4)⟩, D, _, _, rfl, rfl, D4, hlast, ?_⟩
    rw [hdrop]
    have tk5 : Tk H4 (upd H4 D (.lst tv')) := tk_put D4
    have S5 : Same H (upd H4 D (.lst tv')) := fun b o e => by
      rw [upd_ne (ne_of_none e hDH)]
      exact s4 b o e
    refine ⟨bb, _, rfl, Tk.seqT tk5 u1, rfl, _, _, rfl, _, _, rfl, rfl, ?_⟩
    have P5 : (upd H4 D (.lst tv')) Pl = some (.lst fv) := by
      rw [upd_ne nPD.symm]
      exact P4
    have D5 : (upd H4 D (.lst tv')) D = some (.lst tv') := upd_same
    change tSeq _ _ _ _ (upd H4 D (.lst tv'))
    generalize upd H4 D (.lst tv') = H5 at tk5 S5 P5 D5 ⊢
    -- told.append
    refine ⟨_, rfl, .inl ⟨rfl, _, .inl (.inl P5)⟩, _, rfl, _, rfl, by show 2 ≤ sizeLine; decide, fun pe he => ?_⟩
    have se := same_upd (o := HO.tup [.ref pa, yt]) he
    have tkE := tk5.trans (Tk.of se)
    have SE := S5.trans se
    have PE := se _ _ P5
    have DE := se _ _ D5
    have uE : SqT K (upd H5 pe (.tup [.ref pa, yt])) pe [.ref pa, yt] := .inl (.inl upd_same)
    refine ⟨Pl, fv, _, rfl, rfl, PE, small1000 (by omega), ?_⟩
    generalize upd H5 pe (.tup [.ref pa, yt]) = HE at tkE SE PE DE uE ⊢
    clear se he tk5 S5 P5 D5
    have imq : imm (entD qq) = true := by
      have := imm_ents (S := [qq]) (fun u hu => by rw [List.mem_singleton.mp hu]; exact okq)
      exact (Bool.and_eq_true_iff.mp (show (imm (entD qq) && true) = true from this)).1
    have tkP := tk_put (o := HO.lst (fv ++ [.ref pe])) PE
    have tk6 : Tk H4 (upd HE Pl (.lst (fv ++ [.ref pe]))) := tkE.trans tkP
    have S6 : Same H (upd HE Pl (.lst (fv ++ [.ref pe]))) := fun b o e => by
      rw [upd_ne (ne_of_none e hP)]
      exact SE b o e
    have P6 : (upd HE Pl (.lst (fv ++ [.ref pe]))) Pl = some (.lst (fv ++ [.ref pe])) := upd_same
    have D6 : (upd HE Pl (.lst (fv ++ [.ref pe]))) D = some (.lst tv') := by
      rw [upd_ne nPD]
      exact DE
    have hent : Dp K (upd HE Pl (.lst (fv ++ [.ref pe]))) (.ref pe) (entD qq) :=
      .tup (Tk.seqT tkP uE) (.cons (dp_tk tk6 (show imm (.tuple qq.1) = true from okq.i) ua) (.cons (dp_tk tk6 (imm_toD _ okq.ok) ub) .nil))
    have dn6 : DpAll K (upd HE Pl (.lst (fv ++ [.ref pe]))) (fv ++ [.ref pe]) (done ++ [entD qq]) :=
      dpAll_append (dpAll_tk tk6 im4 dn4) (.cons hent .nil)
    have tv6 := dpAll_tk tk6 (imm_ents okS) tv1
    have yt6 := dp_tk tk6 (imm_toD _ okq.ok) ub
    have pa6 := Tk.seqT tk6 pa1
    have pav6 := dpAll_tk tk6 okq.i pa2
    change tSeq _ _ _ _ (upd HE Pl (.lst (fv ++ [.ref pe])))
    generalize upd HE Pl (.lst (fv ++ [.ref pe])) = H6 at tk6 S6 P6 D6 dn6 tv6 yt6 pa6 pav6 ⊢
    clear tkE SE PE DE uE tkP
    -- parts
    refine ⟨_, rfl, yt, qq.2, rfl, okq.ok, yt6, fun H7 v7 s7 d7 => ?_⟩
    obtain ⟨a7, xs7, rfl, x71, x72⟩ := dp_tup d7
    have lx7 : xs7.length = (kids qq.2).length := by
      rw [dpAll_len x72, List.length_map]
    have P7 := s7 _ _ P6
    have D7 := s7 _ _ D6
    have dn7 := dpAll_mono s7 dn6
    have tv7 := dpAll_mono s7 tv6
    have S7 := S6.trans s7
    have pa7 := Same.seqT s7 pa6
    have pav7 := dpAll_mono s7 pav6
    clear s7 S6 P6 D6 dn6 tv6 pa6 pav6 tk6
    have hE := enumK_len qq.1 (kids qq.2) 0
    have hEs := enumK_sz qq.1 (kids qq.2) 0
    have hok := enumK_ok okq
    have hkz := kids_sz qq.2
    rw [stS_app] at le4
    have hst1 : stS [qq] = sz qq.2 := by
      show sz qq.2 + 0 = _
      omega
    have hSl := len_st S'
    have hEl : (kids qq.2).length ≤ ((kids qq.2).map sz).sum := by
      have := len_st (enumK (kids qq.2) 0 qq.1)
      rw [hE] at this
      show _ ≤ _
      rw [← hEs]
      exact this
    refine ⟨_, rfl, a7, xs7, rfl, .inr x71, _, rfl, by decide, by decide, by omega, by omega, ?_⟩
    rw [show ((xs7.length : Int) - 0).toNat = xs7.length by omega]
    refine for_rangeC (n := xs7.length) (fun i σ H' => ∃ (tv : List V) (y6 : Option V), σ = [some (.ref b), some (.ref Pl), some (.ref D), some (.ref pa), some yt, some (.ref a7), y6] ∧ Same H H' ∧ Tk H7 H' ∧ H' Pl = some (.lst (fv ++ [.ref pe])) ∧ H' D = some (.lst tv) ∧ DpAll K H' tv ((S' ++ (enumK (kids qq.2) 0 qq.1).reverse.take i).map entD))
      ⟨tv', y6, rfl, S7, Tk.refl _, P7, D7, by simpa using tv7⟩ ?_ ?_
    · rintro i σ H8 hi ⟨tv8, y6', rfl, S8, T8, P8, D8, t8⟩
      have hj : xs7.length - 1 - i < (kids qq.2).length := by omega
      have hkj : (kids qq.2)[xs7.length - 1 - i]? = some (kids qq.2)[xs7.length - 1 - i] := List.getElem?_eq_getElem hj
      have hej := enumK_at qq.1 (kids qq.2) 0 _ _ hkj
      rw [Nat.zero_add] at hej
      have hrev : (enumK (kids qq.2) 0 qq.1).reverse[i]? = some (qq.1 ++ [.int ((xs7.length - 1 - i : Nat) : Int)], (kids qq.2)[xs7.length - 1 - i]) := by
        rw [List.getElem?_reverse (by rw [hE]; omega), hE, ← lx7]
        exact hej
      have okt := hok _ (List.mem_reverse.mp (List.mem_of_getElem? hrev))
      obtain ⟨u, u1', u2'⟩ := dpAll_get (i := xs7.length - 1 - i) x72 (by rw [List.getElem?_map, hkj]; rfl)
      generalize (kids qq.2)[xs7.length - 1 - i] = t at hrev okt u2'
      have hidx : (0 + (xs7.length : Int) - 1 + (i : Int) * -1) = ((xs7.length - 1 - i : Nat) : Int) := by omega
      have pne : pav ≠ [] := fun z => okq.ne (by
        have := dpAll_len pav7
        rw [z] at this
        exact List.length_eq_zero_iff.mp this.symm)
      have lpa : pav.length = qq.1.length := dpAll_len pav7
      have lqq := okq.l
      have ltv8 : tv8.length ≤ S'.length + i := by
        rw [dpAll_len t8, List.length_map, List.length_append, List.length_take]
        omega
      refine ⟨_, rfl, .inl ⟨rfl, _, .inl (.inl D8)⟩, _, rfl, _, rfl, by show 1 ≤ sizeLine; decide, fun p8 h8 => ?_⟩
      have s8 := same_upd (o := HO.tup [.int (0 + (xs7.length : Int) - 1 + (i : Int) * -1)]) h8
      refine ⟨pa, p8, pav, _, rfl, rfl, Same.seqT s8 (Tk.seqT T8 pa7), .inl (.inl upd_same), by show pav.length + 1 ≤ sizeLine; omega, fun z => absurd z pne, fun _ z => (by cases z), fun _ _ p9 h9 => ?_⟩
      have s9 := s8.trans (same_upd (o := HO.tup (pav ++ [.int (0 + (xs7.length : Int) - 1 + (i : Int) * -1)])) h9)
      refine ⟨_, rfl, _, rfl, a7, xs7, _, u, rfl, rfl, Same.seqT s9 (Tk.seqT T8 x71), by rw [hidx]; exact atI_nat u1', by show 2 ≤ sizeLine; decide, fun p10 h10 => ?_⟩
      have s10 := s9.trans (same_upd (o := HO.tup [.ref p9, u]) h10)
      refine ⟨D, tv8, _, rfl, rfl, s10 _ _ D8, by omega, ?_⟩
      have new : Dp K (upd (upd (upd H8 p8 (.tup [.int (0 + (xs7.length : Int) - 1 + (i : Int) * -1)])) p9 (.tup (pav ++ [.int (0 + (xs7.length : Int) - 1 + (i : Int) * -1)]))) p10 (.tup [.ref p9, u])) (.ref p10) (entD (qq.1 ++ [.int ((xs7.length - 1 - i : Nat) : Int)], t)) := by
        refine .tup (.inl (.inl upd_same)) (.cons (.tup (.inl (.inl (same_upd h10 _ _ upd_same))) (dpAll_append (dpAll_mono s10 (dpAll_tk T8 okq.i pav7)) (.cons ?_ .nil))) (.cons (dp_mono s10 (dp_tk T8 (imm_toD t okt.ok) u2')) .nil))
        rw [hidx]
        exact .int _
      refine ⟨tv8 ++ [.ref p10], _, rfl, ?_, (T8.trans (Tk.of s10)).trans (tk_put (s10 _ _ D8)), ?_, upd_same, ?_⟩
      · exact fun b o e => by
          rw [upd_ne (ne_of_none e hDH)]
          exact s10 _ _ (S8 b o e)
      · rw [upd_ne nPD.symm]
        exact s10 _ _ P8
      · have hN : S' ++ (enumK (kids qq.2) 0 qq.1).reverse.take (i + 1) = (S' ++ (enumK (kids qq.2) 0 qq.1).reverse.take i) ++ [(qq.1 ++ [.int ((xs7.length - 1 - i : Nat) : Int)], t)] := by
          rw [List.take_add_one, hrev, List.append_assoc]
          rfl
        have im : immAll ((S' ++ (enumK (kids qq.2) 0 qq.1).reverse.take (i + 1)).map entD) = true := imm_ents fun u hu => by
          rcases List.mem_append.mp hu with h | h
          · exact okS u h
          · exact hok u (List.mem_reverse.mp (List.mem_of_mem_take h))
        rw [hN, List.map_append] at im ⊢
        exact dpAll_tk (tk_put (s10 _ _ D8)) im (dpAll_append (dpAll_mono s10 t8) (.cons new .nil))
    · rintro σ H8 ⟨tv8, y6', rfl, S8, T8, P8, D8, t8⟩
      rw [List.take_of_length_le (by rw [List.length_reverse, hE]; omega)] at t8
      have hi1 : immAll [entD qq] = true := by
        show (imm (entD qq) && true) = true
        rw [imq]
        rfl
      have hstE : stS (enumK (kids qq.2) 0 qq.1).reverse = ((kids qq.2).map sz).sum := by
        rw [stS_rev]
        exact hEs
      refine ⟨stS (S' ++ (enumK (kids qq.2) 0 qq.1).reverse), ?_, done ++ [entD qq], S' ++ (enumK (kids qq.2) 0 qq.1).reverse, fv ++ [.ref pe], tv8, _, _, _, _, rfl, rfl, S8, P8, dpAll_tk T8 (immAll_append im4 hi1) dn7, D8, t8, ?_, ?_, ?_, immAll_append im4 hi1⟩
      · rw [stS_app, stS_app, hstE]
        omega
      · intro u hu
        rcases List.mem_append.mp hu with h | h
        · exact okS u h
        · exact hok u (List.mem_reverse.mp h)
      · rw [eq4, List.reverse_append, List.reverse_append, List.flatMap_append, List.flatMap_append, List.reverse_reverse]
        show done ++ ((plsQ qq ++ []) ++ _) = done ++ [entD qq] ++ _
        rw [plsQ_eq, List.append_nil, List.append_assoc]
        rfl
      · rw [stS_app, hstE, List.length_append]
        show done.length + 1 + _ ≤ 1000
        omega
end
end SP

namespace SP
open PySem PySem.Spec PyProof.Rows L2
open C8 (pss_cut tCut)
def fstD : PyData → PyData
  | .tuple (a :: _) => a
  | d => d
def plsE (e : Gr) : List PyData := (plsQ ([.str e.1], e.2.2)).map fstD
def allPl (gs : List Gr) : List PyData := gs.flatMap plsE
def isPr : PyData → Prop
  | .tuple [_, _] => True
  | _ => False
theorem allK_pr : ∀ (d : Nat) (l : List Tm) (k : Nat) (pl : List PyData), (∀ t ∈ l, dpt t ≤ d) → ∀ x ∈ allK l k pl, isPr x
  | 0, [], _, _, _, x, hx => by cases hx
  | 0, t :: l, _, _, h, _, _ => absurd (dpt_pos t) (by have := h t List.mem_cons_self; omega)
  | d + 1, [], _, _, _, x, hx => by cases hx
  | d + 1, t :: l, k, pl, h, x, hx => by
    rw [allK, allD_eq] at hx
    rcases List.mem_append.mp hx with hx | hx
    · rcases List.mem_cons.mp hx with rfl | hx
      · exact trivial
      · exact allK_pr d _ _ _ (fun u hu => by have := kids_dp t u hu; have := h t List.mem_cons_self; omega) x hx
    · exact allK_pr (d + 1) l _ _ (fun u hu => h u (List.mem_cons_of_mem _ hu)) x hx
theorem all_pr (tm : Tm) (pl : List PyData) : ∀ x ∈ allD tm pl, isPr x := by
  intro x hx
  rw [allD_eq] at hx
  rcases List.mem_cons.mp hx with rfl | hx
  · exact trivial
  · exact allK_pr _ _ _ _ (fun u hu => Nat.le_of_lt (kids_dp tm u hu)) x hx
theorem imm_fst : ∀ {l : List PyData}, immAll l = true → immAll (l.map fstD) = true
  | [], _ => rfl
  | x :: l, h => by
    have h' := Bool.and_eq_true_iff.mp (show (imm x && immAll l) = true from h)
    show (imm (fstD x) && immAll (l.map fstD)) = true
    rw [imm_fst h'.2]
    have : imm (fstD x) = true := by
      cases x with
      | tuple xs =>
        cases xs with
        | nil => rfl
        | cons a r =>
          have := Bool.and_eq_true_iff.mp (show (imm a && immAll r) = true from h'.1)
          exact this.1
      | none => rfl
      | bool b => rfl
      | int i => rfl
      | str s => rfl
      | list xs => exact h'.1
      | dict xs => exact h'.1
    rw [this]
    rfl
theorem imm_plsQ {n d : Nat} {e : Gr} (h : GrOk n d e) : immAll (plsQ ([.str e.1], e.2.2)) = true := all_imm _ _ _ (Nat.le_refl _) h.ok rfl
theorem imm_pls {n d : Nat} {e : Gr} (h : GrOk n d e) : immAll (plsE e) = true := imm_fst (imm_plsQ h)
theorem immAll_take : ∀ (i : Nat) {l : List PyData}, immAll l = true → immAll (l.take i) = true
  | 0, l, _ => by simp [immAll]
  | i + 1, [], _ => rfl
  | i + 1, x :: l, h => by
    have h' := Bool.and_eq_true_iff.mp (show (imm x && immAll l) = true from h)
    show (imm x && immAll (l.take i)) = true
    rw [h'.1, immAll_take i h'.2]
    rfl
theorem immAll_mem : ∀ {l : List PyData} {x : PyData}, immAll l = true → x ∈ l → imm x = true
  | y :: l, x, h, hx => by
    have h' := Bool.and_eq_true_iff.mp (show (imm y && immAll l) = true from h)
    rcases List.mem_cons.mp hx with rfl | hx
    · exact h'.1
    · exact immAll_mem h'.2 hx
theorem imm_allPl {n d : Nat} : ∀ {gs : List Gr}, (∀ e ∈ gs, GrOk n d e) → immAll (allPl gs) = true
  | [], _ => rfl
  | e :: gs, h => by
    show immAll (plsE e ++ allPl gs) = true
    exact immAll_append (imm_pls (h e List.mem_cons_self)) (imm_allPl fun u hu => h u (List.mem_cons_of_mem _ hu))
theorem pls_len (q : Pt) : (plsQ q).length = sz q.2 := by
  unfold plsQ
  rw [all_len _ _ _ (Nat.le_refl _)]
theorem plsE_len (e : Gr) : (plsE e).length = sz e.2.2 := by
  unfold plsE
  rw [List.length_map, pls_len]
theorem allPl_len {n d : Nat} : ∀ {gs : List Gr}, (∀ e ∈ gs, GrOk n d e) → (allPl gs).length ≤ gs.length * n
  | [], _ => Nat.zero_le _
  | e :: gs, h => by
    show (plsE e ++ allPl gs).length ≤ (gs.length + 1) * n
    rw [List.length_append, plsE_len, Nat.succ_mul]
    have h1 := (h e List.mem_cons_self).s
    have h2 := allPl_len fun u hu => h u (List.mem_cons_of_mem _ hu)
    show sz e.2.2 + _ ≤ _
    omega
section
variable {P : Program} {w : World} {K : PySem.W.Frag} {mg : Str → Option Value} {base : Heap}
def spAllPl (K : PySem.W.Frag) : Sp := fun vs H Q _ => ∃ (v : V) (gs : List Gr), vs = [v] ∧ (∀ e ∈ gs, GrOk 1000 400 e) ∧ gs.length ≤ 100 ∧ Dp K H v (.tuple (gs.map grD)) ∧
  ∀ (H' : Hp) (l : Addr) (ys : List V), Same H H' → H l = none → H' l = some (.lst ys) → DpAll K H' ys (allPl gs) → Q (.ref l) H'
theorem ok_all_places {f : Addr} {fd : FuncData} (F : Fun K "all_places" "all_places" s_all_places f fd) (T : Txt mg) (C_placed_terms : Callee P w K mg base "placed_terms" ["errand"] 2 (spPlaced K)) : FnOk P w K mg base CX0 3 f fd ["book"] (spAllPl K) := by
  refine F.ok sc_all_places (fun vs H Q E h => ?_) (fun cdv A outer s H vs Q E hr h => ?_)
  · obtain ⟨v, gs, rfl, _⟩ := h
    rfl
  · obtain ⟨v, gs, rfl, go, lg, hd, q⟩ := h
    refine ⟨_, (pss_one (ps_ret (pe_lc2 (own := [("errand", 1), ("place", 2), ("term", 3)]) (g := gName 1) (tt := tYes) (wi1 := iList K (tCall (spPlaced K) [] E0 (tCons (tVar 1) tNil))) (g1 := gTup K 2 (gCons (gName 2) (gCons (gName 3) gNil))) (tt1 := tYes) (te := tVar 2) (vs1 := [2, 3]) rfl sc_all_places.nd (pi_tup (pv 0)) (blkOk_by (own := [("errand", 1), ("place", 2), ("term", 3)]) (N := ["book", "errand", "place", "term"]) (sc := defScope s_all_places) (by decide +kernel)) (by decide) (fun _ _ _ _ _ => (pg_name (i := 1) sc_all_places.nd rfl (Or.inl rfl))) (fun _ _ _ _ _ => pts_nil) (fun _ _ _ _ _ => (pi_list (pe_fn C_placed_terms hr (by rfl) (pa_cons (pv 1) pa_nil)))) (fun _ _ _ _ _ => (pg_tup rfl (pgs_cons (pg_name (i := 2) sc_all_places.nd rfl (Or.inl rfl)) (pgs_cons (pg_name (i := 3) sc_all_places.nd rfl (Or.inl rfl)) pgs_nil)))) (fun _ _ _ _ _ => pts_nil) (fun _ _ _ _ _ => (pv 2))))), ?_⟩
    obtain ⟨a, xs, rfl, a1, a2⟩ := dp_tup hd
    have lx : xs.length = gs.length := by
      rw [dpAll_len a2, List.length_map]
    have hsl := sizeLine_eq
    refine ⟨_, rfl, a, rfl, ⟨_, a1⟩, fun D hD => ?_⟩
    refine ⟨fun i m H' => m = gs.length - i ∧ i ≤ gs.length ∧ Same H H' ∧ ∃ ys, H' D = some (.lst ys) ∧ DpAll K H' ys (allPl (gs.take i)), ⟨_, rfl, Nat.zero_le _, same_upd hD, [], upd_same, .nil⟩, ?_⟩
    rintro i m H1 ⟨rfl, hi, s1, ys1, d1, p1⟩
    have a11 := Same.seqT s1 a1
    by_cases hlt : i < gs.length
    · refine .inr ⟨(walk_tup (K := K) (a := a) (xs := xs)).goes i H1 (by omega) a11, fun H' => Same H H' ∧ ∃ ys, H' D = some (.lst ys) ∧ DpAll K H' ys (allPl (gs.take (i + 1))), fun H' h => ⟨_, by omega, rfl, hlt, h⟩, fun x H' hy => ?_⟩
      obtain ⟨rfl, hx⟩ := (walk_tup (K := K) (a := a) (xs := xs)).yields i H1 x H' (by omega) a11 hy
      obtain ⟨d, z1, z2⟩ := dpAll_at a2 hx
      have hge : gs[i]? = some gs[i] := List.getElem?_eq_getElem hlt
      rw [List.getElem?_map, hge] at z1
      cases z1
      have goe := go gs[i] (List.getElem_mem hlt)
      generalize gs[i] = e at hge z2 goe
      refine ⟨rfl, ?_⟩
      refine lcYes ?_
      refine ⟨_, rfl, x, e, rfl, goe, dp_mono s1 z2, fun H4 l ys s4 hl d4 p4 => ⟨l, rfl, ⟨_, .inl (.inl d4)⟩, ?_⟩⟩
      have S4 := s1.trans s4
      have D4 := s4 _ _ d1
      have P4 := dpAll_mono s4 p1
      have nl : l ≠ D := ne_t d1 hl
      have im1 : immAll (allPl (gs.take i)) = true := imm_allPl fun u hu => go u (List.mem_of_mem_take hu)
      have im2 := imm_pls goe
      have ly : ys.length = sz e.2.2 := by
        rw [dpAll_len p4]
        exact pls_len _
      have ly1 : ys1.length ≤ 100 * 1000 := by
        rw [dpAll_len p1]
        refine Nat.le_trans (allPl_len fun u hu => go u (List.mem_of_mem_take hu)) ?_
        refine Nat.mul_le_mul_right _ ?_
        rw [List.length_take]
        omega
      have lys := goe.s
      have ly' : ys.length = (plsE e).length := by
        rw [plsE_len]
        exact ly
      refine ⟨fun j k H' => k = ys.length - j ∧ j ≤ ys.length ∧ Same H H' ∧ Tk H4 H' ∧ H' l = some (.lst ys) ∧ ∃ zs, H' D = some (.lst (ys1 ++ zs)) ∧ DpAll K H' zs ((plsE e).take j), ⟨_, rfl, Nat.zero_le _, S4, Tk.refl _, d4, [], by simpa using D4, .nil⟩, ?_⟩
      rintro j k H5 ⟨rfl, hj, S5, T5, l5, zs, D5, p5⟩
      have lz : zs.length ≤ j := by
        rw [dpAll_len p5, List.length_take]
        omega
      by_cases hjl : j < ys.length
      · refine .inr ⟨(walk_list (K := K) (a := l) (xs := ys)).goes j H5 hjl (.inl (.inl l5)), fun H' => Same H H' ∧ Tk H4 H' ∧ H' l = some (.lst ys) ∧ ∃ zs, H' D = some (.lst (ys1 ++ zs)) ∧ DpAll K H' zs ((plsE e).take (j + 1)), fun H' h => ⟨_, by omega, rfl, hjl, h⟩, fun y H' hy => ?_⟩
        obtain ⟨rfl, hyy⟩ := (walk_list (K := K) (a := l) (xs := ys)).yields j H5 y H' hjl (.inl (.inl l5)) hy
        obtain ⟨dd, z3, z4⟩ := dpAll_at p4 hyy
        have hpr := all_pr _ _ _ (List.mem_of_getElem? z3)
        have hej : (plsE e)[j]? = some (fstD dd) := by
          unfold plsE
          rw [List.getElem?_map, z3]
          rfl
        have himd := imm_plsQ goe
        obtain ⟨da, db, rfl⟩ : ∃ da db, dd = .tuple [da, db] := by
          match dd, hpr with
          | .tuple [da, db], _ => exact ⟨da, db, rfl⟩
        obtain ⟨T0, us, rfl, u1, u2⟩ := dp_tup z4
        cases u2 with
        | @cons xa xr1 _ _ ua ur =>
        cases ur with
        | @cons xb xr2 _ _ ub ur2 =>
        cases ur2
        refine ⟨T0, _, rfl, Tk.seqT T5 u1, rfl, _, _, rfl, _, _, rfl, rfl, rfl, ?_⟩
        refine lcYes ?_
        have imt : immAll ((plsE e).take (j + 1)) = true := immAll_take _ im2
        have hT1 : (plsE e).take (j + 1) = (plsE e).take j ++ [da] := by
          rw [List.take_add_one, hej]
          rfl
        rw [hT1] at imt ⊢
        have imda : imm da = true := by
          have e1 : da ∈ plsE e := List.mem_of_getElem? hej
          exact immAll_mem im2 e1
        refine ⟨_, rfl, _, D5, ?_, ?_, T5.trans (tk_put D5), ?_, zs ++ [xa], ?_, ?_⟩
        · rw [List.length_append]
          omega
        · exact fun b o e => by
            rw [upd_ne (ne_of_none e hD)]
            exact S5 b o e
        · rw [upd_ne nl]
          exact l5
        · rw [upd_same, List.append_assoc]
        · exact dpAll_tk (tk_put D5) imt (dpAll_append p5 (.cons (dp_tk T5 imda ua) .nil))
      · have hje : j = ys.length := by omega
        subst hje
        refine .inl ⟨(walk_list (K := K) (a := l) (xs := ys)).stops H5 (.inl (.inl l5)), S5, _, D5, ?_⟩
        rw [List.take_of_length_le (by omega)] at p5
        have hN : allPl (gs.take (i + 1)) = allPl (gs.take i) ++ plsE e := by
          unfold allPl
          rw [List.take_add_one, hge, List.flatMap_append]
          simp
        rw [hN]
        exact dpAll_append (dpAll_tk T5 im1 P4) p5
    · have hie : i = gs.length := by omega
      subst hie
      rw [List.take_length] at p1
      refine .inl ⟨?_, q H1 D ys1 s1 hD d1 p1⟩
      rw [← lx]
      exact (walk_tup (K := K) (a := a) (xs := xs)).stops H1 a11
end
end SP

namespace SP
open PySem PySem.Spec PyProof.Rows L2
mutual
theorem plain_imm : ∀ d : PyData, imm d = true → d.plain = true
  | .none, _ => rfl
  | .bool _, _ => rfl
  | .int _, _ => rfl
  | .str _, _ => rfl
  | .tuple xs, h => by
    rw [PyData.plain]
    exact plain_immAll xs h
theorem plain_immAll : ∀ xs : List PyData, immAll xs = true → PyData.plainAll xs = true
  | [], _ => rfl
  | x :: xs, h => by
    have h' := Bool.and_eq_true_iff.mp h
    rw [PyData.plainAll, plain_imm x h'.1, plain_immAll xs h'.2]
    rfl
end
/-- the cases with other terms -/
def mkC : Cs → List Tm → Cs
  | .cons w ys _ c, u :: us => .cons w ys u (mkC c us)
  | _, _ => .nil
theorem mkC_csT : ∀ (c : Cs) (us : List Tm), us.length = (csT c).length → csT (mkC c us) = us
  | .nil, [], _ => rfl
  | .nil, u :: us, h => by cases h
  | .cons w ys t c, [], h => by cases h
  | .cons w ys t c, u :: us, h => by
    rw [mkC, csT, mkC_csT c us (Nat.succ.inj h)]
theorem mkC_ok : ∀ (c : Cs) (us : List Tm), okC c → (∀ u ∈ us, okT u) → okC (mkC c us)
  | .nil, us, _, _ => by
    rw [mkC, okC]
    · trivial
    · intro _ _ _ _ _ _ h _
      cases h
  | .cons w ys t c, [], _, _ => by
    rw [mkC, okC]
    · trivial
    · intro _ _ _ _ _ _ _ h
      cases h
  | .cons w ys t c, u :: us, h, ok => by
    rw [okC] at h
    rw [mkC, okC]
    exact ⟨h.1, ok u List.mem_cons_self, mkC_ok c us h.2.2 fun z hz => ok z (List.mem_cons_of_mem _ hz)⟩
theorem mkC_sz : ∀ (c : Cs) (us : List Tm), (∀ (j : Nat) (u k : Tm), us[j]? = some u → (csT c)[j]? = some k → sz u ≤ 4 * sz k ∧ dpt u ≤ 4 * dpt k) → szC (mkC c us) ≤ 4 * szC c ∧ dptC (mkC c us) ≤ 4 * dptC c
  | .nil, us, _ => by
    have : mkC .nil us = .nil := by
      cases us <;> rfl
    rw [this, szC, dptC]
    exact ⟨Nat.zero_le _, Nat.zero_le _⟩
  | .cons w ys t c, [], _ => by
    have : mkC (.cons w ys t c) [] = .nil := rfl
    rw [this, szC, dptC]
    exact ⟨Nat.zero_le _, Nat.zero_le _⟩
  | .cons w ys t c, u :: us, h => by
    have h0 := h 0 u t rfl rfl
    have hr := mkC_sz c us fun j u' k h1 h2 => h (j + 1) u' k (by simpa using h1) (by rw [csT]; simpa using h2)
    rw [mkC, szC, szC, dptC, dptC]
    omega
/-- a case of the made ones -/
theorem mkC_at : ∀ (c : Cs) (us : List Tm) (i : Nat) (d : PyData) (u : Tm), (csD c)[i]? = some d → us[i]? = some u → ∃ (w : Str) (ys : List Str) (t : Tm), d = .tuple [.str w, .tuple (ys.map .str), toD t] ∧ (csD (mkC c us))[i]? = some (.tuple [.str w, .tuple (ys.map .str), toD u])
  | .nil, us, i, d, u, h, _ => by
    rw [csD] at h
    cases h
  | .cons w ys t c, [], i, d, u, _, h => by cases h
  | .cons w ys t c, v :: us, 0, d, u, h, h2 => by
    rw [csD] at h
    cases h
    cases h2
    refine ⟨w, ys, t, rfl, ?_⟩
    rw [mkC, csD]
    rfl
  | .cons w ys t c, v :: us, i + 1, d, u, h, h2 => by
    rw [csD] at h
    obtain ⟨w', ys', t', e1, e2⟩ := mkC_at c us i d u h h2
    refine ⟨w', ys', t', e1, ?_⟩
    rw [mkC, csD]
    exact e2
theorem eqv_nil_strs (l : List Str) : PyData.eqv (.list []) (.list (l.map .str)) = decide (l = []) := by
  cases l with
  | nil => rfl
  | cons x l => rfl
end SP

/-! zip of a tuple and a list -/
namespace SP
open PySem PySem.Spec PyProof.Rows L2
def Itztl (K : PySem.W.Frag) (a b : Addr) : It where
  go := fun i H => ∃ xs ys v u, SqT K H a xs ∧ SqL K H b ys ∧ xs[i]? = some v ∧ ys[i]? = some u
  yld := fun i H v H' => ∃ T x y, v = .ref T ∧ H T = none ∧ H' = upd H T (.tup [x, y]) ∧ (∀ xs, SqT K H a xs → xs[i]? = some x) ∧ (∀ ys, SqL K H b ys → ys[i]? = some y)
  stop := fun i H => ∃ xs ys, SqT K H a xs ∧ SqL K H b ys ∧ i ≤ xs.length ∧ i ≤ ys.length ∧ (i = xs.length ∨ i = ys.length)
theorem turn_tup_list {P : Program} {w : World} {K : PySem.W.Frag} {elts : List Expr} {kk : Nat} {tpos : Pos} {a b z TI TO i1 i2 : Addr} (S : ZipSep2 z TI TO i1 i2 [i1, a] [i2, b]) (ha : a ≠ i1) (hb : b ≠ i2) :
    Turn P w K (.Tuple elts kk tpos) (Itztl K a b) [z, TI, TO, i1, i2] z (fun i h => IsZip h z TI TO .none ∧ IsPair h TI (.ref i1) (.ref i2) ∧ (∃ p q, IsPair h TO p q) ∧ h.IsTupleIter i1 a i ∧ h.IsListIter i2 b i) := by
  have five : ∀ c, c ∈ [z, TI, TO, i1, i2] → c = z ∨ c = TI ∨ c = TO ∨ c = i1 ∨ c = i2 := fun c hc => by simpa using hc
  refine ⟨by simp, ?_, ?_, ?_, ?_, fun A i s Q E st h => wpAny_pyIter_zip st.1 h⟩
  · rintro i h ⟨hz, hTI, ⟨p, q, hTO⟩, ⟨o1, e1, _, d1⟩, ⟨o2, e2, _, d2⟩⟩ c hc
    rcases five c hc with r | r | r | r | r
    · rw [r]
      exact ⟨_, hz, fun v q => nomatch q⟩
    · rw [r]
      exact ⟨_, hTI, fun v q => nomatch q⟩
    · rw [r]
      exact ⟨_, hTO, fun v q => nomatch q⟩
    · rw [r]
      exact ⟨o1, e1, fun v q => by rw [d1] at q; cases q⟩
    · rw [r]
      exact ⟨o2, e2, fun v q => by rw [d2] at q; cases q⟩
  · rintro i h h' ⟨hz, hTI, ⟨p, q, hTO⟩, h1, h2⟩ k
    exact ⟨k z (by simp) _ hz, k TI (by simp) _ hTI, ⟨p, q, k TO (by simp) _ hTO⟩, h1.at fun o e => k i1 (by simp) o e, h2.at fun o e => k i2 (by simp) o e⟩
  · intro X hP hw hK hc i pins s σ H E I hf st hg
    subst hP hw hK
    obtain ⟨hz, hTI, ⟨x0, y0, hTO⟩, h1, h2⟩ := st
    obtain ⟨xs, ys, v, u, hqx, hqy, hv, hu⟩ := hg
    obtain ⟨its, rv, pl, _⟩ := I.tuple hqx
    obtain ⟨jts, rw', pl2, _⟩ := I.list hqy
    have hh : X.A.handled = none := I.ok.hd hc
    have lv : i < its.toArray.size := by
      have h := (List.getElem?_eq_some_iff.mp hv).1
      have := rv.length
      simp only [List.size_toArray]
      omega
    have lx : i < jts.toArray.size := by
      have h := (List.getElem?_eq_some_iff.mp hu).1
      have := rw'.length
      simp only [List.size_toArray]
      omega
    have zl : z < s.heap.objs.size := Heap.lt_size hz
    have D1 := Draws.tuple (prog := X.prog) (w := X.w) (A := X.A.in1) hh i1 a ha its.toArray
    have D2 := Draws.list (prog := X.prog) (w := X.w) (A := X.A.in1) hh i2 b hb jts.toArray
    refine wpAny_pyNext_zipD2_item S D1 D2 hz hTI hTO ⟨h1, pl⟩ ⟨h2, pl2.isList⟩ lv lx ?_
    intro u1 u2 h' tk g1 g2 z' TO' st1 st2 hT hsz hk
    obtain ⟨w1, hw1, rw1⟩ := rv.get hv
    obtain ⟨w2, hw2, rw2⟩ := rw'.get hu
    have eu1 : u1 = w1 := by
      have : its[i]? = some u1 := by simpa using g1
      rw [this] at hw1
      exact Option.some.inj hw1
    have eu2 : u2 = w2 := by
      have : jts[i]? = some u2 := by simpa using g2
      rw [this] at hw2
      exact Option.some.inj hw2
    subst eu1 eu2
    refine ⟨_, rfl, wpAny_letOwnedTupleGo_zip (s := { s with heap := h', toks := tk }) z' ?_⟩
    intro h'' z'' sb
    have hT2 : h''.get? s.heap.objs.size = some { cls := .type "tuple", data := .seq #[u1, u2] } := (sb.2 _ (Nat.ne_of_gt zl)).trans hT
    have new : ObjOk X.prog X.w (upd H s.heap.objs.size (.tup [v, u])) h'' s.heap.objs.size (.tup [v, u]) :=
      ⟨by show 2 ≤ sizeLine; decide, [u1, u2], .cons rw1 (.cons rw2 .nil), ⟨_, hT2, rfl, _, rfl⟩⟩
    have kept : ∀ d o, d ∉ [z, TI, TO, i1, i2] → s.heap.get? d = some o → h''.get? d = some o := fun d o hd e =>
      (sb.2 d (fun r => hd (by simp [r]))).trans (hk d o (fun r => hd (by simp [r])) (fun r => hd (by simp [r])) (fun r => hd (by simp [r])) (fun r => hd (by simp [r])) e)
    have I1 : Inv X pins σ (upd H s.heap.objs.size (.tup [v, u])) { s with heap := h'', toks := tk } :=
      I.turnedNew (t' := tk) (ch := [z, TI, TO, i1, i2]) kept hf (Nat.le_refl _) new
    refine ⟨.ref s.heap.objs.size, _, I1, rfl, ⟨_, v, u, rfl, I.hok.fresh (Nat.le_refl _), rfl, fun l hl => ?_, fun l hl => ?_⟩, ⟨z'', ?_, ⟨_, _, (sb.2 _ S.TOz).trans TO'⟩, ?_, ?_⟩, fun d hd => ?_⟩
    · rw [I.tuple_inj hl hqx]
      exact hv
    · rw [I.list_inj hl hqy]
      exact hu
    · exact (sb.2 _ S.TIz).trans (hk _ _ S.TIz S.TITO S.TIi1 S.TIi2 hTI)
    · exact st1.1.at fun o e => (sb.2 _ S.zi1.symm).trans e
    · exact st2.1.at fun o e => (sb.2 _ S.zi2.symm).trans e
    · have hlt : d < s.heap.objs.size := by
        rcases five d hd with r | r | r | r | r
        · rw [r]
          exact zl
        · rw [r]
          exact Heap.lt_size hTI
        · rw [r]
          exact Heap.lt_size hTO
        · rw [r]
          obtain ⟨_, e1, _⟩ := h1
          exact Heap.lt_size e1
        · rw [r]
          obtain ⟨_, e2, _⟩ := h2
          exact Heap.lt_size e2
      rw [upd_ne (Nat.ne_of_lt hlt)]
      exact (hf d hd).1
  · intro X hP hw hK hc i pins s σ H E I hf st hg
    subst hP hw hK
    obtain ⟨hz, hTI, ⟨x0, y0, hTO⟩, h1, h2⟩ := st
    obtain ⟨xs, ys, hqx, hqy, l1, l2, hend⟩ := hg
    obtain ⟨its, rv, pl, _⟩ := I.tuple hqx
    obtain ⟨jts, rw', pl2, _⟩ := I.list hqy
    have hh : X.A.handled = none := I.ok.hd hc
    have lr := rv.length
    have lr2 := rw'.length
    have D1 := Draws.tuple (prog := X.prog) (w := X.w) (A := X.A.in1) hh i1 a ha its.toArray
    have D2 := Draws.list (prog := X.prog) (w := X.w) (A := X.A.in1) hh i2 b hb jts.toArray
    refine wpAny_pyNext_zipD2_end S D1 D2 hz hTI hTO ⟨h1, pl⟩ ⟨h2, pl2.isList⟩ (by simp only [List.size_toArray]; omega) (by simp only [List.size_toArray]; omega) (by simp only [List.size_toArray]; omega) ?_
    intro h' tk hk
    exact ⟨rfl, I.turnedL (t' := tk) (ch := [z, TI, TO, i1, i2]) (fun d o hd e => hk d o (fun r => hd (by simp [r])) (fun r => hd (by simp [r])) (fun r => hd (by simp [r])) (fun r => hd (by simp [r])) e) hf⟩
def iZipTL (K : PySem.W.Frag) (ta : TA) : TI := fun σ H R => ta σ H fun vs H1 => ∃ a b xs ys, vs = [.ref a, .ref b] ∧ SqT K H1 a xs ∧ SqL K H1 b ys ∧ R (Itztl K a b) H1
theorem pi_zipTL {X : Cx} {e e2 : Expr} {ta : TA} {p pos tpos : Pos} {elts : List Expr} {kk : Nat} (hg : Gl X "zip") (hm : X.mg "zip" = none) (ha : PA X [e, e2] ta)
    (hs : starEach [e, e2] X.env = (false, eval e X.env) :: starEach [e2] X.env := by rfl) (hpl : (backTo pos (starEach [e2] X.env)).any (·.1) = false := by rfl) : PI X (.Tuple elts kk tpos) (.Call (.Name "zip" p) [e, e2] [] pos) (iZipTL X.K ta) := by
  refine ⟨fun pins s σ H R I h => ?_⟩
  refine Call_ (ld_blt I hg hm PyProof.Rows.boot_zip (PyProof.Rows.callWith_type1 (thn (ha.run pos pins s σ H _ I h) fun us s1 ⟨vs, H1, I1, r1, q1⟩ => ?_) hs hpl))
  obtain ⟨a, b, xs, ys, rfl, hqx, hqy, q⟩ := q1
  obtain ⟨u1, u2, rfl, ra, rb⟩ := vals2 r1
  cases ra
  cases rb
  obtain ⟨its, rv, pl, _⟩ := I1.tuple hqx
  obtain ⟨jts, rw', pl2, _⟩ := I1.list hqy
  have la : a < s1.heap.objs.size := by
    obtain ⟨o, ho, _⟩ := pl
    exact Heap.lt_size ho
  have lb : b < s1.heap.objs.size := pl2.lt
  refine zip_begins2 (begins_tuple a its.toArray) (begins_list b jts.toArray) pl pl2.isList ?_
  intro h' hz hTI hTO g1 g2 hsz hk
  refine wpAny_pyIter_zip hz ?_
  have I2 : Inv X pins σ H1 { s1 with heap := h' } := I1.kept (t' := s1.toks) hk
  have S : ZipSep2 (s1.heap.objs.size + 4) (s1.heap.objs.size + 2) (s1.heap.objs.size + 3) s1.heap.objs.size (s1.heap.objs.size + 1) [s1.heap.objs.size, a] [s1.heap.objs.size + 1, b] := zip_sep2 (fp1 := [a]) (fp2 := [b]) (fun c hc => by rw [List.mem_singleton.mp hc]; exact la) (fun c hc => by rw [List.mem_singleton.mp hc]; exact lb)
  refine ⟨s1.heap.objs.size + 4, [s1.heap.objs.size + 4, s1.heap.objs.size + 2, s1.heap.objs.size + 3, s1.heap.objs.size, s1.heap.objs.size + 1], _, _, H1, rfl, I2, turn_tup_list S (Nat.ne_of_lt la) (Nat.ne_of_lt (Nat.lt_succ_of_lt lb)), ⟨hz, hTI, ⟨_, _, hTO⟩, ⟨_, g1, rfl, rfl⟩, ⟨_, g2, rfl, rfl⟩⟩, fun c hc => ?_, q⟩
  have hle : s1.heap.objs.size ≤ c := by
    have : c = s1.heap.objs.size + 4 ∨ c = s1.heap.objs.size + 2 ∨ c = s1.heap.objs.size + 3 ∨ c = s1.heap.objs.size ∨ c = s1.heap.objs.size + 1 := by simpa using hc
    rcases this with r | r | r | r | r <;> rw [r] <;> first | exact Nat.le_add_right _ _ | exact Nat.le_refl _
  exact I1.fpOk hle (I1.hok.fresh hle)
theorem walk_tup_list {K : PySem.W.Frag} {a b : Addr} {xs ys : List V} {n : Nat} (hn : n = min xs.length ys.length) : Walk (Itztl K a b) n (fun H => SqT K H a xs ∧ SqL K H b ys) (YPair (fun i => xs[i]?) (fun i => ys[i]?)) := by
  subst hn
  refine ⟨fun i H hi q => ?_, fun H q => ⟨xs, ys, q.1, q.2, by omega, by omega, by omega⟩, fun i H v H' hi q y => ?_⟩
  · have h1 : i < xs.length := by omega
    have h2 : i < ys.length := by omega
    exact ⟨xs, ys, xs[i], ys[i], q.1, q.2, by simp [h1], by simp [h2]⟩
  · obtain ⟨T, x, y, e1, e2, e3, e4, e5⟩ := y
    exact ⟨T, x, y, e1, e2, e3, e4 xs q.1, e5 ys q.2⟩
end SP

/-! not in a tuple of data -/
namespace SP
open PySem PySem.Spec PyProof.Rows L2
def rNotInT (K : PySem.W.Frag) : R2 := fun x y H Q => ∃ d ds, Dp K H x d ∧ Dp K H y (.tuple ds) ∧ d.plain = true ∧ PyData.plainAll ds = true ∧ min (PyData.depthAll ds) d.depth ≤ 8 ∧ Q (.bl (!ds.any fun z => PyData.eqv z d)) H
theorem op_notInT {X : Cx} (hu : X.A.units + 65 < cLine) : OpR X (compareOp .NotIn) (rNotInT X.K) := by
  intro pins s σ H x y v u Q I rx ry h
  obtain ⟨d, ds, hd, he, pd, pe, hm, q⟩ := h
  obtain ⟨as, r1⟩ := Dp.reads I d x v hd rx
  obtain ⟨bs, r2⟩ := Dp.reads I (.tuple ds) y u he ry
  exact SeqAt.notIn_tuple_data r2 r1 pe pd (by omega) ⟨.bl _, H, I, rfl, q⟩
theorem hu65_of {A : Around} {k : Nat} (hr : Room k A) : A.units + 65 < cLine := by
  have := hr.un
  omega
end SP

namespace SP
open PySem PySem.Spec PyProof.Rows L2
open C8 (pss_cut tCut)
/-- a term of a held book, as data -/
def TermH (n d : Nat) (x : PyData) : Prop := ∃ tm, okT tm ∧ toD tm = x ∧ sz tm ≤ n ∧ dpt tm ≤ d
theorem csT_plain : ∀ c : Cs, plainC c → ∀ t ∈ csT c, plainT t
  | .nil, _, t, h => by cases h
  | .cons w ys u c, hc, t, h => by
    rw [plainC] at hc
    rcases List.mem_cons.mp h with rfl | h
    · exact hc.1
    · exact csT_plain c hc.2 t h
theorem kids_plain {tm : Tm} (ok : plainT tm) : ∀ t ∈ kids tm, plainT t := by
  cases tm with
  | flat w r => intro t h; cases h
  | two w x a b =>
    intro t h
    rw [plainT] at ok
    have : t = a ∨ t = b := by simpa [kids] using h
    rcases this with rfl | rfl
    · exact ok.1
    · exact ok.2
  | one w x a =>
    rw [plainT] at ok
    exact ok.elim
  | many w x c =>
    intro t h
    rw [plainT] at ok
    exact csT_plain c ok.2 t h
theorem csW_le : ∀ c : Cs, okC c → ∀ ws ∈ csW c, ws.length ≤ 100
  | .nil, _, ws, h => by cases h
  | .cons w ys t c, ok, ws, h => by
    rw [okC] at ok
    rcases List.mem_cons.mp h with rfl | h
    · exact ok.1
    · exact csW_le c ok.2.2 ws h
theorem bound_le {tm : Tm} (ok : okT tm) : ∀ ws ∈ boundW tm, ws.length ≤ 100 := by
  cases tm with
  | flat w r => intro ws h; cases h
  | two w x a b =>
    intro ws h
    have h' : ws ∈ (if w = "let" then [[], [x]] else [[], []] : List (List Str)) := h
    split at h' <;> simp only [List.mem_cons, List.not_mem_nil, or_false] at h' <;> rcases h' with rfl | rfl <;> simp
  | one w x a =>
    intro ws h
    have h' : ws ∈ ([[]] : List (List Str)) := h
    simp only [List.mem_cons, List.not_mem_nil, or_false] at h'
    subst h'
    simp
  | many w x c =>
    rw [okT] at ok
    exact csW_le c ok.2.1
section
variable {P : Program} {w : World} {K : PySem.W.Frag} {mg : Str → Option Value} {base : Heap}
def spSaid (K : PySem.W.Frag) (d : Nat) : Sp := fun vs H Q _ => ∃ (t ar op : Addr) (v : V) (tm : Tm) (n : Int) (ws os : List Str), vs = [.ref t, v, .ref ar, .ref op] ∧ okP tm ∧ dpt tm ≤ d ∧ sz tm ≤ 1000 ∧ H t = some (.lst [.int n]) ∧ Dp K H v (toD tm) ∧ H ar = some (.lst (ws.map V.str)) ∧ H op = some (.lst (os.map V.str)) ∧ ar ≠ t ∧ op ≠ t ∧ ws.length + 200 * d ≤ 100000 ∧ os.length + d ≤ 1000 ∧
  ∀ (H' : Hp) (v' : V) (n' : Int) (x : PyData), But t H H' → H' t = some (.lst [.int n']) → TermH (4 * sz tm) (4 * dpt tm) x → Dp K H' v' x → Q v' H'
abbrev spSaidS (K : PySem.W.Frag) (d : Nat) : Sp := spSaid K (d + 1)
theorem ok_law_said_term {f : Addr} {fd : FuncData} (F : Fun K "_law_said_term" "_law_said_term" s_law_said_term f fd) (T : Txt mg) (d : Nat) (C_law_digit : Callee P w K mg base "_law_digit" ["tape", "many"] 1 (spDigit K)) (C_law_parts : Callee P w K mg base "_law_parts" ["term"] 1 (spParts K)) (C_law_bound_words : Callee P w K mg base "_law_bound_words" ["term"] 2 (spBound K)) (C_law_said_term : Callee P w K mg base "_law_said_term" ["tape", "term", "around", "opened"] (d + 3) (spSaid K d)) : FnOk P w K mg base CX0 (d + 4) f fd ["tape", "term", "around", "opened"] (spSaidS K d) := by
  refine F.ok sc_law_said_term (fun vs H Q E h => ?_) (fun cdv A outer s H vs Q E hr h => ?_)
  · obtain ⟨t, ar, op, v, tm, n, ws, os, rfl, _⟩ := h
    rfl
  · obtain ⟨t, ar, op, v, tm, n, ws, os, rfl, okp, hd, hsz, ht, hv, har, hop, a1, a2, lws, los, q⟩ := h
    refine ⟨_, (pss_cons (ps_set (i := 4) sc_law_said_term.nd rfl (Or.inl rfl) (pe_fn (hk := by omega) C_law_digit hr (by rfl) (pa_cons (pv 0) (pa_cons pe_int pa_nil))))
      (pss_cons (ps_set (i := 5) sc_law_said_term.nd rfl (Or.inl rfl) (pe_ix (r := rIxT K) ix_tup (pv 1) pe_int (fun _ _ => rfl)))
      (pss_cut (ps_if (PW.pt (pw_and (pt_cmpR op_eq (pv 5) pe_str (nomark _)) (pw_and1 (pt_cmpR op_eq (pe_fn (hk := by omega) C_law_digit hr (by rfl) (pa_cons (pv 0) (pa_cons pe_int pa_nil))) pe_int (nomark _))))) (pss_one (ps_set (i := 5) sc_law_said_term.nd rfl (Or.inl rfl) pe_str)) pss_nil)
      (pss_cons (ps_set (i := 6) sc_law_said_term.nd rfl (Or.inl rfl) (pv 3))
      (pss_cut (ps_if (PW.pt (pw_and (pt_cmpR op_eq (pv 5) pe_str (nomark _)) (pw_and1 (pt_cmp (pc_notN (pv 3)))))) (pss_one (ps_set (i := 6) sc_law_said_term.nd rfl (Or.inl rfl) (pe_op op_cat (pv 3) (pe_lst (pa_cons (pe_ix (r := rIxT K) ix_tup (pv 1) pe_int (fun _ _ => rfl)) pa_nil))))) pss_nil)
      (pss_cons (ps_set (i := 7) sc_law_said_term.nd rfl (Or.inl rfl) (pe_lst pa_nil))
      (pss_cons (ps_for PassesOwn.never rfl (pi_zipTL (by rfl) T.n_zip (pa_cons (pe_fn (hk := by omega) C_law_parts hr (by rfl) (pa_cons (pv 1) pa_nil)) (pa_cons (pe_fn (hk := by omega) C_law_bound_words hr (by rfl) (pa_cons (pv 1) pa_nil)) pa_nil))) (pg_tup rfl (pgs_cons (pg_name (i := 8) sc_law_said_term.nd rfl (Or.inl rfl)) (pgs_cons (pg_name (i := 9) sc_law_said_term.nd rfl (Or.inl rfl)) pgs_nil)))
      (pss_one (ps_expr (pe_bm PySem.F.plainAttrs_list PySem.F.slot_list_append PySem.F.type_list_append mt_append (pv 7) (pa_cons (pe_fn (hk := by omega) C_law_said_term hr (by rfl) (pa_cons (pv 0) (pa_cons (pv 8) (pa_cons (pe_op op_cat (pv 2) (pe_callTy (r := rListS K) call_listS (by rfl) T.n_list (by decide +kernel) (pa_cons (pv 9) pa_nil))) (pa_cons (pv 6) pa_nil))))) pa_nil)))))
      (pss_cons (ps_set (i := 10) sc_law_said_term.nd rfl (Or.inl rfl) (pv 1))
      (pss_cut (ps_if (pt_cmpR op_eq (pe_ix (r := rIxT K) ix_tup (pv 1) pe_int (fun _ _ => rfl)) pe_str (nomark _)) (pss_cons (ps_setLc (i := 11) (own := [("case", 14), ("part", 8)]) (g := gTup K 2 (gCons (gName 14) (gCons (gName 8) gNil))) (tt := tYes) rfl sc_law_said_term.nd rfl rfl (sw_true rfl rfl rfl (by decide +kernel)) (pi_zipTL (by rfl) T.n_zip (pa_cons (pe_ix (r := rIxT K) ix_tup (pv 1) pe_int (fun _ _ => rfl)) (pa_cons (pv 7) pa_nil))) (blkOk_by (own := [("case", 14), ("part", 8)]) (N := ["tape", "term", "around", "opened", "way", "word", "more", "parts", "part", "words", "made", "cases", "turn", "x", "case"]) (sc := defScope s_law_said_term) (by decide +kernel)) (fun _ _ _ _ _ => (pg_tup rfl (pgs_cons (pg_name (i := 14) sc_law_said_term.nd rfl (Or.inl rfl)) (pgs_cons (pg_name (i := 8) sc_law_said_term.nd rfl (Or.inl rfl)) pgs_nil)))) (fun _ _ _ _ _ => pts_nil) (fun _ _ _ _ _ => (pe_op (r := rCatA K) op_catA (pe_slice (r := rSlA K) sl_tupA (pv 14) po_none (po_some pe_int)) (pe_tup (pa_cons (pv 8) pa_nil)))))
      (pss_one (ps_set (i := 10) sc_law_said_term.nd rfl (Or.inl rfl) (pe_tup (pa_cons (pv 5) (pa_cons (pe_ix (r := rIxT K) ix_tup (pv 1) pe_int (fun _ _ => rfl)) (pa_cons (pe_callTy (r := rTupleS K) call_tupleS (by rfl) T.n_tuple (by decide +kernel) (pa_cons (pv 11) pa_nil)) pa_nil))))))) (pss_one (ps_if (pt_cmpR (r := rNeP K 1) (op_neP (m := 1) (hu_of hr)) (pv 7) (pe_lst pa_nil) (nomark _)) (pss_one (ps_set (i := 10) sc_law_said_term.nd rfl (Or.inl rfl) (pe_op (r := rCatA K) op_catA (pe_slice (r := rSlA K) sl_tupA (pv 1) po_none (po_some pe_int)) (pe_callTy (r := rTupleS K) call_tupleS (by rfl) T.n_tuple (by decide +kernel) (pa_cons (pv 7) pa_nil))))) (pss_one (ps_if (PW.pt (pw_and (pt_cmpR op_eq (pv 5) pe_str (nomark _)) (pw_and (pt_cmpR (r := rNotInT K) (op_notInT (hu65_of hr)) (pv 3) (pe_tup (pa_cons pe_non (pa_cons (pe_lst pa_nil) pa_nil))) rfl) (pw_and1 (pt_cmpR op_eq (pe_fn (hk := by omega) C_law_digit hr (by rfl) (pa_cons (pv 0) (pa_cons pe_int pa_nil))) pe_int (nomark _)))))) (pss_one (ps_set (i := 10) sc_law_said_term.nd rfl (Or.inl rfl) (pe_op (r := rCatA K) op_catA (pe_tup (pa_cons pe_str (pa_cons (pe_ix (r := rIxL K) ix_list (pv 3) (pe_fn (hk := by omega) C_law_digit hr (by rfl) (pa_cons (pv 0) (pa_cons (pe_callB (r := rLenS K) call_lenS (by rfl) T.n_len (by decide +kernel) (pa_cons (pv 3) pa_nil)) pa_nil))) (fun _ _ => rfl)) pa_nil))) (pe_slice (r := rSlT K) sl_tup (pv 1) (po_some pe_int) po_none)))) pss_nil)))))
      (pss_cons (ps_for PassesOwn.never rfl (pi_range1 rfl T.n_range (pa_cons (pe_op op_mul (pe_callTy call_int1 (by rfl) T.n_int (by decide +kernel) (pa_cons (pe_cmpR (r := rNeP K 1) (op_neP (m := 1) (hu_of hr)) (pv 2) (pe_lst pa_nil) (nomark _)) pa_nil)) (pe_ix (r := rIxL K) ix_list (pe_lst (pa_cons pe_int (pa_cons pe_int (pa_cons pe_int (pa_cons pe_int (pa_cons pe_int (pa_cons pe_int (pa_cons pe_int (pa_cons pe_int (pa_cons pe_int pa_nil)))))))))) (pv 4) (fun _ _ => rfl))) pa_nil)) (pg_name (i := 12) sc_law_said_term.nd rfl (Or.inl rfl))
      (pss_cons (ps_set (i := 13) sc_law_said_term.nd rfl (Or.inl rfl) (pe_ix (r := rIxL K) ix_list (pv 2) (pe_fn (hk := by omega) C_law_digit hr (by rfl) (pa_cons (pv 0) (pa_cons (pe_callB (r := rLenS K) call_lenS (by rfl) T.n_len (by decide +kernel) (pa_cons (pv 2) pa_nil)) pa_nil))) (fun _ _ => rfl)))
      (pss_one (ps_set (i := 10) sc_law_said_term.nd rfl (Or.inl rfl) (pe_tup (pa_cons (pe_ix (r := rIxL K) ix_list (pe_lst (pa_cons pe_str (pa_cons pe_str pa_nil))) (pe_fn (hk := by omega) C_law_digit hr (by rfl) (pa_cons (pv 0) (pa_cons pe_int pa_nil))) (fun _ _ => rfl)) (pa_cons (pv 13) (pa_cons (pv 10) pa_nil))))))))
      (pss_one (ps_ret (pv 10))))))))))))), ?_⟩
    have ok := okp.1
    have hv0 := hv
    rw [toD_eq] at hv0
    obtain ⟨a0, xs0, rfl, hs0, ha0⟩ := dp_tup hv0
    cases ha0 with
    | @cons x1 xr _ _ hx hr1 =>
    have := dp_str hx
    subst this
    -- way, word
    refine ⟨_, rfl, t, n, 9, rfl, ht, by decide, by decide, ?_⟩
    have b1 : But t H (upd H t (.lst [.int (n / 9)])) := (But.refl t H).put
    have t1 : (upd H t (.lst [.int (n / 9)])) t = some (.lst [.int (n / 9)]) := upd_same
    have way0 : 0 ≤ n % 9 ∧ n % 9 < 9 := by omega
    generalize upd H t (.lst [.int (n / 9)]) = H1 at b1 t1 ⊢
    generalize n % 9 = way at way0 ⊢
    generalize n / 9 = m1 at t1
    have tk1 := b1.tk ht
    refine ⟨_, rfl, a0, _, 0, .str (wordT tm), rfl, rfl, Tk.seqT tk1 hs0, atI_nat (j := 0) rfl, ?_⟩
    -- look
    refine ⟨fun σ' H' => ∃ (w2 : Str) (n2 : Int), σ' = [some (.ref t), some (.ref a0), some (.ref ar), some (.ref op), some (.int way), some (.str w2), none, none, none, none, none, none, none, none, none] ∧ (w2 = wordT tm ∨ (wordT tm = "open" ∧ w2 = "look")) ∧ But t H H' ∧ H' t = some (.lst [.int n2]), ?_, ?_⟩
    · refine ⟨_, rfl, rfl, _, rfl, ?_⟩
      rw [dec_str]
      by_cases ho : wordT tm = "open"
      · refine ite_T (decide_eq_true ho) ?_
        refine ⟨_, rfl, t, m1, 3, rfl, t1, by decide, by decide, rfl, _, rfl, ite2 (fun e => ?_) (fun e => ?_)⟩
        · exact ⟨_, m1 / 3, rfl, .inr ⟨ho, rfl⟩, b1.put, upd_same⟩
        · exact ⟨_, m1 / 3, rfl, .inl rfl, b1.put, upd_same⟩
      · refine ite_F (decide_eq_false ho) ?_
        refine iteF ?_
        exact ⟨_, m1, rfl, .inl rfl, b1, t1⟩
    rintro _ H2 ⟨w2, n2, rfl, hw2, b2, t2⟩
    clear b1 t1 tk1
    have hop2 := b2 _ _ a2 hop
    have har2 := b2 _ _ a1 har
    have tk2 := b2.tk ht
    -- more
    refine ⟨_, rfl, ?_⟩
    refine ⟨fun σ' H' => ∃ (mo : Addr) (os' : List Str), σ' = [some (.ref t), some (.ref a0), some (.ref ar), some (.ref op), some (.int way), some (.str w2), some (.ref mo), none, none, none, none, none, none, none, none] ∧ Same H2 H' ∧ H' mo = some (.lst (os'.map V.str)) ∧ mo ≠ t ∧ os'.length ≤ os.length + 1, ?_, ?_⟩
    · refine ⟨_, rfl, rfl, _, rfl, ?_⟩
      rw [dec_str]
      by_cases ho : w2 = "open"
      · refine ite_T (decide_eq_true ho) ?_
        have hwo : wordT tm = "open" := by
          rcases hw2 with h | h
          · rw [← h]
            exact ho
          · exact h.1
        obtain ⟨wm, xm, cm, rfl⟩ := many_of ok (.inl hwo)
        change DpAll K H xr [.str xm, .tuple (csD cm)] at hr1
        cases hr1 with
        | cons y1 r1 =>
          have := dp_str y1
          subst this
          refine ⟨_, rfl, _, rfl, ite_T rfl ?_⟩
          refine ⟨_, rfl, _, rfl, a0, _, 1, .str xm, rfl, rfl, Tk.seqT tk2 hs0, atI_nat (j := 1) rfl, by show 1 ≤ sizeLine; decide, fun p3 h3 => ⟨op, p3, _, [.str xm], rfl, rfl, same_upd h3 _ _ hop2, upd_same, ?_, fun p4 h4 => ?_⟩⟩
          · rw [List.length_map]
            exact Nat.le_trans (show os.length + 1 ≤ 2000 by omega) (by decide)
          · refine ⟨p4, os ++ [xm], rfl, (same_upd h3).trans (same_upd h4), ?_, ne_t (same_upd h3 _ _ t2) h4, by rw [List.length_append]; exact Nat.le_refl _⟩
            rw [upd_same, List.map_append]
            rfl
      · refine ite_F (decide_eq_false ho) ?_
        refine iteF ?_
        exact ⟨op, os, rfl, Same.refl _, hop2, a2, by omega⟩
    rintro _ H3 ⟨mo, os', rfl, s3, d3, nmo, lmo⟩
    have b3 := b2.trans (But.of s3)
    have t3 := s3 _ _ t2
    have har3 := s3 _ _ har2
    have hop3 := s3 _ _ hop2
    have hv3 := dp_tk (b3.tk ht) (imm_toD tm ok) hv
    clear b2 t2 hop2 har2 tk2 s3
    -- parts
    refine ⟨by show 0 ≤ sizeLine; decide, fun F hF => ?_⟩
    have sF := same_upd (o := HO.lst []) hF
    have fF : F ≠ t := ne_t t3 hF
    have fm : F ≠ mo := ne_t d3 hF
    have fa : F ≠ ar := ne_t har3 hF
    have fo : F ≠ op := ne_t hop3 hF
    have hFH : H F = none := b3.free t3 hF
    have F4 : (upd H3 F (.lst [])) F = some (.lst []) := upd_same
    have b4 := b3.trans (But.of sF)
    have t4 := sF _ _ t3
    have har4 := sF _ _ har3
    have hop4 := sF _ _ hop3
    have d4 := sF _ _ d3
    have hv4 := dp_mono sF hv3
    change tNext _ _ (upd H3 F (.lst []))
    generalize upd H3 F (.lst []) = H4 at F4 b4 t4 har4 hop4 d4 hv4 ⊢
    clear sF hF b3 t3 har3 hop3 d3 hv3
    refine ⟨_, rfl, .ref a0, tm, rfl, ok, hv4, fun H5 v5 s5 dp5 => ⟨_, rfl, .ref a0, tm, rfl, ok, dp_mono s5 hv4, fun H6 l6 ys6 s6 hl6 d6 p6 => ?_⟩⟩
    obtain ⟨a5, xs5, rfl, x51, x52⟩ := dp_tup (dp_mono s6 dp5)
    have s46 := s5.trans s6
    have F6 := s46 _ _ F4
    have b6 := b4.trans (But.of s46)
    have t6 := s46 _ _ t4
    have har6 := s46 _ _ har4
    have hop6 := s46 _ _ hop4
    have dm6 := s46 _ _ d4
    have hv6 := dp_mono s46 hv4
    have nl6t : l6 ≠ t := ne_t (s5 _ _ t4) hl6
    have nl6F : l6 ≠ F := ne_t (s5 _ _ F4) hl6
    have lx5 : xs5.length = (kids tm).length := by
      rw [dpAll_len x52, List.length_map]
    have ly6 : ys6.length = (kids tm).length := by
      rw [dpAll_len p6, List.length_map, bound_len]
    clear s5 s6 dp5 hl6 s46 F4 b4 t4 har4 hop4 d4 hv4
    refine ⟨a5, l6, xs5, ys6, rfl, x51, .inl (.inl d6), ?_⟩
    have tk6 : ∀ H', Kp (fun b => b = t ∨ b = F) H6 H' → Tk H6 H' := fun H' k => k.tk fun b h => by
      rcases h with rfl | rfl
      · exact ⟨_, t6, rfl⟩
      · exact ⟨_, F6, rfl⟩
    refine for_it (walk_tup_list (K := K) (a := a5) (b := l6) (xs := xs5) (ys := ys6) rfl) (fun i σ H' => ∃ (tms : List Tm) (fv : List V) (n' : Int) (y8 y9 : Option V), σ = [some (.ref t), some (.ref a0), some (.ref ar), some (.ref op), some (.int way), some (.str w2), some (.ref mo), some (.ref F), y8, y9, none, none, none, none, none] ∧
      tms.length = i ∧ Kp (fun b => b = t ∨ b = F) H6 H' ∧ But t H H' ∧ H' t = some (.lst [.int n']) ∧ H' F = some (.lst fv) ∧ DpAll K H' fv (tms.map toD) ∧ (∀ u ∈ tms, okT u) ∧ ∀ (j : Nat) (u k : Tm), tms[j]? = some u → (kids tm)[j]? = some k → sz u ≤ 4 * sz k ∧ dpt u ≤ 4 * dpt k)
      ⟨[], [], n2, none, none, rfl, rfl, Kp.refl _ _, b6, t6, F6, .nil, (fun u h => by cases h), (fun j u k h => by simp at h)⟩ (fun i σ H' _ ⟨_, _, _, _, _, _, _, h, _⟩ => ⟨Tk.seqT (tk6 H' h) x51, .inl (.inl (h _ _ (fun z => z.elim nl6t nl6F) d6))⟩) ?_ ?_
    · rintro i v0 σ H7 H8 hi ⟨tms, fv, n7, y8, y9, rfl, ltm, k7, b7, t7, F7, p7, ok7, sz7⟩ ⟨T0, x1, x2, rfl, hT, rfl, e1, e2⟩
      have hj : i < (kids tm).length := by omega
      have hkj : (kids tm)[i]? = some (kids tm)[i] := List.getElem?_eq_getElem hj
      have hbj : (boundW tm)[i]? = some ((boundW tm)[i]'(by rw [bound_len]; exact hj)) := List.getElem?_eq_getElem _
      obtain ⟨dx, u1, u2⟩ := dpAll_at x52 e1
      rw [List.getElem?_map, hkj] at u1
      cases u1
      obtain ⟨dw, w1', w2'⟩ := dpAll_at p6 e2
      rw [List.getElem?_map, hbj] at w1'
      cases w1'
      have hkm : (kids tm)[i] ∈ kids tm := List.getElem_mem hj
      have hbl := bound_le ok _ (List.getElem_mem (l := boundW tm) (n := i) (by rw [bound_len]; exact hj))
      have okk := kids_ok ok _ hkm
      have plk := kids_plain okp.2 _ hkm
      have dpk := kids_dp tm _ hkm
      have szk : sz (kids tm)[i] ≤ sz tm := by
        rw [kids_sz tm]
        have : sz (kids tm)[i] ≤ ((kids tm).map sz).sum := mem_le_sum (List.mem_map_of_mem hkm)
        omega
      generalize (kids tm)[i] = kid at hkj u2 okk plk dpk szk
      generalize ((boundW tm)[i]'(by rw [bound_len]; exact hj)) = wds at w2' hbl
      obtain ⟨wa, wvs, rfl, wa1, wa2⟩ := dp_tup w2'
      have := strs_of wds wa2
      subst this
      have sT := same_upd (o := HO.tup [x1, .ref wa]) hT
      have tk7 := tk6 _ k7
      have k8 : Kp (fun b => b = t ∨ b = F) H6 (upd H7 T0 (.tup [x1, .ref wa])) := k7.trans (Kp.of sT)
      refine ⟨T0, _, rfl, .inl (.inl upd_same), rfl, _, _, rfl, _, _, rfl, rfl, ?_⟩
      have F8 := sT _ _ F7
      have t8 := sT _ _ t7
      have p8 := dpAll_mono sT p7
      have b8 := b7.trans (But.of sT)
      change tDrop _ _ _ (upd H7 T0 (.tup [x1, .ref wa]))
      generalize upd H7 T0 (.tup [x1, .ref wa]) = H8 at k8 F8 t8 p8 b8 ⊢
      have tk8 := tk6 _ k8
      have har8 := k8 _ _ (fun z => z.elim a1 (fun z => fa z.symm)) har6
      have dm8 := k8 _ _ (fun z => z.elim nmo (fun z => fm z.symm)) dm6
      clear sT hT F7 t7 p7 b7 k7 tk7
      have hsl := sizeLine_eq
      refine ⟨_, rfl, .inl ⟨rfl, _, .inl (.inl F8)⟩, _, rfl, _, rfl, _, rfl, _, rfl, wa, _, rfl, .inr (Tk.seqT tk8 wa1), fun p9 h9 => ⟨ar, p9, _, _, rfl, rfl, same_upd h9 _ _ har8, upd_same, by rw [List.length_map, List.length_map]; omega, fun p10 h10 => ?_⟩⟩
      have s9 := same_upd (o := HO.lst (wds.map V.str)) h9
      have s10 := s9.trans (same_upd (o := HO.lst (ws.map V.str ++ wds.map V.str)) h10)
      have n10 : p10 ≠ t := ne_t (s9 _ _ t8) h10
      have n10F : p10 ≠ F := ne_t (s9 _ _ F8) h10
      refine ⟨_, rfl, t, p10, mo, x1, kid, n7, ws ++ wds, os', rfl, ⟨okk, plk⟩, by omega, by omega, s10 _ _ t8, dp_mono s10 (dp_tk tk8 (imm_toD kid okk) u2), by rw [upd_same, List.map_append], s10 _ _ dm8, n10, nmo, by rw [List.length_append]; omega, by omega, fun H11 v11 n11 x11 b11 t11 tm11 dp11 => ?_⟩
      have F11 := b11 _ _ fF (s10 _ _ F8)
      have k11 : Kp (fun b => b = t ∨ b = F) H6 H11 := fun b o hb e => b11 b o (fun z => hb (.inl z)) (s10 _ _ (k8 b o hb e))
      have tk10 : Tk H8 H11 := (Tk.of s10).trans (b11.tk (s10 _ _ t8))
      obtain ⟨tq, okq, eq, szq, dpq⟩ := tm11
      have imt : immAll (tms.map toD) = true := by
        have : ∀ l : List Tm, (∀ u ∈ l, okT u) → immAll (l.map toD) = true := by
          intro l
          induction l with
          | nil => intro _; rfl
          | cons u l ih =>
            intro h
            show (imm (toD u) && immAll (l.map toD)) = true
            rw [imm_toD u (h u List.mem_cons_self), ih fun z hz => h z (List.mem_cons_of_mem _ hz)]
            rfl
        exact this tms ok7
      have p11 := dpAll_tk tk10 imt p8
      have lfv : fv.length = tms.length := by
        rw [dpAll_len p8, List.length_map]
      have lkk : (kids tm).length ≤ ((kids tm).map sz).sum := by
        have := len_st (enumK (kids tm) 0 [])
        rw [enumK_len] at this
        have h2 := enumK_sz [] (kids tm) 0
        show _ ≤ _
        rw [← h2]
        exact this
      have hkz := kids_sz tm
      refine ⟨F, fv, _, rfl, rfl, F11, small1000 (by omega), ?_⟩
      refine ⟨tms ++ [tq], fv ++ [v11], n11, _, _, rfl, by rw [List.length_append, ltm]; rfl, k11.put (.inr rfl), ?_, by rw [upd_ne fF.symm]; exact t11, upd_same, ?_, ?_, ?_⟩
      · exact fun b o hb e => by
          rw [upd_ne (ne_of_none e hFH)]
          exact b11 b o hb (s10 _ _ (b8 b o hb e))
      · rw [List.map_append]
        have im2 : immAll (tms.map toD ++ [toD tq]) = true := imm_snoc (imm_toD tq okq) imt
        rw [← eq] at dp11
        exact dpAll_tk (tk_put F11) im2 (dpAll_append p11 (.cons dp11 .nil))
      · intro u hu
        rcases List.mem_append.mp hu with h | h
        · exact ok7 u h
        · rw [List.mem_singleton.mp h]
          exact okq
      · intro j u k hu hk
        by_cases hjl : j < tms.length
        · rw [List.getElem?_append_left hjl] at hu
          exact sz7 j u k hu hk
        · rw [List.getElem?_append_right (by omega)] at hu
          have hj0 : j - tms.length = 0 := by
            have := (List.getElem?_eq_some_iff.mp hu).1
            simp only [List.length_singleton] at this
            omega
          rw [hj0] at hu
          cases hu
          have : j = i := by omega
          subst this
          rw [hkj] at hk
          cases hk
          exact ⟨szq, dpq⟩
    · rintro σ H7 ⟨tms, fv, n7, y8, y9, rfl, ltm, k7, b7, t7, F7, p7, ok7, sz7⟩
      have tk7 := tk6 _ k7
      have hv7 := dp_tk tk7 (imm_toD tm ok) hv6
      have har7 := k7 _ _ (fun z => z.elim a1 (fun z => fa z.symm)) har6
      have hop7 := k7 _ _ (fun z => z.elim a2 (fun z => fo z.symm)) hop6
      have hs7 : SqT K H7 a0 (.str (wordT tm) :: xr) := Tk.seqT (b7.tk ht) hs0
      have hr7 := dpAll_tk (b7.tk ht) (show immAll (restT tm) = true by
        have := imm_toD tm ok
        rw [toD_eq] at this
        exact this) hr1
      have lfv : fv.length = tms.length := by
        rw [dpAll_len p7, List.length_map]
      have ltm' : tms.length = (kids tm).length := by omega
      refine ⟨_, rfl, ?_⟩
      refine ⟨fun σ' H' => ∃ (vm : V) (x : PyData) (n8 : Int) (y11 : Option V), σ' = [some (.ref t), some (.ref a0), some (.ref ar), some (.ref op), some (.int way), some (.str w2), some (.ref mo), some (.ref F), y8, y9, some vm, y11, none, none, none] ∧ But t H H' ∧ H' t = some (.lst [.int n8]) ∧ Dp K H' vm x ∧ TermH (4 * sz tm - 3) (4 * dpt tm - 3) x, ?_, ?_⟩
      · have hpl := okp.2
        have szt := kids_sz tm
        refine ⟨_, rfl, a0, _, 0, .str (wordT tm), rfl, rfl, hs7, atI_nat (j := 0) rfl, rfl, _, rfl, ?_⟩
        rw [dec_str]
        refine ite2 (fun e => ?_) (fun e => ?_)
        · have e' := of_decide_eq_true e
          obtain ⟨wm, xm, cm, rfl⟩ := many_of ok (.inl e')
          change DpAll K H7 xr [.str xm, .tuple (csD cm)] at hr7
          cases hr7 with
          | @cons xa xr1 _ _ ya r1 =>
          cases r1 with
          | @cons xb xr2 _ _ yb r2 =>
          cases r2
          have := dp_str ya
          subst this
          obtain ⟨cb, us, rfl, u1, u2⟩ := dp_tup yb
          rw [okT] at ok
          have lus : us.length = (csT cm).length := by
            rw [dpAll_len u2, csD_len]
          have hokm := mkC_ok cm tms ok.2.1 ok7
          refine ⟨_, rfl, a0, _, 2, _, rfl, rfl, hs7, atI_nat (j := 2) rfl, _, rfl, cb, F, us, fv, rfl, u1, .inl (.inl F7), fun D hD => ?_⟩
          have sD := same_upd (o := HO.lst []) hD
          refine lc_it (walk_tup_list (K := K) (a := cb) (b := F) (xs := us) (ys := fv) rfl) (fun i H' => Same H7 H' ∧ ∃ ys, ys.length = i ∧ H' D = some (.lst ys) ∧ DpAll K H' ys ((csD (mkC cm tms)).take i)) ⟨sD, [], rfl, upd_same, .nil⟩ (fun i H' _ h => ⟨Same.seqT h.1 u1, .inl (.inl (h.1 _ _ F7))⟩) ?_ ?_
          · rintro i v0 H9 H10 hi ⟨s9, ys, ly, d9, p9⟩ ⟨T0, x1, x2, rfl, hT, rfl, e1, e2⟩
            obtain ⟨dd, z1, z2⟩ := dpAll_at u2 e1
            obtain ⟨du, z3, z4⟩ := dpAll_at p7 e2
            rw [List.getElem?_map] at z3
            obtain ⟨tu, hu, rfl⟩ := Option.map_eq_some_iff.mp z3
            obtain ⟨wc, yc, tc, rfl, hmk⟩ := mkC_at cm tms i dd tu z1 hu
            have sT := s9.trans (same_upd (o := HO.tup [x1, x2]) hT)
            refine ⟨T0, _, rfl, .inl (.inl upd_same), rfl, _, _, rfl, _, _, rfl, rfl, rfl, ?_⟩
            refine lcYes ?_
            obtain ⟨cc, vs, rfl, w1, w2⟩ := dp_tup (dp_mono sT z2)
            cases w2 with
            | @cons c1 cr1 _ _ f1 fr1 =>
            cases fr1 with
            | @cons c2 cr2 _ _ f2 fr2 =>
            cases fr2 with
            | @cons c3 cr3 _ _ f3 fr3 =>
            cases fr3
            refine ⟨_, rfl, _, rfl, ?_⟩
            refine slA_use (xs := [c1, c2, c3]) (by decide) w1 fun HA pA sA hA => ?_
            refine ⟨_, rfl, by show 1 ≤ sizeLine; decide, fun pB hB => ?_⟩
            have sB := sA.trans (same_upd (o := HO.tup [x2]) hB)
            refine ⟨pA, pB, [c1, c2], [x2], rfl, rfl, Same.seqT (same_upd hB) hA, .inl (.inl upd_same), by show 2 + 1 ≤ sizeLine; decide, fun z => (by cases z), fun _ z => (by cases z), fun _ _ pC hC => ?_⟩
            have sC := sB.trans (same_upd (o := HO.tup ([c1, c2] ++ [x2])) hC)
            have s9C := (same_upd (o := HO.tup [.ref cc, x2]) hT).trans sC
            have imk := immAll_take (i + 1) (imm_csD _ hokm)
            rw [List.take_add_one, hmk] at imk
            refine ⟨ys, s9C _ _ d9, small1000 (by omega), same_put (s9.trans s9C) hD, ys ++ [.ref pC], by rw [List.length_append, ly]; rfl, upd_same, ?_⟩
            rw [List.take_add_one, hmk]
            exact dpAll_tk (tk_put (s9C _ _ d9)) imk (dpAll_append (dpAll_mono s9C p9) (.cons (.tup (.inl (.inl upd_same)) (.cons (dp_mono sC f1) (.cons (dp_mono sC f2) (.cons (dp_mono (s9.trans s9C) z4) .nil)))) .nil))
          · rintro H9 ⟨s9, ys, ly, d9, p9⟩
            have lcs : (csD (mkC cm tms)).length = (csT cm).length := by
              rw [csD_len, mkC_csT cm tms ltm']
              exact ltm'
            have l1 : min us.length fv.length = (csD (mkC cm tms)).length := by
              have : tms.length = (csT cm).length := ltm'
              omega
            rw [l1, List.take_length] at p9
            refine ⟨_, rfl, _, rfl, a0, _, 1, .str xm, rfl, rfl, Same.seqT s9 hs7, atI_nat (j := 1) rfl, _, rfl, D, ys, rfl, .inl ⟨.inl (.inl d9), fun p11 h11 => ⟨by show 3 ≤ sizeLine; decide, fun p12 h12 => ?_⟩⟩⟩
            have s12 := (same_upd (o := HO.tup ys) h11).trans (same_upd (o := HO.tup [.str w2, .str xm, .ref p11]) h12)
            have z7 := mkC_sz cm tms sz7
            refine ⟨.ref p12, .tuple [.str w2, .str xm, .tuple (csD (mkC cm tms))], n7, some (.ref D), rfl, b7.trans (But.of (s9.trans s12)), s12 _ _ (s9 _ _ t7), .tup (.inl (.inl upd_same)) (.cons (.str _) (.cons (.str _) (.cons (.tup (.inl (.inl (same_upd h12 _ _ upd_same))) (dpAll_mono s12 p9)) .nil))), .many w2 xm (mkC cm tms), ?_, ?_, ?_, ?_⟩
            · rw [okT]
              refine ⟨?_, hokm, by rw [mkC_csT cm tms ltm', ltm']; exact ok.2.2⟩
              rcases hw2 with h | h
              · exact .inl (h.trans e')
              · exact .inr h.2
            · rw [toD]
            · rw [sz, sz]
              omega
            · rw [dpt, dpt]
              omega
        have hno : ¬ wordT tm = "open" := fun z => e (decide_eq_true z)
        have hw2' : w2 = wordT tm := by
          rcases hw2 with h | h
          · exact h
          · exact absurd h.1 hno
        clear e
        have hdm : PyData.eqv (.list (tms.map toD)) (.list []) = decide (tms = []) := by
          cases tms <;> rfl
        have imtms : immAll (tms.map toD) = true := by
          have : ∀ l : List Tm, (∀ u ∈ l, okT u) → immAll (l.map toD) = true := by
            intro l
            induction l with
            | nil => intro _; rfl
            | cons u l ih =>
              intro h
              show (imm (toD u) && immAll (l.map toD)) = true
              rw [imm_toD u (h u List.mem_cons_self), ih fun z hz => h z (List.mem_cons_of_mem _ hz)]
              rfl
          exact this tms ok7
        have hpn : (PyData.list (tms.map toD)).plain = true := by
          rw [PyData.plain]
          exact plain_immAll _ imtms
        refine ⟨_, rfl, by show 0 ≤ sizeLine; decide, fun p9 h9 => ?_⟩
        have s9 := same_upd (o := HO.lst []) h9
        refine ⟨.list (tms.map toD), .list [], .lst (.inl (.inl (s9 _ _ F7))) (dpAll_mono s9 p7), .lst (.inl (.inl upd_same)) .nil, hpn, rfl, ?_, _, rfl, ?_⟩
        · show min _ (PyData.depthAll [] + 1) ≤ 1
          exact Nat.min_le_right _ _
        rw [hdm]
        refine ite2 (fun e => ?_) (fun e => ?_)
        · -- two parts
          have hne : tms ≠ [] := fun z => by
            rw [z] at e
            exact absurd e (by decide)
          cases tm with
          | flat w r =>
            have : tms.length = 0 := ltm'
            exact absurd (List.length_eq_zero_iff.mp this) hne
          | one w x a =>
            rw [plainT] at hpl
            exact hpl.elim
          | many w x c =>
            rw [plainT] at hpl
            exact absurd hpl.1 hno
          | two w x ta tb =>
            rw [okT] at ok
            have l2 : tms.length = 2 := ltm'
            obtain ⟨u1, u2, rfl⟩ : ∃ u1 u2, tms = [u1, u2] := by
              match tms, l2 with
              | [u1, u2], _ => exact ⟨u1, u2, rfl⟩
            have z1 := sz7 0 u1 ta rfl rfl
            have z2 := sz7 1 u2 tb rfl rfl
            change DpAll K H7 xr [.str x, toD ta, toD tb] at hr7
            cases hr7 with
            | cons y1 r1 =>
              have := dp_str y1
              subst this
              refine ⟨_, rfl, _, rfl, ?_⟩
              refine slA_use (xs := .str w :: .str x :: _) (by decide) (Same.seqT s9 hs7) fun H10 p10 s10 h10 => ?_
              have s9' := s9.trans s10
              refine ⟨_, rfl, F, fv, rfl, .inl ⟨.inl (.inl (s9' _ _ F7)), fun p11 h11 => ?_⟩⟩
              have s11 := s9'.trans (same_upd (o := HO.tup fv) h11)
              have lf2 : fv.length = 2 := lfv
              refine ⟨p10, p11, [.str w, .str x], fv, rfl, rfl, Same.seqT (same_upd h11) h10, .inl (.inl upd_same), by rw [lf2]; show 2 + 2 ≤ sizeLine; decide, fun z => (by cases z), fun _ z => (by rw [z] at lf2; cases lf2), fun _ _ p12 h12 => ?_⟩
              have s12 := s11.trans (same_upd (o := HO.tup ([.str w, .str x] ++ fv)) h12)
              refine ⟨.ref p12, .tuple [.str w, .str x, toD u1, toD u2], n7, none, rfl, b7.trans (But.of s12), s12 _ _ t7, .tup (.inl (.inl upd_same)) (dpAll_append (.cons (.str _) (.cons (.str _) .nil)) (dpAll_mono s12 p7)), .two w x u1 u2, ?_, ?_, ?_, ?_⟩
              · rw [okT]
                exact ⟨ok.1, ok7 u1 (by simp), ok7 u2 (by simp)⟩
              · rw [toD]
              · rw [sz, sz]
                omega
              · rw [dpt, dpt]
                omega
        · have htn : tms = [] := by
            by_cases h : tms = []
            · exact h
            · exact absurd (by rw [decide_eq_false h]; rfl) e
          subst htn
          cases tm with
          | two w x ta tb =>
            exact absurd ltm' (by show ¬ 0 = 2; decide)
          | one w x a =>
            rw [plainT] at hpl
            exact hpl.elim
          | many w x c =>
            rw [plainT] at hpl
            exact absurd hpl.1 hno
          | flat w r =>
            rw [okT] at ok
            refine ⟨_, rfl, rfl, _, rfl, ?_⟩
            have sz9 := s9
            have t9 := s9 _ _ t7
            have hs9 := Same.seqT s9 hs7
            have hv9 := dp_mono s9 hv7
            have hop9 := s9 _ _ hop7
            have hr9 := dpAll_mono s9 hr7
            have b9 := b7.trans (But.of s9)
            generalize upd H7 p9 (.lst []) = H9 at sz9 t9 hs9 hv9 hop9 b9 hr9 ⊢
            clear s9 h9 sz9
            have stay : ∀ (H' : Hp) (n' : Int), But t H H' → H' t = some (.lst [.int n']) → Dp K H' (.ref a0) (toD (.flat w r)) → ∃ (vm : V) (x : PyData) (n8 : Int) (y11 : Option V), [some (V.ref t), some (V.ref a0), some (V.ref ar), some (V.ref op), some (V.int way), some (V.str w2), some (V.ref mo), some (V.ref F), y8, y9, some (V.ref a0), none, none, none, none] = [some (V.ref t), some (V.ref a0), some (V.ref ar), some (V.ref op), some (V.int way), some (V.str w2), some (V.ref mo), some (V.ref F), y8, y9, some vm, y11, none, none, none] ∧ But t H H' ∧ H' t = some (.lst [.int n8]) ∧ Dp K H' vm x ∧ TermH (4 * sz (.flat w r) - 3) (4 * dpt (.flat w r) - 3) x := fun H' n' b t' dp =>
              ⟨_, _, n', none, rfl, b, t', dp, .flat w r, by rw [okT]; exact ok, rfl, by rw [sz]; decide, by rw [dpt]; decide⟩
            by_cases hbx : w2 = "box"
            · refine ite_T (decide_eq_true (congrArg V.str hbx)) ?_
              refine ⟨_, rfl, by show 0 ≤ sizeLine; decide, fun pl hl => ⟨by show 2 ≤ sizeLine; decide, fun pt hpt => ?_⟩⟩
              have sl := (same_upd (o := HO.lst []) hl).trans (same_upd (o := HO.tup [.non, .ref pl]) hpt)
              refine ⟨.list (os.map .str), [.none, .list []], .lst (.inl (.inl (sl _ _ hop9))) (dpAll_strs os), .tup (.inl (.inl upd_same)) (.cons .non (.cons (.lst (.inl (.inl (same_upd hpt _ _ upd_same))) .nil) .nil)), plain_strs os, rfl, Nat.le_trans (Nat.min_le_left _ _) (by decide), _, rfl, ?_⟩
              have hany : (!([PyData.none, .list []].any fun z => PyData.eqv z (.list (os.map .str)))) = !decide (os = []) := by
                show (!(PyData.eqv .none (.list (os.map .str)) || (PyData.eqv (.list []) (.list (os.map .str)) || false))) = _
                rw [eqv_nil_strs, Bool.or_false]
                rfl
              rw [hany]
              have t10 := sl _ _ t9
              have hs10 := Same.seqT sl hs9
              have hv10 := dp_mono sl hv9
              have hop10 := sl _ _ hop9
              have hr10 := dpAll_mono sl hr9
              have b10 := b9.trans (But.of sl)
              generalize upd (upd H9 pl (.lst [])) pt (.tup [.non, .ref pl]) = H10 at t10 hs10 hv10 hop10 b10 hr10 ⊢
              by_cases ho : os = []
              · refine ite_F (by rw [decide_eq_true ho]; rfl) ?_
                refine iteF ?_
                exact stay _ _ b10 t10 hv10
              refine ite_T (by rw [decide_eq_false ho]; rfl) ?_
              have po : 0 < os.length := List.length_pos_iff.mpr ho
              refine ⟨_, rfl, t, n7, 2, rfl, t10, by decide, by decide, rfl, _, rfl, ?_⟩
              have b11 : But t H (upd H10 t (.lst [.int (n7 / 2)])) := b10.put
              have t11 : (upd H10 t (.lst [.int (n7 / 2)])) t = some (.lst [.int (n7 / 2)]) := upd_same
              have tk11 : Tk H10 (upd H10 t (.lst [.int (n7 / 2)])) := (But.refl t H10).put.tk t10
              have hs11 := Tk.seqT tk11 hs10
              have hv11 := dp_tk tk11 (imm_toD _ (by rw [okT]; exact ok)) hv10
              have hop11 : (upd H10 t (.lst [.int (n7 / 2)])) op = some (.lst (os.map V.str)) := by
                rw [upd_ne a2]
                exact hop10
              refine ite2 (fun e => ?_) (fun e => ?_)
              · generalize upd H10 t (.lst [.int (n7 / 2)]) = H11 at b11 t11 tk11 hs11 hv11 hop11 ⊢
                refine ⟨_, rfl, _, rfl, _, rfl, op, _, rfl, .inl (.inl (.inl hop11)), t, n7 / 2, (os.length : Int), by rw [List.length_map]; rfl, t11, by omega, by omega, op, os.map V.str, _, _, rfl, rfl, .inl (.inl (by rw [upd_ne a2]; exact hop11)), str_item os (n7 / 2) os.length rfl po, ?_⟩
                generalize os.getD (n7 / 2 % (os.length : Int)).toNat "" = zx
                have b12 : But t H (upd H11 t (.lst [.int (n7 / 2 / (os.length : Int))])) := b11.put
                have t12 : (upd H11 t (.lst [.int (n7 / 2 / (os.length : Int))])) t = some (.lst [.int (n7 / 2 / (os.length : Int))]) := upd_same
                have tk12 : Tk H11 (upd H11 t (.lst [.int (n7 / 2 / (os.length : Int))])) := (But.refl t H11).put.tk t11
                have hs12 := Tk.seqT tk12 hs11
                have hr12 : DpAll K (upd H11 t (.lst [.int (n7 / 2 / (os.length : Int))])) xr r := dpAll_tk tk12 ok.2.2.2.1 (dpAll_tk tk11 ok.2.2.2.1 hr10)
                change tNil _ (upd H11 t (.lst [.int (n7 / 2 / (os.length : Int))])) _
                generalize upd H11 t (.lst [.int (n7 / 2 / (os.length : Int))]) = H12 at b12 t12 hs12 hr12 ⊢
                clear tk12 hs11 hv11 hop11 b11 t11 tk11
                have hwb : w = "box" := by rw [← hbx, hw2']; rfl
                have fin : ∀ (H' : Hp) (v' : V), Same H12 H' → Dp K H' v' (.tuple (.str "again" :: .str zx :: r)) → ∃ (vm : V) (x : PyData) (n8 : Int) (y11 : Option V), [some (V.ref t), some (V.ref a0), some (V.ref ar), some (V.ref op), some (V.int way), some (V.str w2), some (V.ref mo), some (V.ref F), y8, y9, some v', none, none, none, none] = [some (V.ref t), some (V.ref a0), some (V.ref ar), some (V.ref op), some (V.int way), some (V.str w2), some (V.ref mo), some (V.ref F), y8, y9, some vm, y11, none, none, none] ∧ But t H H' ∧ H' t = some (.lst [.int n8]) ∧ Dp K H' vm x ∧ TermH (4 * sz (.flat w r) - 3) (4 * dpt (.flat w r) - 3) x := fun H' v' s' dp' =>
                  ⟨_, _, _, none, rfl, b12.trans (But.of s'), s' _ _ t12, dp', .flat "again" (.str zx :: r), by
                    have fw := flatW_of "again" (by simp)
                    rw [okT]
                    refine ⟨fw.1, fw.2.1, fw.2.2, ok.2.2.2.1, ?_, ?_⟩
                    · have h1 := ok.2.2.2.2.1
                      rw [if_neg (by rw [hwb]; decide)] at h1
                      rw [if_pos rfl, List.length_cons]
                      omega
                    · show max 0 (PyData.depthAll r) ≤ 2
                      have := ok.2.2.2.2.2
                      omega, by rw [toD], by rw [sz, sz]; decide, by rw [dpt, dpt]; decide⟩
                refine ⟨by show 2 ≤ sizeLine; decide, fun pT hT => ?_⟩
                have sT := same_upd (o := HO.tup [.str "again", .str zx]) hT
                refine ⟨_, rfl, _, rfl, a0, _, rfl, Same.seqT sT hs12, ?_, fun p2 h2 => ?_⟩
                · rintro ⟨z, _⟩
                  rw [show (1 : Int) = ((1 : Nat) : Int) from rfl, HT.sIx_nat, List.length_cons] at z
                  omega
                have hct : cutV (.str (wordT (.flat w r)) :: xr) (some 1) none = xr := cutV_from _ 1
                rw [hct]
                have s2 := sT.trans (same_upd (o := HO.tup xr) h2)
                have lxr : xr.length ≤ 101 := by
                  have h1 := ok.2.2.2.2.1
                  rw [dpAll_len hr12]
                  split at h1 <;> omega
                refine ⟨pT, p2, [.str "again", .str zx], xr, rfl, rfl, Same.seqT (same_upd h2) (.inl (.inl upd_same)), .inl (.inl upd_same), ?_, fun z => (by cases z), fun _ z => ?_, fun _ _ p3 h3 => ?_⟩
                · have := sizeLine_eq
                  show 2 + xr.length ≤ sizeLine
                  omega
                · subst z
                  have : r = [] := by
                    cases hr12
                    rfl
                  subst this
                  refine fin _ _ s2 (.tup (Same.seqT (same_upd h2) (.inl (.inl upd_same))) (.cons (.str _) (.cons (.str _) .nil)))
                · refine fin _ _ (s2.trans (same_upd h3)) (.tup (.inl (.inl upd_same)) (.cons (.str _) (.cons (.str _) (dpAll_mono (s2.trans (same_upd h3)) hr12))))
              · exact stay _ _ b11 t11 hv11
            · refine ite_F (decide_eq_false fun z => hbx (V.str.inj z)) ?_
              refine iteF ?_
              exact stay _ _ b9 t9 hv9
      · rintro _ H8 ⟨vm, x, n8, y11, rfl, b8, t8, dp8, tm8⟩
        have har8 := b8 _ _ a1 har
        -- keeps and looses
        refine ⟨_, rfl, by show 0 ≤ sizeLine; decide, fun p9 h9 => ?_⟩
        have s9 := same_upd (o := HO.lst []) h9
        refine ⟨.list (ws.map .str), .list [], .lst (.inl (.inl (s9 _ _ har8))) (dpAll_strs ws), .lst (.inl (.inl upd_same)) .nil, plain_strs ws, rfl, ?_, .inr ⟨_, rfl, by show 9 ≤ sizeLine; decide, fun p10 h10 => ⟨_, rfl, p10, ([0, 0, 0, 1, 0, 2, 0, 0, 3] : List Int).map V.int, _, .int (([0, 0, 0, 1, 0, 2, 0, 0, 3] : List Int).getD way.toNat 0), rfl, rfl, .inl (.inl upd_same), ?_, ?_⟩⟩⟩
        · show min _ (PyData.depthAll [] + 1) ≤ 1
          exact Nat.min_le_right _ _
        · have := int_item ([0, 0, 0, 1, 0, 2, 0, 0, 3] : List Int) way 9 rfl (by decide)
          rw [show way % ((9 : Nat) : Int) = way by omega] at this
          exact this
        have s10 := s9.trans (same_upd (o := HO.lst (([0, 0, 0, 1, 0, 2, 0, 0, 3] : List Int).map V.int)) h10)
        obtain ⟨cn, hcn, hcn3, hcnw⟩ : ∃ cn : Nat, (if (!PyData.eqv (.list (ws.map .str)) (.list [])) = true then (1 : Int) else 0) * ([0, 0, 0, 1, 0, 2, 0, 0, 3] : List Int).getD way.toNat 0 = (cn : Int) ∧ cn ≤ 3 ∧ (0 < cn → ws ≠ []) := by
          rw [eqv_strs_nil]
          by_cases hw : ws = []
          · refine ⟨0, ?_, by decide, fun z => absurd z (by decide)⟩
            rw [hw]
            show (0 : Int) * _ = 0
            rw [Int.zero_mul]
          · have h1 : (!decide (ws = [])) = true := by rw [decide_eq_false hw]; rfl
            rw [if_pos h1, Int.one_mul]
            have hwy : way.toNat = 0 ∨ way.toNat = 1 ∨ way.toNat = 2 ∨ way.toNat = 3 ∨ way.toNat = 4 ∨ way.toNat = 5 ∨ way.toNat = 6 ∨ way.toNat = 7 ∨ way.toNat = 8 := by omega
            rcases hwy with h | h | h | h | h | h | h | h | h <;> rw [h]
            · exact ⟨0, rfl, by decide, fun _ => hw⟩
            · exact ⟨0, rfl, by decide, fun _ => hw⟩
            · exact ⟨0, rfl, by decide, fun _ => hw⟩
            · exact ⟨1, rfl, by decide, fun _ => hw⟩
            · exact ⟨0, rfl, by decide, fun _ => hw⟩
            · exact ⟨2, rfl, by decide, fun _ => hw⟩
            · exact ⟨0, rfl, by decide, fun _ => hw⟩
            · exact ⟨0, rfl, by decide, fun _ => hw⟩
            · exact ⟨3, rfl, by decide, fun _ => hw⟩
        refine ⟨_, _, rfl, rfl, .inl ⟨by split <;> decide, by split <;> decide⟩, _, rfl, by rw [hcn]; omega, by rw [hcn]; omega, ?_⟩
        rw [hcn]
        rw [Int.toNat_natCast]
        have b10 := b8.trans (But.of s10)
        have t10 := s10 _ _ t8
        have dp10 := dp_mono s10 dp8
        have szp := sz_pos tm
        have dpp := dpt_pos tm
        refine for_range (lo := 0) (n := cn) (fun i σ H' => ∃ (vm : V) (x : PyData) (n8 : Int) (y12 y13 : Option V), σ = [some (.ref t), some (.ref a0), some (.ref ar), some (.ref op), some (.int way), some (.str w2), some (.ref mo), some (.ref F), y8, y9, some vm, y11, y12, y13, none] ∧ But t H H' ∧ H' t = some (.lst [.int n8]) ∧ Dp K H' vm x ∧ TermH (4 * sz tm - 3 + i) (4 * dpt tm - 3 + i) x)
          ⟨vm, x, n8, none, none, rfl, b10, t10, dp10, tm8⟩ ?_ ?_
        · rintro i σ H11 hi ⟨vm, x, n11, y12, y13, rfl, b11, t11, dp11, tm11⟩
          have hwne := hcnw (by omega)
          have pw : 0 < ws.length := List.length_pos_iff.mpr hwne
          have har11 := b11 _ _ a1 har
          obtain ⟨tq, okq, eq, szq, dpq⟩ := tm11
          have imx : imm x = true := by
            rw [← eq]
            exact imm_toD tq okq
          refine ⟨_, rfl, _, rfl, _, rfl, ar, _, rfl, .inl (.inl (.inl har11)), t, n11, (ws.length : Int), by rw [List.length_map]; rfl, t11, by omega, by omega, ar, ws.map V.str, _, _, rfl, rfl, .inl (.inl (by rw [upd_ne a1]; exact har11)), str_item ws n11 ws.length rfl pw, ?_⟩
          generalize ws.getD (n11 % (ws.length : Int)).toNat "" = xw
          have b12 : But t H (upd H11 t (.lst [.int (n11 / (ws.length : Int))])) := b11.put
          have t12 : (upd H11 t (.lst [.int (n11 / (ws.length : Int))])) t = some (.lst [.int (n11 / (ws.length : Int))]) := upd_same
          have dp12 := dp_tk ((But.refl t H11).put.tk t11) imx dp11 (H' := upd H11 t (.lst [.int (n11 / (ws.length : Int))]))
          change Ends.nx _ _ (upd H11 t (.lst [.int (n11 / (ws.length : Int))]))
          generalize upd H11 t (.lst [.int (n11 / (ws.length : Int))]) = H12 at b12 t12 dp12 ⊢
          refine ⟨by show 2 ≤ sizeLine; decide, fun p13 h13 => ?_⟩
          have s13 := same_upd (o := HO.lst (([("keep" : Str), "loose"]).map V.str)) h13
          have n13 := ne_t t12 h13
          refine ⟨_, rfl, t, _, 2, rfl, s13 _ _ t12, by decide, by decide, p13, ([("keep" : Str), "loose"]).map V.str, _, _, rfl, rfl, .inl (.inl (by rw [upd_ne n13]; exact upd_same)), str_item [("keep" : Str), "loose"] _ 2 rfl (by decide), _, rfl, _, rfl, by show 3 ≤ sizeLine; decide, fun p14 h14 => ?_⟩
          have hwk : isOne (([("keep" : Str), "loose"]).getD (n11 / (ws.length : Int) % ((2 : Nat) : Int)).toNat "") := by
            rcases (by omega : (n11 / (ws.length : Int) % ((2 : Nat) : Int)).toNat = 0 ∨ (n11 / (ws.length : Int) % ((2 : Nat) : Int)).toNat = 1) with h | h <;> rw [h]
            · exact .inl rfl
            · exact .inr rfl
          generalize ([("keep" : Str), "loose"]).getD (n11 / (ws.length : Int) % ((2 : Nat) : Int)).toNat "" = kw at hwk
          refine ⟨.ref p14, .tuple [.str kw, .str xw, x], _, _, _, rfl, ((b12.trans (But.of s13)).put).alloc h14, same_upd h14 _ _ upd_same, ?_, .one kw xw tq, ?_, ?_, ?_, ?_⟩
          · have tkA := ((Tk.of s13).trans ((But.refl t _).put.tk (s13 _ _ t12))).trans (Tk.of (same_upd (o := HO.tup [.str kw, .str xw, vm]) h14))
            exact .tup (.inl (.inl upd_same)) (.cons (.str _) (.cons (.str _) (.cons (dp_tk tkA imx dp12) .nil)))
          · rw [okT]
            exact ⟨hwk, okq⟩
          · rw [toD, eq]
          · rw [sz]
            omega
          · rw [dpt]
            omega
        · rintro σ H11 ⟨vm, x, n11, y12, y13, rfl, b11, t11, dp11, tq, okq, eq, szq, dpq⟩
          exact ⟨_, rfl, q H11 vm n11 x b11 t11 ⟨tq, okq, eq, by omega, by omega⟩ dp11⟩
end
end SP

namespace SP
open PySem PySem.Spec PyProof.Rows L2
open C8 (pss_cut tCut)
theorem imm_gr {n d : Nat} : ∀ {gs : List Gr}, (∀ e ∈ gs, GrOk n d e) → immAll (gs.map grD) = true
  | [], _ => rfl
  | e :: gs, h => by
    have he := h e List.mem_cons_self
    have h1 : immAll [toD e.2.2] = true := by
      show (imm (toD e.2.2) && true) = true
      rw [imm_toD _ he.ok]
      rfl
    show ((true && immAll (e.2.1 ++ [toD e.2.2])) && immAll (gs.map grD)) = true
    rw [immAll_append he.i h1, imm_gr fun u hu => h u (List.mem_cons_of_mem _ hu)]
    rfl
theorem imm_bools (l : List Bool) : immAll (l.map PyData.bool) = true := by
  induction l with
  | nil => rfl
  | cons x r ih => exact ih
theorem dpAll_bools {K : PySem.W.Frag} {H : Hp} : ∀ l : List Bool, DpAll K H (l.map V.bl) (l.map PyData.bool)
  | [] => .nil
  | x :: l => .cons (.bl x) (dpAll_bools l)
theorem ne_t' {H : Hp} {t p : Addr} {o : HO} {xs : List V} (ht : H t = some (.lst xs)) (hp : H p = some o) (ho : isMut o = false := by rfl) : p ≠ t := fun e => by
  rw [e, ht] at hp
  cases hp
  cases ho
section
variable {P : Program} {w : World} {K : PySem.W.Frag} {mg : Str → Option Value} {base : Heap}
theorem said_all (T : Txt mg) (DS : Dfn K mg "_law_said_term" s_law_said_term ["tape", "term", "around", "opened"]) (C_law_digit : Callee P w K mg base "_law_digit" ["tape", "many"] 1 (spDigit K)) (C_law_parts : Callee P w K mg base "_law_parts" ["term"] 1 (spParts K)) (C_law_bound_words : Callee P w K mg base "_law_bound_words" ["term"] 2 (spBound K)) : ∀ d : Nat, Callee P w K mg base "_law_said_term" ["tape", "term", "around", "opened"] (d + 3) (spSaid K d)
  | 0 => DS.callee fun f fd F => F.ok sc_law_said_term (fun vs H Q E h => by
      obtain ⟨t, ar, op, v, tm, n, ws, os, _, _, hd, _⟩ := h
      exact absurd (dpt_pos tm) (by omega)) (fun cdv A outer s H vs Q E hr h => by
      obtain ⟨t, ar, op, v, tm, n, ws, os, _, _, hd, _⟩ := h
      exact absurd (dpt_pos tm) (by omega))
  | d + 1 => DS.callee fun f fd F => ok_law_said_term F T d C_law_digit C_law_parts C_law_bound_words (said_all T DS C_law_digit C_law_parts C_law_bound_words d)
def spSaidB (K : PySem.W.Frag) : Sp := fun vs H Q _ => ∃ (t op : Addr) (v : V) (n : Int) (bs : List Er), vs = [.ref t, v, .ref op] ∧ H t = some (.lst [.int n]) ∧ Dp K H v (.tuple (bs.map errD)) ∧ (∀ e ∈ bs, ErOk 40 13 e) ∧ bs.length ≤ 6 ∧ H op = some (.lst []) ∧ op ≠ t ∧
  ∀ (H' : Hp) (v' : V) (gs : List Gr) (n' : Int), But t H H' → H' t = some (.lst [.int n']) → gs.map (·.1) = bs.map (·.1) → (∀ e ∈ gs, GrOk 160 52 e) → Dp K H' v' (.tuple (gs.map grD)) → Q v' H'
theorem ok_law_said {f : Addr} {fd : FuncData} (F : Fun K "_law_said" "_law_said" s_law_said f fd) (T : Txt mg) (C_law_digit : Callee P w K mg base "_law_digit" ["tape", "many"] 1 (spDigit K)) (C_law_said_term : Callee P w K mg base "_law_said_term" ["tape", "term", "around", "opened"] 16 (spSaid K 13)) : FnOk P w K mg base CX0 17 f fd ["tape", "book", "opened"] (spSaidB K) := by
  refine F.ok sc_law_said (fun vs H Q E h => ?_) (fun cdv A outer s H vs Q E hr h => ?_)
  · obtain ⟨t, op, v, n, bs, rfl, _⟩ := h
    rfl
  · obtain ⟨t, op, v, n, bs, rfl, ht, hv, hb, lb, hop, nop, q⟩ := h
    refine ⟨_, (pss_cons (ps_set (i := 3) sc_law_said.nd rfl (Or.inl rfl) (pe_lst pa_nil))
      (pss_cons (ps_for PassesOwn.never rfl (pi_tup (pv 1)) (pg_tup rfl (pgs_cons (pg_name (i := 4) sc_law_said.nd rfl (Or.inl rfl)) (pgs_cons (pg_name (i := 5) sc_law_said.nd rfl (Or.inl rfl)) (pgs_cons (pg_name (i := 6) sc_law_said.nd rfl (Or.inl rfl)) pgs_nil))))
      (pss_cons (ps_set (i := 7) sc_law_said.nd rfl (Or.inl rfl) (pe_callTy (r := rTupleS K) call_tupleS (by rfl) T.n_tuple (by decide +kernel) (pa_cons (pe_lc (own := [("name", 9)]) (g := gName 9) (tt := tYes) rfl sc_law_said.nd (pi_tup (pv 5)) (blkOk_by (own := [("name", 9)]) (N := ["tape", "book", "opened", "found", "f", "names", "body", "lent", "term", "name"]) (sc := defScope s_law_said) (by decide +kernel)) (fun _ _ _ _ _ => (pg_name (i := 9) sc_law_said.nd rfl (Or.inl rfl))) (fun _ _ _ _ _ => pts_nil) (fun _ _ _ _ _ => (pe_cmpR op_eq (pe_fn C_law_digit hr (by rfl) (pa_cons (pv 0) (pa_cons pe_int pa_nil))) pe_int (nomark _)))) pa_nil)))
      (pss_cons (ps_set (i := 8) sc_law_said.nd rfl (Or.inl rfl) (pe_fn C_law_said_term hr (by rfl) (pa_cons (pv 0) (pa_cons (pv 6) (pa_cons (pe_callTy (r := rListS K) call_listS (by rfl) T.n_list (by decide +kernel) (pa_cons (pv 5) pa_nil)) (pa_cons (pv 2) pa_nil))))))
      (pss_one (ps_expr (pe_bm PySem.F.plainAttrs_list PySem.F.slot_list_append PySem.F.type_list_append mt_append (pv 3) (pa_cons (pe_tup (pa_cons (pv 4) (pa_cons (pv 5) (pa_cons (pv 7) (pa_cons (pv 8) pa_nil))))) pa_nil)))))))
      (pss_one (ps_ret (pe_callTy (r := rTupleS K) call_tupleS (by rfl) T.n_tuple (by decide +kernel) (pa_cons (pv 3) pa_nil)))))), ?_⟩
    obtain ⟨a, xs, rfl, a1, a2⟩ := dp_tup hv
    have lx : xs.length = bs.length := by
      rw [dpAll_len a2, List.length_map]
    refine ⟨by show 0 ≤ sizeLine; decide, fun F hF => ?_⟩
    have hFH : H F = none := hF
    have sF := same_upd (o := HO.lst []) hF
    have fF : F ≠ t := ne_t ht hF
    have fo : F ≠ op := ne_t hop hF
    have F1 : (upd H F (.lst [])) F = some (.lst []) := upd_same
    have b1 : But t H (upd H F (.lst [])) := But.of sF
    have t1 := sF _ _ ht
    change tNext _ _ (upd H F (.lst []))
    generalize upd H F (.lst []) = H1 at F1 b1 t1 ⊢
    refine ⟨_, rfl, a, rfl, ⟨_, Tk.seqT (b1.tk ht) a1⟩, ?_⟩
    refine for_it (walk_tup (K := K) (a := a) (xs := xs)) (fun i σ H' => ∃ (gs : List Gr) (fv : List V) (n' : Int) (y4 y5 y6 y7 y8 y9 : Option V), σ = [some (.ref t), some (.ref a), some (.ref op), some (.ref F), y4, y5, y6, y7, y8, y9] ∧ gs.length = i ∧ But t H H' ∧ H' t = some (.lst [.int n']) ∧ H' F = some (.lst fv) ∧ DpAll K H' fv (gs.map grD) ∧ gs.map (·.1) = (bs.map (·.1)).take i ∧ ∀ e ∈ gs, GrOk 160 52 e)
      ⟨[], [], n, none, none, none, none, none, none, rfl, rfl, b1, t1, F1, .nil, rfl, fun e h => by cases h⟩ (fun i σ H' _ ⟨_, _, _, _, _, _, _, _, _, _, _, h, _⟩ => Tk.seqT (h.tk ht) a1) ?_ ?_
    · rintro i v0 σ H0 H4 hi ⟨gs, fv, n4, y4, y5, y6, y7, y8, y9, rfl, lg, b4, t4, F4, p4, e4, o4⟩ ⟨rfl, hx⟩
      obtain ⟨d, z1, z2⟩ := dpAll_at a2 hx
      have hib : i < bs.length := by omega
      have hbi : bs[i]? = some bs[i] := List.getElem?_eq_getElem hib
      rw [List.getElem?_map, hbi] at z1
      cases z1
      have ho := hb bs[i] (List.getElem_mem hib)
      generalize bs[i] = e at hbi z2 ho
      obtain ⟨f, names, tm⟩ := e
      have ie : imm (errD (f, names, tm)) = true := by
        show (true && (immAll (names.map PyData.str) && (imm (toD tm) && true))) = true
        rw [imm_strs, imm_toD tm ho.ok.1]
        rfl
      obtain ⟨b, us, rfl, u1, u2⟩ := dp_tup (dp_tk (b4.tk ht) ie z2)
      cases u2 with
      | @cons xf xr1 _ _ uf ur1 =>
      cases ur1 with
      | @cons xn xr2 _ _ un ur2 =>
      cases ur2 with
      | @cons xt xr3 _ _ ut ur3 =>
      cases ur3
      have := dp_str uf
      subst this
      obtain ⟨nm, ns, rfl, n1, n2⟩ := dp_tup un
      have := strs_of names n2
      subst this
      refine ⟨b, _, rfl, u1, rfl, _, _, rfl, _, _, rfl, _, _, rfl, rfl, ?_⟩
      -- lent
      have n1t := n1
      refine ⟨_, rfl, nm, rfl, ⟨_, n1⟩, fun D hD => ?_⟩
      have sD := same_upd (o := HO.lst []) hD
      have nDt : D ≠ t := ne_t t4 hD
      refine lc_it (walk_tup (K := K) (a := nm) (xs := names.map V.str)) (fun j H' => But t H4 H' ∧ (∃ n', H' t = some (.lst [.int n'])) ∧ ∃ ts : List Bool, ts.length = j ∧ H' D = some (.lst (ts.map V.bl))) ⟨But.of sD, ⟨n4, sD _ _ t4⟩, [], rfl, upd_same⟩ (fun j H' _ h => Tk.seqT (h.1.tk t4) n1) ?_ ?_
      · rintro j v H0 H' hj ⟨b', ⟨n', t'⟩, ts, lt, d'⟩ ⟨rfl, hv⟩
        rw [List.length_map] at hj
        refine ⟨rfl, ?_⟩
        refine lcYes ?_
        have ln := ho.l
        change names.length ≤ 9 at ln
        refine ⟨_, rfl, t, n', 4, rfl, t', by decide, by decide, rfl, ts.map V.bl, by rw [upd_ne nDt]; exact d', by rw [List.length_map]; exact small1000 (by omega), ?_, ⟨n' / 4, by rw [upd_ne nDt.symm]; exact upd_same⟩, ts ++ [decide (V.int (n' % 4) = V.int 1)], by rw [List.length_append, lt]; rfl, ?_⟩
        · exact fun b o hb e => by
            rw [upd_ne (ne_of_none e hD), upd_ne hb]
            exact b' b o hb e
        · rw [upd_same, List.map_append]
          rfl
      rintro H5 ⟨b5, ⟨n5, t5⟩, ts, lt, d5⟩
      have tk5 : Tk H4 H5 := b5.tk t4
      have imtm := imm_toD tm ho.ok.1
      refine ⟨D, _, rfl, .inl ⟨.inl (.inl d5), fun pL hL => ?_⟩⟩
      have sL := same_upd (o := HO.tup (ts.map V.bl)) hL
      have b6 : But t H4 (upd H5 pL (.tup (ts.map V.bl))) := b5.trans (But.of sL)
      have t6 := sL _ _ t5
      have L6 : (upd H5 pL (.tup (ts.map V.bl))) pL = some (.tup (ts.map V.bl)) := upd_same
      change tNext _ _ (upd H5 pL (.tup (ts.map V.bl)))
      generalize upd H5 pL (.tup (ts.map V.bl)) = H6 at b6 t6 L6 ⊢
      clear b5 t5 d5 tk5 sL hL
      have tk6 := b6.tk t4
      have hn6 := Tk.seqT tk6 n1
      have ut6 := dp_tk tk6 imtm ut
      -- the term
      refine ⟨_, rfl, _, rfl, _, rfl, nm, _, rfl, .inr hn6, fun l hl => ?_⟩
      have sl := same_upd (o := HO.lst (names.map V.str)) hl
      have ln := ho.l
      change names.length ≤ 9 at ln
      have hop7 : (upd H6 l (.lst (names.map V.str))) op = some (.lst []) := sl _ _ (b6 _ _ nop (b4 _ _ nop hop))
      refine ⟨_, rfl, t, l, op, xt, tm, n5, names, [], rfl, ho.ok, ho.d, Nat.le_trans ho.s (by decide), sl _ _ t6, dp_mono sl ut6, upd_same, hop7, ne_t t6 hl, nop, by omega, by decide, fun H8 v8 n8 x8 b8 t8 tm8 dp8 => ?_⟩
      have b8' : But t H4 H8 := (b6.trans (But.of sl)).trans b8
      have F8 : H8 F = some (.lst fv) := b8' _ _ fF F4
      obtain ⟨tq, okq, eq, szq, dpq⟩ := tm8
      have lfv : fv.length = gs.length := by
        rw [dpAll_len p4, List.length_map]
      refine ⟨_, rfl, .inl ⟨rfl, _, .inl (.inl F8)⟩, _, rfl, _, rfl, _, rfl, _, rfl, by show 4 ≤ sizeLine; decide, fun p9 h9 => ?_⟩
      have s9 := same_upd (o := HO.tup [.str f, .ref nm, .ref pL, v8]) h9
      have L8 := (b8.trans (But.of s9))
      refine ⟨F, fv, _, rfl, rfl, s9 _ _ F8, small1000 (by omega), ?_⟩
      have b9 := b8'.trans (But.of s9)
      have tk9 := b9.tk t4
      have hL9 : (upd H8 p9 (.tup [.str f, .ref nm, .ref pL, v8])) pL = some (.tup (ts.map V.bl)) := L8 _ _ (ne_t' t6 L6) (sl _ _ L6)
      have new : Dp K (upd H8 p9 (.tup [.str f, .ref nm, .ref pL, v8])) (.ref p9) (grD (f, [.tuple (names.map .str), .tuple (ts.map .bool)], tq)) := by
        show Dp K _ _ (.tuple [.str f, .tuple (names.map .str), .tuple (ts.map .bool), toD tq])
        rw [eq]
        exact .tup (.inl (.inl upd_same)) (.cons (.str _) (.cons (.tup (Tk.seqT tk9 n1) (dpAll_strs _)) (.cons (.tup (.inl (.inl hL9)) (dpAll_bools _)) (.cons (dp_mono s9 dp8) .nil))))
      have gok : GrOk 160 52 (f, [.tuple (names.map .str), .tuple (ts.map .bool)], tq) := by
        have h1 := ho.s
        have h2 := ho.d
        refine ⟨okq, by show sz tq ≤ 160; change sz tm ≤ 40 at h1; omega, by show dpt tq ≤ 52; change dpt tm ≤ 13 at h2; omega, ?_⟩
        show (immAll (names.map PyData.str) && (immAll (ts.map PyData.bool) && true)) = true
        rw [imm_strs, imm_bools]
        rfl
      have oN : ∀ e ∈ gs ++ [(f, [.tuple (names.map .str), .tuple (ts.map .bool)], tq)], GrOk 160 52 e := fun e he => by
        rcases List.mem_append.mp he with h | h
        · exact o4 e h
        · rw [List.mem_singleton.mp h]
          exact gok
      have imN := imm_gr oN
      rw [List.map_append] at imN
      have F9 := s9 _ _ F8
      have t9 := s9 _ _ t8
      refine ⟨gs ++ [(f, [.tuple (names.map .str), .tuple (ts.map .bool)], tq)], fv ++ [.ref p9], n8, _, _, _, _, _, _, rfl, by rw [List.length_append, lg]; rfl, ?_, by rw [upd_ne fF.symm]; exact t9, upd_same, ?_, ?_, oN⟩
      · exact fun b o hb e => by
          rw [upd_ne (ne_of_none e hFH)]
          exact b9 b o hb (b4 b o hb e)
      · rw [List.map_append]
        exact dpAll_tk (tk_put F9) imN (dpAll_append (dpAll_tk tk9 (imm_gr o4) p4) (.cons new .nil))
      · rw [List.map_append, e4, List.take_add_one, List.getElem?_map, hbi]
        rfl
    · rintro σ H4 ⟨gs, fv, n4, y4, y5, y6, y7, y8, y9, rfl, lg, b4, t4, F4, p4, e4, o4⟩
      rw [lx, ← List.length_map (f := fun e : Er => e.1), List.take_length] at e4
      refine ⟨_, rfl, F, fv, rfl, .inl ⟨.inl (.inl F4), fun p hp => ?_⟩⟩
      have s5 := same_upd (o := HO.tup fv) hp
      exact q _ _ gs n4 (b4.trans (But.of s5)) (s5 _ _ t4) e4 o4 (.tup (.inl (.inl upd_same)) (dpAll_mono s5 p4))
end
end SP

/-! the words of a tape are different ones -/
namespace SP
open PySem PySem.Spec PyProof.Rows L2
theorem nodup_range_map {f : Nat → Str} {m : Nat} (h : ∀ i j, i < j → j < m → f i ≠ f j) : ((List.range m).map f).Nodup := by
  refine List.pairwise_map.mpr ?_
  refine List.Pairwise.imp_of_mem (fun {a b} ha hb hab => ?_) List.pairwise_lt_range
  exact h a b hab (List.mem_range.mp hb)
theorem head_chI (a : Int) (e : Str) : (chI a ++ e).cps.toList = (97 + (a % 26).toNat) :: e.cps.toList := by
  show ((#[97 + (a % 26).toNat] : Array Nat) ++ e.cps).toList = _
  rw [Array.toList_append]
  rfl
theorem chI_ne {a b : Int} {e e' : Str} (h : a % 26 ≠ b % 26) : chI a ++ e ≠ chI b ++ e' := fun z => by
  have := congrArg (fun s : Str => s.cps.toList) z
  simp only [head_chI] at this
  have h1 := (List.cons.inj this).1
  omega
theorem tail_chI (a : Int) (e : Str) : (e ++ chI a).cps.toList = e.cps.toList ++ [97 + (a % 26).toNat] := by
  show (e.cps ++ (#[97 + (a % 26).toNat] : Array Nat)).toList = _
  rw [Array.toList_append]
theorem chI_ne' {a b : Int} {e : Str} (h : a % 26 ≠ b % 26) : e ++ chI a ≠ e ++ chI b := fun z => by
  have := congrArg (fun s : Str => s.cps.toList) z
  simp only [tail_chI] at this
  have h1 := List.append_cancel_left this
  have h2 := (List.cons.inj h1).1
  omega
theorem stepL_in (i : Nat) : stepL.getD i 0 = 0 ∨ stepL.getD i 0 = 1 ∨ stepL.getD i 0 = 3 ∨ stepL.getD i 0 = 5 ∨ stepL.getD i 0 = 7 := getD_mem stepL i 0 (fun x => x = 0 ∨ x = 1 ∨ x = 3 ∨ x = 5 ∨ x = 7) (by decide) (by decide)
theorem stepL_lt (i : Nat) (h : i < 4) : stepL.getD i 0 ≠ 0 := by
  rcases (by omega : i = 0 ∨ i = 1 ∨ i = 2 ∨ i = 3) with rfl | rfl | rfl | rfl <;> decide
theorem someL_nodup : someL.Nodup := by decide +kernel
theorem words_nodup (n : Int) (m : Nat) (hm : m ≤ 6) : (wordsF n m).1.Nodup := by
  unfold wordsF
  split
  · refine nodup_range_map fun i j h1 h2 => ?_
    have hne : (n / 4 % 26 + (0 + (i : Int))) % 26 ≠ (n / 4 % 26 + (0 + (j : Int))) % 26 := by omega
    generalize endsL.getD (n / 4 / 26 % 3).toNat "" = e
    rcases (by omega : (n / 4 / 26 / 3 % 2).toNat = 0 ∨ (n / 4 / 26 / 3 % 2).toNat = 1) with h | h <;> rw [h]
    · exact chI_ne hne
    · exact chI_ne' hne
  · split
    · refine nodup_range_map fun i j h1 h2 => ?_
      intro z
      have := congrArg (fun s : Str => s.length) z
      simp only [chI] at this
      rw [rep_len _ _ (by omega), rep_len _ _ (by omega)] at this
      omega
    · split
      · refine nodup_range_map fun i j h1 h2 => ?_
        refine chI_ne ?_
        have h0 := stepL_lt (n / 4 / 26 % 4).toNat (by omega)
        rcases stepL_in (n / 4 / 26 % 4).toNat with h | h | h | h | h
        · exact absurd h h0
        all_goals
          rw [h]
          rcases (by omega : i = 0 ∨ i = 1 ∨ i = 2 ∨ i = 3 ∨ i = 4) with rfl | rfl | rfl | rfl | rfl <;>
            rcases (by omega : j = 1 ∨ j = 2 ∨ j = 3 ∨ j = 4 ∨ j = 5) with rfl | rfl | rfl | rfl | rfl <;> omega
      · refine nodup_range_map fun i j h1 h2 => ?_
        have l34 : someL.length = 34 := by decide +kernel
        have hi : ((n / 4 % 26 + (0 + (i : Int))) % 34).toNat < someL.length := by omega
        have hj : ((n / 4 % 26 + (0 + (j : Int))) % 34).toNat < someL.length := by omega
        rw [List.getD_eq_getElem?_getD, List.getD_eq_getElem?_getD, List.getElem?_eq_getElem hi, List.getElem?_eq_getElem hj]
        intro z
        have e : someL[((n / 4 % 26 + (0 + (i : Int))) % 34).toNat]? = someL[((n / 4 % 26 + (0 + (j : Int))) % 34).toNat]? := by
          rw [List.getElem?_eq_getElem hi, List.getElem?_eq_getElem hj]
          exact congrArg some z
        have := (List.getElem?_inj hi someL_nodup).mp e
        omega
end SP

namespace SP
open PySem PySem.Spec PyProof.Rows L2
/-! ### what stands at the places -/
def intK (k : Nat) : PyData := .int (k : Int)
theorem allK_in {x : PyData} {pl : List PyData} : ∀ {l : List Tm} {k : Nat}, x ∈ allK l k pl → ∃ (i : Nat) (t : Tm), l[i]? = some t ∧ x ∈ allD t (pl ++ [intK (k + i)])
  | [], k, h => by cases h
  | t :: l, k, h => by
    rw [allK] at h
    rcases List.mem_append.mp h with h | h
    · exact ⟨0, t, rfl, h⟩
    · obtain ⟨i, u, h1, h2⟩ := allK_in h
      refine ⟨i + 1, u, h1, ?_⟩
      rw [show k + (i + 1) = k + 1 + i by omega]
      exact h2
theorem kids_le {tm : Tm} (ok : okT tm) : (kids tm).length ≤ 100 := by
  cases tm with
  | flat w r => exact Nat.zero_le _
  | two w x a b => show 2 ≤ 100; decide
  | one w x a => show 1 ≤ 100; decide
  | many w x c =>
    rw [okT] at ok
    exact ok.2.2
theorem all_in : ∀ (D : Nat) (tm : Tm) (pl : List PyData), dpt tm ≤ D → okT tm → ∀ x ∈ allD tm pl, ∃ (ks : List Nat) (t : Tm), x = .tuple [.tuple (pl ++ ks.map intK), toD t] ∧ termG tm ks = some t ∧ okT t ∧ dpt t ≤ D ∧ (∀ k ∈ ks, k < 100) ∧ ks.length + 1 ≤ D
  | 0, tm, pl, h, _, x, _ => absurd (dpt_pos tm) (by omega)
  | D + 1, tm, pl, h, ok, x, hx => by
    rw [allD_eq] at hx
    rcases List.mem_cons.mp hx with rfl | hx
    · refine ⟨[], tm, ?_, ?_, ok, h, (fun k hk => by cases hk), by simp⟩
      · rw [List.map_nil, List.append_nil]
      · rw [termG]
    · obtain ⟨i, t, h1, h2⟩ := allK_in hx
      have hm := List.mem_of_getElem? h1
      have hd := kids_dp tm t hm
      obtain ⟨ks, u, e1, e2, e3, e4, e5, e6⟩ := all_in D t _ (by omega) (kids_ok ok t hm) x h2
      refine ⟨i :: ks, u, ?_, ?_, e3, by omega, ?_, by rw [List.length_cons]; omega⟩
      · rw [e1, Nat.zero_add, List.append_assoc]
        rfl
      · rw [termG, h1]
        exact e2
      · intro k hk
        rcases List.mem_cons.mp hk with rfl | hk
        · have := (List.getElem?_eq_some_iff.mp h1).1
          have := kids_le ok
          omega
        · exact e5 k hk
/-! ### how deep -/
theorem depthAll_le {n : Nat} : ∀ {l : List PyData}, (∀ x ∈ l, x.depth ≤ n) → PyData.depthAll l ≤ n
  | [], _ => Nat.zero_le _
  | x :: l, h => by
    show max x.depth (PyData.depthAll l) ≤ n
    have h1 := h x List.mem_cons_self
    have h2 := depthAll_le fun y hy => h y (List.mem_cons_of_mem _ hy)
    omega
mutual
theorem depth_toD : ∀ (tm : Tm), okT tm → (toD tm).depth ≤ 3 * dpt tm
  | .flat w r, ok => by
    rw [okT] at ok
    rw [toD, dpt]
    show max 0 (PyData.depthAll r) + 1 ≤ _
    have := ok.2.2.2.2.2
    omega
  | .two w x a b, ok => by
    rw [okT] at ok
    rw [toD, dpt]
    show max 0 (max 0 (max (toD a).depth (max (toD b).depth 0))) + 1 ≤ _
    have h1 := depth_toD a ok.2.1
    have h2 := depth_toD b ok.2.2
    omega
  | .one w x a, ok => by
    rw [okT] at ok
    rw [toD, dpt]
    show max 0 (max 0 (max (toD a).depth 0)) + 1 ≤ _
    have h1 := depth_toD a ok.2
    omega
  | .many w x c, ok => by
    rw [okT] at ok
    rw [toD, dpt]
    show max 0 (max 0 (max (PyData.depthAll (csD c) + 1) 0)) + 1 ≤ _
    have h1 := depth_csD c ok.2.1
    omega
theorem depth_csD : ∀ (c : Cs), okC c → PyData.depthAll (csD c) ≤ 3 * dptC c + 1
  | .nil, _ => by
    rw [csD]
    exact Nat.zero_le _
  | .cons w ys t c, ok => by
    rw [okC] at ok
    rw [csD, dptC]
    show max (max 0 (max (PyData.depthAll (ys.map .str) + 1) (max (toD t).depth 0)) + 1) (PyData.depthAll (csD c)) ≤ _
    have h1 := depth_toD t ok.2.1
    have h2 := depth_csD c ok.2.2
    have h3 := dpt_pos t
    rw [depth_strs]
    omega
end
theorem depth_kids {tm : Tm} (ok : okT tm) : (PyData.tuple ((kids tm).map toD)).depth ≤ 3 * dpt tm + 1 := by
  show PyData.depthAll _ + 1 ≤ _
  have : PyData.depthAll ((kids tm).map toD) ≤ 3 * dpt tm := depthAll_le fun x hx => by
    obtain ⟨t, ht, rfl⟩ := List.mem_map.mp hx
    have h1 := depth_toD t (kids_ok ok t ht)
    have h2 := kids_dp tm t ht
    omega
  omega
/-! ### how repr shows places -/
def GoodW (x : Str) : Prop := x.length ≤ 20 ∧ ∀ c ∈ x.cps.toList, c < 16 ^ 8
def plD (f : Str) (ks : List Nat) : PyData := .tuple (.str f :: ks.map intK)
theorem ints_ok : ∀ ks : List Nat, (∀ k ∈ ks, k < 100) → PyData.leavesShortAll 13 (ks.map intK) = true ∧ PyData.showableAll (ks.map intK) = true ∧ PyData.weightAll (ks.map intK) ≤ 8 * ks.length ∧ PyData.depthAll (ks.map intK) = 0 ∧ PyData.hasDictAll (ks.map intK) = false
  | [], _ => ⟨rfl, rfl, Nat.zero_le _, rfl, rfl⟩
  | k :: ks, h => by
    obtain ⟨h1, h2, h3, h4, h5⟩ := ints_ok ks fun x hx => h x (List.mem_cons_of_mem _ hx)
    have hk := h k List.mem_cons_self
    have hn : (Int.natAbs (k : Int)) = k := Int.natAbs_natCast k
    have hl : Nat.log2 k ≤ 6 := by
      by_cases h0 : k = 0
      · subst h0
        decide
      · have := (Nat.log2_lt h0).mpr (show k < 2 ^ 7 by omega)
        omega
    refine ⟨?_, ?_, ?_, ?_, ?_⟩
    · show (decide ((PyData.shown (.int (k : Int))).length ≤ 13) && PyData.leavesShortAll 13 (ks.map intK)) = true
      rw [h1, Bool.and_true]
      exact decide_eq_true (PyData.shown_int_le (by rw [hn]; omega))
    · show (decide ((k : Int).natAbs.log2 < 1920) && PyData.showableAll (ks.map intK)) = true
      rw [h2, Bool.and_true, hn]
      exact decide_eq_true (by omega)
    · show (if ((k : Int) == 0) = true then 0 else (k : Int).natAbs.log2 + 1) + 1 + PyData.weightAll (ks.map intK) ≤ _
      rw [hn, List.length_cons]
      split <;> omega
    · show max 0 (PyData.depthAll (ks.map intK)) = 0
      rw [h4]
      rfl
    · show (false || PyData.hasDictAll (ks.map intK)) = false
      rw [h5]
      rfl
structure PlOk (d : Nat) (x : PyData) : Prop where
  l : x.leavesShort 13 = true
  s : x.showable = true
  w : x.weight ≤ 8 * d + 21
  dd : x.depth = 1
  h : x.hasDict = false
theorem pl_ok {d : Nat} {f : Str} {ks : List Nat} (hf : GoodW f) (hk : ∀ k ∈ ks, k < 100) (hd : ks.length ≤ d) : PlOk d (plD f ks) := by
  obtain ⟨h1, h2, h3, h4, h5⟩ := ints_ok ks hk
  refine ⟨?_, h2, ?_, ?_, h5⟩
  · show ((f.cps.toList.all fun c => decide (c < 16 ^ 8)) && PyData.leavesShortAll 13 (ks.map intK)) = true
    rw [h1, Bool.and_true]
    exact List.all_eq_true.mpr fun c hc => decide_eq_true (hf.2 c hc)
  · show f.cps.size + 1 + PyData.weightAll (ks.map intK) ≤ _
    have : f.cps.size ≤ 20 := hf.1
    omega
  · show max 0 (PyData.depthAll (ks.map intK)) + 1 = 1
    rw [h4]
    rfl
theorem pls_shows {d : Nat} : ∀ {l : List PyData}, (∀ x ∈ l, PlOk d x) → PyData.leavesShortAll 13 l = true ∧ PyData.showableAll l = true ∧ PyData.weightAll l ≤ l.length * (8 * d + 22) ∧ PyData.depthAll l ≤ 1 ∧ PyData.hasDictAll l = false
  | [], _ => ⟨rfl, rfl, Nat.zero_le _, Nat.zero_le _, rfl⟩
  | x :: l, h => by
    obtain ⟨h1, h2, h3, h4, h5⟩ := pls_shows fun y hy => h y (List.mem_cons_of_mem _ hy)
    have hx := h x List.mem_cons_self
    refine ⟨?_, ?_, ?_, ?_, ?_⟩
    · show (x.leavesShort 13 && PyData.leavesShortAll 13 l) = true
      rw [h1, hx.l]
      rfl
    · show (x.showable && PyData.showableAll l) = true
      rw [h2, hx.s]
      rfl
    · show x.weight + 1 + PyData.weightAll l ≤ (l.length + 1) * (8 * d + 22)
      have := hx.w
      rw [Nat.succ_mul]
      omega
    · show max x.depth (PyData.depthAll l) ≤ 1
      rw [hx.dd]
      omega
    · show (x.hasDict || PyData.hasDictAll l) = false
      rw [h5, hx.h]
      rfl
theorem list_shows {d : Nat} {l : List PyData} (h : ∀ x ∈ l, PlOk d x) (hw : l.length * (8 * d + 22) ≤ 2 ^ 20) : shows (.list l) = true ∧ (PyData.list l).hasDict = false := by
  obtain ⟨h1, h2, h3, h4, h5⟩ := pls_shows h
  refine ⟨?_, h5⟩
  unfold shows
  have a1 : (PyData.list l).showable = true := h2
  have a2 : (PyData.list l).shown.length ≤ sizeLine := PyData.shown_fits (B := 13) (by decide) (by decide) h1 (Nat.le_trans h3 hw)
  have a3 : (PyData.list l).depth ≤ 8 := by
    show PyData.depthAll l + 1 ≤ 8
    omega
  rw [a1, decide_eq_true a2, decide_eq_true a3]
  rfl
/-! ### the words are good -/
theorem GoodW.app {x y : Str} {a b : Nat} (hx : x.length ≤ a) (hy : y.length ≤ b) (hab : a + b ≤ 20) (h1 : ∀ c ∈ x.cps.toList, c < 16 ^ 8) (h2 : ∀ c ∈ y.cps.toList, c < 16 ^ 8) : GoodW (x ++ y) := by
  refine ⟨by rw [strLen_append]; omega, fun c hc => ?_⟩
  have e : (x ++ y).cps.toList = x.cps.toList ++ y.cps.toList := by
    show (x.cps ++ y.cps).toList = _
    exact Array.toList_append
  rw [e] at hc
  rcases List.mem_append.mp hc with h | h
  · exact h1 c h
  · exact h2 c h
theorem chI_lt (a : Int) : ∀ c ∈ (chI a).cps.toList, c < 16 ^ 8 := by
  intro c hc
  have : c = 97 + (a % 26).toNat := by simpa [chI] using hc
  have h2 : (16 : Nat) ^ 8 = 4294967296 := by decide
  omega
theorem chI_len (a : Int) : (chI a).length ≤ 1 := Nat.le_refl _
end SP

namespace SP
open PySem PySem.Spec PyProof.Rows L2
theorem rep_lt (c n : Nat) (hc : c < 16 ^ 8) (hn : n ≤ 8) : ∀ d ∈ (repS0 ⟨#[c]⟩ n).cps.toList, d < 16 ^ 8 := by
  intro d hd
  have : d = c := by
    rcases (by omega : n = 0 ∨ n = 1 ∨ n = 2 ∨ n = 3 ∨ n = 4 ∨ n = 5 ∨ n = 6 ∨ n = 7 ∨ n = 8) with rfl | rfl | rfl | rfl | rfl | rfl | rfl | rfl | rfl
    all_goals simp [repS0, repS, Str.empty, List.replicate] at hd
    all_goals first | exact hd | (exact absurd hd (by simp))
  rw [this]
  exact hc
theorem ends_good (i : Nat) : (endsL.getD i "").length ≤ 7 ∧ ∀ c ∈ (endsL.getD i "").cps.toList, c < 16 ^ 8 := getD_mem endsL i "" (fun x => x.length ≤ 7 ∧ ∀ c ∈ x.cps.toList, c < 16 ^ 8) (by decide +kernel) (by decide +kernel)
theorem some_good (i : Nat) : GoodW (someL.getD i "") := getD_mem someL i "" GoodW (by unfold GoodW; decide +kernel) (by unfold GoodW; decide +kernel)
theorem words_good (n : Int) (m : Nat) (hm : m ≤ 30) : ∀ x ∈ (wordsF n m).1, GoodW x := by
  have hch : ∀ a : Int, GoodW (chI a) := fun a => ⟨Nat.le_trans (chI_len a) (by decide), chI_lt a⟩
  have h97 : ∀ a : Int, 97 + (a % 26).toNat < 16 ^ 8 := fun a => by
    have h2 : (16 : Nat) ^ 8 = 4294967296 := by decide
    omega
  unfold wordsF
  intro x hx
  split at hx
  · obtain ⟨i, hi, rfl⟩ := List.mem_map.mp hx
    have e := ends_good (n / 4 / 26 % 3).toNat
    rcases (by omega : (n / 4 / 26 / 3 % 2).toNat = 0 ∨ (n / 4 / 26 / 3 % 2).toNat = 1) with h | h <;> rw [h]
    · exact .app (chI_len _) e.1 (by decide) (chI_lt _) e.2
    · exact .app e.1 (chI_len _) (by decide) e.2 (chI_lt _)
  · split at hx
    · obtain ⟨i, hi, rfl⟩ := List.mem_map.mp hx
      refine ⟨?_, ?_⟩
      · simp only [chI]
        rw [rep_len _ _ (by omega)]
        omega
      · exact rep_lt _ _ (h97 _) (by omega)
    · split at hx
      · obtain ⟨i, hi, rfl⟩ := List.mem_map.mp hx
        have hq : (("q" : Str)) = ⟨#[113]⟩ := by decide +kernel
        rw [hq]
        exact .app (chI_len _) (Nat.le_of_eq (rep_len _ _ (by omega))) (by omega) (chI_lt _) (rep_lt _ _ (by decide) (by omega))
      · obtain ⟨i, hi, rfl⟩ := List.mem_map.mp hx
        exact some_good _
end SP

/-! defs that are called where nothing is being shown -/
namespace SP
open PySem PySem.Spec PyProof.Rows L2
section
variable {P : Program} {w : World} {K : PySem.W.Frag} {mg : Str → Option Value} {base : Heap}
structure FnG (P : Program) (w : World) (K : PySem.W.Frag) (mg : Str → Option Value) (base : Heap) (k : Nat) (f : Addr) (fd : FuncData) (ps : List Str) (sp : Sp) : Prop where
  count : ∀ vs H Q, sp vs H Q E0 → vs.length = ps.length
  goes : ∀ (A : Around) (outer : List Env) (s : Shared) (H : Hp) (args : Args) (us : List Value) (vs : List V) (Q : VK), A.guards = some [] → Room k A → Env0 P w K mg base A outer s H → BindsTo s fd args (ps.zip us) → Vals vs us → sp vs H Q E0 →
    codeAny (model P w) A (.call (.ref f) args) (CR CX0 outer P w H s Q E0) s
/-- the body of a def, run where it is called -/
theorem body_any {x qual : Str} {st : Stmt} {f : Addr} {fd : FuncData} {N ps : List Str} {k : Nat} {A : Around} {outer : List Env} {s : Shared} {H : Hp} {args : Args} {us : List Value} {zs : List V} {Q : VK}
    (F : Fun K x qual st f fd) (S : FnScope N ps (defScope st)) (room : Room (k + 1) A) (e0 : Env0 P w K mg base A outer s H) (bnd : BindsTo s fd args (ps.zip us)) (r : Vals zs us) (len : zs.length = ps.length)
    (body : ∀ cdv : Value, Room k (A.deeper (envOfC qual (defScope st) s.heap.objs.size f cdv)) →
      ∃ t, PSs (cxOf CX0 P w K mg base N qual (defScope st) f cdv A outer s H E0).nox (defBody st) t ∧ t { nx := fun _ H' => Q .non H', rt := Q } (start N zs) H) :
    codeAny (model P w) A (.call (.ref f) args) (CR CX0 outer P w H s Q E0) s := by
  obtain ⟨oc, od, kV, doc, pm, an, cdv, ct, osl, rfl, lk, hcd⟩ := F.ex
  have here : K.In s.heap := e0.mod.kin.keeps fun b o e => (e0.bs b o e).1
  have limit : s.heap.NoLimit := e0.mod.nolimit.keeps fun b o e => (e0.bs b o e).1
  have kinds : ∀ y ∈ ps.zip us, (defScope st).names.lookup y.1 = some .local ∨ ((defScope st).names.lookup y.1 = some .cell ∧ ((cellsFrom (s.heap.objs.size + 1) (defScope st).names []).lookup y.1).isSome = true) := by
    rintro ⟨n, v⟩ hy
    rcases S.par n (List.of_mem_zip hy).1 with q | q
    · exact .inl q
    · exact .inr ⟨q, PySem.W.cellsFrom_some _ _ _ (.inl q)⟩
  refine codeAny_call_function room.depth (here _ _ lk) rfl S.co S.gen rfl (PySem.W.codeRec_of here hcd) (bnd _ _ _ _ ?_)
  refine wpAny_newFunctionEnv_cells S.kind kinds ?_
  intro env he s1 x1
  subst he
  refine ⟨limit.keeps x1.toInCall.keep, codeAny_func ?_⟩
  obtain ⟨t, ht, hq⟩ := body cdv (room.deeper _)
  have I : Inv (cxOf CX0 P w K mg base N qual (defScope st) f cdv A outer s H E0) [] (start N zs) H s1 := inv_start S room.hd e0 len r x1
  refine wpAny_mono ((ht.nox).run [] s1 (start N zs) H _ I hq) (fun fl s' hs => ?_) (fun e s' hs => hs)
  cases fl with
  | ret u =>
    obtain ⟨v, σ', H', J, rv, q⟩ := hs
    exact ⟨v, H', J.os, J.bare, J.base, J.hok, rv, q⟩
  | next =>
    obtain ⟨σ', H', J, q⟩ := hs
    exact ⟨V.non, H', J.os, J.bare, J.base, J.hok, rfl, q⟩
  | brk => exact hs.elim fun _ z => z.elim fun _ z => z.2.elim
  | cont => exact hs.elim fun _ z => z.elim fun _ z => z.2.elim
theorem okG_of {x qual : Str} {st : Stmt} {f : Addr} {fd : FuncData} {N ps : List Str} {k : Nat} {sp : Sp} (F : Fun K x qual st f fd) (S : FnScope N ps (defScope st)) (len : ∀ vs H Q, sp vs H Q E0 → vs.length = ps.length)
    (body : ∀ (cdv : Value) (A : Around) (outer : List Env) (s : Shared) (H : Hp) (vs : List V) (Q : VK), A.guards = some [] → Room k (A.deeper (envOfC qual (defScope st) s.heap.objs.size f cdv)) → sp vs H Q E0 →
      ∃ t, PSs (cxOf CX0 P w K mg base N qual (defScope st) f cdv A outer s H E0).nox (defBody st) t ∧ t { nx := fun _ H' => Q .non H', rt := Q } (start N vs) H) : FnG P w K mg base (k + 1) f fd ps sp :=
  ⟨len, fun A outer s H args us vs Q hg hr e0 hb r hs => body_any F S hr e0 hb r (len _ _ _ hs) fun cdv h => body cdv A outer s H vs Q hg h hs⟩
structure CalleeG (P : Program) (w : World) (K : PySem.W.Frag) (mg : Str → Option Value) (base : Heap) (x : Str) (ps : List Str) (k : Nat) (sp : Sp) : Prop where
  ex : ∃ (f : Addr) (fd : FuncData), FnG P w K mg base k f fd ps sp ∧ mg x = some (.ref f) ∧ PySem.W.keepIn K (.ref f) = true ∧ Binds K fd ps []
theorem run_g {X : Cx} {k : Nat} {f : Addr} {fd : FuncData} {ps : List Str} {sp : Sp} {pins : List (Addr × Obj)} {σ : L2.St} {H : Hp} {s : Shared} {Q : VK} {us : List Value} {vs : List V} (F : FnG X.prog X.w X.K X.mg X.base k f fd ps sp) (hg : X.A.guards = some []) (room : Room k X.A) (bn : Binds X.K fd ps [])
    (I : Inv X pins σ H s) (r : Vals vs us) (h : sp vs H Q E0) : wpAny (model X.prog X.w) X.A (call (.ref f) us) (EP X pins σ Q) X.xe s := by
  have lu : us.length = ps.length := by
    rw [← r.length]
    exact F.count _ _ _ h
  have bd := bn s us I.kIn (by rw [List.append_nil]; exact lu)
  rw [List.append_nil] at bd
  refine wpAny_call (codeAny_mono (F.goes X.A X.stack s H ⟨us, []⟩ us vs Q hg room I.env0 bd r h) ?_)
  rintro (e | fl) s' hq
  · exact hq.elim
  · cases fl with
    | ret u => exact I.after hq
    | next => exact hq.elim
    | brk => exact hq.elim
    | cont => exact hq.elim
theorem pe_fnG {X : Cx} {x : Str} {ps : List Str} {k j : Nat} {sp : Sp} {e : Expr} {es : List Expr} {p pos : Pos} {t : TA} (C : CalleeG X.prog X.w X.K X.mg X.base x ps k sp) (hgd : X.A.guards = some []) (hr : Room j X.A) (hg : Gl X x) (ha : PA X (e :: es) t)
    (hk : k ≤ j := by decide) (h2 : (x == ("__debug__" : Str)) = false := by decide) (hs : starEach (e :: es) X.env = (false, eval e X.env) :: starEach es X.env := by rfl) (hp : (backTo pos (starEach es X.env)).any (·.1) = false := by rfl) :
    PE X (.Call (.Name x p) (e :: es) [] pos) (tCall sp [] E0 t) := by
  obtain ⟨f, fd, G, g, kp, b⟩ := C.ex
  refine ⟨fun pins s σ H Q I h => ?_⟩
  refine wpAny_Call_Name_kw (ld_glob I hg g ?_ h2)
  refine PySem.W.callWith_K (h₀ := X.base) I.ok.mod.kin kp (thn (ha.run pos pins s σ H _ I h) ?_) hs hp
  rintro us s1 ⟨vs, H1, I1, r, q⟩
  refine ⟨I1.kIn, run_g G hgd (hr.mono hk) b I1 r ?_⟩
  have q' : sp (vs ++ []) H1 Q E0 := q
  rw [List.append_nil] at q'
  exact q'
end
end SP

namespace SP
open PySem PySem.Spec PyProof.Rows L2
open C8 (pss_cut tCut)
theorem hu700 {A : Around} (hr : Room 202 A) : A.units + 700 < cLine := by
  have := hr.un
  omega
def dueL (gs : List Gr) : List PyData := gs.flatMap fun e => plsQ ([.str e.1], e.2.2)
theorem imm_due {n d : Nat} : ∀ {gs : List Gr}, (∀ e ∈ gs, GrOk n d e) → immAll (dueL gs) = true
  | [], _ => rfl
  | e :: gs, h => by
    show immAll (plsQ ([.str e.1], e.2.2) ++ dueL gs) = true
    exact immAll_append (imm_plsQ (h e List.mem_cons_self)) (imm_due fun u hu => h u (List.mem_cons_of_mem _ hu))
theorem due_pl (gs : List Gr) : (dueL gs).map fstD = allPl gs := by
  unfold dueL allPl plsE
  rw [List.map_flatMap]
theorem due_len {n d : Nat} {gs : List Gr} (h : ∀ e ∈ gs, GrOk n d e) : (dueL gs).length ≤ gs.length * n := by
  have := allPl_len h
  rw [← due_pl, List.length_map] at this
  exact this
theorem due_in {n d : Nat} {gs : List Gr} (h : ∀ e ∈ gs, GrOk n d e) : ∀ x ∈ dueL gs, ∃ (i : Nat) (e : Gr) (ks : List Nat) (t : Tm), gs[i]? = some e ∧ x = .tuple [plD e.1 ks, toD t] ∧ termG e.2.2 ks = some t ∧ okT t ∧ dpt t ≤ d ∧ (∀ k ∈ ks, k < 100) ∧ ks.length + 1 ≤ d := by
  intro x hx
  obtain ⟨e, he, hx⟩ := List.mem_flatMap.mp hx
  obtain ⟨i, hi⟩ := List.getElem?_of_mem he
  have go := h e he
  obtain ⟨ks, t, e1, e2, e3, e4, e5, e6⟩ := all_in d e.2.2 [.str e.1] go.d go.ok x hx
  exact ⟨i, e, ks, t, hi, e1, e2, e3, e4, e5, e6⟩
theorem pls_good {n d : Nat} {gs : List Gr} (h : ∀ e ∈ gs, GrOk n d e) (hw : ∀ e ∈ gs, GoodW e.1) : ∀ x ∈ allPl gs, PlOk d x := by
  intro x hx
  rw [← due_pl] at hx
  obtain ⟨y, hy, rfl⟩ := List.mem_map.mp hx
  obtain ⟨i, e, ks, t, e1, rfl, e2, e3, e4, e5, e6⟩ := due_in h y hy
  exact pl_ok (hw e (List.mem_of_getElem? e1)) e5 (by omega)
theorem GrOk.mono {n d n' d' : Nat} {e : Gr} (h : GrOk n d e) (h1 : n ≤ n') (h2 : d ≤ d') : GrOk n' d' e := ⟨h.ok, Nat.le_trans h.s h1, Nat.le_trans h.d h2, h.i⟩
theorem ty_tup {K : PySem.W.Frag} {H : Hp} {a : Addr} {xs : List V} (h : SqT K H a xs) : TyX K H (.ref a) (.type "tuple") := by
  rcases h with (h | ⟨o, h⟩) | h
  · exact .base (.tup h)
  · exact .fTuple h
  · obtain ⟨o, its, n, e, c, _⟩ := h
    exact .kTuple e c
theorem ints_of {K : PySem.W.Frag} {H : Hp} : ∀ {tv : List V} (ks : List Nat), DpAll K H tv (ks.map intK) → tv = ks.map fun (k : Nat) => V.int (k : Int)
  | _, [], .nil => rfl
  | _, k :: ks, .cons h t => by
    rw [dp_int h, ints_of ks t]
    rfl
section
variable {P : Program} {w : World} {K : PySem.W.Frag} {mg : Str → Option Value} {base : Heap}
def spRight (K : PySem.W.Frag) : Sp := fun vs H Q _ => ∃ (v : V) (gs : List Gr) (n d : Nat), vs = [v] ∧ (∀ e ∈ gs, GrOk n d e) ∧ n ≤ 1000 ∧ d ≤ 200 ∧ gs.length ≤ 100 ∧ gs.length * n * (8 * d + 22) ≤ 2 ^ 20 ∧ (gs.map (·.1)).Nodup ∧ (∀ e ∈ gs, GoodW e.1) ∧ Dp K H v (.tuple (gs.map grD)) ∧
  ∀ (H' : Hp), Same H H' → Q (.bl true) H'
theorem ok_law_right {f : Addr} {fd : FuncData} (F : Fun K "_law_right" "_law_right" s_law_right f fd) (T : Txt mg) (C_law_parts : Callee P w K mg base "_law_parts" ["term"] 1 (spParts K)) (C_law_all : Callee P w K mg base "_law_all" ["term", "place"] 202 (spAll K 200)) (C_all_places : Callee P w K mg base "all_places" ["book"] 3 (spAllPl K)) (C_parts_of : Callee P w K mg base "parts_of" ["term"] 1 (spParts K)) (C_term_at : Callee P w K mg base "term_at" ["book", "place"] 2 (spTermAt K)) : FnG P w K mg base 203 f fd ["book"] (spRight K) := by
  refine okG_of F sc_law_right (fun vs H Q h => ?_) (fun cdv A outer s H vs Q hgd hr h => ?_)
  · obtain ⟨v, gs, n, d, rfl, _⟩ := h
    rfl
  · obtain ⟨v, gs, n, d, rfl, go, hn, hd, lg, hw, nd, gw, hv, q⟩ := h
    refine ⟨_, (pss_cons (ps_set (i := 1) sc_law_right.nd rfl (Or.inl rfl) (pe_lst pa_nil))
      (pss_cons (ps_for PassesOwn.never rfl (pi_tup (pv 0)) (pg_name (i := 2) sc_law_right.nd rfl (Or.inl rfl))
      (pss_one (ps_expr (pe_bm PySem.F.plainAttrs_list PySem.F.slot_list_extend PySem.F.type_list_extend mt_extend (pv 1) (pa_cons (pe_fn C_law_all hr (by rfl) (pa_cons (pe_ix (r := rIxT K) ix_tup (pv 2) (pe_un un_neg pe_int) (fun _ _ => rfl)) (pa_cons (pe_tup (pa_cons (pe_ix (r := rIxT K) ix_tup (pv 2) pe_int (fun _ _ => rfl)) pa_nil)) pa_nil))) pa_nil)))))
      (pss_cons (ps_for PassesOwn.never rfl (pi_range1 rfl T.n_range (pa_cons pe_int pa_nil)) (pg_name (i := 3) sc_law_right.nd rfl (Or.inl rfl))
      (pss_cons (ps_set (i := 4) sc_law_right.nd rfl (Or.inl rfl) (pe_fn C_all_places hr (by rfl) (pa_cons (pv 0) pa_nil)))
      (pss_cons (ps_if (pt_cmpR op_ne (pe_callB (call_reprD hgd hr.units) (by rfl) T.n_repr (by decide +kernel) (pa_cons (pv 4) pa_nil)) (pe_callB (call_reprD hgd hr.units) (by rfl) T.n_repr (by decide +kernel) (pa_cons (pe_lc (own := [("place", 5), ("term", 6)]) (g := gTup K 2 (gCons (gName 5) (gCons (gName 6) gNil))) (tt := tYes) rfl sc_law_right.nd (pi_list (pv 1)) (blkOk_by (own := [("place", 5), ("term", 6)]) (N := ["book", "due", "errand", "turn", "found", "place", "term", "parts"]) (sc := defScope s_law_right) (by decide +kernel)) (fun _ _ _ _ _ => (pg_tup rfl (pgs_cons (pg_name (i := 5) sc_law_right.nd rfl (Or.inl rfl)) (pgs_cons (pg_name (i := 6) sc_law_right.nd rfl (Or.inl rfl)) pgs_nil)))) (fun _ _ _ _ _ => pts_nil) (fun _ _ _ _ _ => (pv 5))) pa_nil)) (nomark _)) (pss_one (ps_ret pe_bl)) pss_nil)
      (pss_one (ps_expr (pe_bm PySem.F.plainAttrs_list PySem.F.slot_list_append PySem.F.type_list_append mt_append (pv 4) (pa_cons (pe_tup pa_nil) pa_nil)))))))
      (pss_cons (ps_for PassesOwn.never rfl (pi_list (pv 1)) (pg_tup rfl (pgs_cons (pg_name (i := 5) sc_law_right.nd rfl (Or.inl rfl)) (pgs_cons (pg_name (i := 6) sc_law_right.nd rfl (Or.inl rfl)) pgs_nil)))
      (pss_cons (ps_set (i := 7) sc_law_right.nd rfl (Or.inl rfl) (pe_fn C_parts_of hr (by rfl) (pa_cons (pv 6) pa_nil)))
      (pss_cons (ps_if (PW.pt (pw_or (pt_cmpR (r := rNeP K 700) (op_neP (m := 700) (hu700 hr)) (pe_fn C_term_at hr (by rfl) (pa_cons (pv 0) (pa_cons (pv 5) pa_nil))) (pv 6) (nomark _)) (pw_or1 (pt_not (pt_val (pe_callB (r := rIsi K) call_isi (by rfl) T.n_isinstance (by decide +kernel) (pa_cons (pv 7) (pa_cons (pe_bltn (v := .ty "tuple") (by rfl) T.n_tuple (by decide +kernel) rfl) pa_nil)))))))) (pss_one (ps_ret pe_bl)) pss_nil)
      (pss_one (ps_if (pt_cmpR (r := rNeP K 700) (op_neP (m := 700) (hu700 hr)) (pv 7) (pe_callTy (r := rTupleS K) call_tupleS (by rfl) T.n_tuple (by decide +kernel) (pa_cons (pe_fn C_law_parts hr (by rfl) (pa_cons (pv 6) pa_nil)) pa_nil)) (nomark _)) (pss_one (ps_ret pe_bl)) pss_nil)))))
      (pss_one (ps_ret pe_bl)))))), ?_⟩
    obtain ⟨a, xs, rfl, a1, a2⟩ := dp_tup hv
    have lx : xs.length = gs.length := by
      rw [dpAll_len a2, List.length_map]
    have hlen : gs.length * n ≤ 100 * 1000 := Nat.mul_le_mul lg hn
    have hsl := sizeLine_eq
    -- due
    refine ⟨by show 0 ≤ sizeLine; decide, fun D hD => ?_⟩
    have sD := same_upd (o := HO.lst []) hD
    have D1 : (upd H D (.lst [])) D = some (.lst []) := upd_same
    change tNext _ _ (upd H D (.lst []))
    generalize upd H D (.lst []) = H1 at sD D1 ⊢
    refine ⟨_, rfl, a, rfl, ⟨_, Same.seqT sD a1⟩, ?_⟩
    refine for_it (walk_tup (K := K) (a := a) (xs := xs)) (fun i σ H' => ∃ (y2 : Option V) (ys : List V), σ = [some (.ref a), some (.ref D), y2, none, none, none, none, none] ∧ Same H H' ∧ H' D = some (.lst ys) ∧ DpAll K H' ys (dueL (gs.take i)))
      ⟨none, [], rfl, sD, D1, .nil⟩ (fun i σ H' _ ⟨_, _, _, h, _⟩ => Same.seqT h a1) ?_ ?_
    · rintro i v0 σ H0 H2 hi ⟨y2, ys, rfl, s2, D2, p2⟩ ⟨rfl, hx⟩
      obtain ⟨dd, z1, z2⟩ := dpAll_at a2 hx
      have hlt : i < gs.length := by omega
      have hge : gs[i]? = some gs[i] := List.getElem?_eq_getElem hlt
      rw [List.getElem?_map, hge] at z1
      cases z1
      have goe := go gs[i] (List.getElem_mem hlt)
      generalize gs[i] = e at hge z2 goe
      obtain ⟨b, us, y, rfl, b1, b2⟩ := gr_at (dp_mono s2 z2)
      refine ⟨_, rfl, .inl ⟨rfl, _, .inl (.inl D2)⟩, _, rfl, _, rfl, b, _, -1, y, rfl, rfl, b1, at_last (xs := .str e.1 :: us), _, rfl, b, _, 0, .str e.1, rfl, rfl, b1, atI_nat (j := 0) rfl, by show 1 ≤ sizeLine; decide, fun p3 h3 => ?_⟩
      have s3 := same_upd (o := HO.tup [.str e.1]) h3
      have hde := goe.d
      have hse := goe.s
      refine ⟨y, p3, [.str e.1], e.2.2, [.str e.1], rfl, goe.ok, by omega, by omega, dp_mono s3 b2, .inl (.inl upd_same), .cons (.str _) .nil, by simp, rfl, by show 1 + 200 ≤ 1000; decide, fun H4 l4 ys4 s4 hl4 d4 p4 => ?_⟩
      have S4 := s3.trans s4
      have l1 : ys.length ≤ 100 * 1000 := by
        rw [dpAll_len p2]
        refine Nat.le_trans (due_len fun u hu => go u (List.mem_of_mem_take hu)) (Nat.le_trans (Nat.mul_le_mul_right _ ?_) hlen)
        rw [List.length_take]
        omega
      have l2 : ys4.length ≤ 1000 := by
        rw [dpAll_len p4, all_len _ _ _ (Nat.le_refl _)]
        omega
      have im1 : immAll (dueL (gs.take i)) = true := imm_due fun u hu => go u (List.mem_of_mem_take hu)
      have im2 : immAll (allD e.2.2 [.str e.1]) = true := all_imm _ _ _ (Nat.le_refl _) goe.ok rfl
      refine ⟨D, l4, ys, ys4, rfl, rfl, S4 _ _ D2, d4, by omega, ?_⟩
      have tk := tk_put (o := HO.lst (ys ++ ys4)) (S4 _ _ D2)
      refine ⟨_, ys ++ ys4, rfl, same_put (s2.trans S4) hD, upd_same, ?_⟩
      have hN : dueL (gs.take (i + 1)) = dueL (gs.take i) ++ allD e.2.2 [.str e.1] := by
        unfold dueL
        rw [List.take_add_one, hge, List.flatMap_append]
        simp [plsQ]
      rw [hN]
      exact dpAll_tk tk (immAll_append im1 im2) (dpAll_append (dpAll_mono S4 p2) p4)
    · rintro σ H2 ⟨y2, ys, rfl, s2, D2, p2⟩
      rw [lx, List.take_length] at p2
      have imA : immAll (allPl gs) = true := imm_allPl go
      have lA : (allPl gs).length ≤ 100 * 1000 := Nat.le_trans (allPl_len go) hlen
      have lY : ys.length ≤ 100 * 1000 := by
        rw [dpAll_len p2]
        exact Nat.le_trans (due_len go) hlen
      have lAY : ys.length = (allPl gs).length := by
        rw [dpAll_len p2, ← due_pl, List.length_map]
      obtain ⟨shA, ndA⟩ := list_shows (pls_good go gw) (Nat.le_trans (Nat.mul_le_mul_right _ (allPl_len go)) hw)
      refine ⟨2, rfl, by decide, by decide, for_range (lo := 0) (n := 2) (fun j σ H' => ∃ y3 y4 : Option V, σ = [some (.ref a), some (.ref D), y2, y3, y4, none, none, none] ∧ Same H2 H') ⟨none, none, rfl, Same.refl _⟩ ?_ ?_⟩
      · rintro j σ H3 hj ⟨y3, y4, rfl, s3⟩
        refine ⟨_, rfl, .ref a, gs, rfl, fun e he => (go e he).mono hn (by omega), lg, dp_mono (s2.trans s3) hv, fun H4 l ys4 s4 hl4 d4 p4 => ?_⟩
        have D4 := s4 _ _ (s3 _ _ D2)
        have p24 := dpAll_mono (s3.trans s4) p2
        refine ⟨_, rfl, .ref l, .list (allPl gs), rfl, .dp (.lst (.inl (.inl d4)) p4) ndA, shA, ?_⟩
        refine ⟨_, rfl, D, rfl, ⟨_, .inl (.inl D4)⟩, fun L hL => ?_⟩
        refine lc_it (walk_list (K := K) (a := D) (xs := ys)) (fun j H' => Same H4 H' ∧ ∃ zs, zs.length = j ∧ H' L = some (.lst zs) ∧ DpAll K H' zs ((allPl gs).take j)) ⟨same_upd hL, [], rfl, upd_same, .nil⟩ (fun j H' _ h => .inl (.inl (h.1 _ _ D4))) ?_ ?_
        · rintro j v H0 H5 hj5 ⟨s5, zs, lz, L5, p5⟩ ⟨rfl, hx⟩
          obtain ⟨dd, z1, z2⟩ := dpAll_at p24 hx
          obtain ⟨i1, e, ks, t, e1, rfl, _⟩ := due_in go dd (List.mem_of_getElem? z1)
          obtain ⟨T0, us, rfl, u1, u2⟩ := dp_tup (dp_mono s5 z2)
          cases u2 with
          | @cons xa xr1 _ _ ua ur =>
          cases ur with
          | @cons xb xr2 _ _ ub ur2 =>
          cases ur2
          have hAj : (allPl gs)[j]? = some (plD e.1 ks) := by
            rw [← due_pl, List.getElem?_map, z1]
            rfl
          refine ⟨T0, _, rfl, u1, rfl, _, _, rfl, _, _, rfl, rfl, rfl, ?_⟩
          refine lcYes ?_
          have imt := immAll_take (j + 1) imA
          rw [List.take_add_one, hAj] at imt
          refine ⟨_, rfl, zs, L5, by omega, same_put s5 hL, zs ++ [xa], by rw [List.length_append, lz]; rfl, upd_same, ?_⟩
          rw [List.take_add_one, hAj]
          exact dpAll_tk (tk_put L5) imt (dpAll_append p5 (.cons ua .nil))
        rintro H5 ⟨s5, zs, lz, L5, p5⟩
        rw [lAY, List.take_length] at p5
        refine ⟨.ref L, .list (allPl gs), rfl, .dp (.lst (.inl (.inl L5)) p5) ndA, shA, rfl, _, rfl, ?_⟩
        refine ite_F (by rw [decide_eq_true rfl]; rfl) ?_
        have d5 := s5 _ _ d4
        refine ⟨_, rfl, .inl ⟨rfl, _, .inl (.inl d5)⟩, by show 0 ≤ sizeLine; decide, fun p6 h6 => ⟨l, ys4, _, rfl, rfl, same_upd h6 _ _ d5, ?_, ?_⟩⟩
        · rw [dpAll_len p4]
          omega
        · refine ⟨_, _, rfl, ?_⟩
          exact same_put (s3.trans (s4.trans (s5.trans (same_upd h6)))) (s3.free hl4)
      · rintro σ H3 ⟨y3, y4, rfl, s3⟩
        have D3 := s3 _ _ D2
        have p23 := dpAll_mono s3 p2
        refine ⟨_, rfl, D, rfl, ⟨_, .inl (.inl D3)⟩, ?_⟩
        refine for_it (walk_list (K := K) (a := D) (xs := ys)) (fun i σ H' => ∃ y5 y6 y7 : Option V, σ = [some (.ref a), some (.ref D), y2, y3, y4, y5, y6, y7] ∧ Same H3 H') ⟨none, none, none, rfl, Same.refl _⟩ (fun i σ H' _ ⟨_, _, _, _, h⟩ => .inl (.inl (h _ _ D3))) ?_ ?_
        · rintro i v0 σ H0 H5 hi ⟨y5, y6, y7, rfl, s5⟩ ⟨rfl, hx⟩
          obtain ⟨dd, z1, z2⟩ := dpAll_at p23 hx
          obtain ⟨i1, e, ks, t, e1, rfl, e2, e3, e4, e5, e6⟩ := due_in go dd (List.mem_of_getElem? z1)
          have goe := go e (List.mem_of_getElem? e1)
          obtain ⟨T0, us, rfl, u1, u2⟩ := dp_tup (dp_mono s5 z2)
          cases u2 with
          | @cons xa xr1 _ _ ua ur =>
          cases ur with
          | @cons xb xr2 _ _ ub ur2 =>
          cases ur2
          obtain ⟨pa, pv, rfl, v1, v2⟩ := dp_tup ua
          cases v2 with
          | @cons xf xr3 _ _ uf ui =>
          have := dp_str uf
          subst this
          have := ints_of ks ui
          subst this
          have plt : (toD t).plain = true := plain_imm _ (imm_toD t e3)
          have eqt : PyData.eqv (toD t) (toD t) = true := SeqAt.eqv_refl_plain _ plt
          have dpt' := depth_toD t e3
          have plk : (PyData.tuple ((kids t).map toD)).plain = true := plain_imm (.tuple _) (imm_kids e3)
          have eqk : PyData.eqv (.tuple ((kids t).map toD)) (.tuple ((kids t).map toD)) = true := SeqAt.eqv_refl_plain _ plk
          have dpk := depth_kids e3
          have dt1 := dpt_pos t
          refine ⟨T0, _, rfl, u1, rfl, _, _, rfl, _, _, rfl, rfl, ?_⟩
          refine ⟨_, rfl, xb, t, rfl, e3, ub, fun H7 v7 s7 d7 => ?_⟩
          obtain ⟨a7, xs7, rfl, x71, x72⟩ := dp_tup d7
          have S7 := s2.trans (s3.trans (s5.trans s7))
          refine ⟨_, rfl, _, rfl, .ref a, pa, e.1, ks, gs, i1, e, t, rfl, dp_mono S7 hv, Same.seqT s7 v1, nd, e1, rfl, goe.ok, e2, by omega, fun H8 v8 s8 okt d8 => ?_⟩
          refine ⟨_, rfl, toD t, toD t, d8, dp_mono (s7.trans s8) ub, plt, plt, Nat.le_trans (Nat.min_le_left _ _) (by omega), _, rfl, ?_⟩
          refine ite_F (by rw [eqt]; rfl) ?_
          have x78 := Same.seqT s8 x71
          refine ⟨_, rfl, .ref a7, .ty "tuple", .type "tuple", .type "tuple", true, rfl, .ty _, ty_tup x78, kit_ty (by decide +kernel), ?_⟩
          refine ⟨true, rfl, ?_⟩
          refine ite_F rfl ?_
          have x78' := x78
          refine ⟨_, rfl, _, rfl, xb, t, rfl, e3, dp_mono (s7.trans s8) ub, fun H9 v9 s9 d9 => ?_⟩
          obtain ⟨a9, xs9, rfl, x91, x92⟩ := dp_tup d9
          refine ⟨a9, xs9, rfl, .inr ⟨x91, ?_⟩⟩
          refine ⟨.tuple ((kids t).map toD), .tuple ((kids t).map toD), .tup (Same.seqT s9 x78) (dpAll_mono (s8.trans s9) x72), .tup x91 x92, plk, plk, Nat.le_trans (Nat.min_le_left _ _) (by omega), _, rfl, ?_⟩
          refine ite_F (by rw [eqk]; rfl) ?_
          exact ⟨_, _, _, rfl, s5.trans (s7.trans (s8.trans s9))⟩
        · rintro σ H5 ⟨y5, y6, y7, rfl, s5⟩
          exact q H5 (s2.trans (s3.trans s5))
end
end SP

namespace SP
open PySem PySem.Spec PyProof.Rows L2
open C8 (pss_cut tCut)
def deep0 : Tm := .many "open" "x" (.cons "c" ["y", "z"] (.flat "box" [.str "c", .tuple [.str "z", .str "y"]]) .nil)
theorem deep0_ok : okT deep0 ∧ sz deep0 = 2 ∧ dpt deep0 = 2 := by
  have fw := flatW_of "box" (by simp)
  refine ⟨?_, by rw [deep0, sz, szC, szC, sz], by rw [deep0, dpt, dptC, dptC, dpt]; rfl⟩
  rw [deep0, okT, okC, okC, okT]
  exact ⟨.inl rfl, ⟨by decide, ⟨fw.1, fw.2.1, fw.2.2, rfl, by rw [if_neg (by decide)]; decide, by decide⟩, trivial⟩, by decide⟩
section
variable {P : Program} {w : World} {K : PySem.W.Frag} {mg : Str → Option Value} {base : Heap}
def spDeep (K : PySem.W.Frag) : Sp := fun vs H Q _ => ∃ m : Nat, vs = [.int (m : Int)] ∧ m ≤ 97 ∧
  ∀ (H' : Hp) (v : V) (e : Gr), Same H H' → e.1 = "f" → GrOk 200 200 e → Dp K H' v (.tuple [grD e]) → Q v H'
theorem ok_law_deep {f : Addr} {fd : FuncData} (F : Fun K "_law_deep" "_law_deep" s_law_deep f fd) (T : Txt mg)  : FnOk P w K mg base CX0 1 f fd ["many"] (spDeep K) := by
  refine F.ok sc_law_deep (fun vs H Q E h => ?_) (fun cdv A outer s H vs Q E hr h => ?_)
  · obtain ⟨m, rfl, _⟩ := h
    rfl
  · obtain ⟨m, rfl, hm, q⟩ := h
    refine ⟨_, (pss_cons (ps_set (i := 1) sc_law_deep.nd rfl (Or.inl rfl) (pe_tup (pa_cons pe_str (pa_cons pe_str (pa_cons (pe_tup (pa_cons (pe_tup (pa_cons pe_str (pa_cons (pe_tup (pa_cons pe_str (pa_cons pe_str pa_nil))) (pa_cons (pe_tup (pa_cons pe_str (pa_cons pe_str (pa_cons (pe_tup (pa_cons pe_str (pa_cons pe_str pa_nil))) pa_nil)))) pa_nil)))) pa_nil)) pa_nil)))))
      (pss_cons (ps_for PassesOwn.never rfl (pi_range1 rfl T.n_range (pa_cons (pv 0) pa_nil)) (pg_name (i := 2) sc_law_deep.nd rfl (Or.inl rfl))
      (pss_one (ps_if (PW.pt (pw_and (pt_cmpR op_eq (pe_op op_mod (pv 2) pe_int) pe_int (nomark _)) (pw_and1 (pt_cmpR op_lt (pv 2) pe_int (nomark _))))) (pss_one (ps_set (i := 1) sc_law_deep.nd rfl (Or.inl rfl) (pe_tup (pa_cons pe_str (pa_cons pe_str (pa_cons (pe_tup (pa_cons (pe_tup (pa_cons pe_str (pa_cons (pe_tup (pa_cons (pe_op op_add_str pe_str (pe_op op_rep_str0 pe_str (pe_op op_fdiv (pv 2) pe_int))) pa_nil)) (pa_cons (pv 1) pa_nil)))) pa_nil)) pa_nil)))))) (pss_one (ps_set (i := 1) sc_law_deep.nd rfl (Or.inl rfl) (pe_tup (pa_cons pe_str (pa_cons pe_str (pa_cons (pe_tup (pa_cons pe_str (pa_cons pe_str (pa_cons (pv 1) pa_nil)))) pa_nil)))))))))
      (pss_one (ps_ret (pe_tup (pa_cons (pe_tup (pa_cons pe_str (pa_cons (pe_tup (pa_cons pe_str pa_nil)) (pa_cons (pe_tup (pa_cons pe_bl pa_nil)) (pa_cons (pv 1) pa_nil))))) pa_nil)))))), ?_⟩
    refine ⟨by show 2 ≤ sizeLine; decide, fun p1 h1 => ⟨by show 2 ≤ sizeLine; decide, fun p2 h2 => ⟨by show 3 ≤ sizeLine; decide, fun p3 h3 => ⟨by show 3 ≤ sizeLine; decide, fun p4 h4 => ⟨by show 1 ≤ sizeLine; decide, fun p5 h5 => ⟨by show 3 ≤ sizeLine; decide, fun p6 h6 => ?_⟩⟩⟩⟩⟩⟩
    have s6 := same_upd (o := HO.tup [.str "open", .str "x", .ref p5]) h6
    have s5 := (same_upd (o := HO.tup [.ref p4]) h5).trans s6
    have s4 := (same_upd (o := HO.tup [.str "c", .ref p1, .ref p3]) h4).trans s5
    have s3 := (same_upd (o := HO.tup [.str "box", .str "c", .ref p2]) h3).trans s4
    have s2 := (same_upd (o := HO.tup [.str "z", .str "y"]) h2).trans s3
    have s1 := (same_upd (o := HO.tup [.str "y", .str "z"]) h1).trans s2
    have new : Dp K _ (.ref p6) (toD deep0) := .tup (.inl (.inl upd_same)) (.cons (.str _) (.cons (.str _) (.cons (.tup (.inl (.inl (s6 _ _ upd_same))) (.cons (.tup (.inl (.inl (s5 _ _ upd_same))) (.cons (.str _) (.cons (.tup (.inl (.inl (s2 _ _ upd_same))) (.cons (.str _) (.cons (.str _) .nil))) (.cons (.tup (.inl (.inl (s4 _ _ upd_same))) (.cons (.str _) (.cons (.str _) (.cons (.tup (.inl (.inl (s3 _ _ upd_same))) (.cons (.str _) (.cons (.str _) .nil))) .nil)))) .nil)))) .nil)) .nil)))
    clear s2 s3 s4 s5 s6
    change tNext _ _ (upd _ p6 _)
    generalize upd _ p6 _ = H1 at s1 new ⊢
    clear h1 h2 h3 h4 h5 h6
    refine ⟨_, rfl, (m : Int), rfl, by omega, by omega, ?_⟩
    rw [Int.toNat_natCast]
    refine for_range (lo := 0) (n := m) (fun i σ H' => ∃ (vt : V) (tm : Tm) (y2 : Option V), σ = [some (.int (m : Int)), some vt, y2] ∧ Same H H' ∧ okT tm ∧ sz tm ≤ 2 + 2 * i ∧ dpt tm ≤ 2 + 2 * i ∧ Dp K H' vt (toD tm))
      ⟨_, deep0, none, rfl, s1, deep0_ok.1, Nat.le_of_eq deep0_ok.2.1, Nat.le_of_eq deep0_ok.2.2, new⟩ ?_ ?_
    · rintro i σ H2 hi ⟨vt, tm, y2, rfl, s2, ok, hs, hd, dp⟩
      refine ⟨_, rfl, _, _, rfl, rfl, (by decide : (0 : Int) < 3), rfl, _, rfl, ?_⟩
      refine ite2 (fun e => ⟨_, rfl, _, _, rfl, rfl, _, rfl, ite2 (fun e2 => ?_) (fun e2 => ?_)⟩) (fun e => ?_)
      · have hi3 : i < 21 := by
          have := of_decide_eq_true e2
          omega
        have hq : (("q" : Str)) = ⟨#[113]⟩ := by decide +kernel
        have hl : (repS0 "q" (i / 3)).length = i / 3 := by
          rw [hq]
          exact rep_len _ _ (by omega)
        have hsl := sizeLine_eq
        refine ⟨_, rfl, _, _, rfl, rfl, ?_, "q", i / 3, rfl, congrArg V.int (by omega), by omega, by decide, by decide, by rw [hl]; omega, "b", _, rfl, rfl, ?_, by show 1 ≤ sizeLine; decide, fun p1 h1 => ⟨_, rfl, by show 3 ≤ sizeLine; decide, fun p2 h2 => ⟨by show 1 ≤ sizeLine; decide, fun p3 h3 => ⟨by show 3 ≤ sizeLine; decide, fun p4 h4 => ?_⟩⟩⟩⟩
        · exact ⟨by decide, by decide⟩
        · rw [hl]
          show 1 + i / 3 ≤ sizeLine
          omega
        generalize (("b" : Str) ++ repS0 "q" (i / 3)) = yw at h2 h3 h4 h1 ⊢
        have r4 := same_upd (o := HO.tup [.str "look", .str "x", .ref p3]) h4
        have r3 := (same_upd (o := HO.tup [.ref p2]) h3).trans r4
        have r2 := (same_upd (o := HO.tup [.str "v", .ref p1, vt]) h2).trans r3
        have r1 := (same_upd (o := HO.tup [.str yw]) h1).trans r2
        refine ⟨_, .many "look" "x" (.cons "v" [yw] tm .nil), _, rfl, s2.trans r1, ?_, ?_, ?_, ?_⟩
        · rw [okT, okC, okC]
          exact ⟨.inr rfl, ⟨by show 1 ≤ 100; decide, ok, trivial⟩, by show 1 ≤ 100; decide⟩
        · rw [sz, szC, szC]
          omega
        · rw [dpt, dptC, dptC]
          omega
        · rw [toD, csD, csD]
          exact .tup (.inl (.inl upd_same)) (.cons (.str _) (.cons (.str _) (.cons (.tup (.inl (.inl (r4 _ _ upd_same))) (.cons (.tup (.inl (.inl (r3 _ _ upd_same))) (.cons (.str _) (.cons (.tup (.inl (.inl (r2 _ _ upd_same))) (.cons (.str _) .nil)) (.cons (dp_mono r1 dp) .nil)))) .nil)) .nil)))
      · (refine ⟨_, rfl, by show 3 ≤ sizeLine; decide, fun p1 h1 => ⟨by show 3 ≤ sizeLine; decide, fun p2 h2 => ?_⟩⟩
         have r1 := same_upd (o := HO.tup [.str "loose", .str "x", vt]) h1
         have r2 := same_upd (o := HO.tup [.str "keep", .str "x", .ref p1]) h2
         refine ⟨_, .one "keep" "x" (.one "loose" "x" tm), _, rfl, s2.trans (r1.trans r2), by rw [okT, okT]; exact ⟨.inl rfl, .inr rfl, ok⟩, by rw [sz, sz]; omega, by rw [dpt, dpt]; omega, ?_⟩
         rw [toD, toD]
         exact .tup (.inl (.inl upd_same)) (.cons (.str _) (.cons (.str _) (.cons (.tup (.inl (.inl (r2 _ _ upd_same))) (.cons (.str _) (.cons (.str _) (.cons (dp_mono (r1.trans r2) dp) .nil)))) .nil))))
      · refine iteF ?_
        (refine ⟨_, rfl, by show 3 ≤ sizeLine; decide, fun p1 h1 => ⟨by show 3 ≤ sizeLine; decide, fun p2 h2 => ?_⟩⟩
         have r1 := same_upd (o := HO.tup [.str "loose", .str "x", vt]) h1
         have r2 := same_upd (o := HO.tup [.str "keep", .str "x", .ref p1]) h2
         refine ⟨_, .one "keep" "x" (.one "loose" "x" tm), _, rfl, s2.trans (r1.trans r2), by rw [okT, okT]; exact ⟨.inl rfl, .inr rfl, ok⟩, by rw [sz, sz]; omega, by rw [dpt, dpt]; omega, ?_⟩
         rw [toD, toD]
         exact .tup (.inl (.inl upd_same)) (.cons (.str _) (.cons (.str _) (.cons (.tup (.inl (.inl (r2 _ _ upd_same))) (.cons (.str _) (.cons (.str _) (.cons (dp_mono (r1.trans r2) dp) .nil)))) .nil))))
    · rintro σ H2 ⟨vt, tm, y2, rfl, s2, ok, hs, hd, dp⟩
      refine ⟨by show 1 ≤ sizeLine; decide, fun p1 h1 => ⟨by show 1 ≤ sizeLine; decide, fun p2 h2 => ⟨_, rfl, by show 4 ≤ sizeLine; decide, fun p3 h3 => ⟨by show 1 ≤ sizeLine; decide, fun p4 h4 => ?_⟩⟩⟩⟩
      have r4 := same_upd (o := HO.tup [.ref p3]) h4
      have r3 := (same_upd (o := HO.tup [.str "f", .ref p1, .ref p2, vt]) h3).trans r4
      have r2 := (same_upd (o := HO.tup [.bl false]) h2).trans r3
      have r1 := (same_upd (o := HO.tup [.str "x"]) h1).trans r2
      refine q _ _ ("f", [.tuple [.str "x"], .tuple [.bool false]], tm) (s2.trans r1) rfl ⟨ok, by show sz tm ≤ 200; omega, by show dpt tm ≤ 200; omega, rfl⟩ ?_
      exact .tup (.inl (.inl upd_same)) (.cons (.tup (.inl (.inl (r4 _ _ upd_same))) (.cons (.str _) (.cons (.tup (.inl (.inl (r2 _ _ upd_same))) (.cons (.str _) .nil)) (.cons (.tup (.inl (.inl (r3 _ _ upd_same))) (.cons (.bl _) .nil)) (.cons (dp_mono r1 dp) .nil))))) .nil)
end
end SP

namespace SP
open PySem PySem.Spec PyProof.Rows L2
open C8 (pss_cut tCut)
theorem er_gr {e : Er} (h : ErOk 40 13 e) : GrOk 40 13 (ofEr e) := ⟨h.ok.1, h.s, h.d, by
  show (immAll (e.2.1.map PyData.str) && true) = true
  rw [imm_strs]
  rfl⟩
theorem ers_eq (bs : List Er) : (bs.map ofEr).map grD = bs.map errD := by
  rw [List.map_map]
  rfl
theorem ers_fst (bs : List Er) : (bs.map ofEr).map (·.1) = bs.map (·.1) := by
  rw [List.map_map]
  rfl
theorem room_fit {l n d : Nat} (h : l ≤ 6) (hb : 6 * n * (8 * d + 22) ≤ 2 ^ 20) : l * n * (8 * d + 22) ≤ 2 ^ 20 := Nat.le_trans (Nat.mul_le_mul_right _ (Nat.mul_le_mul_right _ h)) hb
theorem good_all {gs : List Gr} {ws : List Str} (h : gs.map (·.1) = ws) (hw : ∀ x ∈ ws, GoodW x) : ∀ e ∈ gs, GoodW e.1 := fun e he => hw _ (by rw [← h]; exact List.mem_map_of_mem he)
section
variable {P : Program} {w : World} {K : PySem.W.Frag} {mg : Str → Option Value} {base : Heap}
/-- a drawn book is right -/
theorem right_book {H : Hp} {v : V} {d : PyData} {Q : VK} (hb : SBookD d) (hv : Dp K H v d) (q : ∀ H' : Hp, Same H H' → Q (.bl true) H') : spRight K [v] H Q E0 := by
  obtain ⟨m, k, bs, rfl, e1, e2, e3, e4, e5⟩ := hb
  refine ⟨v, bs.map ofEr, 40, 13, rfl, ?_, by decide, by decide, ?_, ?_, ?_, ?_, ?_, q⟩
  · intro e he
    obtain ⟨b, hb, rfl⟩ := List.mem_map.mp he
    exact er_gr (e5 b hb)
  · rw [List.length_map]
    omega
  · rw [List.length_map]
    exact room_fit (by omega) (by decide)
  · rw [ers_fst, e1]
    exact words_nodup m k e2
  · exact good_all ((ers_fst bs).trans e1) (words_good m k (by omega))
  · rw [ers_eq]
    exact hv
/-- so is what is said of it -/
theorem right_said {H : Hp} {v : V} {gs : List Gr} {bs : List Er} {m : Int} {k : Nat} {Q : VK} (e0 : gs.map (·.1) = bs.map (·.1)) (e1 : bs.map (·.1) = (wordsF m k).1) (e2 : k ≤ 6) (e4 : bs.length = k) (hg : ∀ e ∈ gs, GrOk 160 52 e) (hv : Dp K H v (.tuple (gs.map grD))) (q : ∀ H' : Hp, Same H H' → Q (.bl true) H') : spRight K [v] H Q E0 := by
  have lg : gs.length = k := by
    have := congrArg List.length e0
    rw [List.length_map, List.length_map] at this
    omega
  refine ⟨v, gs, 160, 52, rfl, hg, by decide, by decide, by omega, room_fit (by omega) (by decide), ?_, good_all (e0.trans e1) (words_good m k (by omega)), hv, q⟩
  rw [e0, e1]
  exact words_nodup m k e2
theorem law_body {f a : Addr} {s : Shared} {H : Hp} {ns : List Int} {Q : VK} (T : Txt mg) (C_law_right : CalleeG P w K mg base "_law_right" ["book"] 203 (spRight K)) (C_law_tape : Callee P w K mg base "_law_tape" ["script", "k"] 2 (spTape K)) (C_law_digit : Callee P w K mg base "_law_digit" ["tape", "many"] 1 (spDigit K)) (C_law_deep : Callee P w K mg base "_law_deep" ["many"] 1 (spDeep K)) (C_law_book : Callee P w K mg base "_law_book" ["script", "start"] 29 (spBook K)) (C_law_simple_book : Callee P w K mg base "_law_simple_book" ["script", "start"] 17 (spSBook K)) (C_law_said : Callee P w K mg base "_law_said" ["tape", "book", "opened"] 17 (spSaidB K))
    (hS : SqL K H a (ns.map V.int)) (hlen : ns.length ≤ 63) (q : ∀ H', Q (.bl true) H') (cdv : Value) (hr : Room 203 (callerA.deeper (envOfC "law" (defScope s_law) s.heap.objs.size f cdv))) :
    ∃ t, PSs (cxOf CX0 P w K mg base ["script", "start", "book", "tape", "other"] "law" (defScope s_law) f cdv callerA [] s H E0).nox (defBody s_law) t ∧ t { nx := fun _ H' => Q .non H', rt := Q } (start ["script", "start", "book", "tape", "other"] [.ref a]) H := by
  refine ⟨_, (pss_cons (ps_if (pt_not (pt_val (pe_fnG C_law_right rfl hr (by rfl) (pa_cons (pe_fn C_law_deep hr (by rfl) (pa_cons (pe_fn C_law_digit hr (by rfl) (pa_cons (pe_fn C_law_tape hr (by rfl) (pa_cons (pv 0) (pa_cons pe_int pa_nil))) (pa_cons pe_int pa_nil))) pa_nil)) pa_nil)))) (pss_one (ps_ret pe_bl)) pss_nil)
      (pss_cons (ps_for PassesOwn.never rfl (pi_range2 rfl T.n_range (pa_cons pe_int (pa_cons (pe_callB (call_max2 rfl) (by rfl) T.n_max (by decide +kernel) (pa_cons pe_int (pa_cons (pe_callB (call_min2 rfl) (by rfl) T.n_min (by decide +kernel) (pa_cons pe_int (pa_cons (pe_callB (r := rLenS K) call_lenS (by rfl) T.n_len (by decide +kernel) (pa_cons (pv 0) pa_nil)) pa_nil))) pa_nil))) pa_nil))) (pg_name (i := 1) sc_law.nd rfl (Or.inl rfl))
      (pss_cons (ps_set (i := 2) sc_law.nd rfl (Or.inl rfl) (pe_fn C_law_book hr (by rfl) (pa_cons (pv 0) (pa_cons (pv 1) pa_nil))))
      (pss_cons (ps_set (i := 3) sc_law.nd rfl (Or.inl rfl) (pe_fn C_law_tape hr (by rfl) (pa_cons (pv 0) (pa_cons (pe_op op_add (pv 1) pe_int) pa_nil))))
      (pss_cons (ps_if (PW.pt (pw_or (pt_not (pt_val (pe_fnG C_law_right rfl hr (by rfl) (pa_cons (pv 2) pa_nil)))) (pw_or1 (pt_not (pt_val (pe_fnG C_law_right rfl hr (by rfl) (pa_cons (pe_fn C_law_said hr (by rfl) (pa_cons (pv 3) (pa_cons (pv 2) (pa_cons (pe_lst pa_nil) pa_nil)))) pa_nil))))))) (pss_one (ps_ret pe_bl)) pss_nil)
      (pss_cons (ps_set (i := 4) sc_law.nd rfl (Or.inl rfl) (pe_fn C_law_simple_book hr (by rfl) (pa_cons (pv 0) (pa_cons (pv 1) pa_nil))))
      (pss_one (ps_if (PW.pt (pw_or (pt_not (pt_val (pe_fnG C_law_right rfl hr (by rfl) (pa_cons (pv 4) pa_nil)))) (pw_or1 (pt_not (pt_val (pe_fnG C_law_right rfl hr (by rfl) (pa_cons (pe_fn C_law_said hr (by rfl) (pa_cons (pv 3) (pa_cons (pv 4) (pa_cons (pe_lst pa_nil) pa_nil)))) pa_nil))))))) (pss_one (ps_ret pe_bl)) pss_nil)))))))
      (pss_one (ps_ret pe_bl)))), ?_⟩
  -- a deep one
  refine ⟨_, rfl, a, ns, 9, rfl, hS, by decide, fun H1 t n s1 ht t1 => ⟨t, n, 98, rfl, t1, by decide, by decide, ?_⟩⟩
  have S2 : Same H (upd H1 t (.lst [.int (n / 98)])) := same_put s1 ht
  change spDeep K _ (upd H1 t (.lst [.int (n / 98)])) _ E0
  generalize upd H1 t (.lst [.int (n / 98)]) = H2 at S2 ⊢
  refine ⟨(n % 98).toNat, by rw [show (((n % 98).toNat : Nat) : Int) = n % 98 by omega]; rfl, by omega, fun H3 v3 e s3 hef ge dp3 => ?_⟩
  refine ⟨v3, [e], 200, 200, rfl, ?_, by decide, by decide, by show 1 ≤ 100; decide, by show 1 * 200 * (8 * 200 + 22) ≤ 2 ^ 20; decide, by simp, ?_, dp3, fun H4 s4 => ?_⟩
  · intro u hu
    rw [List.mem_singleton.mp hu]
    exact ge
  · intro u hu
    rw [List.mem_singleton.mp hu, hef]
    exact ⟨by decide, by decide +kernel⟩
  have S4 := S2.trans (s3.trans s4)
  clear S2 s3 s4 dp3 s1 ht t1
  refine ⟨true, rfl, ?_⟩
  refine ite_F rfl ?_
  have hS4 := S4.seq hS
  clear S4 hS
  refine ⟨_, rfl, a, _, rfl, .inl hS4, 2, _, rfl, 1, _, rfl, 0, _, rfl, ⟨by decide, by decide, ?_, ?_⟩, ?_⟩
  · split <;> split <;> omega
  · rw [List.length_map]
    split <;> split <;> omega
  generalize hT : ((if (if ((List.map V.int ns).length : Int) < 2 then ((List.map V.int ns).length : Int) else 2) > 1 then (if ((List.map V.int ns).length : Int) < 2 then ((List.map V.int ns).length : Int) else 2) else 1) - 0).toNat = turns
  have ht : turns ≤ 100 := by
    rw [← hT, List.length_map]
    split <;> split <;> omega
  clear hT
  refine for_range (lo := 0) (n := turns) (fun i σ H' => ∃ y1 y2 y3 y4 : Option V, σ = [some (V.ref a), y1, y2, y3, y4] ∧ Same H4 H') ⟨none, none, none, none, rfl, Same.refl _⟩ ?_ (fun σ H' _ => q H')
  rintro i σ H5 hi ⟨y1, y2, y3, y4, rfl, s5⟩
  refine ⟨_, rfl, _, rfl, a, ns, i, by rw [Int.zero_add]; rfl, s5.seq hS4, by omega, fun H6 vb d s6 hb dpb => ?_⟩
  have hb := sbook_of hb
  refine ⟨_, rfl, _, rfl, _, _, rfl, rfl, a, ns, i + 8, ?_, (s5.trans s6).seq hS4, by omega, fun H7 t n s7 ht t7 => ?_⟩
  · show [V.ref a, V.int (0 + (i : Int) + 8)] = [V.ref a, V.int ((i + 8 : Nat) : Int)]
    rw [show (0 + (i : Int) + 8) = ((i + 8 : Nat) : Int) by omega]
  have S7 := s5.trans (s6.trans s7)
  have ht5 : H4 t = none := (s5.trans s6).free ht
  have dp7 := dp_mono s7 dpb
  clear s6 s7 dpb ht
  refine ⟨_, rfl, ?_⟩
  dsimp only [tNil]
  refine right_book hb dp7 fun H8 s8 => ⟨true, rfl, ite_F rfl ?_⟩
  obtain ⟨m, k, bs, rfl, e1, e2, e3, e4, e5⟩ := hb
  refine ⟨_, rfl, _, rfl, by show 0 ≤ sizeLine; decide, fun po ho => ?_⟩
  have so := same_upd (o := HO.lst []) ho
  have S9 := s8.trans so
  have t9 := S9 _ _ t7
  refine ⟨t, po, vb, n, bs, rfl, t9, dp_mono S9 dp7, e5, by omega, upd_same, ne_t (s8 _ _ t7) ho, fun H10 v10 gs n10 b10 t10 e10 g10 d10 => ?_⟩
  dsimp only [tNil]
  refine right_said e10 e1 e2 e4 g10 d10 fun H11 s11 => ⟨true, rfl, ite_F rfl ?_⟩
  have S11 : Same H4 H11 := (b10.same (S7.trans S9) ht5).trans s11
  have t11 := s11 _ _ t10
  clear s8 so S9 t9 b10 t10 d10 S7 t7 dp7 e10 g10
  -- the other one
  refine ⟨_, rfl, _, rfl, a, ns, i, by rw [Int.zero_add]; rfl, S11.seq hS4, by omega, fun H12 vo d2 s12 hb2 dpo => ?_⟩
  refine ⟨_, rfl, ?_⟩
  dsimp only [tNil]
  refine right_book hb2 dpo fun H13 s13 => ⟨true, rfl, ite_F rfl ?_⟩
  obtain ⟨m2, k2, bs2, rfl, f1, f2, f3, f4, f5⟩ := hb2
  refine ⟨_, rfl, _, rfl, by show 0 ≤ sizeLine; decide, fun pq hq => ?_⟩
  have sq := same_upd (o := HO.lst []) hq
  have S14 := s13.trans sq
  have t14 := S14 _ _ (s12 _ _ t11)
  refine ⟨t, pq, vo, n10, bs2, rfl, t14, dp_mono S14 dpo, f5, by omega, upd_same, ne_t (s13 _ _ (s12 _ _ t11)) hq, fun H15 v15 gs2 n15 b15 t15 e15 g15 d15 => ?_⟩
  dsimp only [tNil]
  refine right_said e15 f1 f2 f4 g15 d15 fun H16 s16 => ⟨true, rfl, ite_F rfl ?_⟩
  exact ⟨_, _, _, _, rfl, (b15.same (S11.trans (s12.trans S14)) ht5).trans s16⟩
end
end SP

/-! from what the top leaves to the law's own def -/
namespace SP
open PySem PySem.Spec PyProof.Rows L2
section
variable {P : Program} {w : World} {K : PySem.W.Frag} {mg : Str → Option Value}
/-- from the concrete heap to the abstract one: only the script may be tracked -/
theorem top_call {mb : Str → Option Value} {fa a : Addr} {s₁ : Shared} {vs : List Value} {ns : List Int} (KX : K.In s₁.heap) (n1 : s₁.heap.Ns mainGlobals mg) (n2 : s₁.heap.Ns builtinsNs mb)
    (n3 : ∀ x : Str, x ≠ "__name__" → mb x = bootBuiltins x) (lim : s₁.heap.NoLimit) (gens : s₁.gens = #[]) (ha : s₁.heap.get? a = some { cls := .type "list", data := .seq vs.toArray }) (iv : IntsAre vs ns) (many : ns.length ≤ sizeLine)
    (F : ∀ (base : Heap) (H : Hp), K.In base → base.Ns mainGlobals mg → Env0 P w K mg base callerA [] s₁ H → SqL K H a (ns.map V.int) →
      codeAny (model P w) callerA (.call (.ref fa) ⟨[.ref a], []⟩) (CR CX0 [] P w H s₁ (fun v _ => v = .bl true) E0) s₁) :
    codeAny (model P w) callerA (.call (.ref fa) ⟨[.ref a], []⟩) (fun r s' => r = .ok (.ret (.bool true)) ∧ OldK s₁.heap s'.heap ∧ s'.os = s₁.os ∧ AllBare s'.gens) s₁ := by
  have rv := vals_ints iv
  have main : ∀ H : Hp, Only H → SqL K H a (ns.map V.int) → HOk P w H s₁.heap → (∀ b, H b ≠ none → b = a ∧ K.lookup a = none) →
      codeAny (model P w) callerA (.call (.ref fa) ⟨[.ref a], []⟩) (fun r s' => r = .ok (.ret (.bool true)) ∧ OldK s₁.heap s'.heap ∧ s'.os = s₁.os ∧ AllBare s'.gens) s₁ := by
    intro H only sq ok at_a
    have free_dict : ∀ (b : Addr) (o : Obj) (es : Array DictEntry) (ep : Nat), s₁.heap.get? b = some o → o.data = .dict es ep → H b = none := by
      intro b o es ep e d
      by_cases z : H b = none
      · exact z
      · have hb := (at_a b z).1
        rw [hb, ha] at e
        cases e
        cases d
    have ns_hid : ∀ (b : Addr) (m : Str → Option Value), s₁.heap.Ns b m → (hidT s₁.heap H).Ns b m := by
      rintro b m ⟨o, es, ep, e, d, r⟩
      exact ⟨o, es, ep, hidT_get e (free_dict b o es ep e d), d, r⟩
    have k_hid : K.In (hidT s₁.heap H) := by
      intro b o e
      refine hidT_get (KX b o e) ?_
      by_cases z : H b = none
      · exact z
      · obtain ⟨h1, h2⟩ := at_a b z
        rw [h1, h2] at e
        cases e
    obtain ⟨mc, l1, l2⟩ := lim
    have e0 : Env0 P w K mg (hidT s₁.heap H) callerA [] s₁ H :=
      { frames := rfl
        mod := ⟨k_hid, ns_hid _ _ n1, ⟨mb, ns_hid _ _ n2, n3⟩, ⟨mc, ns_hid _ _ l1, l2⟩⟩
        bs := fun b o e => of_hidT e
        bsz := Nat.le_of_eq (hidT_size _ _)
        funs := trivial
        frf := fun b hb => by cases hb
        hok := ok
        bare := .of_eq gens }
    refine codeAny_mono (F _ H k_hid (ns_hid _ _ n1) e0 sq) ?_
    rintro (e | fl) s' h
    · exact False.elim h
    · cases fl with
      | ret u =>
        obtain ⟨v, H', os, bare, un, ok', ru, q⟩ := h
        have hv : v = .bl true := q
        rw [hv] at ru
        have hu : u = Value.bool true := ru
        rw [hu]
        refine ⟨rfl, OldK.of_keep ?_, os, bare⟩
        intro b o e
        rcases only b with z | ⟨ob, xs, z⟩
        · exact un.keep b o e z (by intro m; cases m) (by intro m; cases m)
        · have z2 := un.frzs b ob _ z
          have o1 : s₁.heap.get? b = some ob := (ok b _ z).1
          have o2 : s'.heap.get? b = some ob := (ok' b _ z2).1
          rw [e] at o1
          rw [o2, ← o1]
      | next => exact False.elim h
      | brk => exact False.elim h
      | cont => exact False.elim h
  cases hk : K.lookup a with
  | some o =>
    have e := KX a o hk
    rw [ha] at e
    cases e
    refine main (fun _ => none) (fun _ => .inl rfl) (.inr ⟨_, vs.toArray, _, hk, rfl, rfl, rfl, ?_, by simpa using rv⟩) (fun b u z => ?_) (fun b z => absurd rfl z)
    · have := iv.length
      rw [List.size_toArray]
      omega
    · have z' : (none : Option HO) = some u := z
      cases z'
  | none =>
    have at_b : ∀ b, b ≠ a → (fun b => if b = a then some (HO.frz { cls := .type "list", data := .seq vs.toArray } (.lst (ns.map V.int))) else none) b = none := fun b hb => if_neg hb
    refine main (fun b => if b = a then some (HO.frz { cls := .type "list", data := .seq vs.toArray } (.lst (ns.map V.int))) else none) (fun b => ?_) (.inl (.inr ⟨_, if_pos rfl⟩)) (fun b u z => ?_) (fun b z => ?_)
    · by_cases hb : b = a
      · exact .inr ⟨_, _, if_pos hb⟩
      · exact .inl (at_b b hb)
    · by_cases hb : b = a
      · have z' := (if_pos hb).symm.trans z
        cases z'
        rw [hb]
        exact ⟨ha, by rw [List.length_map]; exact many, vs, _, rv, ha⟩
      · exact absurd ((at_b b hb).symm.trans z) (by intro q; cases q)
    · by_cases hb : b = a
      · exact ⟨hb, hk⟩
      · exact absurd (at_b b hb) z
/-- what k_head leaves, from the body of the law's def -/
theorem walk_top {l : PySem.W.OpenLaw} {n : Nat} {q : Program} {loose : List Str} {XP : (Str → Option Value) → Heap → Prop} {YP : World → Heap → Prop} {d : DefRec} {Kp : Params → PySem.W.Frag}
    (hn : l.most = some n) (hn2 : n ≤ sizeLine) (hdf : d.params.defaults = []) (hY : ∀ (w : World) (h : Heap), YP w h → (Kp w.params).In h)
    (F : ∀ (w : World) (mg : Str → Option Value) (fa : Addr) (h : Heap), (Kp w.params).In h → h.Ns mainGlobals mg → mg d.name = some (.ref fa) →
      ∀ (base : Heap) (H : Hp) (s : Shared) (a : Addr) (ns : List Int), ns.length ≤ n → (Kp w.params).In base → base.Ns mainGlobals mg → Env0 l.prog w (Kp w.params) mg base callerA [] s H → SqL (Kp w.params) H a (ns.map V.int) →
        codeAny (model l.prog w) callerA (.call (.ref fa) ⟨[.ref a], []⟩) (CR CX0 [] l.prog w H s (fun v _ => v = .bl true) E0) s) :
    PySem.W.WalkO q loose XP YP l.row.toRowW d [] (fun f vs => PySem.call f vs) := by
  refine Att.attach_call hn hdf ?_
  intro w s₀ s₁ mg mb fa o pm cd doc a vs ns G Y ho hd hcd hmg hobj hints hlen hg
  have KX := hY w _ Y
  exact top_call KX G.T.g G.T.b G.T.builtins G.T.nolimit hg hobj hints (Nat.le_trans hlen hn2) fun base H k1 k2 e0 sq => F w mg fa _ KX G.T.g hmg base H s₁ a ns hlen k1 k2 e0 sq
end
end SP

namespace SP
open PySem PySem.Spec PyProof.Rows L2
theorem all_mk {l : PySem.W.OpenLaw} {w : World} {K : PySem.W.Frag} {h : Heap} {mg : Str → Option Value} {fa f0 f1 f2 f3 f4 f5 f6 f7 f8 f9 f10 f11 f12 f13 f14 f15 f16 f17 f18 f19 f20 f21 f22 f23 f24 f25 f26 f27 f28 : Addr} (X : K.In h) (G : h.Ns mainGlobals mg) (hfa : mg "law" = some (.ref fa))
    {od0 an0 od1 an1 od2 an2 od3 an3 od4 an4 od5 an5 od6 an6 od7 an7 od8 an8 od9 an9 od10 an10 od11 an11 od12 an12 od13 an13 od14 an14 od15 an15 od16 an16 od17 an17 od18 an18 od19 an19 od20 an20 od21 an21 od22 an22 od23 an23 od24 an24 od25 an25 od26 an26 od27 an27 od28 an28 : Option Addr} {sl0 sl1 sl2 sl3 sl4 sl5 sl6 sl7 sl8 sl9 sl10 sl11 sl12 sl13 sl14 sl15 sl16 sl17 sl18 sl19 sl20 sl21 sl22 sl23 sl24 sl25 sl26 sl27 sl28 : Array (Option Value)} {oc0 kV0 dc0 pm0 cd0 ct0 oc1 kV1 dc1 pm1 cd1 ct1 oc2 kV2 dc2 pm2 cd2 ct2 oc3 kV3 dc3 pm3 cd3 ct3 oc4 kV4 dc4 pm4 cd4 ct4 oc5 kV5 dc5 pm5 cd5 ct5 oc6 kV6 dc6 pm6 cd6 ct6 oc7 kV7 dc7 pm7 cd7 ct7 oc8 kV8 dc8 pm8 cd8 ct8 oc9 kV9 dc9 pm9 cd9 ct9 oc10 kV10 dc10 pm10 cd10 ct10 oc11 kV11 dc11 pm11 cd11 ct11 oc12 kV12 dc12 pm12 cd12 ct12 oc13 kV13 dc13 pm13 cd13 ct13 oc14 kV14 dc14 pm14 cd14 ct14 oc15 kV15 dc15 pm15 cd15 ct15 oc16 kV16 dc16 pm16 cd16 ct16 oc17 kV17 dc17 pm17 cd17 ct17 oc18 kV18 dc18 pm18 cd18 ct18 oc19 kV19 dc19 pm19 cd19 ct19 oc20 kV20 dc20 pm20 cd20 ct20 oc21 kV21 dc21 pm21 cd21 ct21 oc22 kV22 dc22 pm22 cd22 ct22 oc23 kV23 dc23 pm23 cd23 ct23 oc24 kV24 dc24 pm24 cd24 ct24 oc25 kV25 dc25 pm25 cd25 ct25 oc26 kV26 dc26 pm26 cd26 ct26 oc27 kV27 dc27 pm27 cd27 ct27 oc28 kV28 dc28 pm28 cd28 ct28 : Value}
    (a0 : PySem.W.nsIn K mainGlobals "parts_of" = some (some (.ref f0))) (l0 : K.lookup f0 = some ⟨oc0, od0, .func (PySem.W.fnOf "parts_of" "parts_of" (defArgs s_parts_of) (defBody s_parts_of) (defScope s_parts_of) .none kV0 dc0 pm0 an0 cd0 ct0), sl0⟩) (c0 : PySem.W.codeIn K cd0 "parts_of" = true) (k0 : PySem.W.keepIn K (.ref f0) = true)
    (a1 : PySem.W.nsIn K mainGlobals "placed_terms" = some (some (.ref f1))) (l1 : K.lookup f1 = some ⟨oc1, od1, .func (PySem.W.fnOf "placed_terms" "placed_terms" (defArgs s_placed_terms) (defBody s_placed_terms) (defScope s_placed_terms) .none kV1 dc1 pm1 an1 cd1 ct1), sl1⟩) (c1 : PySem.W.codeIn K cd1 "placed_terms" = true) (k1 : PySem.W.keepIn K (.ref f1) = true)
    (a2 : PySem.W.nsIn K mainGlobals "all_places" = some (some (.ref f2))) (l2 : K.lookup f2 = some ⟨oc2, od2, .func (PySem.W.fnOf "all_places" "all_places" (defArgs s_all_places) (defBody s_all_places) (defScope s_all_places) .none kV2 dc2 pm2 an2 cd2 ct2), sl2⟩) (c2 : PySem.W.codeIn K cd2 "all_places" = true) (k2 : PySem.W.keepIn K (.ref f2) = true)
    (a3 : PySem.W.nsIn K mainGlobals "find_errand" = some (some (.ref f3))) (l3 : K.lookup f3 = some ⟨oc3, od3, .func (PySem.W.fnOf "find_errand" "find_errand" (defArgs s_find_errand) (defBody s_find_errand) (defScope s_find_errand) .none kV3 dc3 pm3 an3 cd3 ct3), sl3⟩) (c3 : PySem.W.codeIn K cd3 "find_errand" = true) (k3 : PySem.W.keepIn K (.ref f3) = true)
    (a4 : PySem.W.nsIn K mainGlobals "term_at" = some (some (.ref f4))) (l4 : K.lookup f4 = some ⟨oc4, od4, .func (PySem.W.fnOf "term_at" "term_at" (defArgs s_term_at) (defBody s_term_at) (defScope s_term_at) .none kV4 dc4 pm4 an4 cd4 ct4), sl4⟩) (c4 : PySem.W.codeIn K cd4 "term_at" = true) (k4 : PySem.W.keepIn K (.ref f4) = true)
    (a5 : PySem.W.nsIn K mainGlobals "_law_cell_at" = some (some (.ref f5))) (l5 : K.lookup f5 = some ⟨oc5, od5, .func (PySem.W.fnOf "_law_cell_at" "_law_cell_at" (defArgs s_law_cell_at) (defBody s_law_cell_at) (defScope s_law_cell_at) .none kV5 dc5 pm5 an5 cd5 ct5), sl5⟩) (c5 : PySem.W.codeIn K cd5 "_law_cell_at" = true) (k5 : PySem.W.keepIn K (.ref f5) = true)
    (a6 : PySem.W.nsIn K mainGlobals "_law_tape" = some (some (.ref f6))) (l6 : K.lookup f6 = some ⟨oc6, od6, .func (PySem.W.fnOf "_law_tape" "_law_tape" (defArgs s_law_tape) (defBody s_law_tape) (defScope s_law_tape) .none kV6 dc6 pm6 an6 cd6 ct6), sl6⟩) (c6 : PySem.W.codeIn K cd6 "_law_tape" = true) (k6 : PySem.W.keepIn K (.ref f6) = true)
    (a7 : PySem.W.nsIn K mainGlobals "_law_digit" = some (some (.ref f7))) (l7 : K.lookup f7 = some ⟨oc7, od7, .func (PySem.W.fnOf "_law_digit" "_law_digit" (defArgs s_law_digit) (defBody s_law_digit) (defScope s_law_digit) .none kV7 dc7 pm7 an7 cd7 ct7), sl7⟩) (c7 : PySem.W.codeIn K cd7 "_law_digit" = true) (k7 : PySem.W.keepIn K (.ref f7) = true)
    (a8 : PySem.W.nsIn K mainGlobals "_law_words" = some (some (.ref f8))) (l8 : K.lookup f8 = some ⟨oc8, od8, .func (PySem.W.fnOf "_law_words" "_law_words" (defArgs s_law_words) (defBody s_law_words) (defScope s_law_words) .none kV8 dc8 pm8 an8 cd8 ct8), sl8⟩) (c8 : PySem.W.codeIn K cd8 "_law_words" = true) (k8 : PySem.W.keepIn K (.ref f8) = true)
    (a9 : PySem.W.nsIn K mainGlobals "_law_number" = some (some (.ref f9))) (l9 : K.lookup f9 = some ⟨oc9, od9, .func (PySem.W.fnOf "_law_number" "_law_number" (defArgs s_law_number) (defBody s_law_number) (defScope s_law_number) .none kV9 dc9 pm9 an9 cd9 ct9), sl9⟩) (c9 : PySem.W.codeIn K cd9 "_law_number" = true) (k9 : PySem.W.keepIn K (.ref f9) = true)
    (a10 : PySem.W.nsIn K mainGlobals "_law_shares" = some (some (.ref f10))) (l10 : K.lookup f10 = some ⟨oc10, od10, .func (PySem.W.fnOf "_law_shares" "_law_shares" (defArgs s_law_shares) (defBody s_law_shares) (defScope s_law_shares) .none kV10 dc10 pm10 an10 cd10 ct10), sl10⟩) (c10 : PySem.W.codeIn K cd10 "_law_shares" = true) (k10 : PySem.W.keepIn K (.ref f10) = true)
    (a11 : PySem.W.nsIn K mainGlobals "_law_pick" = some (some (.ref f11))) (l11 : K.lookup f11 = some ⟨oc11, od11, .func (PySem.W.fnOf "_law_pick" "_law_pick" (defArgs s_law_pick) (defBody s_law_pick) (defScope s_law_pick) .none kV11 dc11 pm11 an11 cd11 ct11), sl11⟩) (c11 : PySem.W.codeIn K cd11 "_law_pick" = true) (k11 : PySem.W.keepIn K (.ref f11) = true)
    (a12 : PySem.W.nsIn K mainGlobals "_law_leaf" = some (some (.ref f12))) (l12 : K.lookup f12 = some ⟨oc12, od12, .func (PySem.W.fnOf "_law_leaf" "_law_leaf" (defArgs s_law_leaf) (defBody s_law_leaf) (defScope s_law_leaf) .none kV12 dc12 pm12 an12 cd12 ct12), sl12⟩) (c12 : PySem.W.codeIn K cd12 "_law_leaf" = true) (k12 : PySem.W.keepIn K (.ref f12) = true)
    (a13 : PySem.W.nsIn K mainGlobals "_law_cases" = some (some (.ref f13))) (l13 : K.lookup f13 = some ⟨oc13, od13, .func (PySem.W.fnOf "_law_cases" "_law_cases" (defArgs s_law_cases) (defBody s_law_cases) (defScope s_law_cases) .none kV13 dc13 pm13 an13 cd13 ct13), sl13⟩) (c13 : PySem.W.codeIn K cd13 "_law_cases" = true) (k13 : PySem.W.keepIn K (.ref f13) = true)
    (a14 : PySem.W.nsIn K mainGlobals "_law_term" = some (some (.ref f14))) (l14 : K.lookup f14 = some ⟨oc14, od14, .func (PySem.W.fnOf "_law_term" "_law_term" (defArgs s_law_term) (defBody s_law_term) (defScope s_law_term) .none kV14 dc14 pm14 an14 cd14 ct14), sl14⟩) (c14 : PySem.W.codeIn K cd14 "_law_term" = true) (k14 : PySem.W.keepIn K (.ref f14) = true)
    (a15 : PySem.W.nsIn K mainGlobals "_law_shapes" = some (some (.ref f15))) (l15 : K.lookup f15 = some ⟨oc15, od15, .func (PySem.W.fnOf "_law_shapes" "_law_shapes" (defArgs s_law_shapes) (defBody s_law_shapes) (defScope s_law_shapes) .none kV15 dc15 pm15 an15 cd15 ct15), sl15⟩) (c15 : PySem.W.codeIn K cd15 "_law_shapes" = true) (k15 : PySem.W.keepIn K (.ref f15) = true)
    (a16 : PySem.W.nsIn K mainGlobals "_law_known" = some (some (.ref f16))) (l16 : K.lookup f16 = some ⟨oc16, od16, .func (PySem.W.fnOf "_law_known" "_law_known" (defArgs s_law_known) (defBody s_law_known) (defScope s_law_known) .none kV16 dc16 pm16 an16 cd16 ct16), sl16⟩) (c16 : PySem.W.codeIn K cd16 "_law_known" = true) (k16 : PySem.W.keepIn K (.ref f16) = true)
    (a17 : PySem.W.nsIn K mainGlobals "_law_book" = some (some (.ref f17))) (l17 : K.lookup f17 = some ⟨oc17, od17, .func (PySem.W.fnOf "_law_book" "_law_book" (defArgs s_law_book) (defBody s_law_book) (defScope s_law_book) .none kV17 dc17 pm17 an17 cd17 ct17), sl17⟩) (c17 : PySem.W.codeIn K cd17 "_law_book" = true) (k17 : PySem.W.keepIn K (.ref f17) = true)
    (a18 : PySem.W.nsIn K mainGlobals "_law_parts" = some (some (.ref f18))) (l18 : K.lookup f18 = some ⟨oc18, od18, .func (PySem.W.fnOf "_law_parts" "_law_parts" (defArgs s_law_parts) (defBody s_law_parts) (defScope s_law_parts) .none kV18 dc18 pm18 an18 cd18 ct18), sl18⟩) (c18 : PySem.W.codeIn K cd18 "_law_parts" = true) (k18 : PySem.W.keepIn K (.ref f18) = true)
    (a19 : PySem.W.nsIn K mainGlobals "_law_all" = some (some (.ref f19))) (l19 : K.lookup f19 = some ⟨oc19, od19, .func (PySem.W.fnOf "_law_all" "_law_all" (defArgs s_law_all) (defBody s_law_all) (defScope s_law_all) .none kV19 dc19 pm19 an19 cd19 ct19), sl19⟩) (c19 : PySem.W.codeIn K cd19 "_law_all" = true) (k19 : PySem.W.keepIn K (.ref f19) = true)
    (a20 : PySem.W.nsIn K mainGlobals "_law_bound_words" = some (some (.ref f20))) (l20 : K.lookup f20 = some ⟨oc20, od20, .func (PySem.W.fnOf "_law_bound_words" "_law_bound_words" (defArgs s_law_bound_words) (defBody s_law_bound_words) (defScope s_law_bound_words) .none kV20 dc20 pm20 an20 cd20 ct20), sl20⟩) (c20 : PySem.W.codeIn K cd20 "_law_bound_words" = true) (k20 : PySem.W.keepIn K (.ref f20) = true)
    (a21 : PySem.W.nsIn K mainGlobals "_law_simple_leaf" = some (some (.ref f21))) (l21 : K.lookup f21 = some ⟨oc21, od21, .func (PySem.W.fnOf "_law_simple_leaf" "_law_simple_leaf" (defArgs s_law_simple_leaf) (defBody s_law_simple_leaf) (defScope s_law_simple_leaf) .none kV21 dc21 pm21 an21 cd21 ct21), sl21⟩) (c21 : PySem.W.codeIn K cd21 "_law_simple_leaf" = true) (k21 : PySem.W.keepIn K (.ref f21) = true)
    (a22 : PySem.W.nsIn K mainGlobals "_law_simple_term" = some (some (.ref f22))) (l22 : K.lookup f22 = some ⟨oc22, od22, .func (PySem.W.fnOf "_law_simple_term" "_law_simple_term" (defArgs s_law_simple_term) (defBody s_law_simple_term) (defScope s_law_simple_term) .none kV22 dc22 pm22 an22 cd22 ct22), sl22⟩) (c22 : PySem.W.codeIn K cd22 "_law_simple_term" = true) (k22 : PySem.W.keepIn K (.ref f22) = true)
    (a23 : PySem.W.nsIn K mainGlobals "_law_simple_book" = some (some (.ref f23))) (l23 : K.lookup f23 = some ⟨oc23, od23, .func (PySem.W.fnOf "_law_simple_book" "_law_simple_book" (defArgs s_law_simple_book) (defBody s_law_simple_book) (defScope s_law_simple_book) .none kV23 dc23 pm23 an23 cd23 ct23), sl23⟩) (c23 : PySem.W.codeIn K cd23 "_law_simple_book" = true) (k23 : PySem.W.keepIn K (.ref f23) = true)
    (a24 : PySem.W.nsIn K mainGlobals "_law_said_term" = some (some (.ref f24))) (l24 : K.lookup f24 = some ⟨oc24, od24, .func (PySem.W.fnOf "_law_said_term" "_law_said_term" (defArgs s_law_said_term) (defBody s_law_said_term) (defScope s_law_said_term) .none kV24 dc24 pm24 an24 cd24 ct24), sl24⟩) (c24 : PySem.W.codeIn K cd24 "_law_said_term" = true) (k24 : PySem.W.keepIn K (.ref f24) = true)
    (a25 : PySem.W.nsIn K mainGlobals "_law_said" = some (some (.ref f25))) (l25 : K.lookup f25 = some ⟨oc25, od25, .func (PySem.W.fnOf "_law_said" "_law_said" (defArgs s_law_said) (defBody s_law_said) (defScope s_law_said) .none kV25 dc25 pm25 an25 cd25 ct25), sl25⟩) (c25 : PySem.W.codeIn K cd25 "_law_said" = true) (k25 : PySem.W.keepIn K (.ref f25) = true)
    (a26 : PySem.W.nsIn K mainGlobals "_law_right" = some (some (.ref f26))) (l26 : K.lookup f26 = some ⟨oc26, od26, .func (PySem.W.fnOf "_law_right" "_law_right" (defArgs s_law_right) (defBody s_law_right) (defScope s_law_right) .none kV26 dc26 pm26 an26 cd26 ct26), sl26⟩) (c26 : PySem.W.codeIn K cd26 "_law_right" = true) (k26 : PySem.W.keepIn K (.ref f26) = true)
    (a27 : PySem.W.nsIn K mainGlobals "_law_deep" = some (some (.ref f27))) (l27 : K.lookup f27 = some ⟨oc27, od27, .func (PySem.W.fnOf "_law_deep" "_law_deep" (defArgs s_law_deep) (defBody s_law_deep) (defScope s_law_deep) .none kV27 dc27 pm27 an27 cd27 ct27), sl27⟩) (c27 : PySem.W.codeIn K cd27 "_law_deep" = true) (k27 : PySem.W.keepIn K (.ref f27) = true)
    (a28 : PySem.W.nsIn K mainGlobals "law" = some (some (.ref f28))) (l28 : K.lookup f28 = some ⟨oc28, od28, .func (PySem.W.fnOf "law" "law" (defArgs s_law) (defBody s_law) (defScope s_law) .none kV28 dc28 pm28 an28 cd28 ct28), sl28⟩) (c28 : PySem.W.codeIn K cd28 "law" = true) (k28 : PySem.W.keepIn K (.ref f28) = true)
    (z0 : PySem.W.nsIn K mainGlobals "isinstance" = some none)
    (z1 : PySem.W.nsIn K mainGlobals "str" = some none)
    (z2 : PySem.W.nsIn K mainGlobals "bool" = some none)
    (z3 : PySem.W.nsIn K mainGlobals "int" = some none)
    (z4 : PySem.W.nsIn K mainGlobals "len" = some none)
    (z5 : PySem.W.nsIn K mainGlobals "abs" = some none)
    (z6 : PySem.W.nsIn K mainGlobals "range" = some none)
    (z7 : PySem.W.nsIn K mainGlobals "all" = some none)
    (z8 : PySem.W.nsIn K mainGlobals "any" = some none)
    (z9 : PySem.W.nsIn K mainGlobals "repr" = some none)
    (z10 : PySem.W.nsIn K mainGlobals "max" = some none)
    (z11 : PySem.W.nsIn K mainGlobals "min" = some none)
    (z12 : PySem.W.nsIn K mainGlobals "tuple" = some none)
    (z13 : PySem.W.nsIn K mainGlobals "list" = some none)
    (z14 : PySem.W.nsIn K mainGlobals "dict" = some none)
    (z15 : PySem.W.nsIn K mainGlobals "set" = some none)
    (z16 : PySem.W.nsIn K mainGlobals "zip" = some none)
    (z17 : PySem.W.nsIn K mainGlobals "enumerate" = some none)
    (z18 : PySem.W.nsIn K mainGlobals "reversed" = some none)
    (z19 : PySem.W.nsIn K mainGlobals "sum" = some none)
    (z20 : PySem.W.nsIn K mainGlobals "sorted" = some none)
    : ∀ (base : Heap) (H : Hp) (s : Shared) (a : Addr) (ns : List Int), ns.length ≤ 63 → K.In base → base.Ns mainGlobals mg → Env0 l.prog w K mg base callerA [] s H → SqL K H a (ns.map V.int) →
      codeAny (model l.prog w) callerA (.call (.ref fa) ⟨[.ref a], []⟩) (CR CX0 [] l.prog w H s (fun v _ => v = .bl true) E0) s := by
  intro base H s a ns hlen _ _ e0 hS
  have e := hfa.symm.trans (PySem.W.mg_of X G a28)
  cases e
  have T : Txt mg := { n_isinstance := PySem.W.mg_none_of X G z0, n_str := PySem.W.mg_none_of X G z1, n_bool := PySem.W.mg_none_of X G z2, n_int := PySem.W.mg_none_of X G z3, n_len := PySem.W.mg_none_of X G z4, n_abs := PySem.W.mg_none_of X G z5, n_range := PySem.W.mg_none_of X G z6, n_all := PySem.W.mg_none_of X G z7, n_any := PySem.W.mg_none_of X G z8, n_repr := PySem.W.mg_none_of X G z9, n_max := PySem.W.mg_none_of X G z10, n_min := PySem.W.mg_none_of X G z11, n_tuple := PySem.W.mg_none_of X G z12, n_list := PySem.W.mg_none_of X G z13, n_dict := PySem.W.mg_none_of X G z14, n_set := PySem.W.mg_none_of X G z15, n_zip := PySem.W.mg_none_of X G z16, n_enumerate := PySem.W.mg_none_of X G z17, n_reversed := PySem.W.mg_none_of X G z18, n_sum := PySem.W.mg_none_of X G z19, n_sorted := PySem.W.mg_none_of X G z20 }
  have F0 := fun_mk (st := s_parts_of) l0 c0 k0
  have b0 := F0.binds (ps := ["term"]) fun _ _ _ _ _ _ us hl => match us, hl with | [_], _ => rfl
  have F1 := fun_mk (st := s_placed_terms) l1 c1 k1
  have b1 := F1.binds (ps := ["errand"]) fun _ _ _ _ _ _ us hl => match us, hl with | [_], _ => rfl
  have F2 := fun_mk (st := s_all_places) l2 c2 k2
  have b2 := F2.binds (ps := ["book"]) fun _ _ _ _ _ _ us hl => match us, hl with | [_], _ => rfl
  have F3 := fun_mk (st := s_find_errand) l3 c3 k3
  have b3 := F3.binds (ps := ["book", "word"]) fun _ _ _ _ _ _ us hl => match us, hl with | [_, _], _ => rfl
  have F4 := fun_mk (st := s_term_at) l4 c4 k4
  have b4 := F4.binds (ps := ["book", "place"]) fun _ _ _ _ _ _ us hl => match us, hl with | [_, _], _ => rfl
  have F5 := fun_mk (st := s_law_cell_at) l5 c5 k5
  have b5 := F5.binds (ps := ["script", "k"]) fun _ _ _ _ _ _ us hl => match us, hl with | [_, _], _ => rfl
  have F6 := fun_mk (st := s_law_tape) l6 c6 k6
  have b6 := F6.binds (ps := ["script", "k"]) fun _ _ _ _ _ _ us hl => match us, hl with | [_, _], _ => rfl
  have F7 := fun_mk (st := s_law_digit) l7 c7 k7
  have b7 := F7.binds (ps := ["tape", "many"]) fun _ _ _ _ _ _ us hl => match us, hl with | [_, _], _ => rfl
  have F8 := fun_mk (st := s_law_words) l8 c8 k8
  have b8 := F8.binds (ps := ["tape", "many"]) fun _ _ _ _ _ _ us hl => match us, hl with | [_, _], _ => rfl
  have F9 := fun_mk (st := s_law_number) l9 c9 k9
  have b9 := F9.binds (ps := ["tape"]) fun _ _ _ _ _ _ us hl => match us, hl with | [_], _ => rfl
  have F10 := fun_mk (st := s_law_shares) l10 c10 k10
  have b10 := F10.binds (ps := ["tape", "room", "many"]) fun _ _ _ _ _ _ us hl => match us, hl with | [_, _, _], _ => rfl
  have F11 := fun_mk (st := s_law_pick) l11 c11 k11
  have b11 := F11.binds (ps := ["tape", "around", "kind"]) fun _ _ _ _ _ _ us hl => match us, hl with | [_, _, _], _ => rfl
  have F12 := fun_mk (st := s_law_leaf) l12 c12 k12
  have b12 := F12.binds (ps := ["tape", "known", "around", "kind"]) fun _ _ _ _ _ _ us hl => match us, hl with | [_, _, _, _], _ => rfl
  have F13 := fun_mk (st := s_law_cases) l13 c13 k13
  have b13 := F13.binds (ps := ["tape", "known", "around", "kind", "room", "deep"]) fun _ _ _ _ _ _ us hl => match us, hl with | [_, _, _, _, _, _], _ => rfl
  have F14 := fun_mk (st := s_law_term) l14 c14 k14
  have b14 := F14.binds (ps := ["tape", "known", "around", "kind", "room", "deep"]) fun _ _ _ _ _ _ us hl => match us, hl with | [_, _, _, _, _, _], _ => rfl
  have F15 := fun_mk (st := s_law_shapes) l15 c15 k15
  have b15 := F15.binds (ps := ["tape"]) fun _ _ _ _ _ _ us hl => match us, hl with | [_], _ => rfl
  have F16 := fun_mk (st := s_law_known) l16 c16 k16
  have b16 := F16.binds (ps := ["script", "start"]) fun _ _ _ _ _ _ us hl => match us, hl with | [_, _], _ => rfl
  have F17 := fun_mk (st := s_law_book) l17 c17 k17
  have b17 := F17.binds (ps := ["script", "start"]) fun _ _ _ _ _ _ us hl => match us, hl with | [_, _], _ => rfl
  have F18 := fun_mk (st := s_law_parts) l18 c18 k18
  have b18 := F18.binds (ps := ["term"]) fun _ _ _ _ _ _ us hl => match us, hl with | [_], _ => rfl
  have F19 := fun_mk (st := s_law_all) l19 c19 k19
  have b19 := F19.binds (ps := ["term", "place"]) fun _ _ _ _ _ _ us hl => match us, hl with | [_, _], _ => rfl
  have F20 := fun_mk (st := s_law_bound_words) l20 c20 k20
  have b20 := F20.binds (ps := ["term"]) fun _ _ _ _ _ _ us hl => match us, hl with | [_], _ => rfl
  have F21 := fun_mk (st := s_law_simple_leaf) l21 c21 k21
  have b21 := F21.binds (ps := ["tape", "around", "heads"]) fun _ _ _ _ _ _ us hl => match us, hl with | [_, _, _], _ => rfl
  have F22 := fun_mk (st := s_law_simple_term) l22 c22 k22
  have b22 := F22.binds (ps := ["tape", "heads", "around", "words", "room", "deep"]) fun _ _ _ _ _ _ us hl => match us, hl with | [_, _, _, _, _, _], _ => rfl
  have F23 := fun_mk (st := s_law_simple_book) l23 c23 k23
  have b23 := F23.binds (ps := ["script", "start"]) fun _ _ _ _ _ _ us hl => match us, hl with | [_, _], _ => rfl
  have F24 := fun_mk (st := s_law_said_term) l24 c24 k24
  have b24 := F24.binds (ps := ["tape", "term", "around", "opened"]) fun _ _ _ _ _ _ us hl => match us, hl with | [_, _, _, _], _ => rfl
  have F25 := fun_mk (st := s_law_said) l25 c25 k25
  have b25 := F25.binds (ps := ["tape", "book", "opened"]) fun _ _ _ _ _ _ us hl => match us, hl with | [_, _, _], _ => rfl
  have F26 := fun_mk (st := s_law_right) l26 c26 k26
  have b26 := F26.binds (ps := ["book"]) fun _ _ _ _ _ _ us hl => match us, hl with | [_], _ => rfl
  have F27 := fun_mk (st := s_law_deep) l27 c27 k27
  have b27 := F27.binds (ps := ["many"]) fun _ _ _ _ _ _ us hl => match us, hl with | [_], _ => rfl
  have F28 := fun_mk (st := s_law) l28 c28 k28
  have C_parts_of : Callee l.prog w K mg base "parts_of" ["term"] 1 (spParts K) := ⟨_, _, ok_parts_of F0 T , PySem.W.mg_of X G a0, k0, b0⟩
  have C_placed_terms : Callee l.prog w K mg base "placed_terms" ["errand"] 2 (spPlaced K) := ⟨_, _, ok_placed_terms F1 T C_parts_of, PySem.W.mg_of X G a1, k1, b1⟩
  have C_all_places : Callee l.prog w K mg base "all_places" ["book"] 3 (spAllPl K) := ⟨_, _, ok_all_places F2 T C_placed_terms, PySem.W.mg_of X G a2, k2, b2⟩
  have C_find_errand : Callee l.prog w K mg base "find_errand" ["book", "word"] 1 (spFind K) := ⟨_, _, ok_find_errand F3 T , PySem.W.mg_of X G a3, k3, b3⟩
  have C_term_at : Callee l.prog w K mg base "term_at" ["book", "place"] 2 (spTermAt K) := ⟨_, _, ok_term_at F4 T C_find_errand C_parts_of, PySem.W.mg_of X G a4, k4, b4⟩
  have C_law_cell_at : Callee l.prog w K mg base "_law_cell_at" ["script", "k"] 1 (spCell K) := ⟨_, _, ok_law_cell_at F5 T , PySem.W.mg_of X G a5, k5, b5⟩
  have C_law_tape : Callee l.prog w K mg base "_law_tape" ["script", "k"] 2 (spTape K) := ⟨_, _, ok_law_tape F6 T C_law_cell_at, PySem.W.mg_of X G a6, k6, b6⟩
  have C_law_digit : Callee l.prog w K mg base "_law_digit" ["tape", "many"] 1 (spDigit K) := ⟨_, _, ok_law_digit F7 T , PySem.W.mg_of X G a7, k7, b7⟩
  have C_law_words : Callee l.prog w K mg base "_law_words" ["tape", "many"] 2 (spWords K) := ⟨_, _, ok_law_words F8 T C_law_digit, PySem.W.mg_of X G a8, k8, b8⟩
  have C_law_number : Callee l.prog w K mg base "_law_number" ["tape"] 2 (spNumber K) := ⟨_, _, ok_law_number F9 T C_law_digit, PySem.W.mg_of X G a9, k9, b9⟩
  have C_law_shares : Callee l.prog w K mg base "_law_shares" ["tape", "room", "many"] 2 (spShares K) := ⟨_, _, ok_law_shares F10 T C_law_digit, PySem.W.mg_of X G a10, k10, b10⟩
  have C_law_pick : Callee l.prog w K mg base "_law_pick" ["tape", "around", "kind"] 2 (spPick K) := ⟨_, _, ok_law_pick F11 T C_law_digit, PySem.W.mg_of X G a11, k11, b11⟩
  have C_law_leaf : Callee l.prog w K mg base "_law_leaf" ["tape", "known", "around", "kind"] 3 (spLeaf K) := ⟨_, _, ok_law_leaf F12 T C_law_digit C_law_pick C_law_number, PySem.W.mg_of X G a12, k12, b12⟩
  have D_law_term : Dfn K mg "_law_term" s_law_term ["tape", "known", "around", "kind", "room", "deep"] := ⟨_, _, F14, PySem.W.mg_of X G a14, k14, b14⟩
  have D_law_cases : Dfn K mg "_law_cases" s_law_cases ["tape", "known", "around", "kind", "room", "deep"] := ⟨_, _, F13, PySem.W.mg_of X G a13, k13, b13⟩
  have C_law_term : Callee l.prog w K mg base "_law_term" ["tape", "known", "around", "kind", "room", "deep"] 28 (spTerm K 12) := term_all T D_law_term D_law_cases C_law_digit C_law_pick C_law_leaf C_law_shares 12
  have C_law_shapes : Callee l.prog w K mg base "_law_shapes" ["tape"] 3 (spShapes K) := ⟨_, _, ok_law_shapes F15 T C_law_digit C_law_words, PySem.W.mg_of X G a15, k15, b15⟩
  have C_law_known : Callee l.prog w K mg base "_law_known" ["script", "start"] 4 (spKnown K) := ⟨_, _, ok_law_known F16 T C_law_digit C_law_words C_law_shapes C_law_tape, PySem.W.mg_of X G a16, k16, b16⟩
  have C_law_book : Callee l.prog w K mg base "_law_book" ["script", "start"] 29 (spBook K) := ⟨_, _, ok_law_book F17 T C_law_digit C_law_words C_law_tape C_law_known C_law_term, PySem.W.mg_of X G a17, k17, b17⟩
  have C_law_parts : Callee l.prog w K mg base "_law_parts" ["term"] 1 (spParts K) := ⟨_, _, ok_law_parts F18 T , PySem.W.mg_of X G a18, k18, b18⟩
  have D_law_all : Dfn K mg "_law_all" s_law_all ["term", "place"] := ⟨_, _, F19, PySem.W.mg_of X G a19, k19, b19⟩
  have C_law_all : Callee l.prog w K mg base "_law_all" ["term", "place"] 202 (spAll K 200) := all_all T D_law_all C_law_parts 200
  have C_law_bound_words : Callee l.prog w K mg base "_law_bound_words" ["term"] 2 (spBound K) := ⟨_, _, ok_law_bound_words F20 T C_law_parts, PySem.W.mg_of X G a20, k20, b20⟩
  have C_law_simple_leaf : Callee l.prog w K mg base "_law_simple_leaf" ["tape", "around", "heads"] 3 (spSleaf K) := ⟨_, _, ok_law_simple_leaf F21 T C_law_digit C_law_number, PySem.W.mg_of X G a21, k21, b21⟩
  have D_law_simple_term : Dfn K mg "_law_simple_term" s_law_simple_term ["tape", "heads", "around", "words", "room", "deep"] := ⟨_, _, F22, PySem.W.mg_of X G a22, k22, b22⟩
  have C_law_simple_term : Callee l.prog w K mg base "_law_simple_term" ["tape", "heads", "around", "words", "room", "deep"] 16 (spSt K 12) := st_all T D_law_simple_term C_law_digit C_law_shares C_law_simple_leaf 12
  have C_law_simple_book : Callee l.prog w K mg base "_law_simple_book" ["script", "start"] 17 (spSBook K) := ⟨_, _, ok_law_simple_book F23 T C_law_digit C_law_words C_law_tape C_law_simple_term, PySem.W.mg_of X G a23, k23, b23⟩
  have D_law_said_term : Dfn K mg "_law_said_term" s_law_said_term ["tape", "term", "around", "opened"] := ⟨_, _, F24, PySem.W.mg_of X G a24, k24, b24⟩
  have C_law_said_term : Callee l.prog w K mg base "_law_said_term" ["tape", "term", "around", "opened"] 16 (spSaid K 13) := said_all T D_law_said_term C_law_digit C_law_parts C_law_bound_words 13
  have C_law_said : Callee l.prog w K mg base "_law_said" ["tape", "book", "opened"] 17 (spSaidB K) := ⟨_, _, ok_law_said F25 T C_law_digit C_law_said_term, PySem.W.mg_of X G a25, k25, b25⟩
  have C_law_right : CalleeG l.prog w K mg base "_law_right" ["book"] 203 (spRight K) := ⟨_, _, ok_law_right F26 T C_law_parts C_law_all C_all_places C_parts_of C_term_at, PySem.W.mg_of X G a26, k26, b26⟩
  have C_law_deep : Callee l.prog w K mg base "_law_deep" ["many"] 1 (spDeep K) := ⟨_, _, ok_law_deep F27 T , PySem.W.mg_of X G a27, k27, b27⟩
  refine body_any (k := 203) (zs := [.ref a]) (us := [.ref a]) (ps := ["script"]) F28 sc_law ⟨rfl, by decide, by decide⟩ e0 (.of_eq rfl) (.cons rfl .nil) rfl fun cdv hr => ?_
  exact law_body (Q := fun v _ => v = .bl true) T C_law_right C_law_tape C_law_digit C_law_deep C_law_book C_law_simple_book C_law_said hS hlen (fun _ => rfl) cdv hr
end SP
open PySem PySem.W PyProof.Rows
set_option maxHeartbeats 0 in
theorem PySem.Challenge.cw_sparecount_k05_places_and_terms_holds : PySem.Challenge.rw_sparecount_k05_places_and_terms.Holds := by
  w_on; o_law; k_head; (case hw => w_witness2)
  k_fill
  refine SP.walk_top (l := PySem.Challenge.rw_sparecount_k05_places_and_terms) (n := 63) rfl (by decide) rfl (fun w h Y => PySem.W.kIn_of Y) ?F
  case F =>
    intro w mg fa h KX G hmg
    refine' SP.all_mk KX G hmg ?a0 ?l0 ?c0 ?k0 ?a1 ?l1 ?c1 ?k1 ?a2 ?l2 ?c2 ?k2 ?a3 ?l3 ?c3 ?k3 ?a4 ?l4 ?c4 ?k4 ?a5 ?l5 ?c5 ?k5 ?a6 ?l6 ?c6 ?k6 ?a7 ?l7 ?c7 ?k7 ?a8 ?l8 ?c8 ?k8 ?a9 ?l9 ?c9 ?k9 ?a10 ?l10 ?c10 ?k10 ?a11 ?l11 ?c11 ?k11 ?a12 ?l12 ?c12 ?k12 ?a13 ?l13 ?c13 ?k13 ?a14 ?l14 ?c14 ?k14 ?a15 ?l15 ?c15 ?k15 ?a16 ?l16 ?c16 ?k16 ?a17 ?l17 ?c17 ?k17 ?a18 ?l18 ?c18 ?k18 ?a19 ?l19 ?c19 ?k19 ?a20 ?l20 ?c20 ?k20 ?a21 ?l21 ?c21 ?k21 ?a22 ?l22 ?c22 ?k22 ?a23 ?l23 ?c23 ?k23 ?a24 ?l24 ?c24 ?k24 ?a25 ?l25 ?c25 ?k25 ?a26 ?l26 ?c26 ?k26 ?a27 ?l27 ?c27 ?k27 ?a28 ?l28 ?c28 ?k28 ?z0 ?z1 ?z2 ?z3 ?z4 ?z5 ?z6 ?z7 ?z8 ?z9 ?z10 ?z11 ?z12 ?z13 ?z14 ?z15 ?z16 ?z17 ?z18 ?z19 ?z20
    (case a0 => k_is); (case l0 => k_is); (case c0 => k_is); (case k0 => k_is); (case a1 => k_is); (case l1 => k_is); (case c1 => k_is); (case k1 => k_is); (case a2 => k_is); (case l2 => k_is); (case c2 => k_is); (case k2 => k_is); (case a3 => k_is); (case l3 => k_is); (case c3 => k_is); (case k3 => k_is); (case a4 => k_is); (case l4 => k_is); (case c4 => k_is); (case k4 => k_is); (case a5 => k_is); (case l5 => k_is); (case c5 => k_is); (case k5 => k_is); (case a6 => k_is); (case l6 => k_is); (case c6 => k_is); (case k6 => k_is); (case a7 => k_is); (case l7 => k_is); (case c7 => k_is); (case k7 => k_is); (case a8 => k_is); (case l8 => k_is); (case c8 => k_is); (case k8 => k_is); (case a9 => k_is); (case l9 => k_is); (case c9 => k_is); (case k9 => k_is); (case a10 => k_is); (case l10 => k_is); (case c10 => k_is); (case k10 => k_is); (case a11 => k_is); (case l11 => k_is); (case c11 => k_is); (case k11 => k_is); (case a12 => k_is); (case l12 => k_is); (case c12 => k_is); (case k12 => k_is); (case a13 => k_is); (case l13 => k_is); (case c13 => k_is); (case k13 => k_is); (case a14 => k_is); (case l14 => k_is); (case c14 => k_is); (case k14 => k_is); (case a15 => k_is); (case l15 => k_is); (case c15 => k_is); (case k15 => k_is); (case a16 => k_is); (case l16 => k_is); (case c16 => k_is); (case k16 => k_is); (case a17 => k_is); (case l17 => k_is); (case c17 => k_is); (case k17 => k_is); (case a18 => k_is); (case l18 => k_is); (case c18 => k_is); (case k18 => k_is); (case a19 => k_is); (case l19 => k_is); (case c19 => k_is); (case k19 => k_is); (case a20 => k_is); (case l20 => k_is); (case c20 => k_is); (case k20 => k_is); (case a21 => k_is); (case l21 => k_is); (case c21 => k_is); (case k21 => k_is); (case a22 => k_is); (case l22 => k_is); (case c22 => k_is); (case k22 => k_is); (case a23 => k_is); (case l23 => k_is); (case c23 => k_is); (case k23 => k_is); (case a24 => k_is); (case l24 => k_is); (case c24 => k_is); (case k24 => k_is); (case a25 => k_is); (case l25 => k_is); (case c25 => k_is); (case k25 => k_is); (case a26 => k_is); (case l26 => k_is); (case c26 => k_is); (case k26 => k_is); (case a27 => k_is); (case l27 => k_is); (case c27 => k_is); (case k27 => k_is); (case a28 => k_is); (case l28 => k_is); (case c28 => k_is); (case k28 => k_is); (case z0 => k_is); (case z1 => k_is); (case z2 => k_is); (case z3 => k_is); (case z4 => k_is); (case z5 => k_is); (case z6 => k_is); (case z7 => k_is); (case z8 => k_is); (case z9 => k_is); (case z10 => k_is); (case z11 => k_is); (case z12 => k_is); (case z13 => k_is); (case z14 => k_is); (case z15 => k_is); (case z16 => k_is); (case z17 => k_is); (case z18 => k_is); (case z19 => k_is); (case z20 => k_is)
