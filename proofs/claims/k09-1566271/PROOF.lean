import PyProof.Rows.All
import Wide.All
import OpenK.AllK
import Wide.FinOn
import HandS.List
import PyProof.StrBlock
import HandS.Dict
import HandS.Ends
import HandS.Words
import PyProof.ReprRoads
import PyProof.ListStr
import PyProof.TupleOfStr
import PyProof.StrOps2
import PyProof.ReprLen
import HandS.Base
import HandS.Call
import HandS.Comp
import HandS.Iter
import HandS.Text
import HandS.WordsList
import HandS.Wide
import HandS.IsInst
import HandS.StrMore
import HandS.Style
import HandS.Walk
import PySem.Challenge.RW_sparecount_k09_words
set_option Elab.async false
set_option linter.all false
set_option maxRecDepth 100000
set_option maxHeartbeats 8000000
namespace SP
open PySem PySem.Spec PyProof.Rows L2
/-! a word, as the law tells it -/
def lowC (c : Nat) : Bool := decide (97 ≤ c) && decide (c ≤ 122)
def keptW : List Str := ["be", "box", "else", "in", "keep", "let", "look", "loose", "open", "zero"]
def wordF (a : Str) : Bool := (decide (1 ≤ a.length) && decide (a.length ≤ 8)) && (a.cps.toList.all lowC && !keptW.contains a)
theorem low128 : ∀ c : Nat, c < 128 → (Unicode.isAlpha c && !(Unicode.isUpper c || Unicode.isTitle c)) = lowC c := by decide +kernel
theorem lowL : ∀ c : Nat, c < 128 → lowC c = true → Unicode.isAlpha c = true ∧ Unicode.isLower c = true ∧ (Unicode.isUpper c || Unicode.isTitle c) = false := by decide +kernel
theorem low_lt {c : Nat} (h : lowC c = true) : c < 128 := by
  unfold lowC at h
  simp only [Bool.and_eq_true, decide_eq_true_eq] at h
  omega
theorem abc_low (c : Nat) : decide (c ∈ ("abcdefghijklmnopqrstuvwxyz" : Str).cps.toList) = lowC c := by
  have e : ("abcdefghijklmnopqrstuvwxyz" : Str).cps.toList = List.range' 97 26 := by decide +kernel
  rw [e]
  unfold lowC
  rw [← Bool.decide_and]
  apply decide_eq_decide.mpr
  rw [List.mem_range'_1]
  omega
/-- what the program asks of a text of one sign or more -/
theorem low_word (a : Str) (h1 : 1 ≤ a.length) : (Txt.isascii a && (Txt.isalpha a && Txt.islower a)) = a.cps.toList.all lowC := by
  obtain ⟨l⟩ := a
  have hl : 1 ≤ l.toList.length := by
    have : 1 ≤ l.size := h1
    simpa using this
  unfold Txt.isascii Txt.isalpha Txt.islower
  have e0 : decide ((⟨l⟩ : Str).length > 0) = true := decide_eq_true h1
  rw [e0, Bool.true_and]
  show (l.all (· < 128) && (l.all Unicode.isAlpha && (l.any Unicode.isLower && !l.any fun c => Unicode.isUpper c || Unicode.isTitle c))) = l.toList.all lowC
  simp only [← Array.all_toList, ← Array.any_toList]
  revert hl
  generalize l.toList = xs
  intro hl
  cases hh : xs.all lowC with
  | true =>
    have hx : ∀ c ∈ xs, lowC c = true := List.all_eq_true.mp hh
    have a1 : xs.all (fun x => decide (x < 128)) = true := List.all_eq_true.mpr fun c hc => decide_eq_true (low_lt (hx c hc))
    have a2 : xs.all Unicode.isAlpha = true := List.all_eq_true.mpr fun c hc => (lowL c (low_lt (hx c hc)) (hx c hc)).1
    have a3 : xs.any Unicode.isLower = true := by
      cases xs with
      | nil => exact absurd hl (by simp)
      | cons c r =>
        have := (lowL c (low_lt (hx c List.mem_cons_self)) (hx c List.mem_cons_self)).2.1
        simp [this]
    have a4 : (xs.any fun c => Unicode.isUpper c || Unicode.isTitle c) = false := List.any_eq_false.mpr fun c hc => by
      rw [(lowL c (low_lt (hx c hc)) (hx c hc)).2.2]
      exact Bool.false_ne_true
    rw [a1, a2, a3, a4]
    rfl
  | false =>
    cases a1 : xs.all (fun x => decide (x < 128)) with
    | false => rfl
    | true =>
      cases a2 : xs.all Unicode.isAlpha with
      | false => rfl
      | true =>
        have : (xs.any fun c => Unicode.isUpper c || Unicode.isTitle c) = true := by
          cases a4 : (xs.any fun c => Unicode.isUpper c || Unicode.isTitle c) with
          | true => rfl
          | false =>
            exfalso
            have : xs.all lowC = true := List.all_eq_true.mpr fun c hc => by
              have l1 : c < 128 := of_decide_eq_true (List.all_eq_true.mp a1 c hc)
              rw [← low128 c l1, List.all_eq_true.mp a2 c hc]
              have := List.any_eq_false.mp a4 c hc
              simpa using this
            rw [this] at hh
            exact absurd hh (by decide)
        rw [this]
        simp
theorem inV_kept (a : Str) : inV (.str a) (keptW.map V.str) = keptW.contains a := by
  unfold inV
  have h : ∀ l : List Str, ((l.map V.str).any fun y => eqV y (.str a)) = l.contains a := by
    intro l
    induction l with
    | nil => rfl
    | cons b l ih =>
      rw [List.map_cons, List.any_cons, ih, List.contains_cons]
      show ((b == a) || l.contains a) = ((a == b) || l.contains a)
      rw [show (b == a) = (a == b) from BEq.comm]
  exact h keptW
theorem flat_kept (l : List Str) : (l.map V.str).all flatV = true := by
  induction l with
  | nil => rfl
  | cons b l ih =>
    rw [List.map_cons, List.all_cons, ih]
    rfl
end SP

namespace SP
open PySem PySem.Spec PyProof.Rows L2
/-! ### data with flat dicts, and repr of it -/
def flatD : V → Option PyData
  | .non => some .none
  | .bl b => some (.bool b)
  | .int i => some (.int i)
  | .str x => some (.str x)
  | _ => none
def keyD : Key → PyData
  | .inl i => .int i
  | .inr x => .str x
inductive Dq (K : PySem.W.Frag) (H : Hp) : V → PyData → Prop
  | dp {v : V} {d : PyData} : Dp K H v d → d.hasDict = false → Dq K H v d
  | dct {a : Addr} {kvs : List (Key × V)} {es : List (PyData × PyData)} : H a = some (.dK kvs) → Paired (fun (p : Key × V) (q : PyData × PyData) => q.1 = keyD p.1 ∧ flatD p.2 = some q.2) kvs es → Dq K H (.ref a) (.dict es)
theorem reads_flat {h : Heap} {v : V} {u : Value} {d : PyData} (f : flatD v = some d) (r : RelV v u) : Reads h u d [] := by
  cases v with
  | non => cases f; cases r; exact Reads.none
  | bl b => cases f; cases r; exact Reads.bool b
  | int i => cases f; obtain ⟨t, rfl⟩ := r; exact Reads.int i t
  | str x => cases f; obtain ⟨t, rfl⟩ := r; exact Reads.str x t
  | _ => cases f
theorem reads_keys {P : Program} {w : World} {h : Heap} : ∀ {ds : List DictEntry} {vs : List (Key × Value)} {kvs : List (Key × V)} {es : List (PyData × PyData)}, Pairs (mixKind P w) ds vs → KV kvs vs →
    Paired (fun (p : Key × V) (q : PyData × PyData) => q.1 = keyD p.1 ∧ flatD p.2 = some q.2) kvs es →
      ReadsAll h (ds.map (·.key)) (es.map (·.1)) [] ∧ ReadsAll h (ds.map (·.val)) (es.map (·.2)) []
  | _, _, _, _, .nil, .nil, .nil => ⟨ReadsAll.nil, ReadsAll.nil⟩
  | e :: ds, kv :: vs, p :: kvs, q :: es, .cons hk hv tp, .cons hr tr, .cons hf tf => by
    obtain ⟨i1, i2⟩ := reads_keys (h := h) tp tr tf
    obtain ⟨k1, r1⟩ := hr
    obtain ⟨f1, f2⟩ := hf
    have hk' : keyIs kv.1 e.key = true := hk
    rw [← k1] at hk'
    refine ⟨?_, ?_⟩
    · have : Reads h e.key q.1 [] := by
        rw [f1]
        rcases keyIs_shape hk' with ⟨i, t, e1, e2⟩ | ⟨x, t, e1, e2⟩
        · rw [e1, e2]; exact Reads.int i t
        · rw [e1, e2]; exact Reads.str x t
      exact ReadsAll.cons this i1
    · have : Reads h e.val q.2 [] := by
        rw [hv]
        exact reads_flat f2 r1
      exact ReadsAll.cons this i2
section
variable {X : Cx} {pins : List (Addr × Obj)} {σ : L2.St} {H : Hp} {s : Shared}
theorem Dq.reads (I : Inv X pins σ H s) {v : V} {d : PyData} {u : Value} (h : Dq X.K H v d) (r : RelV v u) : ∃ as, Reads s.heap u d as ∧ (d.hasDict = true → sysModules ∉ as) := by
  cases h with
  | dp h hn =>
    obtain ⟨as, R⟩ := Dp.reads I d v u h r
    exact ⟨as, R, fun e => by rw [hn] at e; cases e⟩
  | dct ha hf =>
    rename_i a kvs es
    cases r
    obtain ⟨_, hs, vs, kv, o, ds, ep, e1, e2, e3, _, tp, _⟩ := I.hok a _ ha
    obtain ⟨i1, i2⟩ := reads_keys (h := s.heap) tp kv hf
    refine ⟨_, Reads.dict e1 e2.1 e3 i1 i2, fun _ hm => ?_⟩
    have := beq_eq_false_iff_ne.mp hs
    simp only [List.append_nil, List.mem_singleton] at hm
    exact this hm.symm
/-- what repr of a thing tells -/
def shows (d : PyData) : Bool := d.showable && decide (d.shown.length ≤ sizeLine) && decide (d.depth ≤ 8)
def rReprD (K : PySem.W.Frag) : List V → Hp → VK → Prop := fun xs H Q => ∃ (x : V) (d : PyData), xs = [x] ∧ Dq K H x d ∧ shows d = true ∧ Q (.str d.shown) H
theorem call_reprD {X : Cx} (hg : X.A.guards = some []) (hu : X.A.units + 64 < cLine) : CallR X (.builtin "repr") (rReprD X.K) := by
  intro pins s σ H xs us Q I r h
  obtain ⟨x, d, rfl, hd, hs, q⟩ := h
  obtain ⟨u, rfl, rx⟩ := vals1 r
  unfold shows at hs
  simp only [Bool.and_eq_true, decide_eq_true_eq] at hs
  obtain ⟨⟨h1, h2⟩, h3⟩ := hs
  obtain ⟨as, R, hsm⟩ := hd.reads I rx
  cases R with
  | none => exact PySem.P.repr_of_none ⟨.str _, H, I.tok _, ⟨_, rfl⟩, q⟩
  | bool b => exact PySem.P.repr_of_bool ⟨.str _, H, I.tok _, ⟨_, rfl⟩, q⟩
  | int i t => exact PySem.P.repr_of_int (by simpa [PyData.showable] using h1) ⟨.str _, H, I.tok _, ⟨_, rfl⟩, q⟩
  | str z t => exact PySem.P.repr_of_str ⟨.str _, H, I.tok _, ⟨_, rfl⟩, q⟩ h2
  | list a1 a2 a3 a4 => exact repr_of_reads' (.list a1 a2 a3 a4) h1 hsm hg (by omega) (fun _ _ e => e) (fun h' u tk hk => ⟨.str _, H, I.kept hk, ⟨_, rfl⟩, q⟩) h2
  | tuple a1 a2 a3 a4 => exact repr_of_reads' (.tuple a1 a2 a3 a4) h1 hsm hg (by omega) (fun _ _ e => e) (fun h' u tk hk => ⟨.str _, H, I.kept hk, ⟨_, rfl⟩, q⟩) h2
  | dict a1 a2 a3 a4 a5 => exact repr_of_reads' (.dict a1 a2 a3 a4 a5) h1 hsm hg (by omega) (fun _ _ e => e) (fun h' u tk hk => ⟨.str _, H, I.kept hk, ⟨_, rfl⟩, q⟩) h2
end
/-! ### list(text), tuple(text), text * int -/
def signs (x : Str) : List V := x.cps.toList.map fun c => V.str ⟨#[c]⟩
theorem vals_signs {x : Str} {acc : Array Value} (h : ItemsOf (SignAt x) acc x.cps.size) : Vals (signs x) acc.toList := by
  obtain ⟨hz, hi⟩ := h
  obtain ⟨l⟩ := acc
  obtain ⟨⟨cs⟩⟩ := x
  have hz' : l.length = cs.length := hz
  have hi' : ∀ (j : Nat) (v : Value), l[j]? = some v → ∃ (c : Nat) (u : Tok), cs[j]? = some c ∧ v = .str ⟨#[c]⟩ u := by
    intro j v e
    obtain ⟨c, u, e1, e2⟩ := hi j v (by simpa using e)
    exact ⟨c, u, by simpa using e1, e2⟩
  clear hi hz
  show Paired RelV (cs.map fun c => V.str ⟨#[c]⟩) l
  induction cs generalizing l with
  | nil =>
    cases l with
    | nil => exact .nil
    | cons _ _ => simp at hz'
  | cons c cs ih =>
    cases l with
    | nil => simp at hz'
    | cons v l =>
      refine .cons ?_ (ih l (by simpa using hz') fun j v e => hi' (j + 1) v (by simpa using e))
      obtain ⟨c', u, e1, e2⟩ := hi' 0 v rfl
      have : c = c' := by simpa using e1
      subst this
      exact ⟨u, e2⟩
section
variable {X : Cx}
theorem call_list_text (hc : X.calm = true) : CallR X (.type "list") (fun xs H Q => ∃ x : Str, xs = [.str x] ∧ x.length ≤ sizeLine ∧ ∀ l, H l = none → Q (.ref l) (upd H l (.lst (signs x)))) := by
  intro pins s σ H xs us Q I r h
  obtain ⟨x, rfl, hz, q⟩ := h
  obtain ⟨u, rfl, t, rfl⟩ := vals1 r
  refine call_list_str (I.ok.hd hc) x t (fun h' tk acc' c' hk e hi => ?_) hz
  refine ⟨.ref s.heap.objs.size, _, I.laid (t' := tk) hk (Nat.le_refl _) (show ObjOk X.prog X.w _ h' _ (.lst (signs x)) from ⟨?_, acc'.toList, c', vals_signs hi, ?_⟩), rfl, q _ (I.hok.fresh (Nat.le_refl _))⟩
  · show ((x.cps.toList.map _).length) ≤ sizeLine
    rw [List.length_map]
    exact hz
  · rw [e]
theorem call_tuple_text (hc : X.calm = true) : CallR X (.type "tuple") (fun xs H Q => ∃ x : Str, xs = [.str x] ∧ x.length ≤ sizeLine ∧ ∀ l, H l = none → Q (.ref l) (upd H l (.tup (signs x)))) := by
  intro pins s σ H xs us Q I r h
  obtain ⟨x, rfl, hz, q⟩ := h
  obtain ⟨u, rfl, t, rfl⟩ := vals1 r
  refine call_tuple_str (I.ok.hd hc) x t (fun h' tk acc' hk hi => ?_) hz
  have I1 : Inv X pins σ H { s with heap := h', toks := tk } := I.kept hk
  refine ⟨.ref h'.objs.size, _, I1.laid (h' := h'.push { cls := .type "tuple", data := .seq acc' }) (t' := tk) (fun b o e => Heap.get?_push_of_some _ e) (Nat.le_refl _) (show ObjOk X.prog X.w _ _ _ (.tup (signs x)) from ⟨?_, acc'.toList, vals_signs hi, ?_⟩), rfl, q _ (I1.hok.fresh (Nat.le_refl _))⟩
  · show ((x.cps.toList.map _).length) ≤ sizeLine
    rw [List.length_map]
    exact hz
  · show IsTup _ _ acc'.toList.toArray
    rw [Array.toArray_toList]
    exact IsTup.new _ _
def repS (x : Str) (n : Nat) : Str := if n = 1 then x else ⟨(List.replicate n x.cps).foldl (· ++ ·) #[]⟩
theorem op_rep_str : OpR X (binaryOp .Mult) (fun x y H Q => ∃ (a : Str) (n : Nat), x = .str a ∧ y = .int (n : Int) ∧ 1 ≤ n ∧ n ≤ 1000 ∧ 1 ≤ a.length ∧ a.length ≤ 1000 ∧ (repS a n).length ≤ sizeLine ∧ Q (.str (repS a n)) H) := by
  intro pins s σ H x y v u Q I rx ry h
  obtain ⟨a, n, rfl, rfl, h1, h2, h3, h4, h5, q⟩ := h
  obtain ⟨t, rfl⟩ := rx
  obtain ⟨t', rfl⟩ := ry
  have hm : a.length * n ≤ 1000 * 1000 := Nat.mul_le_mul h4 h2
  refine PySem.P.mul_str ?_ (fun _ _ => ?_) (fun _ _ => ?_) ?_
  · rw [decide_eq_false (by omega), decide_eq_false (by omega)]
    rfl
  · have e : ((a.length : Nat) : Int) ≤ 1000 := by omega
    have : (1000 : Int) ≤ (2 ^ 63 - 1) / (n : Int) := by
      apply (Int.le_ediv_iff_mul_le (by omega)).mpr
      omega
    omega
  · have hs := sizeLine_eq
    unfold Builtin.Str.tooLong
    rw [Int.toNat_natCast]
    exact decide_eq_false (by omega)
  · rw [if_neg (by omega)]
    by_cases e : n = 1
    · subst e
      have : ((((1 : Nat) : Int) == 1 || a.length == 0) = true) := rfl
      rw [if_pos this]
      have q' : Q (.str a) H := by simpa [repS] using q
      exact ⟨.str a, H, I, ⟨t, rfl⟩, q'⟩
    · have h6 : (((n : Int) == 1 || a.length == 0)) = false := by
        rw [beq_eq_false_iff_ne.mpr (by omega), beq_eq_false_iff_ne.mpr (by omega)]
        rfl
      rw [h6, if_neg Bool.false_ne_true]
      rw [Int.toNat_natCast]
      unfold repS at q h5
      rw [if_neg e] at q h5
      exact ⟨h5, .str _, H, I.tok _, ⟨_, rfl⟩, q⟩
end
end SP

namespace SP
open PySem PySem.Spec PyProof.Rows L2
/-! ### the text -/
def topS (i : Nat) : Stmt := PySem.Challenge.pw_sparecount_k09_words.main.body.getD i (.Pass ⟨0, 0, 0, 0⟩)
theorem ite_T {b : Bool} {A B : Prop} (hb : b = true) (h : A) : if b = true then A else B := by
  rw [if_pos hb]
  exact h
theorem ite_F {b : Bool} {A B : Prop} (hb : b = false) (h : B) : if b = true then A else B := by
  rw [if_neg (by rw [hb]; exact Bool.false_ne_true)]
  exact h
/-! ### a def that may be called -/
structure Callee (P : Program) (w : World) (K : PySem.W.Frag) (mg : Str → Option Value) (base : Heap) (x : Str) (ps : List Str) (k : Nat) (sp : Sp) : Prop where
  ex : ∃ (f : Addr) (fd : FuncData), FnOk P w K mg base CX0 k f fd ps sp ∧ mg x = some (.ref f) ∧ PySem.W.keepIn K (.ref f) = true ∧ Binds K fd ps []
theorem pe_fn {X : Cx} {x : Str} {ps : List Str} {k j : Nat} {sp : Sp} {e : Expr} {es : List Expr} {p pos : Pos} {t : TA} (C : Callee X.prog X.w X.K X.mg X.base x ps k sp) (hr : Room j X.A) (hg : Gl X x) (ha : PA X (e :: es) t)
    (hk : k ≤ j := by decide) (h2 : (x == ("__debug__" : Str)) = false := by decide) (hs : starEach (e :: es) X.env = (false, eval e X.env) :: starEach es X.env := by rfl) (hp : (backTo pos (starEach es X.env)).any (·.1) = false := by rfl) :
    PE X (.Call (.Name x p) (e :: es) [] pos) (tCall sp [] E0 t) := by
  obtain ⟨f, fd, G, g, kp, b⟩ := C.ex
  exact pe_call G (hr.mono hk) hg g kp b .nil pass0 ha (hdb := h2) (he := hs) (hpl := hp)
/-! ### what the module has -/
structure Txt (K : PySem.W.Frag) (mg : Str → Option Value) : Prop where
  n_isinstance : mg "isinstance" = none
  n_str : mg "str" = none
  n_bool : mg "bool" = none
  n_len : mg "len" = none
  n_abs : mg "abs" = none
  n_range : mg "range" = none
  n_all : mg "all" = none
  n_repr : mg "repr" = none
  n_max : mg "max" = none
  n_min : mg "min" = none
  n_tuple : mg "tuple" = none
  n_list : mg "list" = none
  most : ∃ t, mg "MOST_LETTERS" = some (.int 8 t)
  lw : ∃ a, mg "LANGUAGE_WORDS" = some (.ref a) ∧ ∀ H : Hp, SqT K H a (keptW.map V.str)
section
variable {P : Program} {w : World} {K : PySem.W.Frag} {mg : Str → Option Value} {base : Heap}
theorem typ_no {H : Hp} {x : V} {t : Value} (ty : TyX K H x t) : True := trivial
/-! ### is_word -/
def NoText (K : PySem.W.Frag) (H : Hp) (x : V) : Prop := ∃ t, TyX K H x t ∧ PySem.W.kitOne K t (.type "str") = some false
def spIs (K : PySem.W.Frag) : Sp := fun vs H Q _ => ∃ x, vs = [x] ∧ ((∃ a : Str, x = .str a ∧ a.length ≤ sizeLine ∧ Q (.bl (wordF a)) H) ∨ (NoText K H x ∧ Q (.bl false) H))
abbrev sIs : Stmt := topS 3
theorem scIs : FnScope ["thing"] ["thing"] (defScope sIs) := ⟨rfl, rfl, rfl, by decide +kernel, rfl, by decide +kernel, by decide +kernel⟩
theorem ok_is {f : Addr} {fd : FuncData} (F : Fun K "is_word" "is_word" sIs f fd) (T : Txt K mg) : FnOk P w K mg base CX0 1 f fd ["thing"] (spIs K) := by
  obtain ⟨ta, hma⟩ := T.most
  obtain ⟨aw, hlw, hsw⟩ := T.lw
  refine F.ok scIs (fun vs H Q E h => ?_) (fun cdv A outer s H vs Q E hr h => ?_)
  · obtain ⟨x, rfl, _⟩ := h
    rfl
  · obtain ⟨x, rfl, h⟩ := h
    refine ⟨_, (pss_one (ps_ret (pe_and (pe_callB call_isi (by rfl) T.n_isinstance (by decide +kernel) (pa_cons (pv 0) (pa_cons (pe_bltn (v := .ty "str") (by rfl) T.n_str (by decide +kernel) rfl) pa_nil))) (pe_and (pe_chain op_le op_le pe_int (pe_callB call_len_str (by rfl) T.n_len (by decide +kernel) (pa_cons (pv 0) pa_nil)) (pe_glob (v := .int 8) rfl hma ⟨_, rfl⟩)) (pe_and (pe_bm0 PySem.F.plainAttrs_str PySem.F.slot_str_isascii PySem.F.type_str_isascii mt_isascii (pv 0)) (pe_and (pe_bm0 PySem.F.plainAttrs_str PySem.F.slot_str_isalpha PySem.F.type_str_isalpha mt_isalpha (pv 0)) (pe_and (pe_bm0 PySem.F.plainAttrs_str PySem.F.slot_str_islower PySem.F.type_str_islower mt_islower (pv 0)) (pe_one (pe_cmpR op_notIn_seq (pv 0) (pe_glob (v := .ref aw) rfl hlw rfl) rfl))))))))), ?_⟩
    rcases h with ⟨a, rfl, hz, q⟩ | ⟨⟨t, ty, ki⟩, q⟩
    · refine ⟨_, rfl, .str a, .ty "str", .type "str", .type "str", true, rfl, .ty _, .base (.str a), kit_ty (by decide +kernel), true, rfl, iteT ?_⟩
      refine ⟨_, rfl, a, rfl, hz, 1, _, rfl, rfl, _, rfl, ?_⟩
      by_cases h1 : 1 ≤ a.length
      · refine ite_T (decide_eq_true (by omega)) ?_
        refine ⟨_, 8, rfl, rfl, _, rfl, ?_⟩
        by_cases h8 : a.length ≤ 8
        · refine ite_T (decide_eq_true (by omega)) ?_
          have e0 : wordF a = ((Txt.isascii a && (Txt.isalpha a && Txt.islower a)) && !keptW.contains a) := by
            rw [low_word a h1]
            unfold wordF
            rw [decide_eq_true h1, decide_eq_true h8]
            rfl
          rw [e0] at q
          refine ⟨_, rfl, rfl, a, rfl, rfl, trivial, _, rfl, ?_⟩
          cases c1 : Txt.isascii a
          · rw [c1] at q
            exact iteF q
          refine iteT ⟨_, rfl, rfl, a, rfl, rfl, trivial, _, rfl, ?_⟩
          cases c2 : Txt.isalpha a
          · rw [c1, c2] at q
            exact iteF q
          refine iteT ⟨_, rfl, rfl, a, rfl, rfl, trivial, _, rfl, ?_⟩
          cases c3 : Txt.islower a
          · rw [c1, c2, c3] at q
            exact iteF q
          refine iteT ⟨_, rfl, aw, _, rfl, .inr (hsw H), rfl, flat_kept _, ?_⟩
          rw [c1, c2, c3] at q
          show Q (.bl (!inV _ _)) H
          rw [inV_kept]
          exact q
        · refine ite_F (decide_eq_false (by omega)) ?_
          have e0 : wordF a = false := by
            unfold wordF
            rw [decide_eq_false h8, Bool.and_false]
            rfl
          rw [e0] at q
          exact q
      · refine ite_F (decide_eq_false (by omega)) ?_
        have e0 : wordF a = false := by
          unfold wordF
          rw [decide_eq_false h1]
          rfl
        rw [e0] at q
        exact ⟨false, rfl, iteF q⟩
    · refine ⟨_, rfl, x, .ty "str", t, .type "str", false, rfl, .ty _, ty, ki, false, rfl, iteF ?_⟩
      exact q
/-! ### _law_digit -/
def spDigit (K : PySem.W.Frag) : Sp := fun vs H Q _ => ∃ (t : Addr) (n m : Int), vs = [.ref t, .int m] ∧ H t = some (.lst [.int n]) ∧ 0 < m ∧ m < 2 ^ 62 ∧ Q (.int (n % m)) (upd H t (.lst [.int (n / m)]))
abbrev sDigit : Stmt := topS 7
theorem scDigit : FnScope ["tape", "many", "found"] ["tape", "many"] (defScope sDigit) := ⟨rfl, rfl, rfl, by decide +kernel, rfl, by decide +kernel, by decide +kernel⟩
theorem ok_digit {f : Addr} {fd : FuncData} (F : Fun K "_law_digit" "_law_digit" sDigit f fd) : FnOk P w K mg base CX0 1 f fd ["tape", "many"] (spDigit K) := by
  refine F.ok scDigit (fun vs H Q E h => ?_) (fun cdv A outer s H vs Q E hr h => ?_)
  · obtain ⟨t, n, m, rfl, _⟩ := h
    rfl
  · obtain ⟨t, n, m, rfl, ht, h0, h1, q⟩ := h
    refine ⟨_, (pss_cons (ps_set (i := 2) scDigit.nd rfl (Or.inl rfl) (pe_op op_mod (pe_ix ix_list (pv 0) pe_int (fun _ _ => rfl)) (pv 1)))
      (pss_cons (ps_asg (pe_op op_fdivW (pe_ix ix_list (pv 0) pe_int (fun _ _ => rfl)) (pv 1)) (pg_sub (pv 0) pe_int set_list))
      (pss_one (ps_ret (pv 2))))), ?_⟩
    have hS : SqL K H t [.int n] := .inl (.inl ht)
    refine ⟨_, rfl, t, [.int n], 0, .int n, rfl, rfl, hS, atI_nat (j := 0) rfl, _, rfl, n, m, rfl, rfl, h0, ?_⟩
    refine ⟨_, rfl, t, [.int n], 0, .int n, rfl, rfl, hS, atI_nat (j := 0) rfl, _, rfl, n, m, rfl, rfl, wide_div (b := 62) h0 (by omega) (by decide) (by decide), ?_⟩
    refine ⟨_, rfl, t, [.int n], 0, 0, rfl, rfl, ht, rfl, ?_⟩
    exact ⟨_, rfl, q⟩
/-! ### _law_cell_at -/
def cellF (ns : List Int) (k : Nat) : Int := ns.getD k 0
def spCell (K : PySem.W.Frag) : Sp := fun vs H Q _ => ∃ (a : Addr) (ns : List Int) (k : Nat), vs = [.ref a, .int (k : Int)] ∧ SqL K H a (ns.map V.int) ∧ k < 1000 ∧ Q (.int (cellF ns k)) H
abbrev sCell : Stmt := topS 5
theorem scCell : FnScope ["script", "k"] ["script", "k"] (defScope sCell) := ⟨rfl, rfl, rfl, by decide +kernel, rfl, by decide +kernel, by decide +kernel⟩
theorem ok_cell {f : Addr} {fd : FuncData} (F : Fun K "_law_cell_at" "_law_cell_at" sCell f fd) (T : Txt K mg) : FnOk P w K mg base CX0 1 f fd ["script", "k"] (spCell K) := by
  refine F.ok scCell (fun vs H Q E h => ?_) (fun cdv A outer s H vs Q E hr h => ?_)
  · obtain ⟨a, ns, k, rfl, _⟩ := h
    rfl
  · obtain ⟨a, ns, k, rfl, hS, hk, q⟩ := h
    refine ⟨_, (pss_cons (ps_if (pt_cmpR op_lt (pv 1) (pe_callB call_len_seq (by rfl) T.n_len (by decide +kernel) (pa_cons (pv 0) pa_nil)) (nomark _)) (pss_one (ps_ret (pe_ix ix_list (pv 0) (pv 1) (fun _ _ => rfl)))) pss_nil)
      (pss_one (ps_ret pe_int))), ?_⟩
    refine ⟨_, rfl, _, rfl, a, ns.map V.int, rfl, .inl hS, _, _, rfl, rfl, _, rfl, ?_⟩
    rw [List.length_map]
    by_cases h : k < ns.length
    · refine ite_T (decide_eq_true (by omega)) ?_
      refine ⟨_, rfl, _, rfl, a, ns.map V.int, k, .int (cellF ns k), rfl, rfl, hS, atI_nat ?_, q⟩
      unfold cellF
      rw [List.getElem?_map, List.getD_eq_getElem?_getD, List.getElem?_eq_getElem h]
      rfl
    · refine ite_F (decide_eq_false (by omega)) ?_
      have e : cellF ns k = 0 := by
        unfold cellF
        rw [List.getD_eq_getElem?_getD, List.getElem?_eq_none (by omega)]
        rfl
      rw [e] at q
      exact q
end
end SP

namespace SP
open PySem PySem.Spec PyProof.Rows L2
theorem same_upd {H : Hp} {p : Addr} {o : HO} (h : H p = none) : Same H (upd H p o) := fun b x e => by
  rw [upd_ne (ne_of_none e h)]
  exact e
theorem seven {x : Int} (h0 : 0 ≤ x) (h : x < 7) (xs : List V) (hl : xs.length = 7) : ∃ v, atI xs x = some v ∧ v ∈ xs := by
  obtain ⟨n, rfl⟩ := Int.eq_ofNat_of_zero_le h0
  have hn : n < xs.length := by omega
  exact ⟨xs[n], atI_nat (List.getElem?_eq_getElem hn), List.getElem_mem hn⟩
section
variable {P : Program} {w : World} {K : PySem.W.Frag} {mg : Str → Option Value} {base : Heap}
def spTape (K : PySem.W.Frag) : Sp := fun vs H Q _ => ∃ (a : Addr) (ns : List Int) (k : Nat), vs = [.ref a, .int (k : Int)] ∧ SqL K H a (ns.map V.int) ∧ k < 1000 ∧
  ∀ (H' : Hp) (t : Addr) (n : Int), Same H H' → H t = none → H' t = some (.lst [.int n]) → Q (.ref t) H'
abbrev sTape : Stmt := topS 6
theorem scTape : FnScope ["script","k","cell","p","one","found","turn"] ["script", "k"] (defScope sTape) := ⟨rfl, rfl, rfl, by decide +kernel, rfl, by decide +kernel, by decide +kernel⟩
def primes : List V := [.int 2147483647, .int 998244353, .int 1000000007, .int 1000003, .int 10000000019, .int 67280421310721, .int 1000000000039]
theorem primes_in : ∀ v ∈ primes, ∃ p : Int, v = .int p ∧ 0 < p ∧ p < 2 ^ 62 := by
  intro v hv
  simp only [primes, List.mem_cons, List.not_mem_nil, or_false] at hv
  rcases hv with rfl | rfl | rfl | rfl | rfl | rfl | rfl <;> exact ⟨_, rfl, by decide, by decide⟩
theorem ok_tape {f : Addr} {fd : FuncData} (F : Fun K "_law_tape" "_law_tape" sTape f fd) (T : Txt K mg) (C_law_cell_at : Callee P w K mg base "_law_cell_at" ["script", "k"] 1 (spCell K)) : FnOk P w K mg base CX0 2 f fd ["script", "k"] (spTape K) := by
  refine F.ok scTape (fun vs H Q E h => ?_) (fun cdv A outer s H vs Q E hr h => ?_)
  · obtain ⟨a, ns, k, rfl, _⟩ := h
    rfl
  · obtain ⟨a, ns, k, rfl, hS, hk, q⟩ := h
    refine ⟨_, (pss_cons (ps_set (i := 2) scTape.nd rfl (Or.inl rfl) (pe_fn C_law_cell_at hr (by rfl) (pa_cons (pv 0) (pa_cons (pv 1) pa_nil))))
      (pss_cons (ps_if (pt_cmpR op_eq (pv 2) pe_int (nomark _)) (pss_one (ps_ret (pe_lst (pa_cons pe_int pa_nil)))) pss_nil)
      (pss_cons (ps_if (pt_cmpR op_ge (pv 2) (pe_op op_pow pe_int pe_int) (nomark _)) (pss_one (ps_ret (pe_lst (pa_cons (pe_op op_sub (pv 2) (pe_op op_pow pe_int pe_int)) pa_nil)))) pss_nil)
      (pss_cons (ps_set (i := 3) scTape.nd rfl (Or.inl rfl) (pe_ix ix_list (pe_lst (pa_cons pe_int (pa_cons pe_int (pa_cons pe_int (pa_cons pe_int (pa_cons pe_int (pa_cons pe_int (pa_cons pe_int pa_nil)))))))) (pe_op op_mod (pv 1) pe_int) (fun _ _ => rfl)))
      (pss_cons (ps_set (i := 4) scTape.nd rfl (Or.inl rfl) (pe_op op_mod (pe_op op_pow (pe_op op_mul (pe_op op_add (pe_op op_mod (pe_callB call_abs (by rfl) T.n_abs (by decide +kernel) (pa_cons (pv 2) pa_nil)) pe_int) pe_int) (pe_op op_add (pe_op op_mul pe_int (pv 1)) pe_int)) pe_int) (pv 3)))
      (pss_cons (ps_set (i := 5) scTape.nd rfl (Or.inl rfl) (pv 4))
      (pss_cons (ps_for PassesOwn.never rfl (pi_range1 rfl T.n_range (pa_cons pe_int pa_nil)) (pg_name (i := 6) scTape.nd rfl (Or.inl rfl))
      (pss_cons (ps_set (i := 4) scTape.nd rfl (Or.inl rfl) (pe_op op_mod (pe_op op_add (pe_op op_add (pe_op op_mul (pv 4) (pv 4)) (pe_op op_mul (pe_op op_mul pe_int (pe_op op_add (pv 6) pe_int)) (pe_op op_add (pv 1) pe_int))) (pv 2)) pe_int))
      (pss_one (ps_set (i := 5) scTape.nd rfl (Or.inl rfl) (pe_op op_add (pe_op op_mul (pv 5) pe_int) (pv 4))))))
      (pss_one (ps_ret (pe_lst (pa_cons (pv 5) pa_nil))))))))))), ?_⟩
    -- cell = _law_cell_at(script, k)
    refine ⟨_, rfl, _, rfl, a, ns, k, rfl, hS, hk, ?_⟩
    generalize cellF ns k = cell
    -- if cell == 0
    refine ⟨_, rfl, rfl, _, rfl, ?_⟩
    refine ite2 (fun _ => ⟨by show 1 ≤ sizeLine; decide, fun p hp => q _ p 0 (same_upd hp) hp upd_same⟩) (fun _ => ?_)
    -- if cell >= 10 ** 18
    refine ⟨_, rfl, _, _, rfl, rfl, ⟨by decide, by decide, by decide⟩, _, _, rfl, rfl, _, rfl, ?_⟩
    refine ite2 (fun _ => ⟨_, rfl, _, _, rfl, rfl, ⟨by decide, by decide, by decide⟩, _, _, rfl, rfl, by show 1 ≤ sizeLine; decide, fun p hp => q _ p _ (same_upd hp) hp upd_same⟩) (fun _ => ?_)
    -- p
    refine ⟨by show 7 ≤ sizeLine; decide, fun l hl => ?_⟩
    obtain ⟨v, hv, hm⟩ := seven (x := (k : Int) % 7) (by omega) (by omega) primes rfl
    obtain ⟨p, rfl, hp0, hp1⟩ := primes_in v hm
    refine ⟨_, rfl, _, _, rfl, rfl, by show (0 : Int) < 7; decide, l, primes, (k : Int) % 7, .int p, rfl, rfl, .inl (.inl upd_same), hv, ?_⟩
    -- one
    have habs : 0 ≤ (if cell < 0 then -cell else cell) % 1000000009 ∧ (if cell < 0 then -cell else cell) % 1000000009 < 1000000009 := by omega
    generalize hx : (if cell < 0 then -cell else cell) % 1000000009 = x at habs
    refine ⟨_, rfl, cell, rfl, _, _, rfl, rfl, by show (0 : Int) < 1000000009; decide, _, _, rfl, rfl, _, rfl, _, _, rfl, rfl, .inl ⟨by decide, by decide⟩, _, _, rfl, rfl, _, _, rfl, rfl, .inl ?_, _, _, rfl, rfl, ⟨by decide, by decide, ?_⟩, _, rfl, _, _, rfl, rfl, hp0, ?_⟩
    · omega
    · rw [hx]
      have h1 : (x + 1) * (2 * (k : Int) + 3) ≤ 1000000009 * 2003 := Int.mul_le_mul (by omega) (by omega) (by omega) (by omega)
      have h2 : 0 ≤ (x + 1) * (2 * (k : Int) + 3) := Int.mul_nonneg (by omega) (by omega)
      show ((x + 1) * (2 * (k : Int) + 3)).natAbs < 2 ^ 64
      generalize (x + 1) * (2 * (k : Int) + 3) = z at h1 h2
      omega
    have hb : ∀ z : Int, 0 ≤ z % p ∧ z % p < 2 ^ 62 := fun z => ⟨Int.emod_nonneg _ (by omega), Int.lt_trans (Int.emod_lt_of_pos _ hp0) hp1⟩
    -- found = one
    refine ⟨_, rfl, ?_⟩
    have s1 : Same H (upd H l (.lst primes)) := same_upd hl
    -- the loop
    refine ⟨24, rfl, by decide, by decide, for_range (n := 24) (fun i σ H3 => ∃ (one found : Int) (y : Option V), σ = [some (.ref a), some (.int k), some (.int cell), some (.int p), some (.int one), some (.int found), y] ∧ 0 ≤ one ∧ one < 2 ^ 62 ∧ H3 = upd H l (.lst primes))
      ⟨_, _, none, rfl, (hb _).1, (hb _).2, rfl⟩ ?_ ?_⟩
    · rintro i σ H3 hi ⟨one, found, y, rfl, h0, h1, rfl⟩
      refine ⟨_, rfl, _, rfl, _, _, rfl, rfl, .inl ⟨by omega, by omega⟩, _, rfl, _, _, rfl, rfl, _, _, rfl, rfl, .inl ⟨by decide, by decide⟩, _, rfl, _, _, rfl, rfl, _, _, rfl, rfl, .inl ⟨by omega, by omega⟩, _, _, rfl, rfl, _, rfl, _, _, rfl, rfl, _, _, rfl, rfl, by show (0 : Int) < 2305843009213693951; decide, ?_⟩
      refine ⟨_, rfl, _, _, rfl, rfl, .inr ⟨by decide, by decide⟩, _, rfl, _, _, rfl, rfl, ?_⟩
      exact ⟨_, _, some (.int (0 + (i : Int))), rfl, Int.emod_nonneg _ (by decide), Int.lt_trans (Int.emod_lt_of_pos _ (by decide)) (by decide), rfl⟩
    · rintro σ H3 ⟨one, found, y, rfl, h0, h1, rfl⟩
      refine ⟨_, rfl, by show 1 ≤ sizeLine; decide, fun t ht => ?_⟩
      exact q _ t found (s1.trans (same_upd ht)) (s1.free ht) upd_same
end
end SP

namespace SP
open PySem PySem.Spec PyProof.Rows L2
theorem lcYes {A B : Hp → Prop} {σ : L2.St} {H : Hp} (h : A H) : tYes σ H (fun b H3 => if b = true then A H3 else B H3) := by
  show if true = true then A H else B H
  rw [if_pos rfl]
  exact h
section
variable {P : Program} {w : World} {K : PySem.W.Frag} {mg : Str → Option Value} {base : Heap}
def spDue (K : PySem.W.Frag) : Sp := fun vs H Q _ => ∃ a : Str, vs = [.str a] ∧ a.length ≤ sizeLine ∧ ∀ H', Same H H' → Q (.bl (wordF a)) H'
abbrev sDue : Stmt := topS 8
theorem scDue : FnScope ["text", "kept", "sign"] ["text"] (defScope sDue) := ⟨rfl, rfl, rfl, by decide +kernel, rfl, by decide +kernel, by decide +kernel⟩
theorem ok_due {f : Addr} {fd : FuncData} (F : Fun K "_law_due" "_law_due" sDue f fd) (T : Txt K mg) : FnOk P w K mg base CX0 1 f fd ["text"] (spDue K) := by
  refine F.ok scDue (fun vs H Q E h => ?_) (fun cdv A outer s H vs Q E hr h => ?_)
  · obtain ⟨a, rfl, _⟩ := h
    rfl
  · obtain ⟨a, rfl, hz, q⟩ := h
    refine ⟨_, (pss_cons (ps_set (i := 1) scDue.nd rfl (Or.inl rfl) (pe_tup (pa_cons pe_str (pa_cons pe_str (pa_cons pe_str (pa_cons pe_str (pa_cons pe_str (pa_cons pe_str (pa_cons pe_str (pa_cons pe_str (pa_cons pe_str (pa_cons pe_str pa_nil))))))))))))
      (pss_cons (ps_if (PW.pt (pw_or (pt_cmpR op_in_seq (pv 0) (pv 1) rfl) (pw_or1 (pt_not (pt_chain op_le op_le pe_int (pe_callB call_len_str (by rfl) T.n_len (by decide +kernel) (pa_cons (pv 0) pa_nil)) pe_int))))) (pss_one (ps_ret pe_bl)) pss_nil)
      (pss_one (ps_ret (pe_callB (cr_all rfl) (by rfl) T.n_all (by decide +kernel) (pa_cons (pe_lc (own := [("sign", 2)]) (g := gName 2) (tt := tYes) rfl scDue.nd (pi_str (pv 0)) (blkOk_by (own := [("sign", 2)]) (N := ["text", "kept", "sign"]) (sc := defScope sDue) (by decide +kernel)) (fun _ _ _ _ _ => (pg_name (i := 2) scDue.nd rfl (Or.inl rfl))) (fun _ _ _ _ _ => pts_nil) (fun _ _ _ _ _ => (pe_cmpR op_in_sign (pv 2) pe_str rfl))) pa_nil)))))), ?_⟩
    refine ⟨by show 10 ≤ sizeLine; decide, fun p hp => ?_⟩
    have s1 : Same H (upd H p (.tup (keptW.map V.str))) := same_upd hp
    refine ⟨_, rfl, _, rfl, p, keptW.map V.str, rfl, .inr (.inl (.inl upd_same)), rfl, flat_kept _, _, rfl, ?_⟩
    show if inV _ _ = true then _ else _
    rw [inV_kept]
    cases hk : keptW.contains a
    · refine iteF ?_
      refine ⟨_, rfl, a, rfl, hz, 1, _, rfl, rfl, _, rfl, ?_⟩
      by_cases h1 : 1 ≤ a.length
      · refine ite_T (decide_eq_true (by omega)) ?_
        refine ⟨_, 8, rfl, rfl, ?_⟩
        by_cases h8 : a.length ≤ 8
        · have e1 : decide ((a.length : Int) ≤ 8) = true := decide_eq_true (by omega)
          refine ⟨_, rfl, ?_⟩
          show if (!decide ((a.length : Int) ≤ 8)) = true then _ else _
          rw [e1]
          refine iteF ?_
          refine ⟨_, rfl, a, rfl, fun D hD => lc_it walk_str (fun i H' => H' = upd (upd H p (.tup (keptW.map V.str))) D (.lst ((a.cps.toList.take i).map fun c => V.bl (lowC c)))) rfl (fun _ _ _ _ => trivial) ?_ ?_⟩
          · rintro i x _ _ hi rfl ⟨rfl, c, hc, rfl⟩
            have hc' : a.cps.toList[i]? = some c := by simpa using hc
            refine ⟨rfl, ?_⟩
            refine lcYes ?_
            refine ⟨_, rfl, c, _, rfl, rfl, _, upd_same, ?_, ?_⟩
            · rw [List.length_map, List.length_take]
              exact small1000 (by have : a.cps.toList.length ≤ 8 := h8; omega)
            · rw [upd_upd, abc_low, List.take_add_one, hc', List.map_append]
              rfl
          · rintro _ rfl
            refine ⟨D, a.cps.toList.map lowC, rfl, .inl (.inl ?_), ?_⟩
            · rw [upd_same, show a.cps.toList.take a.cps.size = a.cps.toList from List.take_of_length_le (Nat.le_refl _), List.map_map]
              rfl
            · have e : wordF a = (a.cps.toList.map lowC).all id := by
                unfold wordF
                rw [hk, decide_eq_true h1, decide_eq_true h8, List.all_map]
                simp
              rw [← e]
              exact q _ (s1.trans (same_upd hD))
        · have e1 : decide ((a.length : Int) ≤ 8) = false := decide_eq_false (by omega)
          refine ⟨_, rfl, ?_⟩
          show if (!decide ((a.length : Int) ≤ 8)) = true then _ else _
          rw [e1]
          refine iteT ?_
          have e : wordF a = false := by
            unfold wordF
            rw [decide_eq_false h8, Bool.and_false]
            rfl
          rw [e] at q
          exact q _ s1
      · refine ite_F (decide_eq_false (by omega)) ?_
        refine ⟨_, rfl, iteT ?_⟩
        have e : wordF a = false := by
          unfold wordF
          rw [decide_eq_false h1]
          rfl
        rw [e] at q
        exact q _ s1
    · refine iteT ?_
      have e : wordF a = false := by
        unfold wordF
        rw [hk]
        simp
      rw [e] at q
      exact q _ s1
/-! ### _law_right -/
def spRight (K : PySem.W.Frag) : Sp := fun vs H Q _ => ∃ a : Str, vs = [.str a] ∧ a.length ≤ sizeLine ∧ ∀ H', Same H H' → Q (.bl true) H'
abbrev sRight : Stmt := topS 9
theorem scRight : FnScope ["text", "found"] ["text"] (defScope sRight) := ⟨rfl, rfl, rfl, by decide +kernel, rfl, by decide +kernel, by decide +kernel⟩
theorem ok_right {f : Addr} {fd : FuncData} (F : Fun K "_law_right" "_law_right" sRight f fd) (T : Txt K mg) (C_is_word : Callee P w K mg base "is_word" ["thing"] 1 (spIs K)) (C_law_due : Callee P w K mg base "_law_due" ["text"] 1 (spDue K)) : FnOk P w K mg base CX0 2 f fd ["text"] (spRight K) := by
  refine F.ok scRight (fun vs H Q E h => ?_) (fun cdv A outer s H vs Q E hr h => ?_)
  · obtain ⟨a, rfl, _⟩ := h
    rfl
  · obtain ⟨a, rfl, hz, q⟩ := h
    refine ⟨_, (pss_cons (ps_set (i := 1) scRight.nd rfl (Or.inl rfl) (pe_fn C_is_word hr (by rfl) (pa_cons (pv 0) pa_nil)))
      (pss_one (ps_ret (pe_and (pe_callB call_isi (by rfl) T.n_isinstance (by decide +kernel) (pa_cons (pv 1) (pa_cons (pe_bltn (v := .ty "bool") (by rfl) T.n_bool (by decide +kernel) rfl) pa_nil))) (pe_one (pe_cmpR op_eq (pv 1) (pe_fn C_law_due hr (by rfl) (pa_cons (pv 0) pa_nil)) (nomark _))))))), ?_⟩
    refine ⟨_, rfl, .str a, rfl, .inl ⟨a, rfl, hz, ?_⟩⟩
    refine ⟨_, rfl, .bl (wordF a), .ty "bool", .type "bool", .type "bool", true, rfl, .ty _, .base (.bl _), kit_ty (by decide +kernel), true, rfl, iteT ?_⟩
    refine ⟨_, rfl, _, rfl, a, rfl, hz, fun H' s' => ⟨rfl, ?_⟩⟩
    rw [decide_eq_true rfl]
    exact q H' s'
end
end SP

namespace SP
open PySem PySem.Spec PyProof.Rows L2
def wordS (c n : Nat) : Str := repS ⟨#[c]⟩ n
def signD (x : Str) : List PyData := x.cps.toList.map fun c => PyData.str ⟨#[c]⟩
/-- the things that are no texts, as data -/
def dataOf (w : Str) : List PyData :=
  [.none, .int 7, .int 0, .bool true, .bool false, .int (-1), .int (10 ^ 40), .tuple [], .list [], .dict [], .tuple [.str w], .list [.str w], .tuple [.str w, .str w], .list [.str w, .str w],
   .dict [(.str w, .int 1)], .tuple [.str "be"], .list (List.replicate 9 (.str "x")), .tuple [.str "a", .str "B"], .list [.list [.str w]], .tuple [.none], .dict [(.str "let", .str "x")],
   .tuple (signD (w ++ "abc")), .list (signD (w ++ "abc"))]
theorem shows_all : ∀ i, i < 26 → ∀ j, j < 3 → ((dataOf (wordS (97 + i) (1 + j))).all shows && decide ((wordS (97 + i) (1 + j)).length ≤ 3)) = true := by decide +kernel
end SP

namespace SP
open PySem PySem.Spec PyProof.Rows L2
section
variable {K : PySem.W.Frag} {H H' : Hp}
theorem Same.seqT {a : Addr} {xs : List V} (e : Same H H') (h : SqT K H a xs) : SqT K H' a xs := by
  rcases h with (h | ⟨o, h⟩) | h
  · exact .inl (.inl (e _ _ h))
  · exact .inl (.inr ⟨o, e _ _ h⟩)
  · exact .inr h
mutual
theorem dp_mono (s : Same H H') : ∀ {v : V} {d : PyData}, Dp K H v d → Dp K H' v d
  | _, _, .non => .non
  | _, _, .bl b => .bl b
  | _, _, .int i => .int i
  | _, _, .str x => .str x
  | _, _, .lst h a => .lst (Same.seq s h) (dpAll_mono s a)
  | _, _, .tup h a => .tup (Same.seqT s h) (dpAll_mono s a)
theorem dpAll_mono (s : Same H H') : ∀ {vs : List V} {ds : List PyData}, DpAll K H vs ds → DpAll K H' vs ds
  | _, _, .nil => .nil
  | _, _, .cons h t => .cons (dp_mono s h) (dpAll_mono s t)
end
theorem Dq.mono (s : Same H H') {v : V} {d : PyData} (h : Dq K H v d) : Dq K H' v d := by
  cases h with
  | dp h e => exact .dp (dp_mono s h) e
  | dct h e => exact .dct (s _ _ h) e
def NoT (H : Hp) (x : V) : Prop := x = .non ∨ (∃ b, x = .bl b) ∨ (∃ i, x = .int i) ∨ ∃ a, x = .ref a ∧ ((∃ xs, H a = some (.lst xs)) ∨ (∃ xs, H a = some (.tup xs)) ∨ ∃ kvs, H a = some (.dK kvs))
theorem NoT.mono (s : Same H H') {x : V} (h : NoT H x) : NoT H' x := by
  rcases h with h | h | h | ⟨a, e, ⟨xs, h⟩ | ⟨xs, h⟩ | ⟨xs, h⟩⟩
  · exact .inl h
  · exact .inr (.inl h)
  · exact .inr (.inr (.inl h))
  · exact .inr (.inr (.inr ⟨a, e, .inl ⟨xs, s _ _ h⟩⟩))
  · exact .inr (.inr (.inr ⟨a, e, .inr (.inl ⟨xs, s _ _ h⟩)⟩))
  · exact .inr (.inr (.inr ⟨a, e, .inr (.inr ⟨xs, s _ _ h⟩)⟩))
theorem NoT.noText {x : V} (h : NoT H x) : NoText K H x := by
  rcases h with rfl | ⟨b, rfl⟩ | ⟨i, rfl⟩ | ⟨a, rfl, ⟨xs, h⟩ | ⟨xs, h⟩ | ⟨xs, h⟩⟩
  · exact ⟨_, .base .non, kit_ty (by decide +kernel)⟩
  · exact ⟨_, .base (.bl b), kit_ty (by decide +kernel)⟩
  · exact ⟨_, .base (.int i), kit_ty (by decide +kernel)⟩
  · exact ⟨_, .base (.lst h), kit_ty (by decide +kernel)⟩
  · exact ⟨_, .base (.tup h), kit_ty (by decide +kernel)⟩
  · exact ⟨_, .base (.dK h), kit_ty (by decide +kernel)⟩
/-- things that stand for data and are no texts -/
def Items (K : PySem.W.Frag) (H : Hp) (xs : List V) (ds : List PyData) : Prop := Paired (fun x d => Dq K H x d ∧ NoT H x) xs ds
theorem Items.mono (s : Same H H') {xs : List V} {ds : List PyData} (h : Items K H xs ds) : Items K H' xs ds := Paired.mapP h fun _ _ q => ⟨q.1.mono s, q.2.mono s⟩
theorem Items.snoc {xs : List V} {ds : List PyData} {x : V} {d : PyData} (h : Items K H xs ds) (hx : Dq K H x d) (hn : NoT H x) : Items K H (xs ++ [x]) (ds ++ [d]) := by
  induction h with
  | nil => exact .cons ⟨hx, hn⟩ .nil
  | cons a _ ih => exact .cons a ih
theorem Items.get {xs : List V} {ds : List PyData} (h : Items K H xs ds) : ∀ {i : Nat} {x : V}, xs[i]? = some x → ∃ d, d ∈ ds ∧ Dq K H x d ∧ NoT H x := by
  induction h with
  | nil => intro i x e; simp at e
  | cons a _ ih =>
    intro i x e
    cases i with
    | zero =>
      simp at e
      subst e
      exact ⟨_, List.mem_cons_self, a⟩
    | succ i =>
      obtain ⟨d, h1, h2⟩ := ih (by simpa using e)
      exact ⟨d, List.mem_cons_of_mem _ h1, h2⟩
theorem dpAll_signs (cs : List Nat) : DpAll K H (cs.map fun c => V.str ⟨#[c]⟩) (cs.map fun c => PyData.str ⟨#[c]⟩) := by
  induction cs with
  | nil => exact .nil
  | cons c cs ih => exact .cons (.str _) ih
theorem hasD_signs (cs : List Nat) : PyData.hasDictAll (cs.map fun c => PyData.str ⟨#[c]⟩) = false := by
  induction cs with
  | nil => rfl
  | cons c cs ih =>
    show (PyData.hasDict (.str _) || _) = false
    rw [show PyData.hasDictAll (List.map (fun c => PyData.str ⟨#[c]⟩) cs) = false from ih]
    rfl
end
section
variable {P : Program} {w : World} {K : PySem.W.Frag} {mg : Str → Option Value} {base : Heap}
def spNo (K : PySem.W.Frag) : Sp := fun vs H Q _ => ∃ (t : Addr) (n : Int), vs = [.ref t] ∧ H t = some (.lst [.int n]) ∧
  ∀ (H' : Hp) (l : Addr) (xs : List V) (ds : List PyData) (n' : Int), (∀ b o, b ≠ t → H b = some o → H' b = some o) → H' t = some (.lst [.int n']) → H l = none → H' l = some (.lst xs) → Items K H' xs ds → ds.all shows = true → Q (.ref l) H'
abbrev sNo : Stmt := topS 10
theorem scNo : FnScope ["tape","letters","word","some"] ["tape"] (defScope sNo) := ⟨rfl, rfl, rfl, by decide +kernel, rfl, by decide +kernel, by decide +kernel⟩
/-- where the making of the things stands: what was there, the tape, what is new, the things made -/
structure Go (K : PySem.W.Frag) (H : Hp) (t : Addr) (n : Int) (Hc : Hp) (xs : List V) (ds : List PyData) : Prop where
  old : ∀ b o, b ≠ t → H b = some o → Hc b = some o
  tp : Hc t = some (.lst [.int n])
  new : ∀ l, Hc l = none → H l = none
  its : Items K Hc xs ds
theorem Go.skip {H Hc : Hp} {t p : Addr} {n : Int} {xs : List V} {ds : List PyData} (g : Go K H t n Hc xs ds) (hp : Hc p = none) (o : HO) : Go K H t n (upd Hc p o) xs ds := by
  have s := same_upd (o := o) hp
  exact ⟨fun b u hb e => s _ _ (g.old b u hb e), s _ _ g.tp, fun l e => g.new l (s.free e), g.its.mono s⟩
theorem Go.snoc {H Hc : Hp} {t : Addr} {n : Int} {xs : List V} {ds : List PyData} {x : V} {d : PyData} (g : Go K H t n Hc xs ds) (h : Dq K Hc x d) (h' : NoT Hc x) : Go K H t n Hc (xs ++ [x]) (ds ++ [d]) := ⟨g.old, g.tp, g.new, g.its.snoc h h'⟩
theorem Go.tup {H Hc : Hp} {t p : Addr} {n : Int} {xs : List V} {ds : List PyData} (g : Go K H t n Hc xs ds) (hp : Hc p = none) {ys : List V} {es : List PyData} (a : DpAll K Hc ys es) (hd : PyData.hasDictAll es = false) : Go K H t n (upd Hc p (.tup ys)) (xs ++ [.ref p]) (ds ++ [.tuple es]) :=
  (g.skip hp _).snoc (.dp (.tup (.inl (.inl upd_same)) (dpAll_mono (same_upd hp) a)) hd) (.inr (.inr (.inr ⟨p, rfl, .inr (.inl ⟨_, upd_same⟩)⟩)))
theorem Go.lst {H Hc : Hp} {t p : Addr} {n : Int} {xs : List V} {ds : List PyData} (g : Go K H t n Hc xs ds) (hp : Hc p = none) {ys : List V} {es : List PyData} (a : DpAll K Hc ys es) (hd : PyData.hasDictAll es = false) : Go K H t n (upd Hc p (.lst ys)) (xs ++ [.ref p]) (ds ++ [.list es]) :=
  (g.skip hp _).snoc (.dp (.lst (.inl (.inl upd_same)) (dpAll_mono (same_upd hp) a)) hd) (.inr (.inr (.inr ⟨p, rfl, .inl ⟨_, upd_same⟩⟩)))
theorem Go.dct {H Hc : Hp} {t p : Addr} {n : Int} {xs : List V} {ds : List PyData} (g : Go K H t n Hc xs ds) (hp : Hc p = none) {kvs : List (Key × V)} {es : List (PyData × PyData)} (a : Paired (fun (p : Key × V) (q : PyData × PyData) => q.1 = keyD p.1 ∧ flatD p.2 = some q.2) kvs es) : Go K H t n (upd Hc p (.dK kvs)) (xs ++ [.ref p]) (ds ++ [.dict es]) :=
  (g.skip hp _).snoc (.dct upd_same a) (.inr (.inr (.inr ⟨p, rfl, .inr (.inr ⟨_, upd_same⟩)⟩)))
theorem abc_at : ∀ i, i < 26 → ("abcdefghijklmnopqrstuvwxyz" : Str).cps[i]? = some (97 + i) := by decide +kernel
theorem ok_no {f : Addr} {fd : FuncData} (F : Fun K "_law_no_texts" "_law_no_texts" sNo f fd) (T : Txt K mg) (C_law_digit : Callee P w K mg base "_law_digit" ["tape", "many"] 1 (spDigit K)) : FnOk P w K mg base CX0 2 f fd ["tape"] (spNo K) := by
  refine F.ok scNo (fun vs H Q E h => ?_) (fun cdv A outer s H vs Q E hr h => ?_)
  · obtain ⟨t, n, rfl, _⟩ := h
    rfl
  · obtain ⟨t, n, rfl, ht, q⟩ := h
    refine ⟨_, (pss_cons (ps_set (i := 1) scNo.nd rfl (Or.inl rfl) pe_str)
      (pss_cons (ps_set (i := 2) scNo.nd rfl (Or.inl rfl) (pe_op op_rep_str (pe_item_str (pv 1) (pe_fn C_law_digit hr (by rfl) (pa_cons (pv 0) (pa_cons pe_int pa_nil))) (fun _ _ => rfl)) (pe_op op_add pe_int (pe_fn C_law_digit hr (by rfl) (pa_cons (pv 0) (pa_cons pe_int pa_nil))))))
      (pss_cons (ps_set (i := 3) scNo.nd rfl (Or.inl rfl) (pe_lst (pa_cons pe_non (pa_cons pe_int (pa_cons pe_int (pa_cons pe_bl (pa_cons pe_bl (pa_cons (pe_un un_neg pe_int) (pa_cons (pe_op op_pow pe_int pe_int) (pa_cons (pe_tup pa_nil) (pa_cons (pe_lst pa_nil) (pa_cons pe_dnewK (pa_cons (pe_tup (pa_cons (pv 2) pa_nil)) (pa_cons (pe_lst (pa_cons (pv 2) pa_nil)) (pa_cons (pe_tup (pa_cons (pv 2) (pa_cons (pv 2) pa_nil))) (pa_cons (pe_lst (pa_cons (pv 2) (pa_cons (pv 2) pa_nil))) pa_nil))))))))))))))))
      (pss_cons (ps_set (i := 3) scNo.nd rfl (Or.inl rfl) (pe_op op_cat (pv 3) (pe_lst (pa_cons (pe_disp (pps_cons (pv 2) pe_int pps_nil) (by rfl) (by rfl) (fun z => by cases z) (by decide)) (pa_cons (pe_tup (pa_cons pe_str pa_nil)) (pa_cons (pe_op op_rep (pe_lst (pa_cons pe_str pa_nil)) pe_int) (pa_cons (pe_tup (pa_cons pe_str (pa_cons pe_str pa_nil))) (pa_cons (pe_lst (pa_cons (pe_lst (pa_cons (pv 2) pa_nil)) pa_nil)) (pa_cons (pe_tup (pa_cons pe_non pa_nil)) (pa_cons (pe_disp (pps_cons pe_str pe_str pps_nil) (by rfl) (by rfl) (fun z => by cases z) (by decide)) pa_nil))))))))))
      (pss_one (ps_ret (pe_op op_cat (pv 3) (pe_lst (pa_cons (pe_callTy (call_tuple_text rfl) (by rfl) T.n_tuple (by decide +kernel) (pa_cons (pe_op op_add_str (pv 2) pe_str) pa_nil)) (pa_cons (pe_callTy (call_list_text rfl) (by rfl) T.n_list (by decide +kernel) (pa_cons (pe_op op_add_str (pv 2) pe_str) pa_nil)) pa_nil)))))))))), ?_⟩
    -- word
    obtain ⟨i, hi, hi26⟩ : ∃ i : Nat, n % 26 = (i : Int) ∧ i < 26 := ⟨(n % 26).toNat, by omega, by omega⟩
    obtain ⟨j, hj, hj3⟩ : ∃ j : Nat, n / 26 % 3 = (j : Int) ∧ j < 3 := ⟨(n / 26 % 3).toNat, by omega, by omega⟩
    have hw := shows_all i hi26 j hj3
    rw [Bool.and_eq_true, decide_eq_true_eq] at hw
    obtain ⟨hsh, hlen⟩ := hw
    refine ⟨_, rfl, _, rfl, t, n, 26, rfl, ht, by decide, by decide, _, _, 97 + i, rfl, rfl, by omega, by omega, ?_, ?_, ?_⟩
    · rw [hi]
      show (i : Int) < 26
      omega
    · rw [hi, Int.toNat_natCast]
      exact abc_at i hi26
    refine ⟨_, rfl, t, n / 26, 3, rfl, upd_same, by decide, by decide, _, _, rfl, rfl, ⟨#[97 + i]⟩, 1 + j, rfl, ?_, by omega, by omega, Nat.le_refl 1, (by show 1 ≤ 1000; decide), ?_, ?_⟩
    · rw [hj]
      show V.int (1 + (j : Int)) = V.int ((1 + j : Nat) : Int)
      rw [Int.natCast_add]
      rfl
    · exact Nat.le_trans hlen (by decide)
    show tNext _ _ _
    change tNext _ (List.set _ 2 (some (.str (wordS (97 + i) (1 + j))))) _
    revert hsh hlen
    generalize wordS (97 + i) (1 + j) = word
    intro hsh hlen
    rw [upd_upd]
    have g0 : Go K H t (n / 26 / 3) (upd H t (.lst [.int (n / 26 / 3)])) [.non, .int 7, .int 0, .bl true, .bl false, .int (-1), .int (10 ^ (40 : Int).toNat)]
        [.none, .int 7, .int 0, .bool true, .bool false, .int (-1), .int (10 ^ 40)] := by
      refine ⟨fun b o hb e => ?_, upd_same, fun l e => ?_, ?_⟩
      · rw [upd_ne hb]
        exact e
      · by_cases hl : l = t
        · rw [hl, upd_same] at e
          cases e
        · rw [upd_ne hl] at e
          exact e
      · have ii : ∀ i : Int, NoT (upd H t (.lst [.int (n / 26 / 3)])) (.int i) := fun i => .inr (.inr (.inl ⟨i, rfl⟩))
        refine .cons ⟨.dp .non rfl, .inl rfl⟩ (.cons ⟨.dp (.int _) rfl, ii _⟩ (.cons ⟨.dp (.int _) rfl, ii _⟩ (.cons ⟨.dp (.bl _) rfl, .inr (.inl ⟨_, rfl⟩)⟩ (.cons ⟨.dp (.bl _) rfl, .inr (.inl ⟨_, rfl⟩)⟩ (.cons ⟨.dp (.int _) rfl, ii _⟩ (.cons ⟨.dp (.int _) rfl, ii _⟩ .nil))))))
    revert g0
    generalize upd H t (.lst [.int (n / 26 / 3)]) = H0
    intro g0
    have w1 : ∀ H : Hp, DpAll K H [.str word] [.str word] := fun _ => .cons (.str _) .nil
    have w2 : ∀ H : Hp, DpAll K H [.str word, .str word] [.str word, .str word] := fun _ => .cons (.str _) (.cons (.str _) .nil)
    refine ⟨_, rfl, _, _, rfl, rfl, ⟨by decide, by decide, by decide⟩, by show 0 ≤ sizeLine; decide, fun p1 h1 => ?_⟩
    have g1 := g0.tup h1 .nil rfl
    refine ⟨by show 0 ≤ sizeLine; decide, fun p2 h2 => ?_⟩
    have g2 := g1.lst h2 .nil rfl
    refine fun p3 h3 => ?_
    have g3 := g2.dct h3 .nil
    refine ⟨_, rfl, by show 1 ≤ sizeLine; decide, fun p4 h4 => ?_⟩
    have g4 := g3.tup h4 (w1 _) rfl
    refine ⟨_, rfl, by show 1 ≤ sizeLine; decide, fun p5 h5 => ?_⟩
    have g5 := g4.lst h5 (w1 _) rfl
    refine ⟨_, rfl, _, rfl, by show 2 ≤ sizeLine; decide, fun p6 h6 => ?_⟩
    have g6 := g5.tup h6 (w2 _) rfl
    refine ⟨_, rfl, _, rfl, by show 2 ≤ sizeLine; decide, fun p7 h7 => ?_⟩
    have g7 := g6.lst h7 (w2 _) rfl
    -- some
    refine ⟨by show 14 ≤ sizeLine; decide, fun l1 k1 => ?_⟩
    have g8 := g7.skip k1 (.lst [.non, .int 7, .int 0, .bl true, .bl false, .int (-1), .int (10 ^ (40 : Int).toNat), .ref p1, .ref p2, .ref p3, .ref p4, .ref p5, .ref p6, .ref p7])
    have m1 := upd_same (H := (upd (upd (upd (upd (upd (upd (upd H0 p1 (HO.tup [])) p2 (HO.lst [])) p3 (HO.dK [])) p4 (HO.tup [V.str word])) p5 (HO.lst [V.str word])) p6 (HO.tup [V.str word, V.str word])) p7 (HO.lst [V.str word, V.str word]))) (a := l1) (o := HO.lst [.non, .int 7, .int 0, .bl true, .bl false, .int (-1), .int (10 ^ (40 : Int).toNat), .ref p1, .ref p2, .ref p3, .ref p4, .ref p5, .ref p6, .ref p7])
    clear g0 g1 g2 g3 g4 g5 g6 g7
    change tNext _ (List.set _ 3 (some (V.ref l1))) (upd _ l1 (HO.lst [.non, .int 7, .int 0, .bl true, .bl false, .int (-1), .int (10 ^ (40 : Int).toNat), .ref p1, .ref p2, .ref p3, .ref p4, .ref p5, .ref p6, .ref p7]))
    generalize upd _ l1 _ = H1 at g8 m1 ⊢
    clear h1 h2 h3 h4 h5 h6 h7 k1 H0
    -- {word: 1}
    refine ⟨_, rfl, fun p8 h8 => ⟨_, rfl, upd_same, [(Sum.inr word, .int 1)], rfl, (by show 1 ≤ 15; decide), ?_⟩⟩
    rw [upd_upd, show mergeK [] [((Sum.inr word : Key), V.int 1)] = [(Sum.inr word, V.int 1)] from rfl]
    have g9 := g8.dct h8 (kvs := [(Sum.inr word, .int 1)]) (es := [(.str word, .int 1)]) (.cons ⟨rfl, rfl⟩ .nil)
    have m2 := same_upd (o := HO.dK [(Sum.inr word, .int 1)]) h8 _ _ m1
    clear g8 m1
    generalize upd H1 p8 _ = H2 at g9 m2 ⊢
    refine ⟨by show 1 ≤ sizeLine; decide, fun p9 h9 => ?_⟩
    have g10 := g9.tup h9 (ys := [.str "be"]) (.cons (.str _) .nil) rfl
    have m3 := same_upd (o := HO.tup [.str "be"]) h9 _ _ m2
    clear g9 m2
    generalize upd H2 p9 _ = H3 at g10 m3 ⊢
    -- ['x'] * 9
    refine ⟨by show 1 ≤ sizeLine; decide, fun q1 hq1 => ?_⟩
    refine ⟨q1, 9, [.str "x"], rfl, rfl, upd_same, by decide, by decide, by show 9 ≤ sizeLine; decide, fun q2 hq2 => ?_⟩
    have g11 := (g10.skip hq1 (.lst [.str "x"])).lst hq2 (ys := (List.replicate (9 : Int).toNat [V.str "x"]).flatten) (es := List.replicate 9 (.str "x")) (.cons (.str _) (.cons (.str _) (.cons (.str _) (.cons (.str _) (.cons (.str _) (.cons (.str _) (.cons (.str _) (.cons (.str _) (.cons (.str _) .nil))))))))) rfl
    have m4 := same_upd (o := HO.lst (List.replicate (9 : Int).toNat [V.str "x"]).flatten) hq2 _ _ (same_upd (o := HO.lst [.str "x"]) hq1 _ _ m3)
    clear g10 m3
    generalize upd (upd H3 q1 _) q2 _ = H4 at g11 m4 ⊢
    refine ⟨by show 2 ≤ sizeLine; decide, fun q3 hq3 => ?_⟩
    have g12 := g11.tup hq3 (ys := [.str "a", .str "B"]) (.cons (.str _) (.cons (.str _) .nil)) rfl
    have m5 := same_upd (o := HO.tup [.str "a", .str "B"]) hq3 _ _ m4
    clear g11 m4
    generalize upd H4 q3 _ = H5 at g12 m5 ⊢
    -- [[word]]
    refine ⟨_, rfl, by show 1 ≤ sizeLine; decide, fun q4 hq4 => ⟨by show 1 ≤ sizeLine; decide, fun q5 hq5 => ?_⟩⟩
    have g13 := (g12.skip hq4 (.lst [.str word])).lst hq5 (ys := [.ref q4]) (es := [.list [.str word]]) (.cons (.lst (.inl (.inl upd_same)) (w1 _)) .nil) rfl
    have m6 := same_upd (o := HO.lst [.ref q4]) hq5 _ _ (same_upd (o := HO.lst [.str word]) hq4 _ _ m5)
    clear g12 m5
    generalize upd (upd H5 q4 _) q5 _ = H6 at g13 m6 ⊢
    refine ⟨by show 1 ≤ sizeLine; decide, fun q6 hq6 => ?_⟩
    have g14 := g13.tup hq6 (ys := [.non]) (es := [.none]) (.cons .non .nil) rfl
    have m7 := same_upd (o := HO.tup [.non]) hq6 _ _ m6
    clear g13 m6
    generalize upd H6 q6 _ = H7 at g14 m7 ⊢
    refine fun q7 hq7 => ⟨upd_same, [(Sum.inr "let", .str "x")], rfl, by show 1 ≤ 15; decide, ?_⟩
    rw [upd_upd, show mergeK [] ([(Sum.inr "let", V.str "x")] : List (Key × V)) = ([(Sum.inr "let", V.str "x")] : List (Key × V)) from rfl]
    have g15 := g14.dct hq7 (kvs := [(Sum.inr "let", .str "x")]) (es := [(.str "let", .str "x")]) (.cons ⟨rfl, rfl⟩ .nil)
    have m8 := same_upd (o := HO.dK [(Sum.inr "let", .str "x")]) hq7 _ _ m7
    clear g14 m7
    generalize upd H7 q7 _ = H8 at g15 m8 ⊢
    refine ⟨by show 7 ≤ sizeLine; decide, fun l2 hl2 => ?_⟩
    refine ⟨l1, l2, _, _, rfl, rfl, same_upd hl2 _ _ m8, upd_same, by show 21 ≤ sizeLine; decide, fun l3 hl3 => ?_⟩
    have g16 := (g15.skip hl2 (.lst [.ref p8, .ref p9, .ref q2, .ref q3, .ref q5, .ref q6, .ref q7])).skip hl3 (.lst ([.non, .int 7, .int 0, .bl true, .bl false, .int (-1), .int (10 ^ (40 : Int).toNat), .ref p1, .ref p2, .ref p3, .ref p4, .ref p5, .ref p6, .ref p7] ++ [.ref p8, .ref p9, .ref q2, .ref q3, .ref q5, .ref q6, .ref q7]))
    have m9 : (upd (upd H8 l2 (.lst [.ref p8, .ref p9, .ref q2, .ref q3, .ref q5, .ref q6, .ref q7])) l3 (.lst ([.non, .int 7, .int 0, .bl true, .bl false, .int (-1), .int (10 ^ (40 : Int).toNat), .ref p1, .ref p2, .ref p3, .ref p4, .ref p5, .ref p6, .ref p7] ++ [.ref p8, .ref p9, .ref q2, .ref q3, .ref q5, .ref q6, .ref q7]))) l3 = some (.lst ([.non, .int 7, .int 0, .bl true, .bl false, .int (-1), .int (10 ^ (40 : Int).toNat), .ref p1, .ref p2, .ref p3, .ref p4, .ref p5, .ref p6, .ref p7] ++ [.ref p8, .ref p9, .ref q2, .ref q3, .ref q5, .ref q6, .ref q7])) := upd_same
    clear g15 m8
    generalize upd (upd H8 l2 _) l3 _ = H9 at g16 m9 ⊢
    have ls : (signs (word ++ "abc")).length ≤ 6 ∧ (word ++ ("abc" : Str)).length ≤ 6 := by
      have e : (word ++ ("abc" : Str)).length = word.length + 3 := strLen_append _ _
      refine ⟨?_, by omega⟩
      show (List.map _ _).length ≤ 6
      rw [List.length_map]
      show (word ++ ("abc" : Str)).cps.size ≤ 6
      have : (word ++ ("abc" : Str)).cps.size = word.length + 3 := e
      omega
    -- tuple(word + 'abc'), list(word + 'abc')
    refine ⟨_, rfl, _, rfl, word, "abc", rfl, rfl, Nat.le_trans (Nat.add_le_add_right hlen 3) (by decide), _, rfl, Nat.le_trans ls.2 (by decide), fun r1 hr1 => ?_⟩
    have g17 := g16.tup hr1 (ys := signs (word ++ "abc")) (es := signD (word ++ "abc")) (dpAll_signs _) (hasD_signs _)
    have m10 := same_upd (o := HO.tup (signs (word ++ "abc"))) hr1 _ _ m9
    clear g16 m9
    generalize upd H9 r1 _ = H10 at g17 m10 ⊢
    refine ⟨_, rfl, word, "abc", rfl, rfl, Nat.le_trans (Nat.add_le_add_right hlen 3) (by decide), _, rfl, Nat.le_trans ls.2 (by decide), fun r2 hr2 => ?_⟩
    have g18 := g17.lst hr2 (ys := signs (word ++ "abc")) (es := signD (word ++ "abc")) (dpAll_signs _) (hasD_signs _)
    have m11 := same_upd (o := HO.lst (signs (word ++ "abc"))) hr2 _ _ m10
    clear g17 m10
    generalize upd H10 r2 _ = H11 at g18 m11 ⊢
    refine ⟨by show 2 ≤ sizeLine; decide, fun l4 hl4 => ?_⟩
    refine ⟨l3, l4, _, _, rfl, rfl, same_upd hl4 _ _ m11, upd_same, by show 23 ≤ sizeLine; decide, fun l5 hl5 => ?_⟩
    have g19 := (g18.skip hl4 (.lst [.ref r1, .ref r2])).skip hl5 (.lst ([.non, .int 7, .int 0, .bl true, .bl false, .int (-1), .int (10 ^ (40 : Int).toNat), .ref p1, .ref p2, .ref p3, .ref p4, .ref p5, .ref p6, .ref p7] ++ [.ref p8, .ref p9, .ref q2, .ref q3, .ref q5, .ref q6, .ref q7] ++ [.ref r1, .ref r2]))
    refine q _ l5 _ (dataOf word) (n / 26 / 3) g19.old g19.tp (g18.new _ ((same_upd hl4).free hl5)) upd_same ?_ hsh
    exact g19.its
end
end SP

/-! the law's own def, entered from the top: nothing is shown around it -/
namespace SP
open PySem PySem.Spec PyProof.Rows L2
section
variable {P : Program} {w : World} {K : PySem.W.Frag} {mg : Str → Option Value}
/-- the body of the law's def, run where the top calls it -/
theorem body_top {base : Heap} {x qual : Str} {st : Stmt} {f : Addr} {fd : FuncData} {N ps : List Str} {k : Nat} {s : Shared} {H : Hp} {args : Args} {us : List Value} {zs : List V} {Q : VK}
    (F : Fun K x qual st f fd) (S : FnScope N ps (defScope st)) (room : Room (k + 1) callerA) (e0 : Env0 P w K mg base callerA [] s H) (bnd : BindsTo s fd args (ps.zip us)) (r : Vals zs us) (len : zs.length = ps.length)
    (body : ∀ cdv : Value, Room k (callerA.deeper (envOfC qual (defScope st) s.heap.objs.size f cdv)) →
      ∃ t, PSs (cxOf CX0 P w K mg base N qual (defScope st) f cdv callerA [] s H E0).nox (defBody st) t ∧ t { nx := fun _ H' => Q .non H', rt := Q } (start N zs) H) :
    codeAny (model P w) callerA (.call (.ref f) args) (CR CX0 [] P w H s Q E0) s := by
  obtain ⟨oc, od, kV, doc, pm, an, cdv, ct, osl, rfl, lk, hcd⟩ := F.ex
  have here : K.In s.heap := e0.mod.kin.keeps fun b o e => (e0.bs b o e).1
  have limit : s.heap.NoLimit := e0.mod.nolimit.keeps fun b o e => (e0.bs b o e).1
  have kinds : ∀ y ∈ ps.zip us, (defScope st).names.lookup y.1 = some .local ∨ ((defScope st).names.lookup y.1 = some .cell ∧ ((cellsFrom (s.heap.objs.size + 1) (defScope st).names []).lookup y.1).isSome = true) := by
    rintro ⟨n, v⟩ hy
    rcases S.par n (List.of_mem_zip hy).1 with q | q
    · exact .inl q
    · exact .inr ⟨q, PySem.W.cellsFrom_some _ _ _ (.inl q)⟩
  refine codeAny_call_function room.depth (here _ _ lk) rfl S.co S.gen rfl (PySem.W.codeRec_of here hcd) (bnd _ _ _ _ ?_)
  refine wpAny_newFunctionEnv_cells S.kind kinds ?_
  intro env he s1 x1
  subst he
  refine ⟨limit.keeps x1.toInCall.keep, codeAny_func ?_⟩
  obtain ⟨t, ht, hq⟩ := body cdv (room.deeper _)
  have I : Inv (cxOf CX0 P w K mg base N qual (defScope st) f cdv callerA [] s H E0) [] (start N zs) H s1 := inv_start S room.hd e0 len r x1
  refine wpAny_mono ((ht.nox).run [] s1 (start N zs) H _ I hq) (fun fl s' hs => ?_) (fun e s' hs => hs)
  cases fl with
  | ret u =>
    obtain ⟨v, σ', H', J, rv, q⟩ := hs
    exact ⟨v, H', J.os, J.bare, J.base, J.hok, rv, q⟩
  | next =>
    obtain ⟨σ', H', J, q⟩ := hs
    exact ⟨V.non, H', J.os, J.bare, J.base, J.hok, rfl, q⟩
  | brk => exact hs.elim fun _ z => z.elim fun _ z => z.2.elim
  | cont => exact hs.elim fun _ z => z.elim fun _ z => z.2.elim
/-- from the concrete heap to the abstract one: only the script may be tracked -/
theorem top_call {mb : Str → Option Value} {fa a : Addr} {s₁ : Shared} {vs : List Value} {ns : List Int} (KX : K.In s₁.heap) (n1 : s₁.heap.Ns mainGlobals mg) (n2 : s₁.heap.Ns builtinsNs mb)
    (n3 : ∀ x : Str, x ≠ "__name__" → mb x = bootBuiltins x) (lim : s₁.heap.NoLimit) (gens : s₁.gens = #[]) (ha : s₁.heap.get? a = some { cls := .type "list", data := .seq vs.toArray }) (iv : IntsAre vs ns) (many : ns.length ≤ sizeLine)
    (F : ∀ (base : Heap) (H : Hp), K.In base → base.Ns mainGlobals mg → Env0 P w K mg base callerA [] s₁ H → SqL K H a (ns.map V.int) →
      codeAny (model P w) callerA (.call (.ref fa) ⟨[.ref a], []⟩) (CR CX0 [] P w H s₁ (fun v _ => v = .bl true) E0) s₁) :
    codeAny (model P w) callerA (.call (.ref fa) ⟨[.ref a], []⟩) (fun r s' => r = .ok (.ret (.bool true)) ∧ OldK s₁.heap s'.heap ∧ s'.os = s₁.os ∧ AllBare s'.gens) s₁ := by
  have rv := vals_ints iv
  have main : ∀ H : Hp, Only H → SqL K H a (ns.map V.int) → HOk P w H s₁.heap → (∀ b, H b ≠ none → b = a ∧ K.lookup a = none) →
      codeAny (model P w) callerA (.call (.ref fa) ⟨[.ref a], []⟩) (fun r s' => r = .ok (.ret (.bool true)) ∧ OldK s₁.heap s'.heap ∧ s'.os = s₁.os ∧ AllBare s'.gens) s₁ := by
    intro H only sq ok at_a
    have free_dict : ∀ (b : Addr) (o : Obj) (es : Array DictEntry) (ep : Nat), s₁.heap.get? b = some o → o.data = .dict es ep → H b = none := by
      intro b o es ep e d
      by_cases z : H b = none
      · exact z
      · have hb := (at_a b z).1
        rw [hb, ha] at e
        cases e
        cases d
    have ns_hid : ∀ (b : Addr) (m : Str → Option Value), s₁.heap.Ns b m → (hidT s₁.heap H).Ns b m := by
      rintro b m ⟨o, es, ep, e, d, r⟩
      exact ⟨o, es, ep, hidT_get e (free_dict b o es ep e d), d, r⟩
    have k_hid : K.In (hidT s₁.heap H) := by
      intro b o e
      refine hidT_get (KX b o e) ?_
      by_cases z : H b = none
      · exact z
      · obtain ⟨h1, h2⟩ := at_a b z
        rw [h1, h2] at e
        cases e
    obtain ⟨mc, l1, l2⟩ := lim
    have e0 : Env0 P w K mg (hidT s₁.heap H) callerA [] s₁ H :=
      { frames := rfl
        mod := ⟨k_hid, ns_hid _ _ n1, ⟨mb, ns_hid _ _ n2, n3⟩, ⟨mc, ns_hid _ _ l1, l2⟩⟩
        bs := fun b o e => of_hidT e
        bsz := Nat.le_of_eq (hidT_size _ _)
        funs := trivial
        frf := fun b hb => by cases hb
        hok := ok
        bare := .of_eq gens }
    refine codeAny_mono (F _ H k_hid (ns_hid _ _ n1) e0 sq) ?_
    rintro (e | fl) s' h
    · exact False.elim h
    · cases fl with
      | ret u =>
        obtain ⟨v, H', os, bare, un, ok', ru, q⟩ := h
        have hv : v = .bl true := q
        rw [hv] at ru
        have hu : u = Value.bool true := ru
        rw [hu]
        refine ⟨rfl, OldK.of_keep ?_, os, bare⟩
        intro b o e
        rcases only b with z | ⟨ob, xs, z⟩
        · exact un.keep b o e z (by intro m; cases m) (by intro m; cases m)
        · have z2 := un.frzs b ob _ z
          have o1 : s₁.heap.get? b = some ob := (ok b _ z).1
          have o2 : s'.heap.get? b = some ob := (ok' b _ z2).1
          rw [e] at o1
          rw [o2, ← o1]
      | next => exact False.elim h
      | brk => exact False.elim h
      | cont => exact False.elim h
  cases hk : K.lookup a with
  | some o =>
    have e := KX a o hk
    rw [ha] at e
    cases e
    refine main (fun _ => none) (fun _ => .inl rfl) (.inr ⟨_, vs.toArray, _, hk, rfl, rfl, rfl, ?_, by simpa using rv⟩) (fun b u z => ?_) (fun b z => absurd rfl z)
    · have := iv.length
      rw [List.size_toArray]
      omega
    · have z' : (none : Option HO) = some u := z
      cases z'
  | none =>
    have at_b : ∀ b, b ≠ a → (fun b => if b = a then some (HO.frz { cls := .type "list", data := .seq vs.toArray } (.lst (ns.map V.int))) else none) b = none := fun b hb => if_neg hb
    refine main (fun b => if b = a then some (HO.frz { cls := .type "list", data := .seq vs.toArray } (.lst (ns.map V.int))) else none) (fun b => ?_) (.inl (.inr ⟨_, if_pos rfl⟩)) (fun b u z => ?_) (fun b z => ?_)
    · by_cases hb : b = a
      · exact .inr ⟨_, _, if_pos hb⟩
      · exact .inl (at_b b hb)
    · by_cases hb : b = a
      · have z' := (if_pos hb).symm.trans z
        cases z'
        rw [hb]
        exact ⟨ha, by rw [List.length_map]; exact many, vs, _, rv, ha⟩
      · exact absurd ((at_b b hb).symm.trans z) (by intro q; cases q)
    · by_cases hb : b = a
      · exact ⟨hb, hk⟩
      · exact absurd (at_b b hb) z
/-- what k_head leaves, from the body of the law's def -/
theorem walk_top {l : PySem.W.OpenLaw} {n : Nat} {q : Program} {loose : List Str} {XP : (Str → Option Value) → Heap → Prop} {YP : World → Heap → Prop} {d : DefRec} {Kp : Params → PySem.W.Frag}
    (hn : l.most = some n) (hn2 : n ≤ sizeLine) (hdf : d.params.defaults = []) (hY : ∀ (w : World) (h : Heap), YP w h → (Kp w.params).In h)
    (F : ∀ (w : World) (mg : Str → Option Value) (fa : Addr) (h : Heap), (Kp w.params).In h → h.Ns mainGlobals mg → mg d.name = some (.ref fa) →
      ∀ (base : Heap) (H : Hp) (s : Shared) (a : Addr) (ns : List Int), ns.length ≤ n → (Kp w.params).In base → base.Ns mainGlobals mg → Env0 l.prog w (Kp w.params) mg base callerA [] s H → SqL (Kp w.params) H a (ns.map V.int) →
        codeAny (model l.prog w) callerA (.call (.ref fa) ⟨[.ref a], []⟩) (CR CX0 [] l.prog w H s (fun v _ => v = .bl true) E0) s) :
    PySem.W.WalkO q loose XP YP l.row.toRowW d [] (fun f vs => PySem.call f vs) := by
  refine Att.attach_call hn hdf ?_
  intro w s₀ s₁ mg mb fa o pm cd doc a vs ns G Y ho hd hcd hmg hobj hints hlen hg
  have KX := hY w _ Y
  exact top_call KX G.T.g G.T.b G.T.builtins G.T.nolimit hg hobj hints (Nat.le_trans hlen hn2) fun base H k1 k2 e0 sq => F w mg fa _ KX G.T.g hmg base H s₁ a ns hlen k1 k2 e0 sq
end
end SP

namespace SP
open PySem PySem.Spec PyProof.Rows L2
def abcS : Str := "abcdefghijklmnopqrstuvwxyz"
def moreS : Str := " 0123456789\n!\"#$&'()*+,-./:;<=>?@ABCDEFGHIJKLMNOPQRSTUVWXYZ[\\]^_`{|}~"
theorem more_len : abcS.length + moreS.length = 95 := by decide +kernel
theorem sig_len : (abcS ++ moreS).length = 95 := by rw [strLen_append]; exact more_len
theorem abc_len : abcS.length = 26 := by decide +kernel
theorem same_put {H0 H : Hp} {t : Addr} {o : HO} (s : Same H0 H) (h : H0 t = none) : Same H0 (upd H t o) := fun b u e => by
  rw [upd_ne (ne_of_none e h)]
  exact s b u e
theorem sz {x y : Str} {a b : Nat} (h1 : x.length ≤ a) (h2 : y.length ≤ b) (h : a + b ≤ 1000) : x.length + y.length ≤ sizeLine := Nat.le_trans (Nat.le_trans (Nat.add_le_add h1 h2) h) (by decide)
theorem szA {x y : Str} {a b : Nat} (h1 : x.length ≤ a) (h2 : y.length ≤ b) : (x ++ y).length ≤ a + b := by
  rw [strLen_append]
  exact Nat.add_le_add h1 h2
theorem szK {x : Str} {a : Nat} (h1 : x.length ≤ a) (h : a ≤ 1000) : x.length ≤ sizeLine := Nat.le_trans (Nat.le_trans h1 h) (by decide)
theorem six_str {a b c d e f : Str} (ha : a.length ≤ sizeLine) (hb : b.length ≤ sizeLine) (hc : c.length ≤ sizeLine) (hd : d.length ≤ sizeLine) (he : e.length ≤ sizeLine) (hf : f.length ≤ sizeLine) {i : Nat} {x : V}
    (h : ([V.str a, V.str b, V.str c] ++ [V.str d, V.str e, V.str f])[i]? = some x) : ∃ y : Str, x = .str y ∧ y.length ≤ sizeLine := by
  have hm := List.mem_of_getElem? h
  simp only [List.cons_append, List.nil_append, List.mem_cons, List.not_mem_nil, or_false] at hm
  rcases hm with rfl | rfl | rfl | rfl | rfl | rfl
  · exact ⟨_, rfl, ha⟩
  · exact ⟨_, rfl, hb⟩
  · exact ⟨_, rfl, hc⟩
  · exact ⟨_, rfl, hd⟩
  · exact ⟨_, rfl, he⟩
  · exact ⟨_, rfl, hf⟩
/-- an item of a list by a rest -/
theorem item_at (xs : List V) (n : Int) (m : Nat) (hm : xs.length = m) (h0 : 0 < m) : ∃ v, atI xs (n % (m : Int)) = some v ∧ v ∈ xs := by
  have h1 : 0 ≤ n % (m : Int) := Int.emod_nonneg _ (by omega)
  have h2 : n % (m : Int) < (m : Int) := Int.emod_lt_of_pos _ (by omega)
  obtain ⟨i, hi⟩ := Int.eq_ofNat_of_zero_le h1
  have h3 : i < xs.length := by omega
  rw [hi]
  exact ⟨xs[i], atI_nat (List.getElem?_eq_getElem h3), List.getElem_mem h3⟩
theorem kept_short {v : V} (h : v ∈ keptW.map V.str) : ∃ y : Str, v = .str y ∧ y.length ≤ 9 := by
  simp only [keptW, List.map_cons, List.map_nil, List.mem_cons, List.not_mem_nil, or_false] at h
  rcases h with rfl | rfl | rfl | rfl | rfl | rfl | rfl | rfl | rfl | rfl <;> exact ⟨_, rfl, by decide +kernel⟩
/-- an item of a text by a rest -/
theorem sign_at (z : Str) (n : Int) (m : Nat) (hm : z.length = m) (h0 : 0 < m) : ∃ (i : Nat) (c : Nat), n % (m : Int) = (i : Int) ∧ i < m ∧ z.cps[i]? = some c := by
  have h1 : 0 ≤ n % (m : Int) := Int.emod_nonneg _ (by omega)
  have h2 : n % (m : Int) < (m : Int) := Int.emod_lt_of_pos _ (by omega)
  have h3 : (n % (m : Int)).toNat < z.cps.size := by
    have : z.cps.size = m := hm
    omega
  exact ⟨(n % (m : Int)).toNat, z.cps[(n % (m : Int)).toNat], by omega, by omega, by simp [h3]⟩
theorem kept_str {i : Nat} {x : V} (h : (keptW.map V.str ++ [V.str ""])[i]? = some x) : ∃ y : Str, x = .str y ∧ y.length ≤ sizeLine := by
  have hm := List.mem_of_getElem? h
  simp only [keptW, List.map_cons, List.map_nil, List.cons_append, List.nil_append, List.mem_cons, List.not_mem_nil, or_false] at hm
  rcases hm with rfl | rfl | rfl | rfl | rfl | rfl | rfl | rfl | rfl | rfl | rfl <;> exact ⟨_, rfl, by decide +kernel⟩
section
variable {P : Program} {w : World} {K : PySem.W.Frag} {mg : Str → Option Value} {base : Heap}
abbrev sLaw : Stmt := topS 11
theorem scLaw : FnScope ["script","kept","letters","signs","text","k","tape","thing","mine","turn","number","at","sign","some","one"] ["script"] (defScope sLaw) := ⟨rfl, rfl, rfl, by decide +kernel, rfl, by decide +kernel, by decide +kernel⟩
theorem law_body {f a : Addr} {s : Shared} {H : Hp} {ns : List Int} {Q : VK} (T : Txt K mg) (C_law_right : Callee P w K mg base "_law_right" ["text"] 2 (spRight K)) (C_law_tape : Callee P w K mg base "_law_tape" ["script", "k"] 2 (spTape K))
    (C_law_no_texts : Callee P w K mg base "_law_no_texts" ["tape"] 2 (spNo K)) (C_is_word : Callee P w K mg base "is_word" ["thing"] 1 (spIs K)) (C_law_digit : Callee P w K mg base "_law_digit" ["tape", "many"] 1 (spDigit K))
    (hS : SqL K H a (ns.map V.int)) (hlen : ns.length ≤ 63) (q : ∀ H', Q (.bl true) H') (cdv : Value) (hr : Room 2 (callerA.deeper (envOfC "law" (defScope sLaw) s.heap.objs.size f cdv))) :
    ∃ t, PSs (cxOf CX0 P w K mg base ["script","kept","letters","signs","text","k","tape","thing","mine","turn","number","at","sign","some","one"] "law" (defScope sLaw) f cdv callerA [] s H E0).nox (defBody sLaw) t ∧ t { nx := fun _ H' => Q .non H', rt := Q } (start ["script","kept","letters","signs","text","k","tape","thing","mine","turn","number","at","sign","some","one"] [.ref a]) H := by
  refine ⟨_, (pss_cons (ps_set (i := 1) scLaw.nd rfl (Or.inl rfl) (pe_lst (pa_cons pe_str (pa_cons pe_str (pa_cons pe_str (pa_cons pe_str (pa_cons pe_str (pa_cons pe_str (pa_cons pe_str (pa_cons pe_str (pa_cons pe_str (pa_cons pe_str pa_nil))))))))))))
      (pss_cons (ps_set (i := 2) scLaw.nd rfl (Or.inl rfl) pe_str)
      (pss_cons (ps_set (i := 3) scLaw.nd rfl (Or.inl rfl) (pe_op op_add_str (pv 2) pe_str))
      (pss_cons (ps_if (pt_not (pt_val (pe_callB (cr_all rfl) (by rfl) T.n_all (by decide +kernel) (pa_cons (pe_lc (own := [("text", 4)]) (g := gName 4) (tt := tYes) rfl scLaw.nd (pi_list (pe_op op_cat (pv 1) (pe_lst (pa_cons pe_str pa_nil)))) (blkOk_by (own := [("text", 4)]) (N := ["script", "kept", "letters", "signs", "text", "k", "tape", "thing", "mine", "turn", "number", "at", "sign", "some", "one"]) (sc := defScope sLaw) (by decide +kernel)) (fun _ _ _ _ _ => (pg_name (i := 4) scLaw.nd rfl (Or.inl rfl))) (fun _ _ _ _ _ => pts_nil) (fun _ _ _ _ _ => (pe_fn C_law_right hr (by rfl) (pa_cons (pv 4) pa_nil)))) pa_nil)))) (pss_one (ps_ret pe_bl)) pss_nil)
      (pss_cons (ps_for PassesOwn.never rfl (pi_range2 rfl T.n_range (pa_cons pe_int (pa_cons (pe_callB (call_max2 rfl) (by rfl) T.n_max (by decide +kernel) (pa_cons pe_int (pa_cons (pe_callB (call_min2 rfl) (by rfl) T.n_min (by decide +kernel) (pa_cons pe_int (pa_cons (pe_callB call_len_seq (by rfl) T.n_len (by decide +kernel) (pa_cons (pv 0) pa_nil)) pa_nil))) pa_nil))) pa_nil))) (pg_name (i := 5) scLaw.nd rfl (Or.inl rfl))
      (pss_cons (ps_set (i := 6) scLaw.nd rfl (Or.inl rfl) (pe_fn C_law_tape hr (by rfl) (pa_cons (pv 0) (pa_cons (pv 5) pa_nil))))
      (pss_cons (ps_for PassesOwn.never rfl (pi_list (pe_fn C_law_no_texts hr (by rfl) (pa_cons (pv 6) pa_nil))) (pg_name (i := 7) scLaw.nd rfl (Or.inl rfl))
      (pss_cons (ps_set (i := 8) scLaw.nd rfl (Or.inl rfl) (pe_callB (call_reprD rfl hr.units) (by rfl) T.n_repr (by decide +kernel) (pa_cons (pv 7) pa_nil)))
      (pss_one (ps_if (PW.pt (pw_or (pt_cmpR op_notBl (pe_fn C_is_word hr (by rfl) (pa_cons (pv 7) pa_nil)) pe_bl (nomark _)) (pw_or1 (pt_cmpR op_ne (pe_callB (call_reprD rfl hr.units) (by rfl) T.n_repr (by decide +kernel) (pa_cons (pv 7) pa_nil)) (pv 8) (nomark _))))) (pss_one (ps_ret pe_bl)) pss_nil))))
      (pss_one (ps_for PassesOwn.never rfl (pi_range1 rfl T.n_range (pa_cons pe_int pa_nil)) (pg_name (i := 9) scLaw.nd rfl (Or.inl rfl))
      (pss_cons (ps_set (i := 4) scLaw.nd rfl (Or.inl rfl) pe_str)
      (pss_cons (ps_for PassesOwn.never rfl (pi_range1 rfl T.n_range (pa_cons (pe_fn C_law_digit hr (by rfl) (pa_cons (pv 6) (pa_cons pe_int pa_nil))) pa_nil)) (pg_name (i := 10) scLaw.nd rfl (Or.inl rfl))
      (pss_one (ps_set (i := 4) scLaw.nd rfl (Or.inl rfl) (pe_op op_add_str (pv 4) (pe_item_str (pv 2) (pe_fn C_law_digit hr (by rfl) (pa_cons (pv 6) (pa_cons pe_int pa_nil))) (fun _ _ => rfl))))))
      (pss_cons (ps_set (i := 4) scLaw.nd rfl (Or.inl rfl) (pe_ix ix_list (pe_lst (pa_cons (pv 4) (pa_cons (pe_ix ix_list (pv 1) (pe_fn C_law_digit hr (by rfl) (pa_cons (pv 6) (pa_cons pe_int pa_nil))) (fun _ _ => rfl)) pa_nil))) (pe_fn C_law_digit hr (by rfl) (pa_cons (pv 6) (pa_cons pe_int pa_nil))) (fun _ _ => rfl)))
      (pss_cons (ps_set (i := 11) scLaw.nd rfl (Or.inl rfl) (pe_fn C_law_digit hr (by rfl) (pa_cons (pv 6) (pa_cons (pe_op op_add (pe_callB call_len_str (by rfl) T.n_len (by decide +kernel) (pa_cons (pv 4) pa_nil)) pe_int) pa_nil))))
      (pss_cons (ps_set (i := 12) scLaw.nd rfl (Or.inl rfl) (pe_item_str (pv 3) (pe_fn C_law_digit hr (by rfl) (pa_cons (pv 6) (pa_cons (pe_callB call_len_str (by rfl) T.n_len (by decide +kernel) (pa_cons (pv 3) pa_nil)) pa_nil))) (fun _ _ => rfl)))
      (pss_cons (ps_set (i := 13) scLaw.nd rfl (Or.inl rfl) (pe_lst (pa_cons (pv 4) (pa_cons (pe_op op_add_str (pe_op op_add_str (pe_slice sl_str (pv 4) po_none (po_some (pv 11))) (pv 12)) (pe_slice sl_str (pv 4) (po_some (pv 11)) po_none)) (pa_cons (pe_op op_add_str (pe_slice sl_str (pv 4) po_none (po_some (pv 11))) (pe_slice sl_str (pv 4) (po_some (pe_op op_add (pv 11) pe_int)) po_none)) pa_nil)))))
      (pss_cons (ps_set (i := 13) scLaw.nd rfl (Or.inl rfl) (pe_op op_cat (pv 13) (pe_lst (pa_cons (pe_op op_add_str (pe_op op_add_str (pe_slice sl_str (pv 4) po_none (po_some (pv 11))) (pv 12)) (pe_slice sl_str (pv 4) (po_some (pe_op op_add (pv 11) pe_int)) po_none)) (pa_cons (pe_bm0 PySem.F.plainAttrs_str PySem.F.slot_str_upper PySem.F.type_str_upper mt_upper (pv 4)) (pa_cons (pe_op op_add_str (pv 4) (pv 4)) pa_nil))))))
      (pss_one (ps_if (pt_not (pt_val (pe_callB (cr_all rfl) (by rfl) T.n_all (by decide +kernel) (pa_cons (pe_lc (own := [("one", 14)]) (g := gName 14) (tt := tYes) rfl scLaw.nd (pi_list (pv 13)) (blkOk_by (own := [("one", 14)]) (N := ["script", "kept", "letters", "signs", "text", "k", "tape", "thing", "mine", "turn", "number", "at", "sign", "some", "one"]) (sc := defScope sLaw) (by decide +kernel)) (fun _ _ _ _ _ => (pg_name (i := 14) scLaw.nd rfl (Or.inl rfl))) (fun _ _ _ _ _ => pts_nil) (fun _ _ _ _ _ => (pe_fn C_law_right hr (by rfl) (pa_cons (pv 14) pa_nil)))) pa_nil)))) (pss_one (ps_ret pe_bl)) pss_nil))))))))))))))
      (pss_one (ps_ret pe_bl))))))), ?_⟩
  -- kept, letters, signs
  refine ⟨by show 10 ≤ sizeLine; decide, fun lk hlk => ?_⟩
  have hS1 := (same_upd (o := HO.lst (keptW.map V.str)) hlk).seq hS
  have hK1 : (upd H lk (.lst (keptW.map V.str))) lk = some (.lst (keptW.map V.str)) := upd_same
  change tNext _ _ (upd H lk (.lst (keptW.map V.str)))
  generalize upd H lk _ = H1 at hS1 hK1 ⊢
  refine ⟨_, rfl, abcS, moreS, rfl, rfl, by rw [more_len]; decide, ?_⟩
  -- all the kept ones are right
  refine ⟨_, rfl, by show 1 ≤ sizeLine; decide, fun le hle => ⟨lk, le, _, _, rfl, rfl, same_upd hle _ _ hK1, upd_same, by show 11 ≤ sizeLine; decide, fun lc hlc => ⟨lc, rfl, ⟨_, .inl (.inl upd_same)⟩, fun D hD => ?_⟩⟩⟩
  refine lc_list (K := K) (a := lc) (xs := keptW.map V.str ++ [V.str ""]) (fun i H' => Same (upd (upd H1 le (.lst [V.str ""])) lc (.lst (keptW.map V.str ++ [V.str ""]))) H' ∧ H' D = some (.lst ((List.replicate i true).map V.bl))) ⟨same_upd hD, upd_same⟩ (fun i H' _ h => .inl (.inl (h.1 _ _ upd_same))) ?_ ?_
  · rintro i x H' hi ⟨s', d'⟩
    obtain ⟨y, rfl, hy⟩ := kept_str hi
    refine ⟨rfl, ?_⟩
    refine lcYes ?_
    refine ⟨_, rfl, y, rfl, hy, fun H'' s'' => ⟨_, s'' _ _ d', ?_, same_put (s'.trans s'') hD, ?_⟩⟩
    · rw [List.length_map, List.length_replicate]
      have : i < 11 := (List.getElem?_eq_some_iff.mp hi).1
      exact small1000 (by omega)
    · rw [upd_same, List.replicate_succ', List.map_append]
      rfl
  rintro H2 ⟨s2, d2⟩
  refine ⟨D, _, rfl, .inl (.inl d2), true, by decide, ?_⟩
  refine iteF ?_
  have sK := (same_upd hle).trans ((same_upd hlc).trans s2)
  have hS2 := sK.seq hS1
  have hK2 := sK _ _ hK1
  clear hS1 hK1 sK s2 d2 hD hlc hle hlk
  -- the cells
  refine ⟨_, rfl, a, _, rfl, .inl hS2, 8, _, rfl, 3, _, rfl, 0, _, rfl, ⟨by decide, by decide, ?_, ?_⟩, ?_⟩
  · split <;> split <;> omega
  · rw [List.length_map]
    split <;> split <;> omega
  generalize hT : ((if (if ((List.map V.int ns).length : Int) < 8 then ((List.map V.int ns).length : Int) else 8) > 3 then (if ((List.map V.int ns).length : Int) < 8 then ((List.map V.int ns).length : Int) else 8) else 3) - 0).toNat = turns
  have ht : turns ≤ 100 := by
    rw [← hT, List.length_map]
    split <;> split <;> omega
  clear hT
  refine for_range (lo := 0) (n := turns) (fun i σ H' => ∃ y4 y5 y6 y7 y8 y9 y10 y11 y12 y13 y14 : Option V, σ = [some (V.ref a), some (V.ref lk), some (V.str abcS), some (V.str (abcS ++ moreS)), y4, y5, y6, y7, y8, y9, y10, y11, y12, y13, y14] ∧ Same H2 H') ⟨none, none, none, none, none, none, none, none, none, none, none, rfl, Same.refl _⟩ ?_ (fun σ H' _ => q H')
  rintro i σ H3 hi ⟨y4, y5, y6, y7, y8, y9, y10, y11, y12, y13, y14, rfl, s3⟩
  -- tape
  refine ⟨_, rfl, _, rfl, a, ns, i, by rw [Int.zero_add]; rfl, s3.seq hS2, by omega, fun H4 t n s4 nt ht4 => ?_⟩
  -- things that are no texts
  refine ⟨_, rfl, t, n, rfl, ht4, fun H5 l xs ds n5 old ht5 nl hl its sh => ⟨l, rfl, ⟨_, .inl (.inl hl)⟩, ?_⟩⟩
  have s5 : Same H3 H5 := fun b o e => old b o (ne_of_none e nt) (s4 b o e)
  refine for_list (K := K) (a := l) (xs := xs) (fun j σ H' => H' = H5 ∧ ∃ y7 y8 : Option V, σ = [some (V.ref a), some (V.ref lk), some (V.str abcS), some (V.str (abcS ++ moreS)), y4, some (V.int (0 + (i : Int))), some (V.ref t), y7, y8, y9, y10, y11, y12, y13, y14]) ⟨rfl, _, _, rfl⟩ (fun _ _ _ _ h => .inl (.inl (by rw [h.1]; exact hl))) ?_ ?_
  · rintro j x σ H' hj ⟨rfl, z7, z8, rfl⟩
    obtain ⟨d, hd, dq, no⟩ := its.get hj
    have shd := List.all_eq_true.mp sh d hd
    refine ⟨_, rfl, x, d, rfl, dq, shd, ?_⟩
    refine ⟨_, rfl, x, rfl, .inr ⟨no.noText, false, false, rfl, rfl, _, rfl, ?_⟩⟩
    refine iteNS rfl ?_
    refine ⟨_, rfl, x, d, rfl, dq, shd, _, rfl, rfl, _, rfl, ?_⟩
    refine iteNS rfl ?_
    exact ⟨rfl, _, _, rfl⟩
  rintro σ H6 ⟨rfl, z7, z8, rfl⟩
  -- texts
  refine ⟨12, rfl, by decide, by decide, for_range (lo := 0) (n := 12) (fun j σ H' => ∃ (n : Int) (y4 y9 y10 y11 y12 y13 y14 : Option V), σ = [some (V.ref a), some (V.ref lk), some (V.str abcS), some (V.str (abcS ++ moreS)), y4, some (V.int (0 + (i : Int))), some (V.ref t), z7, z8, y9, y10, y11, y12, y13, y14] ∧ Same H3 H' ∧ H' t = some (.lst [.int n])) ⟨n5, _, _, _, _, _, _, _, rfl, s5, ht5⟩ ?_ ?_⟩
  · rintro j σ H7 hj ⟨n7, y4, y9, y10, y11, y12, y13, y14, rfl, s7, ht7⟩
    -- letters put together
    refine ⟨_, rfl, t, n7, 10, rfl, ht7, by decide, by decide, n7 % 10, rfl, by omega, by omega, ?_⟩
    refine for_range (lo := 0) (n := (n7 % 10).toNat) (fun m σ H' => ∃ (text : Str) (n : Int) (y10 : Option V), σ = [some (V.ref a), some (V.ref lk), some (V.str abcS), some (V.str (abcS ++ moreS)), some (V.str text), some (V.int (0 + (i : Int))), some (V.ref t), z7, z8, some (V.int (0 + (j : Int))), y10, y11, y12, y13, y14] ∧ text.length ≤ m ∧ Same H3 H' ∧ H' t = some (.lst [.int n])) ⟨"", _, _, rfl, Nat.le_refl _, same_put s7 nt, upd_same⟩ ?_ ?_
    · rintro m σ H8 hm ⟨text, n8, y10, rfl, hl8, s8, ht8⟩
      obtain ⟨i2, c, e1, e2, e3⟩ := sign_at abcS n8 26 abc_len (by decide)
      refine ⟨_, rfl, _, rfl, _, rfl, t, n8, 26, rfl, ht8, by decide, by decide, abcS, n8 % 26, c, rfl, rfl, by omega, by omega, ?_, ?_, text, ⟨#[c]⟩, rfl, rfl, ?_, ?_⟩
      · rw [abc_len]
        omega
      · have e1' : n8 % 26 = (i2 : Int) := e1
        rw [e1', Int.toNat_natCast]
        exact e3
      · have : (⟨#[c]⟩ : Str).length = 1 := rfl
        have hs := sizeLine_eq
        omega
      · refine ⟨_, _, _, rfl, ?_, same_put s8 nt, upd_same⟩
        rw [strLen_append]
        have : (⟨#[c]⟩ : Str).length = 1 := rfl
        omega
    rintro σ H8 ⟨text, n8, z10, rfl, hl8, s8, ht8⟩
    have hl9 : text.length ≤ 9 := by omega
    -- text, or one of the kept
    obtain ⟨v, hv1, hv2⟩ := item_at (keptW.map V.str) n8 10 rfl (by decide)
    obtain ⟨kw, rfl, hkw⟩ := kept_short hv2
    have hK8 := s8 _ _ (s3 _ _ hK2)
    have s9 : Same H3 (upd H8 t (.lst [.int (n8 / 10)])) := same_put s8 nt
    have hK9 := s9 _ _ (s3 _ _ hK2)
    refine ⟨_, rfl, _, rfl, _, rfl, t, n8, 10, rfl, ht8, by decide, by decide, lk, _, n8 % 10, _, rfl, rfl, .inl (.inl hK9), hv1, by show 2 ≤ sizeLine; decide, fun q1 hq1 => ?_⟩
    obtain ⟨v, hv3, hv4⟩ := item_at [.str text, .str kw] (n8 / 10) 2 rfl (by decide)
    obtain ⟨tx, rfl, htx⟩ : ∃ tx : Str, v = .str tx ∧ tx.length ≤ 9 := by
      simp only [List.mem_cons, List.not_mem_nil, or_false] at hv4
      rcases hv4 with rfl | rfl
      · exact ⟨_, rfl, hl9⟩
      · exact ⟨_, rfl, hkw⟩
    have s10 := s9.trans (same_upd (o := HO.lst [.str text, .str kw]) hq1)
    have ht10 := same_upd (o := HO.lst [.str text, .str kw]) hq1 _ _ (upd_same (H := H8) (a := t) (o := HO.lst [.int (n8 / 10)]))
    have qt : q1 ≠ t := fun e => by
      rw [e, upd_same] at hq1
      cases hq1
    generalize hH10 : upd (upd H8 t (HO.lst [V.int (n8 / 10)])) q1 (HO.lst [V.str text, V.str kw]) = H10 at s10 ht10 ⊢
    have hq10 : H10 q1 = some (.lst [.str text, .str kw]) := by
      rw [← hH10]
      exact upd_same
    refine ⟨_, rfl, t, n8 / 10, 2, rfl, ht10, by decide, by decide, q1, [.str text, .str kw], n8 / 10 % 2, _, rfl, rfl, .inl (.inl (by rw [upd_ne qt]; exact hq10)), hv3, ?_⟩
    have s11 : Same H3 (upd H10 t (.lst [.int (n8 / 10 / 2)])) := same_put s10 nt
    have ht11 : (upd H10 t (.lst [.int (n8 / 10 / 2)])) t = some (.lst [.int (n8 / 10 / 2)]) := upd_same
    generalize upd H10 t (HO.lst [V.int (n8 / 10 / 2)]) = H11 at s11 ht11 ⊢
    generalize n8 / 10 / 2 = n11 at ht11 ⊢
    clear hH10 hq10 qt ht10 s10 hq1 hv3 hv4 hv1 hv2 hK8 hK9 s9 s8 ht8 hl9 hl8 hkw
    have hz := sizeLine_eq
    -- at
    refine ⟨_, rfl, _, rfl, tx, rfl, by omega, _, _, rfl, rfl, t, n11, _, rfl, ht11, by omega, by omega, ?_⟩
    have s12 : Same H3 (upd H11 t (.lst [.int (n11 / ((tx.length : Int) + 1))])) := same_put s11 nt
    have ht12 : (upd H11 t (.lst [.int (n11 / ((tx.length : Int) + 1))])) t = some (.lst [.int (n11 / ((tx.length : Int) + 1))]) := upd_same
    -- sign
    generalize n11 % ((tx.length : Int) + 1) = pl
    generalize n11 / ((tx.length : Int) + 1) = n12 at s12 ht12 ⊢
    obtain ⟨i2, c, e1, e2, e3⟩ := sign_at (abcS ++ moreS) n12 _ rfl (by rw [sig_len]; decide)
    have hsl := sig_len
    refine ⟨_, rfl, _, rfl, _, rfl, abcS ++ moreS, rfl, by omega, t, n12, _, rfl, ht12, by omega, by omega, abcS ++ moreS, _, c, rfl, rfl, ?_, ?_, ?_, ?_, ?_⟩
    · rw [e1]
      omega
    · rw [e1]
      omega
    · rw [e1]
      omega
    · rw [e1, Int.toNat_natCast]
      exact e3
    rw [upd_upd]
    have s13 : Same H3 (upd H11 t (.lst [.int (n12 / ((abcS ++ moreS).length : Int))])) := same_put s11 nt
    have ht13 : (upd H11 t (.lst [.int (n12 / ((abcS ++ moreS).length : Int))])) t = some (.lst [.int (n12 / ((abcS ++ moreS).length : Int))]) := upd_same
    generalize upd H11 t (.lst [.int (n12 / ((abcS ++ moreS).length : Int))]) = H13 at s13 ht13 ⊢
    generalize n12 / ((abcS ++ moreS).length : Int) = n13 at ht13 ⊢
    clear s12 ht12 s11 ht11 e1 e2 e3
    have la : ∀ lo hi, (cutS tx lo hi).length ≤ 9 := fun lo hi => Nat.le_trans (cutS_length _ _ _) htx
    have l1 : (⟨#[c]⟩ : Str).length ≤ 1 := Nat.le_refl 1
    have lt : tx.length ≤ sizeLine := szK htx (by decide)
    have lu : (Txt.upper tx).length ≤ 27 := Nat.le_trans (PyProof.Rows.len_upper tx) (by omega)
    -- some
    refine ⟨_, rfl, _, rfl, _, rfl, pl, rfl, tx, rfl, lt, _, rfl, _, _, rfl, rfl, sz (la _ _) l1 (by decide), _, rfl, _, rfl, pl, rfl, tx, rfl, lt, _, _, rfl, rfl, sz (szA (la _ _) l1) (la _ _) (by decide), ?_⟩
    refine ⟨_, rfl, _, rfl, pl, rfl, tx, rfl, lt, _, rfl, _, rfl, _, _, rfl, rfl, _, rfl, tx, rfl, lt, _, _, rfl, rfl, sz (la _ _) (la _ _) (by decide), by show 3 ≤ sizeLine; decide, fun p1 hp1 => ?_⟩
    refine ⟨_, rfl, _, rfl, _, rfl, pl, rfl, tx, rfl, lt, _, rfl, _, _, rfl, rfl, sz (la _ _) l1 (by decide), _, rfl, _, rfl, _, _, rfl, rfl, _, rfl, tx, rfl, lt, _, _, rfl, rfl, sz (szA (la _ _) l1) (la _ _) (by decide), ?_⟩
    refine ⟨_, rfl, rfl, tx, rfl, rfl, Nat.le_trans htx (by decide), _, rfl, _, rfl, tx, tx, rfl, rfl, sz htx htx (by decide), by show 3 ≤ sizeLine; decide, fun p2 hp2 => ?_⟩
    refine ⟨p1, p2, _, _, rfl, rfl, same_upd hp2 _ _ upd_same, upd_same, by show 6 ≤ sizeLine; decide, fun p3 hp3 => ?_⟩
    have hx : ∀ (i : Nat) (x : V), ([V.str tx, V.str (cutS tx none (some pl) ++ { cps := #[c] } ++ cutS tx (some pl) none), V.str (cutS tx none (some pl) ++ cutS tx (some (pl + 1)) none)] ++ [V.str (cutS tx none (some pl) ++ { cps := #[c] } ++ cutS tx (some (pl + 1)) none), V.str (Txt.upper tx), V.str (tx ++ tx)])[i]? = some x → ∃ y : Str, x = .str y ∧ y.length ≤ sizeLine := fun i x h =>
      six_str lt (szK (szA (szA (la _ _) l1) (la _ _)) (by decide)) (szK (szA (la _ _) (la _ _)) (by decide)) (szK (szA (szA (la _ _) l1) (la _ _)) (by decide)) (szK lu (by decide)) (szK (szA htx htx) (by decide)) h
    have sm := (same_upd (o := HO.lst _) hp1).trans ((same_upd (o := HO.lst _) hp2).trans (same_upd (o := HO.lst ([V.str tx, V.str (cutS tx none (some pl) ++ { cps := #[c] } ++ cutS tx (some pl) none), V.str (cutS tx none (some pl) ++ cutS tx (some (pl + 1)) none)] ++ [V.str (cutS tx none (some pl) ++ { cps := #[c] } ++ cutS tx (some (pl + 1)) none), V.str (Txt.upper tx), V.str (tx ++ tx)])) hp3))
    have s14 := s13.trans sm
    have ht14 := sm _ _ ht13
    have h14 := upd_same (H := upd (upd H13 p1 (.lst [V.str tx, V.str (cutS tx none (some pl) ++ { cps := #[c] } ++ cutS tx (some pl) none), V.str (cutS tx none (some pl) ++ cutS tx (some (pl + 1)) none)])) p2 (.lst [V.str (cutS tx none (some pl) ++ { cps := #[c] } ++ cutS tx (some (pl + 1)) none), V.str (Txt.upper tx), V.str (tx ++ tx)])) (a := p3) (o := HO.lst ([V.str tx, V.str (cutS tx none (some pl) ++ { cps := #[c] } ++ cutS tx (some pl) none), V.str (cutS tx none (some pl) ++ cutS tx (some (pl + 1)) none)] ++ [V.str (cutS tx none (some pl) ++ { cps := #[c] } ++ cutS tx (some (pl + 1)) none), V.str (Txt.upper tx), V.str (tx ++ tx)]))
    clear sm
    generalize upd (upd (upd H13 p1 _) p2 _) p3 (HO.lst ([V.str tx, V.str (cutS tx none (some pl) ++ { cps := #[c] } ++ cutS tx (some pl) none), V.str (cutS tx none (some pl) ++ cutS tx (some (pl + 1)) none)] ++ [V.str (cutS tx none (some pl) ++ { cps := #[c] } ++ cutS tx (some (pl + 1)) none), V.str (Txt.upper tx), V.str (tx ++ tx)])) = H14 at s14 ht14 h14 ⊢
    have hxl : ([V.str tx, V.str (cutS tx none (some pl) ++ { cps := #[c] } ++ cutS tx (some pl) none), V.str (cutS tx none (some pl) ++ cutS tx (some (pl + 1)) none)] ++ [V.str (cutS tx none (some pl) ++ { cps := #[c] } ++ cutS tx (some (pl + 1)) none), V.str (Txt.upper tx), V.str (tx ++ tx)]).length = 6 := rfl
    generalize ([V.str tx, V.str (cutS tx none (some pl) ++ { cps := #[c] } ++ cutS tx (some pl) none), V.str (cutS tx none (some pl) ++ cutS tx (some (pl + 1)) none)] ++ [V.str (cutS tx none (some pl) ++ { cps := #[c] } ++ cutS tx (some (pl + 1)) none), V.str (Txt.upper tx), V.str (tx ++ tx)]) = XS at hx h14 hxl
    -- all of them are right
    refine ⟨_, rfl, p3, rfl, ⟨_, .inl (.inl h14)⟩, fun D hD => ?_⟩
    refine lc_list (K := K) (a := p3) (xs := XS) (fun i H' => Same H14 H' ∧ H' D = some (.lst ((List.replicate i true).map V.bl))) ⟨same_upd hD, upd_same⟩ (fun i H' _ h => .inl (.inl (h.1 _ _ h14))) ?_ ?_
    · rintro i x H' hi ⟨s', d'⟩
      obtain ⟨y, rfl, hy⟩ := hx i x hi
      refine ⟨rfl, ?_⟩
      refine lcYes ?_
      refine ⟨_, rfl, y, rfl, hy, fun H'' s'' => ⟨_, s'' _ _ d', ?_, same_put (s'.trans s'') hD, ?_⟩⟩
      · rw [List.length_map, List.length_replicate]
        have : i < XS.length := (List.getElem?_eq_some_iff.mp hi).1
        exact small1000 (by omega)
      · rw [upd_same, List.replicate_succ', List.map_append]
        rfl
    rintro H15 ⟨s15, d15⟩
    refine ⟨D, _, rfl, .inl (.inl d15), true, ?_, ?_⟩
    · rw [hxl]
      rfl
    refine iteF ?_
    exact ⟨_, _, _, _, _, _, _, _, rfl, s14.trans s15, s15 _ _ ht14⟩
  · rintro σ H7 ⟨n7, y4, y9, y10, y11, y12, y13, y14, rfl, s7, ht7⟩
    exact ⟨_, _, _, _, _, _, _, _, _, _, _, rfl, s3.trans s7⟩
end
end SP

namespace SP
open PySem PySem.Spec PyProof.Rows L2
theorem all_mk {l : PySem.W.OpenLaw} {w : World} {K : PySem.W.Frag} {h : Heap} {mg : Str → Option Value} {fa f0 f1 f2 f3 f4 f5 f6 f7 : Addr} (X : K.In h) (G : h.Ns mainGlobals mg) (hfa : mg "law" = some (.ref fa))
    {od0 an0 od1 an1 od2 an2 od3 an3 od4 an4 od5 an5 od6 an6 od7 an7 : Option Addr} {sl0 sl1 sl2 sl3 sl4 sl5 sl6 sl7 : Array (Option Value)} {oc0 kV0 dc0 pm0 cd0 ct0 oc1 kV1 dc1 pm1 cd1 ct1 oc2 kV2 dc2 pm2 cd2 ct2 oc3 kV3 dc3 pm3 cd3 ct3 oc4 kV4 dc4 pm4 cd4 ct4 oc5 kV5 dc5 pm5 cd5 ct5 oc6 kV6 dc6 pm6 cd6 ct6 oc7 kV7 dc7 pm7 cd7 ct7 : Value}
    (a0 : PySem.W.nsIn K mainGlobals "is_word" = some (some (.ref f0))) (l0 : K.lookup f0 = some ⟨oc0, od0, .func (PySem.W.fnOf "is_word" "is_word" (defArgs sIs) (defBody sIs) (defScope sIs) .none kV0 dc0 pm0 an0 cd0 ct0), sl0⟩) (c0 : PySem.W.codeIn K cd0 "is_word" = true) (k0 : PySem.W.keepIn K (.ref f0) = true)
    (a1 : PySem.W.nsIn K mainGlobals "_law_cell_at" = some (some (.ref f1))) (l1 : K.lookup f1 = some ⟨oc1, od1, .func (PySem.W.fnOf "_law_cell_at" "_law_cell_at" (defArgs sCell) (defBody sCell) (defScope sCell) .none kV1 dc1 pm1 an1 cd1 ct1), sl1⟩) (c1 : PySem.W.codeIn K cd1 "_law_cell_at" = true) (k1 : PySem.W.keepIn K (.ref f1) = true)
    (a2 : PySem.W.nsIn K mainGlobals "_law_tape" = some (some (.ref f2))) (l2 : K.lookup f2 = some ⟨oc2, od2, .func (PySem.W.fnOf "_law_tape" "_law_tape" (defArgs sTape) (defBody sTape) (defScope sTape) .none kV2 dc2 pm2 an2 cd2 ct2), sl2⟩) (c2 : PySem.W.codeIn K cd2 "_law_tape" = true) (k2 : PySem.W.keepIn K (.ref f2) = true)
    (a3 : PySem.W.nsIn K mainGlobals "_law_digit" = some (some (.ref f3))) (l3 : K.lookup f3 = some ⟨oc3, od3, .func (PySem.W.fnOf "_law_digit" "_law_digit" (defArgs sDigit) (defBody sDigit) (defScope sDigit) .none kV3 dc3 pm3 an3 cd3 ct3), sl3⟩) (c3 : PySem.W.codeIn K cd3 "_law_digit" = true) (k3 : PySem.W.keepIn K (.ref f3) = true)
    (a4 : PySem.W.nsIn K mainGlobals "_law_due" = some (some (.ref f4))) (l4 : K.lookup f4 = some ⟨oc4, od4, .func (PySem.W.fnOf "_law_due" "_law_due" (defArgs sDue) (defBody sDue) (defScope sDue) .none kV4 dc4 pm4 an4 cd4 ct4), sl4⟩) (c4 : PySem.W.codeIn K cd4 "_law_due" = true) (k4 : PySem.W.keepIn K (.ref f4) = true)
    (a5 : PySem.W.nsIn K mainGlobals "_law_right" = some (some (.ref f5))) (l5 : K.lookup f5 = some ⟨oc5, od5, .func (PySem.W.fnOf "_law_right" "_law_right" (defArgs sRight) (defBody sRight) (defScope sRight) .none kV5 dc5 pm5 an5 cd5 ct5), sl5⟩) (c5 : PySem.W.codeIn K cd5 "_law_right" = true) (k5 : PySem.W.keepIn K (.ref f5) = true)
    (a6 : PySem.W.nsIn K mainGlobals "_law_no_texts" = some (some (.ref f6))) (l6 : K.lookup f6 = some ⟨oc6, od6, .func (PySem.W.fnOf "_law_no_texts" "_law_no_texts" (defArgs sNo) (defBody sNo) (defScope sNo) .none kV6 dc6 pm6 an6 cd6 ct6), sl6⟩) (c6 : PySem.W.codeIn K cd6 "_law_no_texts" = true) (k6 : PySem.W.keepIn K (.ref f6) = true)
    (a7 : PySem.W.nsIn K mainGlobals "law" = some (some (.ref f7))) (l7 : K.lookup f7 = some ⟨oc7, od7, .func (PySem.W.fnOf "law" "law" (defArgs sLaw) (defBody sLaw) (defScope sLaw) .none kV7 dc7 pm7 an7 cd7 ct7), sl7⟩) (c7 : PySem.W.codeIn K cd7 "law" = true) (k7 : PySem.W.keepIn K (.ref f7) = true)
    (z0 : PySem.W.nsIn K mainGlobals "isinstance" = some none)
    (z1 : PySem.W.nsIn K mainGlobals "str" = some none)
    (z2 : PySem.W.nsIn K mainGlobals "bool" = some none)
    (z3 : PySem.W.nsIn K mainGlobals "len" = some none)
    (z4 : PySem.W.nsIn K mainGlobals "abs" = some none)
    (z5 : PySem.W.nsIn K mainGlobals "range" = some none)
    (z6 : PySem.W.nsIn K mainGlobals "all" = some none)
    (z7 : PySem.W.nsIn K mainGlobals "repr" = some none)
    (z8 : PySem.W.nsIn K mainGlobals "max" = some none)
    (z9 : PySem.W.nsIn K mainGlobals "min" = some none)
    (z10 : PySem.W.nsIn K mainGlobals "tuple" = some none)
    (z11 : PySem.W.nsIn K mainGlobals "list" = some none)
    {u8 : Tok} (y0 : PySem.W.nsIn K mainGlobals "MOST_LETTERS" = some (some (.int 8 u8)))
    {aw : Addr} {ow : Option Addr} {nw : Nat} {sw : Array (Option Value)} {w0 w1 w2 w3 w4 w5 w6 w7 w8 w9 : Tok} (y1 : PySem.W.nsIn K mainGlobals "LANGUAGE_WORDS" = some (some (.ref aw)))
    (y2 : K.lookup aw = some ⟨.type "tuple", ow, .seq #[.str "be" w0, .str "box" w1, .str "else" w2, .str "in" w3, .str "keep" w4, .str "let" w5, .str "look" w6, .str "loose" w7, .str "open" w8, .str "zero" w9] nw, sw⟩) :
    ∀ (base : Heap) (H : Hp) (s : Shared) (a : Addr) (ns : List Int), ns.length ≤ 63 → K.In base → base.Ns mainGlobals mg → Env0 l.prog w K mg base callerA [] s H → SqL K H a (ns.map V.int) →
      codeAny (model l.prog w) callerA (.call (.ref fa) ⟨[.ref a], []⟩) (CR CX0 [] l.prog w H s (fun v _ => v = .bl true) E0) s := by
  intro base H s a ns hlen _ _ e0 hS
  have e := hfa.symm.trans (PySem.W.mg_of X G a7)
  cases e
  have T : Txt K mg :=
    { n_isinstance := PySem.W.mg_none_of X G z0, n_str := PySem.W.mg_none_of X G z1, n_bool := PySem.W.mg_none_of X G z2, n_len := PySem.W.mg_none_of X G z3, n_abs := PySem.W.mg_none_of X G z4, n_range := PySem.W.mg_none_of X G z5
      n_all := PySem.W.mg_none_of X G z6, n_repr := PySem.W.mg_none_of X G z7, n_max := PySem.W.mg_none_of X G z8, n_min := PySem.W.mg_none_of X G z9, n_tuple := PySem.W.mg_none_of X G z10, n_list := PySem.W.mg_none_of X G z11
      most := ⟨_, PySem.W.mg_of X G y0⟩
      lw := ⟨aw, PySem.W.mg_of X G y1, fun _ => .inr ⟨_, _, _, y2, rfl, rfl, by show 10 ≤ sizeLine; decide, .cons ⟨_, rfl⟩ (.cons ⟨_, rfl⟩ (.cons ⟨_, rfl⟩ (.cons ⟨_, rfl⟩ (.cons ⟨_, rfl⟩ (.cons ⟨_, rfl⟩ (.cons ⟨_, rfl⟩ (.cons ⟨_, rfl⟩ (.cons ⟨_, rfl⟩ (.cons ⟨_, rfl⟩ (.nil))))))))))⟩⟩ }
  have F0 := fun_mk (st := sIs) l0 c0 k0
  have F1 := fun_mk (st := sCell) l1 c1 k1
  have F2 := fun_mk (st := sTape) l2 c2 k2
  have F3 := fun_mk (st := sDigit) l3 c3 k3
  have F4 := fun_mk (st := sDue) l4 c4 k4
  have F5 := fun_mk (st := sRight) l5 c5 k5
  have F6 := fun_mk (st := sNo) l6 c6 k6
  have F7 := fun_mk (st := sLaw) l7 c7 k7
  have b0 := F0.binds (ps := ["thing"]) fun _ _ _ _ _ _ us hl => match us, hl with | [_], _ => rfl
  have b1 := F1.binds (ps := ["script", "k"]) fun _ _ _ _ _ _ us hl => match us, hl with | [_, _], _ => rfl
  have b2 := F2.binds (ps := ["script", "k"]) fun _ _ _ _ _ _ us hl => match us, hl with | [_, _], _ => rfl
  have b3 := F3.binds (ps := ["tape", "many"]) fun _ _ _ _ _ _ us hl => match us, hl with | [_, _], _ => rfl
  have b4 := F4.binds (ps := ["text"]) fun _ _ _ _ _ _ us hl => match us, hl with | [_], _ => rfl
  have b5 := F5.binds (ps := ["text"]) fun _ _ _ _ _ _ us hl => match us, hl with | [_], _ => rfl
  have b6 := F6.binds (ps := ["tape"]) fun _ _ _ _ _ _ us hl => match us, hl with | [_], _ => rfl
  have C0 : Callee l.prog w K mg base "is_word" ["thing"] 1 (spIs K) := ⟨_, _, ok_is F0 T, PySem.W.mg_of X G a0, k0, b0⟩
  have C1 : Callee l.prog w K mg base "_law_cell_at" ["script", "k"] 1 (spCell K) := ⟨_, _, ok_cell F1 T, PySem.W.mg_of X G a1, k1, b1⟩
  have C2 : Callee l.prog w K mg base "_law_tape" ["script", "k"] 2 (spTape K) := ⟨_, _, ok_tape F2 T C1, PySem.W.mg_of X G a2, k2, b2⟩
  have C3 : Callee l.prog w K mg base "_law_digit" ["tape", "many"] 1 (spDigit K) := ⟨_, _, ok_digit F3, PySem.W.mg_of X G a3, k3, b3⟩
  have C4 : Callee l.prog w K mg base "_law_due" ["text"] 1 (spDue K) := ⟨_, _, ok_due F4 T, PySem.W.mg_of X G a4, k4, b4⟩
  have C5 : Callee l.prog w K mg base "_law_right" ["text"] 2 (spRight K) := ⟨_, _, ok_right F5 T C0 C4, PySem.W.mg_of X G a5, k5, b5⟩
  have C6 : Callee l.prog w K mg base "_law_no_texts" ["tape"] 2 (spNo K) := ⟨_, _, ok_no F6 T C3, PySem.W.mg_of X G a6, k6, b6⟩
  refine body_top (k := 2) (zs := [.ref a]) (us := [.ref a]) (ps := ["script"]) F7 scLaw ⟨rfl, by decide, by decide⟩ e0 (.of_eq rfl) (.cons rfl .nil) rfl fun cdv hr => ?_
  exact law_body (Q := fun v _ => v = .bl true) T C5 C2 C6 C0 C3 hS hlen (fun _ => rfl) cdv hr
end SP
open PySem PySem.W PyProof.Rows
set_option maxHeartbeats 0 in
theorem PySem.Challenge.cw_sparecount_k09_words_holds : PySem.Challenge.rw_sparecount_k09_words.Holds := by
  w_on; o_law; k_head; (case hw => w_witness2)
  k_fill
  refine SP.walk_top (l := PySem.Challenge.rw_sparecount_k09_words) (n := 63) rfl (by decide) rfl (fun w h Y => PySem.W.kIn_of Y) ?F
  case F =>
    intro w mg fa h KX G hmg
    refine' SP.all_mk KX G hmg ?a0 ?l0 ?c0 ?k0 ?a1 ?l1 ?c1 ?k1 ?a2 ?l2 ?c2 ?k2 ?a3 ?l3 ?c3 ?k3 ?a4 ?l4 ?c4 ?k4 ?a5 ?l5 ?c5 ?k5 ?a6 ?l6 ?c6 ?k6 ?a7 ?l7 ?c7 ?k7 ?z0 ?z1 ?z2 ?z3 ?z4 ?z5 ?z6 ?z7 ?z8 ?z9 ?z10 ?z11 ?y0 ?y1 ?y2
    (case a0 => k_is); (case l0 => k_is); (case c0 => k_is); (case k0 => k_is); (case a1 => k_is); (case l1 => k_is); (case c1 => k_is); (case k1 => k_is); (case a2 => k_is); (case l2 => k_is); (case c2 => k_is); (case k2 => k_is); (case a3 => k_is); (case l3 => k_is); (case c3 => k_is); (case k3 => k_is); (case a4 => k_is); (case l4 => k_is); (case c4 => k_is); (case k4 => k_is); (case a5 => k_is); (case l5 => k_is); (case c5 => k_is); (case k5 => k_is); (case a6 => k_is); (case l6 => k_is); (case c6 => k_is); (case k6 => k_is); (case a7 => k_is); (case l7 => k_is); (case c7 => k_is); (case k7 => k_is); (case z0 => k_is); (case z1 => k_is); (case z2 => k_is); (case z3 => k_is); (case z4 => k_is); (case z5 => k_is); (case z6 => k_is); (case z7 => k_is); (case z8 => k_is); (case z9 => k_is); (case z10 => k_is); (case z11 => k_is); (case y0 => k_is); (case y1 => k_is); (case y2 => k_is)

