import PyProof.Rows.All
import Wide.All
import OpenK.AllK
import Wide.FinOn
import HandS.ForMost
import HandS.Evl
import HandS.IsInst
import HandS.TupLe
import PySem.Challenge.RW_merestone_k00_words_modulo_65536
set_option Elab.async false
set_option linter.all false
set_option maxRecDepth 100000
set_option maxHeartbeats 4000000
namespace Mv
open PySem PySem.Spec PyProof.Rows L2 Evl

/-! ### a def of the top -/
structure DefAt (K : PySem.W.Frag) (mg : Str → Option Value) (x : Str) (st : Stmt) (f : Addr) (fd : FuncData) (ps : List Str) : Prop where
  F : Fun K x x st f fd
  g : mg x = some (.ref f)
  b : Binds K fd ps []

/-! ### a promise: a value of the arguments -/
def spV {α : Type} (pack : α → List V) (pre : α → Prop) (res : α → V) : Sp := fun vs H Q _ => ∃ a, vs = pack a ∧ pre a ∧ RetV (res a) H Q
theorem spv {α : Type} {pack : α → List V} {pre : α → Prop} {res : α → V} {H : Hp} (a : α) (h : pre a) : SpV (spV pack pre res) (pack a) H (res a) := fun H1 _ Q q E => ⟨a, rfl, h, fun H2 e2 => q H2 e2⟩
/-- a statement's reading from every heap over H -/
def Go (t : TS) (D : Ends) (σ : L2.St) (H : Hp) : Prop := ∀ H', Ex H H' → t D σ H'
theorem ok_spV {P : Program} {w : World} {K : PySem.W.Frag} {mg : Str → Option Value} {base : Heap} {α : Type} {pack : α → List V} {pre : α → Prop} {res : α → V} {x qual : Str} {st : Stmt} {f : Addr} {fd : FuncData} {N ps : List Str} {k : Nat}
    (F : Fun K x qual st f fd) (S : FnScope N ps (defScope st)) (hl : ∀ a, (pack a).length = ps.length)
    (body : ∀ (cdv : Value) (A : Around) (outer : List Env) (s : Shared) (H : Hp) (a : α) (Q : VK) (E : XK), Room k (A.deeper (envOfC qual (defScope st) s.heap.objs.size f cdv)) → pre a → RetV (res a) H Q →
      ∃ t, PSs (cxOf CX0 P w K mg base N qual (defScope st) f cdv A outer s H E).nox (defBody st) t ∧ Go t { nx := fun _ H' => Q .non H', rt := Q } (start N (pack a)) H) : FnOk P w K mg base CX0 (k + 1) f fd ps (spV pack pre res) := by
  refine F.ok S (fun vs H Q E h => ?_) (fun cdv A outer s H vs Q E hr h => ?_)
  · obtain ⟨a, rfl, _⟩ := h
    exact hl a
  · obtain ⟨a, rfl, h1, h2⟩ := h
    obtain ⟨t, h3, h4⟩ := body cdv A outer s H a Q E hr h1 h2
    exact ⟨t, h3, h4 H (Ex.refl H)⟩

/-! ### a new list that a def hands back -/
def spL {α : Type} (pack : α → List V) (pre : α → Hp → Prop) (res : α → List V) : Sp := fun vs H Q _ => ∃ a, vs = pack a ∧ pre a H ∧ RetL (res a) H Q
theorem ok_spL {P : Program} {w : World} {K : PySem.W.Frag} {mg : Str → Option Value} {base : Heap} {α : Type} {pack : α → List V} {pre : α → Hp → Prop} {res : α → List V} {x qual : Str} {st : Stmt} {f : Addr} {fd : FuncData} {N ps : List Str} {k : Nat}
    (F : Fun K x qual st f fd) (S : FnScope N ps (defScope st)) (hl : ∀ a, (pack a).length = ps.length)
    (body : ∀ (cdv : Value) (A : Around) (outer : List Env) (s : Shared) (H : Hp) (a : α) (Q : VK) (E : XK), Room k (A.deeper (envOfC qual (defScope st) s.heap.objs.size f cdv)) → pre a H → RetL (res a) H Q →
      ∃ t, PSs (cxOf CX0 P w K mg base N qual (defScope st) f cdv A outer s H E).nox (defBody st) t ∧ Go t { nx := fun _ H' => Q .non H', rt := Q } (start N (pack a)) H) : FnOk P w K mg base CX0 (k + 1) f fd ps (spL pack pre res) := by
  refine F.ok S (fun vs H Q E h => ?_) (fun cdv A outer s H vs Q E hr h => ?_)
  · obtain ⟨a, rfl, _⟩ := h
    exact hl a
  · obtain ⟨a, rfl, h1, h2⟩ := h
    obtain ⟨t, h3, h4⟩ := body cdv A outer s H a Q E hr h1 h2
    exact ⟨t, h3, h4 H (Ex.refl H)⟩
theorem spl {α : Type} {pack : α → List V} {pre : α → Hp → Prop} {res : α → List V} {H : Hp} (a : α) (h : ∀ H1, Ex H H1 → pre a H1) : SpL (spL pack pre res) (pack a) H (res a) := fun H1 e Q q E => ⟨a, rfl, h H1 e, fun p H2 hp e2 h2 => q p H2 hp e2 h2⟩

theorem cond_t {α : Type} {b : Bool} {A B : α} (h : b = true) : A = cond b A B := by
  rw [h]
  rfl
theorem cond_f {α : Type} {b : Bool} {A B : α} (h : b = false) : B = cond b A B := by
  rw [h]
  rfl

/-! ### statements from every heap over H -/
section
variable {K : PySem.W.Frag} {σ : L2.St} {H : Hp} {ta tb te tc : TE} {t u : TT} {x y z v : V} {D : Ends} {tu tw tz : TS} {g : TG}
theorem g_asg {i : Nat} (h : Ev te σ H v) (k : Go tz D (σ.set i (some v)) H) : Go (tSeq (tAsg te (gName i)) tz) D σ H := fun H' e => q_asg (h.mono e) fun H1 e1 => k H1 (e.trans e1)
theorem g_asgL {i : Nat} {xs : List V} (h : EvL te σ H xs) (k : ∀ p H1, H p = none → Ex H H1 → H1 p = some (.lst xs) → Go tz D (σ.set i (some (.ref p))) H1) : Go (tSeq (tAsg te (gName i)) tz) D σ H := fun H' e =>
  q_asgL (h.mono e) fun p H1 hp e1 h1 => k p H1 (fresh_back e hp) (e.trans e1) h1 H1 (Ex.refl H1)
/-- return a value, told otherwise -/
theorem g_ret2 {w : V} (h : Ev te σ H v) (k : RetV w H D.rt) (e : v = w) : Go (tRet te) D σ H := fun H' x => s_ret (h.mono x) fun H1 e1 => by
  rw [e]
  exact k H1 (x.trans e1)
theorem g_ret (h : Ev te σ H v) (k : RetV v H D.rt) : Go (tRet te) D σ H := fun H' e => s_ret (h.mono e) fun H1 e1 => k H1 (e.trans e1)
theorem g_retL {xs : List V} (h : EvL te σ H xs) (k : RetL xs H D.rt) : Go (tRet te) D σ H := fun H' e => h H' e _ fun p H1 hp e1 h1 => k p H1 (fresh_back e hp) (e.trans e1) h1
/-- return a list that was made here -/
theorem g_retN {xs : List V} {p : Addr} {H0 : Hp} (h : Ev te σ H (.ref p)) (hp : H p = some (.lst xs)) (h0 : H0 p = none) (e0 : Ex H0 H) (k : RetL xs H0 D.rt) : Go (tRet te) D σ H := fun H' e => h H' e _ fun H1 e1 => k p H1 h0 (e0.trans (e.trans e1)) ((e.trans e1) p _ hp)
theorem g_if {b : Bool} (h : EvT t σ H b) (h1 : b = true → Go tu { D with nx := tz D } σ H) (h2 : b = false → Go tw { D with nx := tz D } σ H) : Go (tSeq (tIfS t tu tw) tz) D σ H := fun H' e =>
  q_if (h.mono e) (fun hb H1 e1 => h1 hb H1 (e.trans e1)) fun hb H1 e1 => h2 hb H1 (e.trans e1)
theorem g_when {b : Bool} (h : EvT t σ H b) (h1 : b = true → Go tu { D with nx := tz D } σ H) (h2 : b = false → Go tz D σ H) : Go (tSeq (tIfS t tu tNext) tz) D σ H := fun H' e =>
  q_when (h.mono e) (fun hb H1 e1 => h1 hb H1 (e.trans e1)) fun hb H1 e1 => h2 hb H1 (e.trans e1)
theorem g_if1 {b : Bool} (h : EvT t σ H b) (h1 : b = true → Go tu D σ H) (h2 : b = false → Go tw D σ H) : Go (tIfS t tu tw) D σ H := fun H' e =>
  s_if (h.mono e) (fun hb H1 e1 => h1 hb H1 (e.trans e1)) fun hb H1 e1 => h2 hb H1 (e.trans e1)
theorem g_asg1 {i : Nat} (h : Ev te σ H v) (k : ∀ H1, Ex H H1 → D.nx (σ.set i (some v)) H1) : Go (tAsg te (gName i)) D σ H := fun H' e => s_asg (h.mono e) fun H1 e1 => k H1 (e.trans e1)
theorem g_asgL1 {i : Nat} {xs : List V} (h : EvL te σ H xs) (k : ∀ p H1, H p = none → Ex H H1 → H1 p = some (.lst xs) → D.nx (σ.set i (some (.ref p))) H1) : Go (tAsg te (gName i)) D σ H := fun H' e =>
  s_asgL (h.mono e) fun p H1 hp e1 h1 => k p H1 (fresh_back e hp) (e.trans e1) h1
theorem g_next (k : ∀ H', Ex H H' → D.nx σ H') : Go tNext D σ H := k
theorem g_forR1 {ta : TA} {j : Nat} {n : Int} (h : EvA ta σ H [.int n]) (hn : 0 ≤ n ∧ n ≤ 100000) (Pv : Nat → L2.St → Hp → Prop) (h0 : ∀ H1, Ex H H1 → Pv 0 σ H1)
    (hs : ∀ (i : Nat) σ' H', (i : Int) < n → Pv i σ' H' → Go tu { D with nx := Pv (i + 1), ct := Pv (i + 1), bk := tz D } (σ'.set j (some (.int (i : Int)))) H') (hd : ∀ σ' H', Pv n.toNat σ' H' → Go tz D σ' H') : Go (tSeq (tFor (iRng1 ta) (gName j) tu) tz) D σ H :=
  fun H' e => q_forR1 (fun H1 e1 => h H1 (e.trans e1)) hn Pv (fun H1 e1 => h0 H1 (e.trans e1)) (fun i σ' H' hi p => hs i σ' H' hi p H' (Ex.refl H')) fun σ' H' p => hd σ' H' p H' (Ex.refl H')

theorem g_cut (Mid : L2.St → Hp → Prop) (h1 : Go tu { D with nx := Mid } σ H) (h2 : ∀ σ' H', Mid σ' H' → Go tz D σ' H') : Go (tCut tu tz) D σ H := fun H' e => ⟨Mid, h1 H' e, fun σ' H2 q => h2 σ' H2 q H2 (Ex.refl H2)⟩
theorem g_when1 {b : Bool} (h : EvT t σ H b) (h1 : b = true → Go tu D σ H) (h2 : b = false → ∀ H', Ex H H' → D.nx σ H') : Go (tIfS t tu tNext) D σ H := fun H' e =>
  s_when (h.mono e) (fun hb H1 e1 => h1 hb H1 (e.trans e1)) fun hb H1 e1 => h2 hb H1 (e.trans e1)
theorem g_forR1' {ta : TA} {j : Nat} {n : Int} (h : EvA ta σ H [.int n]) (hn : 0 ≤ n ∧ n ≤ 100000) (Pv : Nat → L2.St → Hp → Prop) (h0 : ∀ H1, Ex H H1 → Pv 0 σ H1)
    (hs : ∀ (i : Nat) σ' H', (i : Int) < n → Pv i σ' H' → Go tu { D with nx := Pv (i + 1), ct := Pv (i + 1), bk := D.nx } (σ'.set j (some (.int (i : Int)))) H') (hd : ∀ σ' H', Pv n.toNat σ' H' → D.nx σ' H') : Go (tFor (iRng1 ta) (gName j) tu) D σ H :=
  fun H' e => s_forR1 (fun H1 e1 => h H1 (e.trans e1)) hn Pv (fun H1 e1 => h0 H1 (e.trans e1)) (fun i σ' H' hi p => hs i σ' H' hi p H' (Ex.refl H')) fun σ' H' p => hd σ' H' p

/-! ### isinstance of built-in types -/
theorem i_int_int : PySem.W.kitOne K (.type "int") (.type "int") = some true := kit_ty (by decide +kernel)
theorem i_int_bool : PySem.W.kitOne K (.type "int") (.type "bool") = some false := kit_ty (by decide +kernel)
theorem i_bool_bool : PySem.W.kitOne K (.type "bool") (.type "bool") = some true := kit_ty (by decide +kernel)
theorem i_bool_int : PySem.W.kitOne K (.type "bool") (.type "int") = some true := kit_ty (by decide +kernel)
theorem i_str_str : PySem.W.kitOne K (.type "str") (.type "str") = some true := kit_ty (by decide +kernel)
theorem i_tuple_tuple : PySem.W.kitOne K (.type "tuple") (.type "tuple") = some true := kit_ty (by decide +kernel)
/-! ### expressions -/
theorem given_all (xs : List V) (g : V → V) : given xs.length (fun _ => true) (fun i => g (xs.getD i .non)) = xs.map g := by
  unfold given
  rw [List.filter_eq_self.mpr (fun _ _ => rfl)]
  refine List.ext_getElem? fun i => ?_
  rw [List.getElem?_map, List.getElem?_map]
  by_cases h : i < xs.length
  · rw [List.getElem?_range h, List.getElem?_eq_getElem h]
    show some (g (xs.getD i .non)) = some (g xs[i])
    rw [List.getD_eq_getElem?_getD, List.getElem?_eq_getElem h]
    rfl
  · rw [List.getElem?_eq_none (by rw [List.length_range]; omega), List.getElem?_eq_none (by omega)]
    rfl
theorem et_yes : EvT tYes σ H true := fun H1 _ _ q => q H1 (Ex.refl H1)
/-- [e for x in xs] -/
theorem el_map {a : Addr} {xs : List V} {tl : TE} {j : Nat} {vs : List Nat} (f : V → V) (h : Ev tl σ H (.ref a)) (hx : SqL K H a xs) (hz : xs.length ≤ 40000) (hw : ∀ x, wipe ((wipe σ vs).set j (some x)) vs = wipe σ vs)
    (he : ∀ (i : Nat) (x : V) H1, Ex H H1 → xs[i]? = some x → Ev te ((wipe σ vs).set j (some x)) H1 (f x)) : EvL (tLc (iList K tl) (gName j) tYes te vs) σ H (xs.map f) := by
  rw [← given_all xs f]
  refine el_lcL (fun _ => true) _ h hx hz hw (fun i x H1 _ _ => et_yes) fun i x H1 e hi _ => ?_
  have e1 : xs.getD i .non = x := by rw [List.getD_eq_getElem?_getD, hi]; rfl
  rw [e1]
  exact he i x H1 e hi
theorem ev_chain {r r' : R2} {p q : Bool} (ha : Ev ta σ H x) (hb : Ev tb σ H y) (hr : RV r x y H (.bl p)) (hc : p = true → Ev tc σ H z) (hr' : p = true → RV r' y z H (.bl q)) : Ev (tChain r r' ta tb tc) σ H (.bl (p && q)) := fun H1 e Q k =>
  ha H1 e _ fun H2 e2 => hb H2 (e.trans e2) _ fun H3 e3 => hr H3 ((e.trans e2).trans e3) _ fun H4 e4 => ⟨p, rfl, by
    cases p with
    | true =>
      show tc σ H4 _
      exact hc rfl H4 (((e.trans e2).trans e3).trans e4) _ fun H5 e5 => hr' rfl H5 ((((e.trans e2).trans e3).trans e4).trans e5) _ fun H6 e6 => k H6 ((((e2.trans e3).trans e4).trans e5).trans e6)
    | false =>
      show Q (.bl false) H4
      exact k H4 ((e2.trans e3).trans e4)⟩
def rInt1 : List V → Hp → VK → Prop := fun xs H Q => (∃ i, xs = [.int i] ∧ Q (.int i) H) ∨ ∃ k, xs = [.bl k] ∧ Q (.int (if k then 1 else 0)) H
theorem ev_int {i : Int} (ha : Ev ta σ H (.int i)) : Ev (tCB rInt1 (tCons ta tNil)) σ H (.int i) := fun H1 e Q q => ha H1 e _ fun H2 e2 => .inl ⟨i, rfl, q H2 e2⟩
theorem ev_intB {k : Bool} (ha : Ev ta σ H (.bl k)) : Ev (tCB rInt1 (tCons ta tNil)) σ H (.int (if k then 1 else 0)) := fun H1 e Q q => ha H1 e _ fun H2 e2 => .inr ⟨k, rfl, q H2 e2⟩
/-- isinstance(x, int), isinstance(x, bool) of an int, a bool -/
theorem ev_isi {T : String} {b : Bool} {t : Value} (ha : Ev ta σ H x) (ty : ∀ H1, TyOf K H1 x t) (hk : PySem.W.kitOne K t (.type T) = some b) : Ev (tCB (rIsi K) (tCons ta (tCons (tC (.ty T)) tNil))) σ H (.bl b) := fun H1 e Q q =>
  ha H1 e _ fun H2 e2 => ⟨x, .ty T, t, .type T, b, rfl, .ty T, .base (ty H2), hk, q H2 e2⟩
/-- a list's item, the list as it lies -/
theorem ev_itL {p : Addr} {xs : List V} {i : Int} (ha : Ev ta σ H (.ref p)) (h : SqL K H p xs) (hb : Ev tb σ H (.int i)) (hi : atI xs i = some v) : Ev (tOp (rIxL K) ta tb) σ H v := ev_op ha hb (rv_ixL h hi)
/-- an item of a list that is written in place -/
theorem ev_itN {xs : List V} {i : Int} (ha : EvL ta σ H xs) (hb : Ev tb σ H (.int i)) (hi : atI xs i = some v) : Ev (tOp (rIxL K) ta tb) σ H v := ev_opL1 ha (fun H1 e => hb.mono e) fun p H1 h e => rv_ixL (sq_of h) hi
theorem atI_int {xs : List V} {i : Int} {v : V} (h0 : 0 ≤ i) (h : xs[i.toNat]? = some v) : atI xs i = some v := by
  have e : i = ((i.toNat : Nat) : Int) := by omega
  rw [e]
  exact atI_nat h
def pick (ns : List Int) (i : Int) : Int := ns.getD i.toNat 0
theorem atI_pick {ns : List Int} {i : Int} (h0 : 0 ≤ i) (h : i.toNat < ns.length) : atI (ns.map V.int) i = some (.int (pick ns i)) := by
  refine atI_int h0 ?_
  rw [List.getElem?_map, List.getElem?_eq_getElem h]
  unfold pick
  rw [List.getD_eq_getElem?_getD, List.getElem?_eq_getElem h]
  rfl
/-- xs + ys, both at hand -/
theorem el_cat {xs ys : List V} {p q : Addr} (ha : Ev ta σ H (.ref p)) (hp : H p = some (.lst xs)) (hb : Ev tb σ H (.ref q)) (hq : H q = some (.lst ys)) (hl : xs.length + ys.length ≤ 100000) : EvL (tOp rCat ta tb) σ H (xs ++ ys) := fun H1 e Q k =>
  ha H1 e _ fun H2 e2 => hb H2 (e.trans e2) _ fun H3 e3 => ⟨p, q, xs, ys, rfl, rfl, ((e.trans e2).trans e3) p _ hp, ((e.trans e2).trans e3) q _ hq, sz_of hl, fun r hr => k r _ (fresh_back (e2.trans e3) hr) ((e2.trans e3).trans (Ex.new hr)) upd_same⟩
/-- xs + [..] -/
theorem el_catN {xs ys : List V} {p : Addr} (ha : Ev ta σ H (.ref p)) (hp : H p = some (.lst xs)) (hb : EvL tb σ H ys) (hl : xs.length + ys.length ≤ 100000) : EvL (tOp rCat ta tb) σ H (xs ++ ys) := fun H1 e Q k =>
  ha H1 e _ fun H2 e2 => hb H2 (e.trans e2) _ fun q H3 hq e3 h3 => ⟨p, q, xs, ys, rfl, rfl, ((e.trans e2).trans e3) p _ hp, h3, sz_of hl, fun r hr => k r _ (fresh_back (e2.trans e3) hr) ((e2.trans e3).trans (Ex.new hr)) upd_same⟩
/-- [..] + ys -/
theorem el_catN2 {xs ys : List V} {q : Addr} (ha : EvL ta σ H xs) (hb : Ev tb σ H (.ref q)) (hq : H q = some (.lst ys)) (hl : xs.length + ys.length ≤ 100000) : EvL (tOp rCat ta tb) σ H (xs ++ ys) := fun H1 e Q k =>
  ha H1 e _ fun p H2 hp e2 h2 => hb H2 (e.trans e2) _ fun H3 e3 => ⟨p, q, xs, ys, rfl, rfl, e3 p _ h2, ((e.trans e2).trans e3) q _ hq, sz_of hl, fun r hr => k r _ (fresh_back (e2.trans e3) hr) ((e2.trans e3).trans (Ex.new hr)) upd_same⟩
theorem rv_eqI {i j : Int} : RV rEq (.int i) (.int j) H (.bl (decide (i = j))) := by
  have e : decide (V.int i = V.int j) = decide (i = j) := by
    by_cases h : i = j
    · rw [h, decide_eq_true rfl, decide_eq_true rfl]
    · rw [decide_eq_false h, decide_eq_false fun z => h (V.int.inj z)]
  rw [← e]
  exact rv_eq rfl
theorem rv_neI {i j : Int} : RV rNe (.int i) (.int j) H (.bl (!decide (i = j))) := by
  have e : decide (V.int i = V.int j) = decide (i = j) := by
    by_cases h : i = j
    · rw [h, decide_eq_true rfl, decide_eq_true rfl]
    · rw [decide_eq_false h, decide_eq_false fun z => h (V.int.inj z)]
  rw [← e]
  exact rv_ne rfl
theorem rv_eqB {i j : Bool} : RV rEq (.bl i) (.bl j) H (.bl (decide (i = j))) := by
  have e : decide (V.bl i = V.bl j) = decide (i = j) := by cases i <;> cases j <;> rfl
  rw [← e]
  exact rv_eq rfl
theorem rv_neB {i j : Bool} : RV rNe (.bl i) (.bl j) H (.bl (!decide (i = j))) := by
  have e : decide (V.bl i = V.bl j) = decide (i = j) := by cases i <;> cases j <;> rfl
  rw [← e]
  exact rv_ne rfl
theorem rv_eqS {i j : Str} : RV rEq (.str i) (.str j) H (.bl (decide (i = j))) := by
  have e : decide (V.str i = V.str j) = decide (i = j) := by
    by_cases h : i = j
    · rw [h, decide_eq_true rfl, decide_eq_true rfl]
    · rw [decide_eq_false h, decide_eq_false fun z => h (V.str.inj z)]
  rw [← e]
  exact rv_eq rfl
theorem rv_neS {i j : Str} : RV rNe (.str i) (.str j) H (.bl (!decide (i = j))) := by
  have e : decide (V.str i = V.str j) = decide (i = j) := by
    by_cases h : i = j
    · rw [h, decide_eq_true rfl, decide_eq_true rfl]
    · rw [decide_eq_false h, decide_eq_false fun z => h (V.str.inj z)]
  rw [← e]
  exact rv_ne rfl
theorem ev_isbl {a b : Bool} : RV (fun x y H Q => ∃ a b, x = V.bl a ∧ y = V.bl b ∧ Q (.bl (decide (a = b))) H) (.bl a) (.bl b) H (.bl (decide (a = b))) := fun H1 _ _ q => ⟨a, b, rfl, rfl, q H1 (Ex.refl H1)⟩
/-- what is a list's truth -/
theorem et_truL {p : Addr} {xs : List V} (ha : Ev ta σ H (.ref p)) (h : SqL K H p xs) : EvT (fun σ H Q => ta σ H fun x H' => ∃ k, TruV K x H' k ∧ Q k H') σ H (!xs.isEmpty) := fun H1 e Q q =>
  ha H1 e _ fun H2 e2 => ⟨!xs.isEmpty, .inl ⟨xs, ex_l (e.trans e2) h, rfl⟩, q H2 e2⟩
end
end Mv
namespace K00
open PySem PySem.Spec PyProof.Rows L2 Evl Mv
def topS (i : Nat) : Stmt := PySem.Challenge.pw_merestone_k00_words_modulo_65536.main.body.getD i (.Pass ⟨0, 0, 0, 0⟩)
abbrev sLawBits : Stmt := topS 18
abbrev NLawBits : List Str := ["first", "second", "found", "bit", "k", "one", "two"]
abbrev PLawBits : List Str := ["first", "second"]
theorem scLawBits : FnScope NLawBits PLawBits (defScope sLawBits) := ⟨rfl, rfl, rfl, by decide +kernel, rfl, by decide +kernel, by decide +kernel⟩
abbrev sLawShifts : Stmt := topS 19
abbrev NLawShifts : List Str := ["word", "count", "left", "right", "k"]
abbrev PLawShifts : List Str := ["word", "count"]
theorem scLawShifts : FnScope NLawShifts PLawShifts (defScope sLawShifts) := ⟨rfl, rfl, rfl, by decide +kernel, rfl, by decide +kernel, by decide +kernel⟩
abbrev sLaw : Stmt := topS 20
abbrev NLaw : List Str := ["script", "cells", "cell", "k", "first", "second", "count", "number", "right", "bits", "shifts", "told", "due", "at"]
abbrev PLaw : List Str := ["script"]
theorem scLaw : FnScope NLaw PLaw (defScope sLaw) := ⟨rfl, rfl, rfl, by decide +kernel, rfl, by decide +kernel, by decide +kernel⟩
abbrev sIsWord : Stmt := topS 3
abbrev NIsWord : List Str := ["number"]
abbrev PIsWord : List Str := ["number"]
theorem scIsWord : FnScope NIsWord PIsWord (defScope sIsWord) := ⟨rfl, rfl, rfl, by decide +kernel, rfl, by decide +kernel, by decide +kernel⟩

def fIsWord (v_number : Int) : Bool :=
  (decide (0 ≤ v_number) && decide (v_number < (65536)))
def spIsWord : Sp := fun vs H Q _ => ∃ (v_number : Int), vs = [.int v_number] ∧ (True) ∧ RetV (.bl (fIsWord v_number)) H Q
theorem ev_IsWord {t0 : TE} {E : XK} {σ : L2.St} {H : Hp} {v_number : Int} (h0 : Ev t0 σ H (.int v_number)) : Ev (tCall spIsWord [] E (tCons t0 tNil)) σ H (.bl (fIsWord v_number)) :=
  ev_call (ea_cons h0 ea_nil) (fun H1 _ Q q E => ⟨v_number, rfl, trivial, fun H2 e2 => q H2 e2⟩)
abbrev sWrap : Stmt := topS 4
abbrev NWrap : List Str := ["number"]
abbrev PWrap : List Str := ["number"]
theorem scWrap : FnScope NWrap PWrap (defScope sWrap) := ⟨rfl, rfl, rfl, by decide +kernel, rfl, by decide +kernel, by decide +kernel⟩

def fWrap (v_number : Int) : Int :=
  (v_number % (65536))
def spWrap : Sp := fun vs H Q _ => ∃ (v_number : Int), vs = [.int v_number] ∧ (True) ∧ RetV (.int (fWrap v_number)) H Q
theorem ev_Wrap {t0 : TE} {E : XK} {σ : L2.St} {H : Hp} {v_number : Int} (h0 : Ev t0 σ H (.int v_number)) : Ev (tCall spWrap [] E (tCons t0 tNil)) σ H (.int (fWrap v_number)) :=
  ev_call (ea_cons h0 ea_nil) (fun H1 _ Q q E => ⟨v_number, rfl, trivial, fun H2 e2 => q H2 e2⟩)
abbrev sSigned : Stmt := topS 5
abbrev NSigned : List Str := ["word"]
abbrev PSigned : List Str := ["word"]
theorem scSigned : FnScope NSigned PSigned (defScope sSigned) := ⟨rfl, rfl, rfl, by decide +kernel, rfl, by decide +kernel, by decide +kernel⟩

def fSigned (v_word : Int) : Int :=
  cond (decide (v_word < (32768)))
    (v_word)
    ((v_word - (65536)))
def spSigned : Sp := fun vs H Q _ => ∃ (v_word : Int), vs = [.int v_word] ∧ (True) ∧ RetV (.int (fSigned v_word)) H Q
theorem ev_Signed {t0 : TE} {E : XK} {σ : L2.St} {H : Hp} {v_word : Int} (h0 : Ev t0 σ H (.int v_word)) : Ev (tCall spSigned [] E (tCons t0 tNil)) σ H (.int (fSigned v_word)) :=
  ev_call (ea_cons h0 ea_nil) (fun H1 _ Q q E => ⟨v_word, rfl, trivial, fun H2 e2 => q H2 e2⟩)
abbrev sAdd : Stmt := topS 6
abbrev NAdd : List Str := ["first", "second"]
abbrev PAdd : List Str := ["first", "second"]
theorem scAdd : FnScope NAdd PAdd (defScope sAdd) := ⟨rfl, rfl, rfl, by decide +kernel, rfl, by decide +kernel, by decide +kernel⟩

def fAdd (v_first : Int) (v_second : Int) : Int :=
  (fWrap (v_first + v_second))
def spAdd : Sp := fun vs H Q _ => ∃ (v_first : Int) (v_second : Int), vs = [.int v_first, .int v_second] ∧ (True) ∧ RetV (.int (fAdd v_first v_second)) H Q
theorem ev_Add {t0 t1 : TE} {E : XK} {σ : L2.St} {H : Hp} {v_first : Int} {v_second : Int} (h0 : Ev t0 σ H (.int v_first)) (h1 : Ev t1 σ H (.int v_second)) : Ev (tCall spAdd [] E (tCons t0 (tCons t1 tNil))) σ H (.int (fAdd v_first v_second)) :=
  ev_call (ea_cons h0 (ea_cons h1 ea_nil)) (fun H1 _ Q q E => ⟨v_first, v_second, rfl, trivial, fun H2 e2 => q H2 e2⟩)
abbrev sSub : Stmt := topS 7
abbrev NSub : List Str := ["first", "second"]
abbrev PSub : List Str := ["first", "second"]
theorem scSub : FnScope NSub PSub (defScope sSub) := ⟨rfl, rfl, rfl, by decide +kernel, rfl, by decide +kernel, by decide +kernel⟩

def fSub (v_first : Int) (v_second : Int) : Int :=
  (fWrap (v_first - v_second))
def spSub : Sp := fun vs H Q _ => ∃ (v_first : Int) (v_second : Int), vs = [.int v_first, .int v_second] ∧ (True) ∧ RetV (.int (fSub v_first v_second)) H Q
theorem ev_Sub {t0 t1 : TE} {E : XK} {σ : L2.St} {H : Hp} {v_first : Int} {v_second : Int} (h0 : Ev t0 σ H (.int v_first)) (h1 : Ev t1 σ H (.int v_second)) : Ev (tCall spSub [] E (tCons t0 (tCons t1 tNil))) σ H (.int (fSub v_first v_second)) :=
  ev_call (ea_cons h0 (ea_cons h1 ea_nil)) (fun H1 _ Q q E => ⟨v_first, v_second, rfl, trivial, fun H2 e2 => q H2 e2⟩)
abbrev sMul : Stmt := topS 8
abbrev NMul : List Str := ["first", "second"]
abbrev PMul : List Str := ["first", "second"]
theorem scMul : FnScope NMul PMul (defScope sMul) := ⟨rfl, rfl, rfl, by decide +kernel, rfl, by decide +kernel, by decide +kernel⟩

def fMul (v_first : Int) (v_second : Int) : Int :=
  (fWrap (v_first * v_second))
def spMul : Sp := fun vs H Q _ => ∃ (v_first : Int) (v_second : Int), vs = [.int v_first, .int v_second] ∧ (-4294967296 < v_first ∧ v_first < 4294967296) ∧ RetV (.int (fMul v_first v_second)) H Q
theorem ev_Mul {t0 t1 : TE} {E : XK} {σ : L2.St} {H : Hp} {v_first : Int} {v_second : Int} (h0 : Ev t0 σ H (.int v_first)) (h1 : Ev t1 σ H (.int v_second)) (hp : -4294967296 < v_first ∧ v_first < 4294967296) : Ev (tCall spMul [] E (tCons t0 (tCons t1 tNil))) σ H (.int (fMul v_first v_second)) :=
  ev_call (ea_cons h0 (ea_cons h1 ea_nil)) (fun H1 _ Q q E => ⟨v_first, v_second, rfl, hp, fun H2 e2 => q H2 e2⟩)
abbrev sBitAnd : Stmt := topS 9
abbrev NBitAnd : List Str := ["first", "second"]
abbrev PBitAnd : List Str := ["first", "second"]
theorem scBitAnd : FnScope NBitAnd PBitAnd (defScope sBitAnd) := ⟨rfl, rfl, rfl, by decide +kernel, rfl, by decide +kernel, by decide +kernel⟩

def fBitAnd (v_first : Int) (v_second : Int) : Int :=
  (PySem.Builtin.bitAnd v_first v_second)
def spBitAnd : Sp := fun vs H Q _ => ∃ (v_first : Int) (v_second : Int), vs = [.int v_first, .int v_second] ∧ (True) ∧ RetV (.int (fBitAnd v_first v_second)) H Q
theorem ev_BitAnd {t0 t1 : TE} {E : XK} {σ : L2.St} {H : Hp} {v_first : Int} {v_second : Int} (h0 : Ev t0 σ H (.int v_first)) (h1 : Ev t1 σ H (.int v_second)) : Ev (tCall spBitAnd [] E (tCons t0 (tCons t1 tNil))) σ H (.int (fBitAnd v_first v_second)) :=
  ev_call (ea_cons h0 (ea_cons h1 ea_nil)) (fun H1 _ Q q E => ⟨v_first, v_second, rfl, trivial, fun H2 e2 => q H2 e2⟩)
abbrev sBitOr : Stmt := topS 10
abbrev NBitOr : List Str := ["first", "second"]
abbrev PBitOr : List Str := ["first", "second"]
theorem scBitOr : FnScope NBitOr PBitOr (defScope sBitOr) := ⟨rfl, rfl, rfl, by decide +kernel, rfl, by decide +kernel, by decide +kernel⟩

def fBitOr (v_first : Int) (v_second : Int) : Int :=
  (PySem.Builtin.bitOr v_first v_second)
def spBitOr : Sp := fun vs H Q _ => ∃ (v_first : Int) (v_second : Int), vs = [.int v_first, .int v_second] ∧ (True) ∧ RetV (.int (fBitOr v_first v_second)) H Q
theorem ev_BitOr {t0 t1 : TE} {E : XK} {σ : L2.St} {H : Hp} {v_first : Int} {v_second : Int} (h0 : Ev t0 σ H (.int v_first)) (h1 : Ev t1 σ H (.int v_second)) : Ev (tCall spBitOr [] E (tCons t0 (tCons t1 tNil))) σ H (.int (fBitOr v_first v_second)) :=
  ev_call (ea_cons h0 (ea_cons h1 ea_nil)) (fun H1 _ Q q E => ⟨v_first, v_second, rfl, trivial, fun H2 e2 => q H2 e2⟩)
abbrev sBitXor : Stmt := topS 11
abbrev NBitXor : List Str := ["first", "second"]
abbrev PBitXor : List Str := ["first", "second"]
theorem scBitXor : FnScope NBitXor PBitXor (defScope sBitXor) := ⟨rfl, rfl, rfl, by decide +kernel, rfl, by decide +kernel, by decide +kernel⟩

def fBitXor (v_first : Int) (v_second : Int) : Int :=
  (PySem.Builtin.bitXor v_first v_second)
def spBitXor : Sp := fun vs H Q _ => ∃ (v_first : Int) (v_second : Int), vs = [.int v_first, .int v_second] ∧ (True) ∧ RetV (.int (fBitXor v_first v_second)) H Q
theorem ev_BitXor {t0 t1 : TE} {E : XK} {σ : L2.St} {H : Hp} {v_first : Int} {v_second : Int} (h0 : Ev t0 σ H (.int v_first)) (h1 : Ev t1 σ H (.int v_second)) : Ev (tCall spBitXor [] E (tCons t0 (tCons t1 tNil))) σ H (.int (fBitXor v_first v_second)) :=
  ev_call (ea_cons h0 (ea_cons h1 ea_nil)) (fun H1 _ Q q E => ⟨v_first, v_second, rfl, trivial, fun H2 e2 => q H2 e2⟩)
abbrev sShiftLeft : Stmt := topS 12
abbrev NShiftLeft : List Str := ["word", "count"]
abbrev PShiftLeft : List Str := ["word", "count"]
theorem scShiftLeft : FnScope NShiftLeft PShiftLeft (defScope sShiftLeft) := ⟨rfl, rfl, rfl, by decide +kernel, rfl, by decide +kernel, by decide +kernel⟩

def fShiftLeft (v_word : Int) (v_count : Int) : Int :=
  (fWrap (v_word * 2 ^ (v_count).toNat))
def spShiftLeft : Sp := fun vs H Q _ => ∃ (v_word : Int) (v_count : Int), vs = [.int v_word, .int v_count] ∧ ((0 ≤ v_word ∧ v_word < 65536) ∧ 0 ≤ v_count ∧ v_count ≤ 1000) ∧ RetV (.int (fShiftLeft v_word v_count)) H Q
theorem ev_ShiftLeft {t0 t1 : TE} {E : XK} {σ : L2.St} {H : Hp} {v_word : Int} {v_count : Int} (h0 : Ev t0 σ H (.int v_word)) (h1 : Ev t1 σ H (.int v_count)) (hp : (0 ≤ v_word ∧ v_word < 65536) ∧ 0 ≤ v_count ∧ v_count ≤ 1000) : Ev (tCall spShiftLeft [] E (tCons t0 (tCons t1 tNil))) σ H (.int (fShiftLeft v_word v_count)) :=
  ev_call (ea_cons h0 (ea_cons h1 ea_nil)) (fun H1 _ Q q E => ⟨v_word, v_count, rfl, hp, fun H2 e2 => q H2 e2⟩)
abbrev sShiftRight : Stmt := topS 13
abbrev NShiftRight : List Str := ["word", "count"]
abbrev PShiftRight : List Str := ["word", "count"]
theorem scShiftRight : FnScope NShiftRight PShiftRight (defScope sShiftRight) := ⟨rfl, rfl, rfl, by decide +kernel, rfl, by decide +kernel, by decide +kernel⟩

def fShiftRight (v_word : Int) (v_count : Int) : Int :=
  (v_word / 2 ^ (v_count).toNat)
def spShiftRight : Sp := fun vs H Q _ => ∃ (v_word : Int) (v_count : Int), vs = [.int v_word, .int v_count] ∧ (0 ≤ v_count) ∧ RetV (.int (fShiftRight v_word v_count)) H Q
theorem ev_ShiftRight {t0 t1 : TE} {E : XK} {σ : L2.St} {H : Hp} {v_word : Int} {v_count : Int} (h0 : Ev t0 σ H (.int v_word)) (h1 : Ev t1 σ H (.int v_count)) (hp : 0 ≤ v_count) : Ev (tCall spShiftRight [] E (tCons t0 (tCons t1 tNil))) σ H (.int (fShiftRight v_word v_count)) :=
  ev_call (ea_cons h0 (ea_cons h1 ea_nil)) (fun H1 _ Q q E => ⟨v_word, v_count, rfl, hp, fun H2 e2 => q H2 e2⟩)
abbrev sLawNumber : Stmt := topS 15
abbrev NLawNumber : List Str := ["cell", "k", "mixed"]
abbrev PLawNumber : List Str := ["cell", "k"]
theorem scLawNumber : FnScope NLawNumber PLawNumber (defScope sLawNumber) := ⟨rfl, rfl, rfl, by decide +kernel, rfl, by decide +kernel, by decide +kernel⟩

def fLawNumber (v_cell : Int) (v_k : Int) : Int :=
  cond (decide ((10 ^ ((18 : Int)).toNat) ≤ v_cell))
    (v_cell)
    (let v_mixed := ((((v_cell * 48271) + (v_k * 69621)) + 11) % 2147483647);
      (((v_mixed * v_mixed) + (v_k * 40692)) % 2147483399))
def spLawNumber : Sp := fun vs H Q _ => ∃ (v_cell : Int) (v_k : Int), vs = [.int v_cell, .int v_k] ∧ (True) ∧ RetV (.int (fLawNumber v_cell v_k)) H Q
theorem ev_LawNumber {t0 t1 : TE} {E : XK} {σ : L2.St} {H : Hp} {v_cell : Int} {v_k : Int} (h0 : Ev t0 σ H (.int v_cell)) (h1 : Ev t1 σ H (.int v_k)) : Ev (tCall spLawNumber [] E (tCons t0 (tCons t1 tNil))) σ H (.int (fLawNumber v_cell v_k)) :=
  ev_call (ea_cons h0 (ea_cons h1 ea_nil)) (fun H1 _ Q q E => ⟨v_cell, v_k, rfl, trivial, fun H2 e2 => q H2 e2⟩)
abbrev sLawWord : Stmt := topS 16
abbrev NLawWord : List Str := ["x"]
abbrev PLawWord : List Str := ["x"]
theorem scLawWord : FnScope NLawWord PLawWord (defScope sLawWord) := ⟨rfl, rfl, rfl, by decide +kernel, rfl, by decide +kernel, by decide +kernel⟩

def fLawWord (v_x : Int) : Int :=
  cond (decide ((v_x % 3) = 0))
    (((((pick [0, 255, 32768, 65535] ((v_x / 3) % 4)) + ((v_x / 12) % 7)) - 3) % 65536))
    (((v_x / 3) % 65536))
def spLawWord : Sp := fun vs H Q _ => ∃ (v_x : Int), vs = [.int v_x] ∧ (True) ∧ RetV (.int (fLawWord v_x)) H Q
theorem ev_LawWord {t0 : TE} {E : XK} {σ : L2.St} {H : Hp} {v_x : Int} (h0 : Ev t0 σ H (.int v_x)) : Ev (tCall spLawWord [] E (tCons t0 tNil)) σ H (.int (fLawWord v_x)) :=
  ev_call (ea_cons h0 ea_nil) (fun H1 _ Q q E => ⟨v_x, rfl, trivial, fun H2 e2 => q H2 e2⟩)
abbrev sLawIs : Stmt := topS 17
abbrev NLawIs : List Str := ["actual", "due"]
abbrev PLawIs : List Str := ["actual", "due"]
theorem scLawIs : FnScope NLawIs PLawIs (defScope sLawIs) := ⟨rfl, rfl, rfl, by decide +kernel, rfl, by decide +kernel, by decide +kernel⟩

def fLawIs (v_actual : Int) (v_due : Int) : Bool :=
  (true && ((!false) && (decide (v_actual = v_due))))
def spLawIs : Sp := fun vs H Q _ => ∃ (v_actual : Int) (v_due : Int), vs = [.int v_actual, .int v_due] ∧ (True) ∧ RetV (.bl (fLawIs v_actual v_due)) H Q
theorem ev_LawIs {t0 t1 : TE} {E : XK} {σ : L2.St} {H : Hp} {v_actual : Int} {v_due : Int} (h0 : Ev t0 σ H (.int v_actual)) (h1 : Ev t1 σ H (.int v_due)) : Ev (tCall spLawIs [] E (tCons t0 (tCons t1 tNil))) σ H (.bl (fLawIs v_actual v_due)) :=
  ev_call (ea_cons h0 (ea_cons h1 ea_nil)) (fun H1 _ Q q E => ⟨v_actual, v_due, rfl, trivial, fun H2 e2 => q H2 e2⟩)
structure Tx (K : PySem.W.Frag) (mg : Str → Option Value) where
  aIsWord : Addr
  fdIsWord : FuncData
  dIsWord : DefAt K mg "is_word" sIsWord aIsWord fdIsWord PIsWord
  aWrap : Addr
  fdWrap : FuncData
  dWrap : DefAt K mg "wrap" sWrap aWrap fdWrap PWrap
  aSigned : Addr
  fdSigned : FuncData
  dSigned : DefAt K mg "signed" sSigned aSigned fdSigned PSigned
  aAdd : Addr
  fdAdd : FuncData
  dAdd : DefAt K mg "add" sAdd aAdd fdAdd PAdd
  aSub : Addr
  fdSub : FuncData
  dSub : DefAt K mg "sub" sSub aSub fdSub PSub
  aMul : Addr
  fdMul : FuncData
  dMul : DefAt K mg "mul" sMul aMul fdMul PMul
  aBitAnd : Addr
  fdBitAnd : FuncData
  dBitAnd : DefAt K mg "bit_and" sBitAnd aBitAnd fdBitAnd PBitAnd
  aBitOr : Addr
  fdBitOr : FuncData
  dBitOr : DefAt K mg "bit_or" sBitOr aBitOr fdBitOr PBitOr
  aBitXor : Addr
  fdBitXor : FuncData
  dBitXor : DefAt K mg "bit_xor" sBitXor aBitXor fdBitXor PBitXor
  aShiftLeft : Addr
  fdShiftLeft : FuncData
  dShiftLeft : DefAt K mg "shift_left" sShiftLeft aShiftLeft fdShiftLeft PShiftLeft
  aShiftRight : Addr
  fdShiftRight : FuncData
  dShiftRight : DefAt K mg "shift_right" sShiftRight aShiftRight fdShiftRight PShiftRight
  aLawNumber : Addr
  fdLawNumber : FuncData
  dLawNumber : DefAt K mg "_law_number" sLawNumber aLawNumber fdLawNumber PLawNumber
  aLawWord : Addr
  fdLawWord : FuncData
  dLawWord : DefAt K mg "_law_word" sLawWord aLawWord fdLawWord PLawWord
  aLawIs : Addr
  fdLawIs : FuncData
  dLawIs : DefAt K mg "_law_is" sLawIs aLawIs fdLawIs PLawIs
  aLawBits : Addr
  fdLawBits : FuncData
  dLawBits : DefAt K mg "_law_bits" sLawBits aLawBits fdLawBits PLawBits
  aLawShifts : Addr
  fdLawShifts : FuncData
  dLawShifts : DefAt K mg "_law_shifts" sLawShifts aLawShifts fdLawShifts PLawShifts
  b_int : mg "int" = none
  b_len : mg "len" = none
  b_range : mg "range" = none
  b_max : mg "max" = none
  b_isinstance : mg "isinstance" = none
  b_bool : mg "bool" = none
  gWORDS : ∃ t, mg "WORDS" = some (.int 65536 t)
  gNEGATIVE : ∃ t, mg "NEGATIVE" = some (.int 32768 t)
section
variable {P : Program} {w : World} {K : PySem.W.Frag} {mg : Str → Option Value} {base : Heap}
theorem ok_IsWord (T : Tx K mg) : FnOk P w K mg base CX0 1 T.aIsWord T.fdIsWord PIsWord spIsWord := by
  refine T.dIsWord.F.ok scIsWord (fun vs H Q E h => ?_) (fun cdv A outer s H vs Q E hr h => ?_)
  · obtain ⟨_, rfl, _⟩ := h
    rfl
  · obtain ⟨v_number, rfl, hp, kq⟩ := h
    refine ⟨_, (pss_one (ps_ret (pe_chain op_le op_lt pe_int (pv 0) (pe_glob (v := .int 65536) (by rfl) T.gWORDS.choose_spec ⟨_, rfl⟩)))), ?_⟩
    exact (g_ret2 (ev_chain ev_c (ev_var rfl) rv_I0 (fun _ => ev_c) (fun _ => rv_I0)) kq (by rfl)) H (Ex.refl H)
theorem ok_Wrap (T : Tx K mg) : FnOk P w K mg base CX0 1 T.aWrap T.fdWrap PWrap spWrap := by
  refine T.dWrap.F.ok scWrap (fun vs H Q E h => ?_) (fun cdv A outer s H vs Q E hr h => ?_)
  · obtain ⟨_, rfl, _⟩ := h
    rfl
  · obtain ⟨v_number, rfl, hp, kq⟩ := h
    refine ⟨_, (pss_one (ps_ret (pe_op op_mod (pv 0) (pe_glob (v := .int 65536) (by rfl) T.gWORDS.choose_spec ⟨_, rfl⟩)))), ?_⟩
    exact (g_ret2 (ev_op (ev_var rfl) ev_c (rv_I (by first | (show (0 : Int) < _; decide) | (show (0 : Int) < _; omega)))) kq (by rfl)) H (Ex.refl H)
theorem ok_Signed (T : Tx K mg) : FnOk P w K mg base CX0 1 T.aSigned T.fdSigned PSigned spSigned := by
  refine T.dSigned.F.ok scSigned (fun vs H Q E h => ?_) (fun cdv A outer s H vs Q E hr h => ?_)
  · obtain ⟨_, rfl, _⟩ := h
    rfl
  · obtain ⟨v_word, rfl, hp, kq⟩ := h
    refine ⟨_, (pss_cons (ps_if (pt_cmpR op_lt (pv 0) (pe_glob (v := .int 32768) (by rfl) T.gNEGATIVE.choose_spec ⟨_, rfl⟩) (nomark _)) (pss_one (ps_ret (pv 0))) pss_nil)
      (pss_one (ps_ret (pe_op op_sub (pv 0) (pe_glob (v := .int 65536) (by rfl) T.gWORDS.choose_spec ⟨_, rfl⟩))))), ?_⟩
    exact (g_when (et_test (ev_op (ev_var rfl) ev_c rv_I0)) (fun b0 => g_ret2 (ev_var rfl) kq (by unfold fSigned; exact congrArg V.int (cond_t b0))) (fun b0 => g_ret2 (ev_op (ev_var rfl) ev_c rv_I0) kq (by unfold fSigned; exact congrArg V.int (cond_f b0)))) H (Ex.refl H)
theorem ok_Add (T : Tx K mg) : FnOk P w K mg base CX0 2 T.aAdd T.fdAdd PAdd spAdd := by
  refine T.dAdd.F.ok scAdd (fun vs H Q E h => ?_) (fun cdv A outer s H vs Q E hr h => ?_)
  · obtain ⟨_, _, rfl, _⟩ := h
    rfl
  · obtain ⟨v_first, v_second, rfl, hp, kq⟩ := h
    refine ⟨_, (pss_one (ps_ret (pe_call (ok_Wrap T) (hr.mono (by decide)) (by rfl) T.dWrap.g T.dWrap.F.kp T.dWrap.b .nil pass0 (pa_cons (pe_op op_add (pv 0) (pv 1)) pa_nil)))), ?_⟩
    exact (g_ret2 (ev_Wrap (ev_op (ev_var rfl) (ev_var rfl) rv_I0)) kq (by rfl)) H (Ex.refl H)
theorem ok_Sub (T : Tx K mg) : FnOk P w K mg base CX0 2 T.aSub T.fdSub PSub spSub := by
  refine T.dSub.F.ok scSub (fun vs H Q E h => ?_) (fun cdv A outer s H vs Q E hr h => ?_)
  · obtain ⟨_, _, rfl, _⟩ := h
    rfl
  · obtain ⟨v_first, v_second, rfl, hp, kq⟩ := h
    refine ⟨_, (pss_one (ps_ret (pe_call (ok_Wrap T) (hr.mono (by decide)) (by rfl) T.dWrap.g T.dWrap.F.kp T.dWrap.b .nil pass0 (pa_cons (pe_op op_sub (pv 0) (pv 1)) pa_nil)))), ?_⟩
    exact (g_ret2 (ev_Wrap (ev_op (ev_var rfl) (ev_var rfl) rv_I0)) kq (by rfl)) H (Ex.refl H)
theorem ok_Mul (T : Tx K mg) : FnOk P w K mg base CX0 2 T.aMul T.fdMul PMul spMul := by
  refine T.dMul.F.ok scMul (fun vs H Q E h => ?_) (fun cdv A outer s H vs Q E hr h => ?_)
  · obtain ⟨_, _, rfl, _⟩ := h
    rfl
  · obtain ⟨v_first, v_second, rfl, hp, kq⟩ := h
    refine ⟨_, (pss_one (ps_ret (pe_call (ok_Wrap T) (hr.mono (by decide)) (by rfl) T.dWrap.g T.dWrap.F.kp T.dWrap.b .nil pass0 (pa_cons (pe_op op_mul (pv 0) (pv 1)) pa_nil)))), ?_⟩
    exact (g_ret2 (ev_Wrap (ev_op (ev_var rfl) (ev_var rfl) (rv_I (by first | exact .inr ⟨by decide, by decide⟩ | exact .inl ⟨by decide, by decide⟩ | exact .inl ⟨by omega, by omega⟩ | exact .inr ⟨by omega, by omega⟩)))) kq (by rfl)) H (Ex.refl H)
theorem ok_BitAnd (T : Tx K mg) : FnOk P w K mg base CX0 1 T.aBitAnd T.fdBitAnd PBitAnd spBitAnd := by
  refine T.dBitAnd.F.ok scBitAnd (fun vs H Q E h => ?_) (fun cdv A outer s H vs Q E hr h => ?_)
  · obtain ⟨_, _, rfl, _⟩ := h
    rfl
  · obtain ⟨v_first, v_second, rfl, hp, kq⟩ := h
    refine ⟨_, (pss_one (ps_ret (pe_op op_and (pv 0) (pv 1)))), ?_⟩
    exact (g_ret2 (ev_op (ev_var rfl) (ev_var rfl) rv_I0) kq (by rfl)) H (Ex.refl H)
theorem ok_BitOr (T : Tx K mg) : FnOk P w K mg base CX0 1 T.aBitOr T.fdBitOr PBitOr spBitOr := by
  refine T.dBitOr.F.ok scBitOr (fun vs H Q E h => ?_) (fun cdv A outer s H vs Q E hr h => ?_)
  · obtain ⟨_, _, rfl, _⟩ := h
    rfl
  · obtain ⟨v_first, v_second, rfl, hp, kq⟩ := h
    refine ⟨_, (pss_one (ps_ret (pe_op op_or (pv 0) (pv 1)))), ?_⟩
    exact (g_ret2 (ev_op (ev_var rfl) (ev_var rfl) rv_I0) kq (by rfl)) H (Ex.refl H)
theorem ok_BitXor (T : Tx K mg) : FnOk P w K mg base CX0 1 T.aBitXor T.fdBitXor PBitXor spBitXor := by
  refine T.dBitXor.F.ok scBitXor (fun vs H Q E h => ?_) (fun cdv A outer s H vs Q E hr h => ?_)
  · obtain ⟨_, _, rfl, _⟩ := h
    rfl
  · obtain ⟨v_first, v_second, rfl, hp, kq⟩ := h
    refine ⟨_, (pss_one (ps_ret (pe_op op_xor (pv 0) (pv 1)))), ?_⟩
    exact (g_ret2 (ev_op (ev_var rfl) (ev_var rfl) rv_I0) kq (by rfl)) H (Ex.refl H)
theorem ok_ShiftLeft (T : Tx K mg) : FnOk P w K mg base CX0 2 T.aShiftLeft T.fdShiftLeft PShiftLeft spShiftLeft := by
  refine T.dShiftLeft.F.ok scShiftLeft (fun vs H Q E h => ?_) (fun cdv A outer s H vs Q E hr h => ?_)
  · obtain ⟨_, _, rfl, _⟩ := h
    rfl
  · obtain ⟨v_word, v_count, rfl, hp, kq⟩ := h
    refine ⟨_, (pss_one (ps_ret (pe_call (ok_Wrap T) (hr.mono (by decide)) (by rfl) T.dWrap.g T.dWrap.F.kp T.dWrap.b .nil pass0 (pa_cons (pe_op op_shl (pv 0) (pv 1)) pa_nil)))), ?_⟩
    exact (g_ret2 (ev_Wrap (ev_op (ev_var rfl) (ev_var rfl) (rv_I (by first | exact ⟨by decide, by decide, by decide⟩ | exact ⟨by omega, by omega, by omega⟩)))) kq (by rfl)) H (Ex.refl H)
theorem ok_ShiftRight (T : Tx K mg) : FnOk P w K mg base CX0 1 T.aShiftRight T.fdShiftRight PShiftRight spShiftRight := by
  refine T.dShiftRight.F.ok scShiftRight (fun vs H Q E h => ?_) (fun cdv A outer s H vs Q E hr h => ?_)
  · obtain ⟨_, _, rfl, _⟩ := h
    rfl
  · obtain ⟨v_word, v_count, rfl, hp, kq⟩ := h
    refine ⟨_, (pss_one (ps_ret (pe_op op_shr (pv 0) (pv 1)))), ?_⟩
    exact (g_ret2 (ev_op (ev_var rfl) (ev_var rfl) (rv_I (by first | (show (0 : Int) ≤ _; decide) | (show (0 : Int) ≤ _; omega)))) kq (by rfl)) H (Ex.refl H)
theorem ok_LawNumber (T : Tx K mg) : FnOk P w K mg base CX0 1 T.aLawNumber T.fdLawNumber PLawNumber spLawNumber := by
  refine T.dLawNumber.F.ok scLawNumber (fun vs H Q E h => ?_) (fun cdv A outer s H vs Q E hr h => ?_)
  · obtain ⟨_, _, rfl, _⟩ := h
    rfl
  · obtain ⟨v_cell, v_k, rfl, hp, kq⟩ := h
    refine ⟨_, (pss_cons (ps_if (pt_cmpR op_ge (pv 0) (pe_op op_pow pe_int pe_int) (nomark _)) (pss_one (ps_ret (pv 0))) pss_nil)
      (pss_cons (ps_set (i := 2) scLawNumber.nd rfl (Or.inl rfl) (pe_op op_mod (pe_callTy call_int1 (by rfl) T.b_int (by decide +kernel) (pa_cons (pe_op op_add (pe_op op_add (pe_op op_mul (pv 0) pe_int) (pe_op op_mul (pv 1) pe_int)) pe_int) pa_nil)) pe_int))
      (pss_one (ps_ret (pe_op op_mod (pe_callTy call_int1 (by rfl) T.b_int (by decide +kernel) (pa_cons (pe_op op_add (pe_op op_mul (pv 2) (pv 2)) (pe_op op_mul (pv 1) pe_int)) pa_nil)) pe_int))))), ?_⟩
    exact (g_when (et_test (ev_op (ev_var rfl) (ev_op ev_c ev_c (rv_I (by first | exact ⟨by decide, by decide, by decide⟩ | exact ⟨by omega, by omega, by omega⟩))) rv_I0)) (fun b0 => g_ret2 (ev_var rfl) kq (by unfold fLawNumber; exact congrArg V.int (cond_t b0))) (fun b0 => g_asg (ev_op (ev_int (ev_op (ev_op (ev_op (ev_var rfl) ev_c (rv_I (by first | exact .inr ⟨by decide, by decide⟩ | exact .inl ⟨by decide, by decide⟩ | exact .inl ⟨by omega, by omega⟩ | exact .inr ⟨by omega, by omega⟩))) (ev_op (ev_var rfl) ev_c (rv_I (by first | exact .inr ⟨by decide, by decide⟩ | exact .inl ⟨by decide, by decide⟩ | exact .inl ⟨by omega, by omega⟩ | exact .inr ⟨by omega, by omega⟩))) rv_I0) ev_c rv_I0)) ev_c (rv_I (by first | (show (0 : Int) < _; decide) | (show (0 : Int) < _; omega)))) (g_ret2 (ev_op (ev_int (ev_op (ev_op (ev_var rfl) (ev_var rfl) (rv_I (by first | exact .inr ⟨by decide, by decide⟩ | exact .inl ⟨by decide, by decide⟩ | exact .inl ⟨by omega, by omega⟩ | exact .inr ⟨by omega, by omega⟩))) (ev_op (ev_var rfl) ev_c (rv_I (by first | exact .inr ⟨by decide, by decide⟩ | exact .inl ⟨by decide, by decide⟩ | exact .inl ⟨by omega, by omega⟩ | exact .inr ⟨by omega, by omega⟩))) rv_I0)) ev_c (rv_I (by first | (show (0 : Int) < _; decide) | (show (0 : Int) < _; omega)))) kq (by unfold fLawNumber; exact congrArg V.int (cond_f b0))))) H (Ex.refl H)
theorem ok_LawWord (T : Tx K mg) : FnOk P w K mg base CX0 1 T.aLawWord T.fdLawWord PLawWord spLawWord := by
  refine T.dLawWord.F.ok scLawWord (fun vs H Q E h => ?_) (fun cdv A outer s H vs Q E hr h => ?_)
  · obtain ⟨_, rfl, _⟩ := h
    rfl
  · obtain ⟨v_x, rfl, hp, kq⟩ := h
    refine ⟨_, (pss_cons (ps_if (pt_cmpR op_eq (pe_op op_mod (pe_callTy call_int1 (by rfl) T.b_int (by decide +kernel) (pa_cons (pv 0) pa_nil)) pe_int) pe_int (nomark _)) (pss_one (ps_ret (pe_op op_mod (pe_callTy call_int1 (by rfl) T.b_int (by decide +kernel) (pa_cons (pe_op op_sub (pe_op op_add (pe_ix ix_list (pe_lst (pa_cons pe_int (pa_cons pe_int (pa_cons pe_int (pa_cons pe_int pa_nil))))) (pe_op op_mod (pe_op op_fdiv (pv 0) pe_int) pe_int) (fun _ _ => rfl)) (pe_op op_mod (pe_op op_fdiv (pv 0) pe_int) pe_int)) pe_int) pa_nil)) pe_int))) pss_nil)
      (pss_one (ps_ret (pe_op op_mod (pe_op op_fdiv (pv 0) pe_int) pe_int)))), ?_⟩
    exact (g_when (et_test (ev_op (ev_op (ev_int (ev_var rfl)) ev_c (rv_I (by first | (show (0 : Int) < _; decide) | (show (0 : Int) < _; omega)))) ev_c rv_eqI)) (fun b0 => g_ret2 (ev_op (ev_int (ev_op (ev_op (ev_itN (el_lst (ea_cons ev_c (ea_cons ev_c (ea_cons ev_c (ea_cons ev_c ea_nil)))) (Nat.le_of_ble_eq_true rfl)) (ev_op (ev_op (ev_var rfl) ev_c (rv_I (by first | exact ⟨by decide, by decide⟩ | exact ⟨by omega, by omega⟩))) ev_c (rv_I (by first | (show (0 : Int) < _; decide) | (show (0 : Int) < _; omega)))) (atI_pick (ns := [0, 255, 32768, 65535]) (by omega) (by show _ < 4; omega))) (ev_op (ev_op (ev_var rfl) ev_c (rv_I (by first | exact ⟨by decide, by decide⟩ | exact ⟨by omega, by omega⟩))) ev_c (rv_I (by first | (show (0 : Int) < _; decide) | (show (0 : Int) < _; omega)))) rv_I0) ev_c rv_I0)) ev_c (rv_I (by first | (show (0 : Int) < _; decide) | (show (0 : Int) < _; omega)))) kq (by unfold fLawWord; exact congrArg V.int (cond_t b0))) (fun b0 => g_ret2 (ev_op (ev_op (ev_var rfl) ev_c (rv_I (by first | exact ⟨by decide, by decide⟩ | exact ⟨by omega, by omega⟩))) ev_c (rv_I (by first | (show (0 : Int) < _; decide) | (show (0 : Int) < _; omega)))) kq (by unfold fLawWord; exact congrArg V.int (cond_f b0)))) H (Ex.refl H)
theorem ok_LawIs (T : Tx K mg) : FnOk P w K mg base CX0 1 T.aLawIs T.fdLawIs PLawIs spLawIs := by
  refine T.dLawIs.F.ok scLawIs (fun vs H Q E h => ?_) (fun cdv A outer s H vs Q E hr h => ?_)
  · obtain ⟨_, _, rfl, _⟩ := h
    rfl
  · obtain ⟨v_actual, v_due, rfl, hp, kq⟩ := h
    refine ⟨_, (pss_one (ps_ret (pe_and (pe_callB call_isi (by rfl) T.b_isinstance (by decide +kernel) (pa_cons (pv 0) (pa_cons (pe_bltn (v := .ty "int") (by rfl) T.b_int boot_int rfl) pa_nil))) (pe_and (pe_not (pe_callB call_isi (by rfl) T.b_isinstance (by decide +kernel) (pa_cons (pv 0) (pa_cons (pe_bltn (v := .ty "bool") (by rfl) T.b_bool boot_bool rfl) pa_nil)))) (pe_one (pe_cmpR op_eq (pv 0) (pv 1) (nomark _))))))), ?_⟩
    exact (g_ret2 (ev_andV (ev_isi (ev_var rfl) (fun _ => .int _) i_int_int) fun _ => (ev_andV (ev_notV (ev_isi (ev_var rfl) (fun _ => .int _) i_int_bool)) fun _ => (ev_op (ev_var rfl) (ev_var rfl) rv_eqI))) kq (by rfl)) H (Ex.refl H)
/-! ### bits -/
theorem nat_step (x k : Nat) : x % 2 ^ (k + 1) = x % 2 ^ k + 2 ^ k * (x / 2 ^ k % 2) := by
  rw [Nat.pow_succ, Nat.mod_mul]
theorem bit_and1 (a b k : Nat) : (a &&& b) / 2 ^ k % 2 = (a / 2 ^ k % 2) * (b / 2 ^ k % 2) := by
  have h := Nat.testBit_and a b k
  simp only [Nat.testBit, Nat.shiftRight_eq_div_pow, Nat.one_and_eq_mod_two] at h
  rcases Nat.mod_two_eq_zero_or_one (a / 2 ^ k) with h1 | h1 <;> rcases Nat.mod_two_eq_zero_or_one (b / 2 ^ k) with h2 | h2 <;> rcases Nat.mod_two_eq_zero_or_one ((a &&& b) / 2 ^ k) with h3 | h3 <;> simp [h1, h2, h3] at h ⊢
theorem bit_or1 (a b k : Nat) : (a ||| b) / 2 ^ k % 2 = max (a / 2 ^ k % 2) (b / 2 ^ k % 2) := by
  have h := Nat.testBit_or a b k
  simp only [Nat.testBit, Nat.shiftRight_eq_div_pow, Nat.one_and_eq_mod_two] at h
  rcases Nat.mod_two_eq_zero_or_one (a / 2 ^ k) with h1 | h1 <;> rcases Nat.mod_two_eq_zero_or_one (b / 2 ^ k) with h2 | h2 <;> rcases Nat.mod_two_eq_zero_or_one ((a ||| b) / 2 ^ k) with h3 | h3 <;> simp [h1, h2, h3] at h ⊢
theorem bit_xor1 (a b k : Nat) : (a ^^^ b) / 2 ^ k % 2 = if a / 2 ^ k % 2 = b / 2 ^ k % 2 then 0 else 1 := by
  have h := Nat.testBit_xor a b k
  simp only [Nat.testBit, Nat.shiftRight_eq_div_pow, Nat.one_and_eq_mod_two] at h
  rcases Nat.mod_two_eq_zero_or_one (a / 2 ^ k) with h1 | h1 <;> rcases Nat.mod_two_eq_zero_or_one (b / 2 ^ k) with h2 | h2 <;> rcases Nat.mod_two_eq_zero_or_one ((a ^^^ b) / 2 ^ k) with h3 | h3 <;> simp [h1, h2, h3] at h ⊢
theorem b_not (x : Nat) : PySem.Builtin.bitNot (x : Int) = -(x : Int) - 1 := by unfold PySem.Builtin.bitNot; omega
theorem b_and (a b : Nat) : PySem.Builtin.bitAnd (a : Int) (b : Int) = ((a &&& b : Nat) : Int) := by
  unfold PySem.Builtin.bitAnd
  rw [decide_eq_true (Int.natCast_nonneg a), decide_eq_true (Int.natCast_nonneg b)]
  rfl
theorem b_or (a b : Nat) : PySem.Builtin.bitOr (a : Int) (b : Int) = ((a ||| b : Nat) : Int) := by
  unfold PySem.Builtin.bitOr
  rw [b_not, b_not]
  unfold PySem.Builtin.bitAnd
  rw [decide_eq_false (show ¬ (0 : Int) ≤ -(a : Int) - 1 by omega), decide_eq_false (show ¬ (0 : Int) ≤ -(b : Int) - 1 by omega)]
  show PySem.Builtin.bitNot (PySem.Builtin.bitNot (((PySem.Builtin.bitNot (-(a : Int) - 1)).toNat ||| (PySem.Builtin.bitNot (-(b : Int) - 1)).toNat : Nat) : Int)) = _
  have e1 : ∀ x : Nat, (PySem.Builtin.bitNot (-(x : Int) - 1)).toNat = x := fun x => by unfold PySem.Builtin.bitNot; omega
  rw [e1, e1, b_not]
  unfold PySem.Builtin.bitNot
  omega
theorem or_xor_and : ∀ (n a b : Nat), a ≤ n → (a ||| b) = (a ^^^ b) + (a &&& b)
  | 0, a, b, h => by
    have e : a = 0 := by omega
    rw [e, Nat.zero_or, Nat.zero_xor, Nat.zero_and]
    rfl
  | n + 1, a, b, h => by
    have ih := or_xor_and n (a / 2) (b / 2) (by omega)
    have h1 := bit_and1 a b 0
    have h2 := bit_or1 a b 0
    have h3 := bit_xor1 a b 0
    simp only [Nat.pow_zero, Nat.div_one] at h1 h2 h3
    have d1 : (a &&& b) / 2 = (a / 2) &&& (b / 2) := Nat.and_div_two
    have d2 : (a ||| b) / 2 = (a / 2) ||| (b / 2) := Nat.or_div_two
    have d3 : (a ^^^ b) / 2 = (a / 2) ^^^ (b / 2) := Nat.xor_div_two
    rw [← d1, ← d2, ← d3] at ih
    rcases Nat.mod_two_eq_zero_or_one a with x | x <;> rcases Nat.mod_two_eq_zero_or_one b with y | y <;> rw [x, y] at h1 h2 h3 <;> simp (decide := true) only [Nat.max_def, if_true, if_false, Nat.mul_zero, Nat.zero_mul, Nat.mul_one] at h1 h2 h3 <;> omega
theorem b_xor (a b : Nat) : PySem.Builtin.bitXor (a : Int) (b : Int) = ((a ^^^ b : Nat) : Int) := by
  unfold PySem.Builtin.bitXor
  rw [b_or, b_and, or_xor_and a a b (Nat.le_refl a)]
  omega
/-- what stands in found behind k turns -/
def A3 (a b : Int) (k : Nat) : List V := [.int (((a.toNat &&& b.toNat) % 2 ^ k : Nat) : Int), .int (((a.toNat ||| b.toNat) % 2 ^ k : Nat) : Int), .int (((a.toNat ^^^ b.toNat) % 2 ^ k : Nat) : Int)]
theorem A3_16 {a b : Int} (ha : 0 ≤ a ∧ a < 65536) (hb : 0 ≤ b ∧ b < 65536) : A3 a b 16 = [.int (PySem.Builtin.bitAnd a b), .int (PySem.Builtin.bitOr a b), .int (PySem.Builtin.bitXor a b)] := by
  have ea : a = ((a.toNat : Nat) : Int) := by omega
  have eb : b = ((b.toNat : Nat) : Int) := by omega
  have la : a.toNat < 2 ^ 16 := by show a.toNat < 65536; omega
  have lb : b.toNat < 2 ^ 16 := by show b.toNat < 65536; omega
  unfold A3
  rw [Nat.mod_eq_of_lt (Nat.and_lt_two_pow _ lb), Nat.mod_eq_of_lt (Nat.or_lt_two_pow la lb), Nat.mod_eq_of_lt (Nat.xor_lt_two_pow la lb)]
  rw [← b_and, ← b_or, ← b_xor, ← ea, ← eb]
theorem div_bit {a : Int} (k : Nat) {bt : Int} (ha : 0 ≤ a) (e : bt = ((2 ^ k : Nat) : Int)) : a / bt % 2 = ((a.toNat / 2 ^ k % 2 : Nat) : Int) := by
  have ea : a = ((a.toNat : Nat) : Int) := by omega
  rw [e]
  conv => lhs; rw [ea]
  rfl
theorem nat_int (s b x : Nat) : ((s + b * x : Nat) : Int) = (s : Int) + (b : Int) * (x : Int) := by
  rw [Int.natCast_add, Int.natCast_mul]
theorem A3_step {a b : Int} (ha : 0 ≤ a) (hb : 0 ≤ b) {k : Nat} {bt : Int} (e : bt = ((2 ^ k : Nat) : Int)) : A3 a b (k + 1) =
    [.int ((((a.toNat &&& b.toNat) % 2 ^ k : Nat) : Int) + bt * (a / bt % 2) * (b / bt % 2)),
     .int ((((a.toNat ||| b.toNat) % 2 ^ k : Nat) : Int) + bt * (if b / bt % 2 > a / bt % 2 then b / bt % 2 else a / bt % 2)),
     .int ((((a.toNat ^^^ b.toNat) % 2 ^ k : Nat) : Int) + bt * (if (!decide (a / bt % 2 = b / bt % 2)) = true then 1 else 0))] := by
  unfold A3
  rw [div_bit k ha e, div_bit k hb e, e, nat_step, nat_step, nat_step, bit_and1, bit_or1, bit_xor1]
  generalize a.toNat / 2 ^ k % 2 = x
  generalize b.toNat / 2 ^ k % 2 = y
  generalize 2 ^ k = m
  have q1 : (m * (x * y) : Nat) = m * x * y := (Nat.mul_assoc m x y).symm
  refine congr (congrArg List.cons ?_) (congr (congrArg List.cons ?_) (congr (congrArg List.cons ?_) rfl))
  · rw [Int.natCast_add, q1, Int.natCast_mul, Int.natCast_mul]
  · rw [nat_int]
    by_cases h : y > x
    · rw [if_pos (show (y : Int) > (x : Int) by omega), Nat.max_eq_right (by omega)]
    · rw [if_neg (show ¬ (y : Int) > (x : Int) by omega), Nat.max_eq_left (by omega)]
  · rw [nat_int]
    by_cases h : x = y
    · rw [h, if_pos rfl, decide_eq_true rfl]
      rfl
    · rw [if_neg h, decide_eq_false (show ¬ (x : Int) = (y : Int) by omega)]
      rfl
theorem two_pow_le {i n : Nat} (h : i < n) : 2 ^ i ≤ 2 ^ (n - 1) := Nat.pow_le_pow_right (by decide) (by omega)
theorem bt_le {i : Nat} {bt : Int} (h : i < 16) (e : bt = ((2 ^ i : Nat) : Int)) : 1 ≤ bt ∧ bt ≤ 32768 := by
  have h1 : 2 ^ i ≤ 32768 := two_pow_le (n := 16) h
  have h2 : 0 < 2 ^ i := Nat.pow_pos (by decide)
  omega
def spLawBits : Sp := spL (fun a : Int × Int => [.int a.1, .int a.2]) (fun a _ => (0 ≤ a.1 ∧ a.1 < 65536) ∧ 0 ≤ a.2 ∧ a.2 < 65536) (fun a => [.int (PySem.Builtin.bitAnd a.1 a.2), .int (PySem.Builtin.bitOr a.1 a.2), .int (PySem.Builtin.bitXor a.1 a.2)])
theorem ok_LawBits (T : Tx K mg) : FnOk P w K mg base CX0 1 T.aLawBits T.fdLawBits PLawBits spLawBits := by
  refine ok_spL T.dLawBits.F scLawBits (fun _ => rfl) fun cdv A outer s H a Q E hr hp kq => ?_
  obtain ⟨a, b⟩ := a
  obtain ⟨ha, hb⟩ := hp
  refine ⟨_, (pss_cons (ps_set (i := 2) scLawBits.nd rfl (Or.inl rfl) (pe_lst (pa_cons pe_int (pa_cons pe_int (pa_cons pe_int pa_nil)))))
      (pss_cons (ps_set (i := 3) scLawBits.nd rfl (Or.inl rfl) pe_int)
      (pss_cons (ps_for PassesOwn.never rfl (pi_range1 (by rfl) T.b_range (pa_cons pe_int pa_nil)) (pg_name (i := 4) scLawBits.nd rfl (Or.inl rfl)) (pss_cons (ps_set (i := 5) scLawBits.nd rfl (Or.inl rfl) (pe_op op_mod (pe_op op_fdiv (pv 0) (pv 3)) pe_int))
        (pss_cons (ps_set (i := 6) scLawBits.nd rfl (Or.inl rfl) (pe_op op_mod (pe_op op_fdiv (pv 1) (pv 3)) pe_int))
        (pss_cons (ps_set (i := 2) scLawBits.nd rfl (Or.inl rfl) (pe_lst (pa_cons (pe_op op_add (pe_ix ix_list (pv 2) pe_int (fun _ _ => rfl)) (pe_op op_mul (pe_op op_mul (pv 3) (pv 5)) (pv 6))) (pa_cons (pe_op op_add (pe_ix ix_list (pv 2) pe_int (fun _ _ => rfl)) (pe_op op_mul (pv 3) (pe_callB (call_max2 rfl) (by rfl) T.b_max (by decide +kernel) (pa_cons (pv 5) (pa_cons (pv 6) pa_nil))))) (pa_cons (pe_op op_add (pe_ix ix_list (pv 2) pe_int (fun _ _ => rfl)) (pe_op op_mul (pv 3) (pe_callTy call_int1 (by rfl) T.b_int (by decide +kernel) (pa_cons (pe_cmpR op_ne (pv 5) (pv 6) (nomark _)) pa_nil)))) pa_nil)))))
        (pss_one (ps_set (i := 3) scLawBits.nd rfl (Or.inl rfl) (pe_op op_mul (pv 3) pe_int)))))))
      (pss_one (ps_ret (pv 2)))))), ?_⟩
  refine g_asgL (el_lst (ea_cons ev_c (ea_cons ev_c (ea_cons ev_c ea_nil))) (by decide)) fun p1 H1 n1 e1 h1 => ?_
  refine g_asg ev_c ?_
  refine g_forR1 (n := 16) (ea_cons ev_c ea_nil) (by decide) (fun i σ' H' => Ex H H' ∧ ∃ (p : Addr) (bt : Int) (x4 x5 x6 : Option V), H p = none ∧ bt = ((2 ^ i : Nat) : Int) ∧ H' p = some (.lst (A3 a b i)) ∧ σ' = [some (.int a), some (.int b), some (.ref p), some (.int bt), x4, x5, x6])
    (fun H2 e2 => ⟨e1.trans e2, p1, 1, _, _, _, n1, rfl, ?_, rfl⟩) (fun i σ' H' hi ⟨e2, p, bt, x4, x5, x6, n2, hbt, h2, hσ⟩ => ?_) (fun σ' H' ⟨e2, p, bt, x4, x5, x6, n2, hbt, h2, hσ⟩ => ?_)
  · have e0 : A3 a b 0 = [.int 0, .int 0, .int 0] := by
      unfold A3
      rw [Nat.pow_zero, Nat.mod_one, Nat.mod_one, Nat.mod_one]
      rfl
    rw [e0]
    exact e2 p1 _ h1
  · subst hσ
    have hi' : i < 16 := by omega
    have hb2 := bt_le hi' hbt
    refine g_asg (ev_op (ev_op (ev_var rfl) (ev_var rfl) (rv_I ⟨by omega, by omega⟩)) ev_c (rv_I (by decide))) ?_
    refine g_asg (ev_op (ev_op (ev_var rfl) (ev_var rfl) (rv_I ⟨by omega, by omega⟩)) ev_c (rv_I (by decide))) ?_
    have one : 0 ≤ a / bt % 2 ∧ a / bt % 2 < 2 := ⟨Int.emod_nonneg _ (by decide), Int.emod_lt_of_pos _ (by decide)⟩
    have two : 0 ≤ b / bt % 2 ∧ b / bt % 2 < 2 := ⟨Int.emod_nonneg _ (by decide), Int.emod_lt_of_pos _ (by decide)⟩
    refine g_asgL (el_lst (ea_cons (ev_op (ev_itL (ev_var rfl) (sq_of h2) ev_c (atI_int (by decide) rfl)) (ev_op (ev_op (ev_var rfl) (ev_var rfl) (rv_I (.inl ⟨by omega, by omega⟩))) (ev_var rfl) (rv_I (.inr ⟨by omega, by omega⟩))) rv_I0)
      (ea_cons (ev_op (ev_itL (ev_var rfl) (sq_of h2) ev_c (atI_int (by decide) rfl)) (ev_op (ev_var rfl) (ev_max2 (ev_var rfl) (ev_var rfl)) (rv_I (.inl ⟨by omega, by omega⟩))) rv_I0)
      (ea_cons (ev_op (ev_itL (ev_var rfl) (sq_of h2) ev_c (atI_int (by decide) rfl)) (ev_op (ev_var rfl) (ev_intB (ev_op (ev_var rfl) (ev_var rfl) rv_neI)) (rv_I (.inl ⟨by omega, by omega⟩))) rv_I0) ea_nil))) (Nat.le_of_ble_eq_true rfl)) fun p3 H3 n3 e3 h3 => ?_
    refine g_asg1 (ev_op (ev_var rfl) ev_c (rv_I (.inl ⟨by omega, by omega⟩))) fun H4 e4 => ?_
    refine ⟨(e2.trans e3).trans e4, p3, bt * 2, _, _, _, fresh_back e2 n3, ?_, ?_, rfl⟩
    · rw [hbt, Nat.pow_succ, Int.natCast_mul]
      rfl
    · rw [A3_step ha.1 hb.1 hbt]
      exact e4 p3 _ h3
  · subst hσ
    refine g_retN (ev_var rfl) h2 n2 e2 ?_
    show RetL (A3 a b 16) H Q
    rw [A3_16 ha hb]
    exact kq
/-! ### shifts -/
def spLawShifts : Sp := spL (fun a : Int × Int => [.int a.1, .int a.2]) (fun a _ => (0 ≤ a.1 ∧ a.1 < 65536) ∧ 0 ≤ a.2 ∧ a.2 < 16) (fun a => [.int (a.1 * 2 ^ a.2.toNat % 65536), .int (a.1 / 2 ^ a.2.toNat)])
theorem shl_step (a : Int) (i : Nat) : a * 2 ^ i % 65536 * 2 % 65536 = a * 2 ^ (i + 1) % 65536 := by
  rw [Int.pow_succ, ← Int.mul_assoc]
  generalize a * 2 ^ i = x
  omega
theorem shr_step (a : Int) (i : Nat) : a / 2 ^ i / 2 = a / 2 ^ (i + 1) := by
  rw [Int.pow_succ]
  exact Int.ediv_ediv_of_nonneg (Int.pow_nonneg (by decide))
theorem ok_LawShifts (T : Tx K mg) : FnOk P w K mg base CX0 1 T.aLawShifts T.fdLawShifts PLawShifts spLawShifts := by
  refine ok_spL T.dLawShifts.F scLawShifts (fun _ => rfl) fun cdv A outer s H a Q E hr hp kq => ?_
  obtain ⟨a, n⟩ := a
  obtain ⟨ha, hn⟩ := hp
  refine ⟨_, (pss_cons (ps_set (i := 2) scLawShifts.nd rfl (Or.inl rfl) (pv 0))
      (pss_cons (ps_set (i := 3) scLawShifts.nd rfl (Or.inl rfl) (pv 0))
      (pss_cons (ps_for PassesOwn.never rfl (pi_range1 (by rfl) T.b_range (pa_cons (pv 1) pa_nil)) (pg_name (i := 4) scLawShifts.nd rfl (Or.inl rfl)) (pss_cons (ps_set (i := 2) scLawShifts.nd rfl (Or.inl rfl) (pe_op op_mod (pe_callTy call_int1 (by rfl) T.b_int (by decide +kernel) (pa_cons (pe_op op_mul (pv 2) pe_int) pa_nil)) pe_int))
        (pss_one (ps_set (i := 3) scLawShifts.nd rfl (Or.inl rfl) (pe_op op_fdiv (pv 3) pe_int)))))
      (pss_one (ps_ret (pe_lst (pa_cons (pv 2) (pa_cons (pv 3) pa_nil)))))))), ?_⟩
  refine g_asg (ev_var rfl) ?_
  refine g_asg (ev_var rfl) ?_
  refine g_forR1 (n := n) (ea_cons (ev_var rfl) ea_nil) (by omega) (fun i σ' H' => Ex H H' ∧ ∃ x4 : Option V, σ' = [some (.int a), some (.int n), some (.int (a * 2 ^ i % 65536)), some (.int (a / 2 ^ i)), x4])
    (fun H2 e2 => ⟨e2, none, ?_⟩) (fun i σ' H' hi ⟨e2, x4, hσ⟩ => ?_) (fun σ' H' ⟨e2, x4, hσ⟩ => ?_)
  · have e1 : a * 2 ^ 0 % 65536 = a := by omega
    have e3 : a / 2 ^ 0 = a := by omega
    rw [e1, e3]
    rfl
  · subst hσ
    have e0 := shl_step a i
    have e1 := shr_step a i
    refine g_asg (ev_op (ev_int (ev_op (ev_var rfl) ev_c (rv_I (.inr ⟨by decide, by decide⟩)))) ev_c (rv_I (by decide))) ?_
    refine g_asg1 (ev_op (ev_var rfl) ev_c (rv_I ⟨by decide, by decide⟩)) fun H3 e3 => ⟨e2.trans e3, some (V.int (i : Int)), ?_⟩
    show [some (V.int a), some (V.int n), some (V.int (a * 2 ^ i % 65536 * 2 % 65536)), some (V.int (a / 2 ^ i / 2)), some (V.int (i : Int))] = _
    rw [e0, e1]
  · subst hσ
    refine g_retL (el_lst (ea_cons (ev_var rfl) (ea_cons (ev_var rfl) ea_nil)) (Nat.le_of_ble_eq_true rfl)) fun p H2 hp e3 h2 => kq p H2 (fresh_back e2 hp) (e2.trans e3) h2
/-! ### the law -/
theorem word_range (x : Int) : 0 ≤ fLawWord x ∧ fLawWord x < 65536 := by
  unfold fLawWord
  cases decide (x % 3 = 0)
  · show 0 ≤ x / 3 % 65536 ∧ x / 3 % 65536 < 65536
    omega
  · generalize pick [0, 255, 32768, 65535] (x / 3 % 4) = y
    show 0 ≤ (y + x / 12 % 7 - 3) % 65536 ∧ (y + x / 12 % 7 - 3) % 65536 < 65536
    omega
theorem isw (n : Int) : fIsWord n = (decide (0 ≤ n) && decide (n ≤ 65535)) := by
  unfold fIsWord
  congr 1
  exact decide_eq_decide.mpr ⟨fun h => by omega, fun h => by omega⟩
theorem is_self (z : Int) : fLawIs z z = true := by
  unfold fLawIs
  rw [decide_eq_true rfl]
  rfl
def vals (number first second count : Int) : List Int := [fWrap number, fSigned first, fAdd first second, fSub first second, fMul first second, fBitAnd first second, fBitOr first second, fBitXor first second, fShiftLeft first count, fShiftRight first count]
def spLaw (K : PySem.W.Frag) : Sp := fun vs H Q _ => ∃ (a : Addr) (ns : List Int), vs = [.ref a] ∧ SqL K H a (ns.map V.int) ∧ ns.length ≤ 63 ∧ ∀ H', Q (.bl true) H'
theorem ok_Law (T : Tx K mg) {f : Addr} {fd : FuncData} (F : Fun K "law" "law" sLaw f fd) : FnOk P w K mg base CX0 3 f fd PLaw (spLaw K) := by
  refine F.ok scLaw (fun vs H Q E h => ?_) (fun cdv A outer s H vs Q E hr h => ?_)
  · obtain ⟨a, ns, rfl, _⟩ := h
    rfl
  · obtain ⟨a, ns, rfl, hS, hlen, kq⟩ := h
    refine ⟨_, (pss_cons (ps_setLc (i := 1) (own := [("cell", 2)]) (g := gName 2) (tt := tYes) (by rfl) scLaw.nd rfl rfl (sw_true rfl rfl rfl (by decide +kernel)) (pi_list (pv 0)) (blkOk_by (own := [("cell", 2)]) (N := NLaw) (sc := defScope sLaw) (by decide +kernel)) (fun _ _ _ _ _ => pg_name (i := 2) scLaw.nd rfl (Or.inl rfl)) (fun _ _ _ _ _ => pts_nil) (fun _ _ _ _ _ => (pe_callTy call_int1 (by rfl) T.b_int (by decide +kernel) (pa_cons (pv 2) pa_nil))))
      (pss_cut (ps_if (pt_not (pt_truth (pv 1) (fun _ => rfl))) (pss_one (ps_set (i := 1) scLaw.nd rfl (Or.inl rfl) (pe_lst (pa_cons pe_int pa_nil)))) pss_nil)
      (pss_cons (ps_for PassesOwn.never rfl (pi_range1 (by rfl) T.b_range (pa_cons (pe_callB call_len_seq (by rfl) T.b_len PySem.boot_len (pa_cons (pv 1) pa_nil)) pa_nil)) (pg_name (i := 3) scLaw.nd rfl (Or.inl rfl)) (pss_cons (ps_set (i := 4) scLaw.nd rfl (Or.inl rfl) (pe_call (ok_LawWord T) (hr.mono (by decide)) (by rfl) T.dLawWord.g T.dLawWord.F.kp T.dLawWord.b .nil pass0 (pa_cons (pe_call (ok_LawNumber T) (hr.mono (by decide)) (by rfl) T.dLawNumber.g T.dLawNumber.F.kp T.dLawNumber.b .nil pass0 (pa_cons (pe_ix ix_list (pv 1) (pv 3) (fun _ _ => rfl)) (pa_cons (pv 3) pa_nil))) pa_nil)))
        (pss_cons (ps_set (i := 5) scLaw.nd rfl (Or.inl rfl) (pe_call (ok_LawWord T) (hr.mono (by decide)) (by rfl) T.dLawWord.g T.dLawWord.F.kp T.dLawWord.b .nil pass0 (pa_cons (pe_call (ok_LawNumber T) (hr.mono (by decide)) (by rfl) T.dLawNumber.g T.dLawNumber.F.kp T.dLawNumber.b .nil pass0 (pa_cons (pe_op op_add (pe_op op_fdiv (pe_ix ix_list (pv 1) (pv 3) (fun _ _ => rfl)) pe_int) (pe_op op_mul pe_int (pv 3))) (pa_cons (pe_op op_add (pv 3) pe_int) pa_nil))) pa_nil)))
        (pss_cons (ps_set (i := 6) scLaw.nd rfl (Or.inl rfl) (pe_op op_mod (pe_op op_fdiv (pe_call (ok_LawNumber T) (hr.mono (by decide)) (by rfl) T.dLawNumber.g T.dLawNumber.F.kp T.dLawNumber.b .nil pass0 (pa_cons (pe_ix ix_list (pv 1) (pv 3) (fun _ _ => rfl)) (pa_cons (pe_op op_add (pv 3) pe_int) pa_nil))) pe_int) pe_int))
        (pss_cons (ps_set (i := 7) scLaw.nd rfl (Or.inl rfl) (pe_op op_sub (pe_op op_mod (pe_op op_mul (pe_op op_fdiv (pe_call (ok_LawNumber T) (hr.mono (by decide)) (by rfl) T.dLawNumber.g T.dLawNumber.F.kp T.dLawNumber.b .nil pass0 (pa_cons (pe_ix ix_list (pv 1) (pv 3) (fun _ _ => rfl)) (pa_cons (pe_op op_add (pv 3) pe_int) pa_nil))) pe_int) pe_int) pe_int) pe_int))
        (pss_cons (ps_set (i := 8) scLaw.nd rfl (Or.inl rfl) (pe_call (ok_IsWord T) (hr.mono (by decide)) (by rfl) T.dIsWord.g T.dIsWord.F.kp T.dIsWord.b .nil pass0 (pa_cons (pv 7) pa_nil)))
        (pss_cons (ps_if (pw_or (pt_not (pt_val (pe_callB call_isi (by rfl) T.b_isinstance (by decide +kernel) (pa_cons (pv 8) (pa_cons (pe_bltn (v := .ty "bool") (by rfl) T.b_bool boot_bool rfl) pa_nil))))) (pw_or1 (pt_cmpR op_ne (pv 8) (pe_chain op_le op_le pe_int (pv 7) pe_int) (nomark _)))).pt (pss_one (ps_ret pe_bl)) pss_nil)
        (pss_cons (ps_set (i := 9) scLaw.nd rfl (Or.inl rfl) (pe_call (ok_LawBits T) (hr.mono (by decide)) (by rfl) T.dLawBits.g T.dLawBits.F.kp T.dLawBits.b .nil pass0 (pa_cons (pv 4) (pa_cons (pv 5) pa_nil))))
        (pss_cons (ps_set (i := 10) scLaw.nd rfl (Or.inl rfl) (pe_call (ok_LawShifts T) (hr.mono (by decide)) (by rfl) T.dLawShifts.g T.dLawShifts.F.kp T.dLawShifts.b .nil pass0 (pa_cons (pv 4) (pa_cons (pv 6) pa_nil))))
        (pss_cons (ps_set (i := 11) scLaw.nd rfl (Or.inl rfl) (pe_lst (pa_cons (pe_call (ok_Wrap T) (hr.mono (by decide)) (by rfl) T.dWrap.g T.dWrap.F.kp T.dWrap.b .nil pass0 (pa_cons (pv 7) pa_nil)) (pa_cons (pe_call (ok_Signed T) (hr.mono (by decide)) (by rfl) T.dSigned.g T.dSigned.F.kp T.dSigned.b .nil pass0 (pa_cons (pv 4) pa_nil)) (pa_cons (pe_call (ok_Add T) (hr.mono (by decide)) (by rfl) T.dAdd.g T.dAdd.F.kp T.dAdd.b .nil pass0 (pa_cons (pv 4) (pa_cons (pv 5) pa_nil))) (pa_cons (pe_call (ok_Sub T) (hr.mono (by decide)) (by rfl) T.dSub.g T.dSub.F.kp T.dSub.b .nil pass0 (pa_cons (pv 4) (pa_cons (pv 5) pa_nil))) (pa_cons (pe_call (ok_Mul T) (hr.mono (by decide)) (by rfl) T.dMul.g T.dMul.F.kp T.dMul.b .nil pass0 (pa_cons (pv 4) (pa_cons (pv 5) pa_nil))) pa_nil)))))))
        (pss_cons (ps_set (i := 11) scLaw.nd rfl (Or.inl rfl) (pe_op op_cat (pv 11) (pe_lst (pa_cons (pe_call (ok_BitAnd T) (hr.mono (by decide)) (by rfl) T.dBitAnd.g T.dBitAnd.F.kp T.dBitAnd.b .nil pass0 (pa_cons (pv 4) (pa_cons (pv 5) pa_nil))) (pa_cons (pe_call (ok_BitOr T) (hr.mono (by decide)) (by rfl) T.dBitOr.g T.dBitOr.F.kp T.dBitOr.b .nil pass0 (pa_cons (pv 4) (pa_cons (pv 5) pa_nil))) (pa_cons (pe_call (ok_BitXor T) (hr.mono (by decide)) (by rfl) T.dBitXor.g T.dBitXor.F.kp T.dBitXor.b .nil pass0 (pa_cons (pv 4) (pa_cons (pv 5) pa_nil))) pa_nil))))))
        (pss_cons (ps_set (i := 11) scLaw.nd rfl (Or.inl rfl) (pe_op op_cat (pv 11) (pe_lst (pa_cons (pe_call (ok_ShiftLeft T) (hr.mono (by decide)) (by rfl) T.dShiftLeft.g T.dShiftLeft.F.kp T.dShiftLeft.b .nil pass0 (pa_cons (pv 4) (pa_cons (pv 6) pa_nil))) (pa_cons (pe_call (ok_ShiftRight T) (hr.mono (by decide)) (by rfl) T.dShiftRight.g T.dShiftRight.F.kp T.dShiftRight.b .nil pass0 (pa_cons (pv 4) (pa_cons (pv 6) pa_nil))) pa_nil)))))
        (pss_cons (ps_set (i := 12) scLaw.nd rfl (Or.inl rfl) (pe_lst (pa_cons (pe_op op_mod (pe_callTy call_int1 (by rfl) T.b_int (by decide +kernel) (pa_cons (pv 7) pa_nil)) pe_int) (pa_cons (pe_op op_sub (pv 4) (pe_op op_mul pe_int (pe_callTy call_int1 (by rfl) T.b_int (by decide +kernel) (pa_cons (pe_cmpR op_gt (pv 4) pe_int (nomark _)) pa_nil)))) (pa_cons (pe_op op_mod (pe_callTy call_int1 (by rfl) T.b_int (by decide +kernel) (pa_cons (pe_op op_add (pv 4) (pv 5)) pa_nil)) pe_int) pa_nil)))))
        (pss_cons (ps_set (i := 12) scLaw.nd rfl (Or.inl rfl) (pe_op op_cat (pe_op op_cat (pe_op op_cat (pv 12) (pe_lst (pa_cons (pe_op op_mod (pe_callTy call_int1 (by rfl) T.b_int (by decide +kernel) (pa_cons (pe_op op_sub (pv 4) (pv 5)) pa_nil)) pe_int) (pa_cons (pe_op op_mod (pe_callTy call_int1 (by rfl) T.b_int (by decide +kernel) (pa_cons (pe_op op_mul (pv 4) (pv 5)) pa_nil)) pe_int) pa_nil)))) (pv 9)) (pv 10)))
        (pss_one (ps_for PassesOwn.never rfl (pi_range1 (by rfl) T.b_range (pa_cons (pe_callB call_len_seq (by rfl) T.b_len PySem.boot_len (pa_cons (pv 12) pa_nil)) pa_nil)) (pg_name (i := 13) scLaw.nd rfl (Or.inl rfl)) (pss_one (ps_if (pt_not (pt_val (pe_call (ok_LawIs T) (hr.mono (by decide)) (by rfl) T.dLawIs.g T.dLawIs.F.kp T.dLawIs.b .nil pass0 (pa_cons (pe_ix ix_list (pv 11) (pv 13) (fun _ _ => rfl)) (pa_cons (pe_ix ix_list (pv 12) (pv 13) (fun _ _ => rfl)) pa_nil))))) (pss_one (ps_ret pe_bl)) pss_nil))))))))))))))))))
      (pss_one (ps_ret (pe_and (pe_cmpR op_is_bl (pe_call (ok_IsWord T) (hr.mono (by decide)) (by rfl) T.dIsWord.g T.dIsWord.F.kp T.dIsWord.b .nil pass0 (pa_cons pe_int pa_nil)) pe_bl (nomark _)) (pe_and (pe_cmpR op_is_bl (pe_call (ok_IsWord T) (hr.mono (by decide)) (by rfl) T.dIsWord.g T.dIsWord.F.kp T.dIsWord.b .nil pass0 (pa_cons pe_int pa_nil)) pe_bl (nomark _)) (pe_and (pe_cmpR op_is_bl (pe_call (ok_IsWord T) (hr.mono (by decide)) (by rfl) T.dIsWord.g T.dIsWord.F.kp T.dIsWord.b .nil pass0 (pa_cons (pe_un un_neg pe_int) pa_nil)) pe_bl (nomark _)) (pe_one (pe_cmpR op_is_bl (pe_call (ok_IsWord T) (hr.mono (by decide)) (by rfl) T.dIsWord.g T.dIsWord.F.kp T.dIsWord.b .nil pass0 (pa_cons pe_int pa_nil)) pe_bl (nomark _))))))))))), ?_⟩
    refine (?_ : Go _ _ _ H) H (Ex.refl H)
    -- cells
    refine g_asgL (el_map (xs := ns.map V.int) (fun x => x) (ev_var rfl) hS (by rw [List.length_map]; omega) (fun _ => rfl) fun i x H1 e1 hi => ?_) fun c H1 nc e1 hc => ?_
    · obtain ⟨z, rfl⟩ : ∃ z, x = V.int z := by
        rw [List.getElem?_map] at hi
        cases e : ns[i]? with
        | none => rw [e] at hi; cases hi
        | some z => rw [e] at hi; exact ⟨z, (Option.some.inj hi).symm⟩
      exact ev_int (ev_var rfl)
    rw [List.map_id'] at hc
    refine g_cut (fun σ' H' => ∃ (c : Addr) (cs : List Int), H' c = some (.lst (cs.map V.int)) ∧ cs.length ≤ 63 ∧ σ' = [some (.ref a), some (.ref c), none, none, none, none, none, none, none, none, none, none, none, none])
      (g_when1 (et_not (et_truL (ev_var rfl) (sq_of hc))) (fun _ => g_asgL1 (el_lst (ea_cons ev_c ea_nil) (Nat.le_of_ble_eq_true rfl)) fun p H2 np e2 hp => ⟨p, [4], hp, (by decide), rfl⟩) fun _ H2 e2 => ⟨c, ns, e2 c _ hc, hlen, rfl⟩) fun σ' H2 hM => ?_
    clear hc nc e1 hS
    obtain ⟨c, cs, hc, hcl, rfl⟩ := hM
    refine g_forR1 (n := (cs.length : Int)) (ea_cons (ev_is (ev_len (ev_var rfl) (sq_of hc)) (by rw [List.length_map])) ea_nil) (by omega) (fun i σ' H' => ∃ x2 x3 x4 x5 x6 x7 x8 x9 x10 x11 x12 x13, H' c = some (.lst (cs.map V.int)) ∧ σ' = [some (.ref a), some (.ref c), x2, x3, x4, x5, x6, x7, x8, x9, x10, x11, x12, x13])
      (fun H3 e3 => ⟨none, none, none, none, none, none, none, none, none, none, none, none, e3 c _ hc, rfl⟩) (fun i σ' H3 hi hP => ?_) (fun σ' H3 hP => ?_)
    · obtain ⟨x2, x3, x4, x5, x6, x7, x8, x9, x10, x11, x12, x13, hc, rfl⟩ := hP
      have hi' : i < cs.length := by omega
      obtain ⟨z, hz⟩ : ∃ z, cs[i]? = some z := ⟨cs[i], List.getElem?_eq_getElem hi'⟩
      have at_ : atI (cs.map V.int) (i : Int) = some (.int z) := atI_nat (by rw [List.getElem?_map, hz]; rfl)
      refine g_asg (ev_LawWord (ev_LawNumber (ev_itL (ev_var rfl) (sq_of hc) (ev_var rfl) at_) (ev_var rfl))) ?_
      have hf := word_range (fLawNumber z i)
      generalize fLawWord (fLawNumber z i) = first at hf ⊢
      refine g_asg (ev_LawWord (ev_LawNumber (ev_op (ev_op (ev_itL (ev_var rfl) (sq_of hc) (ev_var rfl) at_) ev_c (rv_I (by first | exact ⟨by decide, by decide⟩ | exact ⟨by omega, by omega⟩))) (ev_op ev_c (ev_var rfl) (rv_I (by first | exact .inr ⟨by decide, by decide⟩ | exact .inl ⟨by decide, by decide⟩ | exact .inl ⟨by omega, by omega⟩ | exact .inr ⟨by omega, by omega⟩))) rv_I0) (ev_op (ev_var rfl) ev_c rv_I0))) ?_
      have hs := word_range (fLawNumber (z / 1048576 + 5 * i) (i + 70))
      generalize fLawWord (fLawNumber (z / 1048576 + 5 * i) (i + 70)) = second at hs ⊢
      refine g_asg (ev_op (ev_op (ev_LawNumber (ev_itL (ev_var rfl) (sq_of hc) (ev_var rfl) at_) (ev_op (ev_var rfl) ev_c rv_I0)) ev_c (rv_I (by first | exact ⟨by decide, by decide⟩ | exact ⟨by omega, by omega⟩))) ev_c (rv_I (by first | (show (0 : Int) < _; decide) | (show (0 : Int) < _; omega)))) ?_
      have hn : 0 ≤ fLawNumber z (i + 140) / 5 % 16 ∧ fLawNumber z (i + 140) / 5 % 16 < 16 := by omega
      generalize fLawNumber z (i + 140) / 5 % 16 = count at hn ⊢
      refine g_asg (ev_op (ev_op (ev_op (ev_op (ev_LawNumber (ev_itL (ev_var rfl) (sq_of hc) (ev_var rfl) at_) (ev_op (ev_var rfl) ev_c rv_I0)) ev_c (rv_I (by first | exact ⟨by decide, by decide⟩ | exact ⟨by omega, by omega⟩))) ev_c (rv_I (by first | exact .inr ⟨by decide, by decide⟩ | exact .inl ⟨by decide, by decide⟩ | exact .inl ⟨by omega, by omega⟩ | exact .inr ⟨by omega, by omega⟩))) ev_c (rv_I (by first | (show (0 : Int) < _; decide) | (show (0 : Int) < _; omega)))) ev_c rv_I0) ?_
      generalize fLawNumber z (i + 210) / 3 * 7919 % 2199023255552 - 1099511627776 = number
      refine g_asg (ev_IsWord (ev_var rfl)) ?_
      refine g_when (et_or (et_not (et_B (ev_isi (ev_var rfl) (fun _ => .bl _) i_bool_bool))) fun _ => et_test (ev_op (ev_var rfl) (ev_chain ev_c (ev_var rfl) rv_I0 (fun _ => ev_c) (fun _ => rv_I0)) rv_neB)) (fun hb => ?_) (fun _ => ?_)
      · rw [isw, decide_eq_true rfl] at hb
        cases hb
      refine g_asgL (el_call (ea_cons (ev_var rfl) (ea_cons (ev_var rfl) ea_nil)) (spl (first, second) fun _ _ => ⟨hf, hs⟩)) fun pb H4 nb e4 hbits => ?_
      have hc4 := e4 c _ hc
      refine g_asgL (el_call (ea_cons (ev_var rfl) (ea_cons (ev_var rfl) ea_nil)) (spl (first, count) fun _ _ => ⟨hf, hn⟩)) fun ps H5 ns5 e5 hsh => ?_
      have hc5 := e5 c _ hc4
      have hb5 := e5 pb _ hbits
      refine g_asgL (el_lst (ea_cons (ev_Wrap (ev_var rfl)) (ea_cons (ev_Signed (ev_var rfl)) (ea_cons (ev_Add (ev_var rfl) (ev_var rfl)) (ea_cons (ev_Sub (ev_var rfl) (ev_var rfl)) (ea_cons (ev_Mul (ev_var rfl) (ev_var rfl) ⟨by omega, by omega⟩) ea_nil))))) (Nat.le_of_ble_eq_true rfl)) fun p6 H6 n6 e6 h6 => ?_
      refine g_asgL (el_catN (ev_var rfl) h6 (el_lst (ea_cons (ev_BitAnd (ev_var rfl) (ev_var rfl)) (ea_cons (ev_BitOr (ev_var rfl) (ev_var rfl)) (ea_cons (ev_BitXor (ev_var rfl) (ev_var rfl)) ea_nil))) (Nat.le_of_ble_eq_true rfl)) (Nat.le_of_ble_eq_true rfl)) fun p7 H7 n7 e7 h7 => ?_
      refine g_asgL (el_catN (ev_var rfl) h7 (el_lst (ea_cons (ev_ShiftLeft (ev_var rfl) (ev_var rfl) ⟨⟨by omega, by omega⟩, by omega, by omega⟩) (ea_cons (ev_ShiftRight (ev_var rfl) (ev_var rfl) (by omega)) ea_nil)) (Nat.le_of_ble_eq_true rfl)) (Nat.le_of_ble_eq_true rfl)) fun p8 H8 n8 e8 h8 => ?_
      have e58 := (e6.trans e7).trans e8
      have hc8 := e58 c _ hc5
      have hb8 := e58 pb _ hb5
      have hs8 := e58 ps _ hsh
      refine g_asgL (el_lst (ea_cons (ev_op (ev_int (ev_var rfl)) ev_c (rv_I (by show (0 : Int) < _; decide))) (ea_cons (ev_op (ev_var rfl) (ev_op ev_c (ev_intB (ev_op (ev_var rfl) ev_c rv_I0)) (rv_I (.inl ⟨by decide, by decide⟩))) rv_I0) (ea_cons (ev_op (ev_int (ev_op (ev_var rfl) (ev_var rfl) rv_I0)) ev_c (rv_I (by show (0 : Int) < _; decide))) ea_nil))) (Nat.le_of_ble_eq_true rfl)) fun p9 H9 n9 e9 h9 => ?_
      have h89 := e9 p8 _ h8
      have hc9 := e9 c _ hc8
      have hb9 := e9 pb _ hb8
      have hs9 := e9 ps _ hs8
      refine g_asgL (el_catN2 (el_catN2 (el_catN (ev_var rfl) h9 (el_lst (ea_cons (ev_op (ev_int (ev_op (ev_var rfl) (ev_var rfl) rv_I0)) ev_c (rv_I (by show (0 : Int) < _; decide))) (ea_cons (ev_op (ev_int (ev_op (ev_var rfl) (ev_var rfl) (rv_I (.inl ⟨by omega, by omega⟩)))) ev_c (rv_I (by show (0 : Int) < _; decide))) ea_nil)) (Nat.le_of_ble_eq_true rfl)) (Nat.le_of_ble_eq_true rfl)) (ev_var rfl) hb9 (Nat.le_of_ble_eq_true rfl)) (ev_var rfl) hs9 (Nat.le_of_ble_eq_true rfl)) fun p10 H10 n10 e10 h10 => ?_
      have h8a := e10 p8 _ h89
      have hca := e10 c _ hc9
      have et : H10 p8 = some (.lst ((vals number first second count).map V.int)) := h8a
      have sg : fSigned first = first - 65536 * (if decide (32767 < first) = true then 1 else 0) := by
        unfold fSigned
        by_cases h : 32767 < first
        · rw [decide_eq_true h, decide_eq_false (show ¬ first < 32768 by omega)]
          rfl
        · rw [decide_eq_false h, decide_eq_true (show first < 32768 by omega)]
          show first = first - 65536 * 0
          omega
      have ed : H10 p10 = some (.lst ((vals number first second count).map V.int)) := by
        unfold vals
        rw [sg]
        exact h10
      clear h10 h8a h9 h89 hc9 hb9 hs9 hc8 hb8 hs8 h8 h7 h6 hc5 hb5 hsh hbits hc4 n6 n7 n8 n9 n10 nb ns5 e4 e5 e6 e7 e8 e9 e10 e58 sg
      generalize hv : vals number first second count = vs at et ed
      have hvl : vs.length = 10 := by rw [← hv]; rfl
      refine g_forR1' (n := (vs.length : Int)) (ea_cons (ev_is (ev_len (ev_var rfl) (sq_of ed)) (by rw [List.length_map])) ea_nil) (by omega) (fun j σ' H' => ∃ x13, (H' c = some (.lst (cs.map V.int)) ∧ H' p8 = some (.lst (vs.map V.int)) ∧ H' p10 = some (.lst (vs.map V.int))) ∧ σ' = [some (.ref a), some (.ref c), x2, some (.int i), some (.int first), some (.int second), some (.int count), some (.int number), some (.bl (fIsWord number)), some (.ref pb), some (.ref ps), some (.ref p8), some (.ref p10), x13])
        (fun H11 e11 => ⟨x13, ⟨e11 c _ hca, e11 p8 _ et, e11 p10 _ ed⟩, rfl⟩) (fun j σ' H11 hj hP => ?_) (fun σ' H11 hP => ?_)
      · obtain ⟨y13, ⟨q1, q2, q3⟩, rfl⟩ := hP
        have hj' : j < vs.length := by omega
        have aj : atI (vs.map V.int) (j : Int) = some (.int vs[j]) := atI_nat (by rw [List.getElem?_map, List.getElem?_eq_getElem hj']; rfl)
        refine g_when1 (et_not (et_B (ev_LawIs (ev_itL (ev_var rfl) (sq_of q2) (ev_var rfl) aj) (ev_itL (ev_var rfl) (sq_of q3) (ev_var rfl) aj)))) (fun hb => ?_) fun _ H12 e12 => ⟨_, ⟨e12 c _ q1, e12 p8 _ q2, e12 p10 _ q3⟩, rfl⟩
        rw [is_self] at hb
        cases hb
      · obtain ⟨y13, ⟨q1, q2, q3⟩, rfl⟩ := hP
        exact ⟨_, _, _, _, _, _, _, _, _, _, _, _, q1, rfl⟩
    · obtain ⟨x2, x3, x4, x5, x6, x7, x8, x9, x10, x11, x12, x13, hc, rfl⟩ := hP
      refine g_ret2 (w := .bl true) (ev_andV (ev_op (ev_IsWord ev_c) ev_c ev_isbl) fun _ => ev_andV (ev_op (ev_IsWord ev_c) ev_c ev_isbl) fun _ => ev_andV (ev_op (ev_IsWord (ev_un ev_c ru_neg)) ev_c ev_isbl) fun _ => ev_op (ev_IsWord ev_c) ev_c ev_isbl) (fun H4 _ => kq H4) ?_
      decide
end
theorem all_mk {l : PySem.W.OpenLaw} {w : World} {K : PySem.W.Frag} {h : Heap} {mg : Str → Option Value} {fa : Addr} (X : K.In h) (G : h.Ns mainGlobals mg) (hfa : mg "law" = some (.ref fa))
    {f0 : Addr} {od0 an0 : Option Addr} {sl0 : Array (Option Value)} {oc0 kV0 dc0 pm0 cd0 ct0 : Value}
    {f1 : Addr} {od1 an1 : Option Addr} {sl1 : Array (Option Value)} {oc1 kV1 dc1 pm1 cd1 ct1 : Value}
    {f2 : Addr} {od2 an2 : Option Addr} {sl2 : Array (Option Value)} {oc2 kV2 dc2 pm2 cd2 ct2 : Value}
    {f3 : Addr} {od3 an3 : Option Addr} {sl3 : Array (Option Value)} {oc3 kV3 dc3 pm3 cd3 ct3 : Value}
    {f4 : Addr} {od4 an4 : Option Addr} {sl4 : Array (Option Value)} {oc4 kV4 dc4 pm4 cd4 ct4 : Value}
    {f5 : Addr} {od5 an5 : Option Addr} {sl5 : Array (Option Value)} {oc5 kV5 dc5 pm5 cd5 ct5 : Value}
    {f6 : Addr} {od6 an6 : Option Addr} {sl6 : Array (Option Value)} {oc6 kV6 dc6 pm6 cd6 ct6 : Value}
    {f7 : Addr} {od7 an7 : Option Addr} {sl7 : Array (Option Value)} {oc7 kV7 dc7 pm7 cd7 ct7 : Value}
    {f8 : Addr} {od8 an8 : Option Addr} {sl8 : Array (Option Value)} {oc8 kV8 dc8 pm8 cd8 ct8 : Value}
    {f9 : Addr} {od9 an9 : Option Addr} {sl9 : Array (Option Value)} {oc9 kV9 dc9 pm9 cd9 ct9 : Value}
    {f10 : Addr} {od10 an10 : Option Addr} {sl10 : Array (Option Value)} {oc10 kV10 dc10 pm10 cd10 ct10 : Value}
    {f11 : Addr} {od11 an11 : Option Addr} {sl11 : Array (Option Value)} {oc11 kV11 dc11 pm11 cd11 ct11 : Value}
    {f12 : Addr} {od12 an12 : Option Addr} {sl12 : Array (Option Value)} {oc12 kV12 dc12 pm12 cd12 ct12 : Value}
    {f13 : Addr} {od13 an13 : Option Addr} {sl13 : Array (Option Value)} {oc13 kV13 dc13 pm13 cd13 ct13 : Value}
    {f14 : Addr} {od14 an14 : Option Addr} {sl14 : Array (Option Value)} {oc14 kV14 dc14 pm14 cd14 ct14 : Value}
    {f15 : Addr} {od15 an15 : Option Addr} {sl15 : Array (Option Value)} {oc15 kV15 dc15 pm15 cd15 ct15 : Value}
    {f16 : Addr} {od16 an16 : Option Addr} {sl16 : Array (Option Value)} {oc16 kV16 dc16 pm16 cd16 ct16 : Value}
    {tk_WORDS : Tok}
    {tk_NEGATIVE : Tok}
    (a0 : PySem.W.nsIn K mainGlobals "is_word" = some (some (.ref f0)))
    (l0 : K.lookup f0 = some ⟨oc0, od0, .func (PySem.W.fnOf "is_word" "is_word" (defArgs sIsWord) (defBody sIsWord) (defScope sIsWord) .none kV0 dc0 pm0 an0 cd0 ct0), sl0⟩)
    (c0 : PySem.W.codeIn K cd0 "is_word" = true) (k0 : PySem.W.keepIn K (.ref f0) = true)
    (a1 : PySem.W.nsIn K mainGlobals "wrap" = some (some (.ref f1)))
    (l1 : K.lookup f1 = some ⟨oc1, od1, .func (PySem.W.fnOf "wrap" "wrap" (defArgs sWrap) (defBody sWrap) (defScope sWrap) .none kV1 dc1 pm1 an1 cd1 ct1), sl1⟩)
    (c1 : PySem.W.codeIn K cd1 "wrap" = true) (k1 : PySem.W.keepIn K (.ref f1) = true)
    (a2 : PySem.W.nsIn K mainGlobals "signed" = some (some (.ref f2)))
    (l2 : K.lookup f2 = some ⟨oc2, od2, .func (PySem.W.fnOf "signed" "signed" (defArgs sSigned) (defBody sSigned) (defScope sSigned) .none kV2 dc2 pm2 an2 cd2 ct2), sl2⟩)
    (c2 : PySem.W.codeIn K cd2 "signed" = true) (k2 : PySem.W.keepIn K (.ref f2) = true)
    (a3 : PySem.W.nsIn K mainGlobals "add" = some (some (.ref f3)))
    (l3 : K.lookup f3 = some ⟨oc3, od3, .func (PySem.W.fnOf "add" "add" (defArgs sAdd) (defBody sAdd) (defScope sAdd) .none kV3 dc3 pm3 an3 cd3 ct3), sl3⟩)
    (c3 : PySem.W.codeIn K cd3 "add" = true) (k3 : PySem.W.keepIn K (.ref f3) = true)
    (a4 : PySem.W.nsIn K mainGlobals "sub" = some (some (.ref f4)))
    (l4 : K.lookup f4 = some ⟨oc4, od4, .func (PySem.W.fnOf "sub" "sub" (defArgs sSub) (defBody sSub) (defScope sSub) .none kV4 dc4 pm4 an4 cd4 ct4), sl4⟩)
    (c4 : PySem.W.codeIn K cd4 "sub" = true) (k4 : PySem.W.keepIn K (.ref f4) = true)
    (a5 : PySem.W.nsIn K mainGlobals "mul" = some (some (.ref f5)))
    (l5 : K.lookup f5 = some ⟨oc5, od5, .func (PySem.W.fnOf "mul" "mul" (defArgs sMul) (defBody sMul) (defScope sMul) .none kV5 dc5 pm5 an5 cd5 ct5), sl5⟩)
    (c5 : PySem.W.codeIn K cd5 "mul" = true) (k5 : PySem.W.keepIn K (.ref f5) = true)
    (a6 : PySem.W.nsIn K mainGlobals "bit_and" = some (some (.ref f6)))
    (l6 : K.lookup f6 = some ⟨oc6, od6, .func (PySem.W.fnOf "bit_and" "bit_and" (defArgs sBitAnd) (defBody sBitAnd) (defScope sBitAnd) .none kV6 dc6 pm6 an6 cd6 ct6), sl6⟩)
    (c6 : PySem.W.codeIn K cd6 "bit_and" = true) (k6 : PySem.W.keepIn K (.ref f6) = true)
    (a7 : PySem.W.nsIn K mainGlobals "bit_or" = some (some (.ref f7)))
    (l7 : K.lookup f7 = some ⟨oc7, od7, .func (PySem.W.fnOf "bit_or" "bit_or" (defArgs sBitOr) (defBody sBitOr) (defScope sBitOr) .none kV7 dc7 pm7 an7 cd7 ct7), sl7⟩)
    (c7 : PySem.W.codeIn K cd7 "bit_or" = true) (k7 : PySem.W.keepIn K (.ref f7) = true)
    (a8 : PySem.W.nsIn K mainGlobals "bit_xor" = some (some (.ref f8)))
    (l8 : K.lookup f8 = some ⟨oc8, od8, .func (PySem.W.fnOf "bit_xor" "bit_xor" (defArgs sBitXor) (defBody sBitXor) (defScope sBitXor) .none kV8 dc8 pm8 an8 cd8 ct8), sl8⟩)
    (c8 : PySem.W.codeIn K cd8 "bit_xor" = true) (k8 : PySem.W.keepIn K (.ref f8) = true)
    (a9 : PySem.W.nsIn K mainGlobals "shift_left" = some (some (.ref f9)))
    (l9 : K.lookup f9 = some ⟨oc9, od9, .func (PySem.W.fnOf "shift_left" "shift_left" (defArgs sShiftLeft) (defBody sShiftLeft) (defScope sShiftLeft) .none kV9 dc9 pm9 an9 cd9 ct9), sl9⟩)
    (c9 : PySem.W.codeIn K cd9 "shift_left" = true) (k9 : PySem.W.keepIn K (.ref f9) = true)
    (a10 : PySem.W.nsIn K mainGlobals "shift_right" = some (some (.ref f10)))
    (l10 : K.lookup f10 = some ⟨oc10, od10, .func (PySem.W.fnOf "shift_right" "shift_right" (defArgs sShiftRight) (defBody sShiftRight) (defScope sShiftRight) .none kV10 dc10 pm10 an10 cd10 ct10), sl10⟩)
    (c10 : PySem.W.codeIn K cd10 "shift_right" = true) (k10 : PySem.W.keepIn K (.ref f10) = true)
    (a11 : PySem.W.nsIn K mainGlobals "_law_number" = some (some (.ref f11)))
    (l11 : K.lookup f11 = some ⟨oc11, od11, .func (PySem.W.fnOf "_law_number" "_law_number" (defArgs sLawNumber) (defBody sLawNumber) (defScope sLawNumber) .none kV11 dc11 pm11 an11 cd11 ct11), sl11⟩)
    (c11 : PySem.W.codeIn K cd11 "_law_number" = true) (k11 : PySem.W.keepIn K (.ref f11) = true)
    (a12 : PySem.W.nsIn K mainGlobals "_law_word" = some (some (.ref f12)))
    (l12 : K.lookup f12 = some ⟨oc12, od12, .func (PySem.W.fnOf "_law_word" "_law_word" (defArgs sLawWord) (defBody sLawWord) (defScope sLawWord) .none kV12 dc12 pm12 an12 cd12 ct12), sl12⟩)
    (c12 : PySem.W.codeIn K cd12 "_law_word" = true) (k12 : PySem.W.keepIn K (.ref f12) = true)
    (a13 : PySem.W.nsIn K mainGlobals "_law_is" = some (some (.ref f13)))
    (l13 : K.lookup f13 = some ⟨oc13, od13, .func (PySem.W.fnOf "_law_is" "_law_is" (defArgs sLawIs) (defBody sLawIs) (defScope sLawIs) .none kV13 dc13 pm13 an13 cd13 ct13), sl13⟩)
    (c13 : PySem.W.codeIn K cd13 "_law_is" = true) (k13 : PySem.W.keepIn K (.ref f13) = true)
    (a14 : PySem.W.nsIn K mainGlobals "_law_bits" = some (some (.ref f14)))
    (l14 : K.lookup f14 = some ⟨oc14, od14, .func (PySem.W.fnOf "_law_bits" "_law_bits" (defArgs sLawBits) (defBody sLawBits) (defScope sLawBits) .none kV14 dc14 pm14 an14 cd14 ct14), sl14⟩)
    (c14 : PySem.W.codeIn K cd14 "_law_bits" = true) (k14 : PySem.W.keepIn K (.ref f14) = true)
    (a15 : PySem.W.nsIn K mainGlobals "_law_shifts" = some (some (.ref f15)))
    (l15 : K.lookup f15 = some ⟨oc15, od15, .func (PySem.W.fnOf "_law_shifts" "_law_shifts" (defArgs sLawShifts) (defBody sLawShifts) (defScope sLawShifts) .none kV15 dc15 pm15 an15 cd15 ct15), sl15⟩)
    (c15 : PySem.W.codeIn K cd15 "_law_shifts" = true) (k15 : PySem.W.keepIn K (.ref f15) = true)
    (a16 : PySem.W.nsIn K mainGlobals "law" = some (some (.ref f16)))
    (l16 : K.lookup f16 = some ⟨oc16, od16, .func (PySem.W.fnOf "law" "law" (defArgs sLaw) (defBody sLaw) (defScope sLaw) .none kV16 dc16 pm16 an16 cd16 ct16), sl16⟩)
    (c16 : PySem.W.codeIn K cd16 "law" = true) (k16 : PySem.W.keepIn K (.ref f16) = true)
    (z_int : PySem.W.nsIn K mainGlobals "int" = some none)
    (z_len : PySem.W.nsIn K mainGlobals "len" = some none)
    (z_range : PySem.W.nsIn K mainGlobals "range" = some none)
    (z_max : PySem.W.nsIn K mainGlobals "max" = some none)
    (z_isinstance : PySem.W.nsIn K mainGlobals "isinstance" = some none)
    (z_bool : PySem.W.nsIn K mainGlobals "bool" = some none)
    (g_WORDS : PySem.W.nsIn K mainGlobals "WORDS" = some (some (.int 65536 tk_WORDS)))
    (g_NEGATIVE : PySem.W.nsIn K mainGlobals "NEGATIVE" = some (some (.int 32768 tk_NEGATIVE))) :
    ∃ fd : FuncData, (∀ (s : Shared) (v : Value), BindsTo s fd ⟨[v], []⟩ [("script", v)]) ∧ ∀ base : Heap, K.In base → base.Ns mainGlobals mg → FnOk l.prog w K mg base CX0 3 fa fd ["script"] (spLaw K) := by
  have e := hfa.symm.trans (PySem.W.mg_of X G a16)
  cases e
  exact ⟨PySem.W.fnOf "law" "law" (defArgs sLaw) (defBody sLaw) (defScope sLaw) .none kV16 dc16 pm16 an16 cd16 ct16, fun s v => .of_eq rfl, fun base _ _ => ok_Law
    { aIsWord := f0
      fdIsWord := PySem.W.fnOf "is_word" "is_word" (defArgs sIsWord) (defBody sIsWord) (defScope sIsWord) .none kV0 dc0 pm0 an0 cd0 ct0
      dIsWord := ⟨fun_mk (st := sIsWord) l0 c0 k0, PySem.W.mg_of X G a0, (fun_mk (st := sIsWord) l0 c0 k0).binds (ps := PIsWord) fun _ _ _ _ _ _ us hl => match us, hl with | [_], _ => rfl⟩
      aWrap := f1
      fdWrap := PySem.W.fnOf "wrap" "wrap" (defArgs sWrap) (defBody sWrap) (defScope sWrap) .none kV1 dc1 pm1 an1 cd1 ct1
      dWrap := ⟨fun_mk (st := sWrap) l1 c1 k1, PySem.W.mg_of X G a1, (fun_mk (st := sWrap) l1 c1 k1).binds (ps := PWrap) fun _ _ _ _ _ _ us hl => match us, hl with | [_], _ => rfl⟩
      aSigned := f2
      fdSigned := PySem.W.fnOf "signed" "signed" (defArgs sSigned) (defBody sSigned) (defScope sSigned) .none kV2 dc2 pm2 an2 cd2 ct2
      dSigned := ⟨fun_mk (st := sSigned) l2 c2 k2, PySem.W.mg_of X G a2, (fun_mk (st := sSigned) l2 c2 k2).binds (ps := PSigned) fun _ _ _ _ _ _ us hl => match us, hl with | [_], _ => rfl⟩
      aAdd := f3
      fdAdd := PySem.W.fnOf "add" "add" (defArgs sAdd) (defBody sAdd) (defScope sAdd) .none kV3 dc3 pm3 an3 cd3 ct3
      dAdd := ⟨fun_mk (st := sAdd) l3 c3 k3, PySem.W.mg_of X G a3, (fun_mk (st := sAdd) l3 c3 k3).binds (ps := PAdd) fun _ _ _ _ _ _ us hl => match us, hl with | [_, _], _ => rfl⟩
      aSub := f4
      fdSub := PySem.W.fnOf "sub" "sub" (defArgs sSub) (defBody sSub) (defScope sSub) .none kV4 dc4 pm4 an4 cd4 ct4
      dSub := ⟨fun_mk (st := sSub) l4 c4 k4, PySem.W.mg_of X G a4, (fun_mk (st := sSub) l4 c4 k4).binds (ps := PSub) fun _ _ _ _ _ _ us hl => match us, hl with | [_, _], _ => rfl⟩
      aMul := f5
      fdMul := PySem.W.fnOf "mul" "mul" (defArgs sMul) (defBody sMul) (defScope sMul) .none kV5 dc5 pm5 an5 cd5 ct5
      dMul := ⟨fun_mk (st := sMul) l5 c5 k5, PySem.W.mg_of X G a5, (fun_mk (st := sMul) l5 c5 k5).binds (ps := PMul) fun _ _ _ _ _ _ us hl => match us, hl with | [_, _], _ => rfl⟩
      aBitAnd := f6
      fdBitAnd := PySem.W.fnOf "bit_and" "bit_and" (defArgs sBitAnd) (defBody sBitAnd) (defScope sBitAnd) .none kV6 dc6 pm6 an6 cd6 ct6
      dBitAnd := ⟨fun_mk (st := sBitAnd) l6 c6 k6, PySem.W.mg_of X G a6, (fun_mk (st := sBitAnd) l6 c6 k6).binds (ps := PBitAnd) fun _ _ _ _ _ _ us hl => match us, hl with | [_, _], _ => rfl⟩
      aBitOr := f7
      fdBitOr := PySem.W.fnOf "bit_or" "bit_or" (defArgs sBitOr) (defBody sBitOr) (defScope sBitOr) .none kV7 dc7 pm7 an7 cd7 ct7
      dBitOr := ⟨fun_mk (st := sBitOr) l7 c7 k7, PySem.W.mg_of X G a7, (fun_mk (st := sBitOr) l7 c7 k7).binds (ps := PBitOr) fun _ _ _ _ _ _ us hl => match us, hl with | [_, _], _ => rfl⟩
      aBitXor := f8
      fdBitXor := PySem.W.fnOf "bit_xor" "bit_xor" (defArgs sBitXor) (defBody sBitXor) (defScope sBitXor) .none kV8 dc8 pm8 an8 cd8 ct8
      dBitXor := ⟨fun_mk (st := sBitXor) l8 c8 k8, PySem.W.mg_of X G a8, (fun_mk (st := sBitXor) l8 c8 k8).binds (ps := PBitXor) fun _ _ _ _ _ _ us hl => match us, hl with | [_, _], _ => rfl⟩
      aShiftLeft := f9
      fdShiftLeft := PySem.W.fnOf "shift_left" "shift_left" (defArgs sShiftLeft) (defBody sShiftLeft) (defScope sShiftLeft) .none kV9 dc9 pm9 an9 cd9 ct9
      dShiftLeft := ⟨fun_mk (st := sShiftLeft) l9 c9 k9, PySem.W.mg_of X G a9, (fun_mk (st := sShiftLeft) l9 c9 k9).binds (ps := PShiftLeft) fun _ _ _ _ _ _ us hl => match us, hl with | [_, _], _ => rfl⟩
      aShiftRight := f10
      fdShiftRight := PySem.W.fnOf "shift_right" "shift_right" (defArgs sShiftRight) (defBody sShiftRight) (defScope sShiftRight) .none kV10 dc10 pm10 an10 cd10 ct10
      dShiftRight := ⟨fun_mk (st := sShiftRight) l10 c10 k10, PySem.W.mg_of X G a10, (fun_mk (st := sShiftRight) l10 c10 k10).binds (ps := PShiftRight) fun _ _ _ _ _ _ us hl => match us, hl with | [_, _], _ => rfl⟩
      aLawNumber := f11
      fdLawNumber := PySem.W.fnOf "_law_number" "_law_number" (defArgs sLawNumber) (defBody sLawNumber) (defScope sLawNumber) .none kV11 dc11 pm11 an11 cd11 ct11
      dLawNumber := ⟨fun_mk (st := sLawNumber) l11 c11 k11, PySem.W.mg_of X G a11, (fun_mk (st := sLawNumber) l11 c11 k11).binds (ps := PLawNumber) fun _ _ _ _ _ _ us hl => match us, hl with | [_, _], _ => rfl⟩
      aLawWord := f12
      fdLawWord := PySem.W.fnOf "_law_word" "_law_word" (defArgs sLawWord) (defBody sLawWord) (defScope sLawWord) .none kV12 dc12 pm12 an12 cd12 ct12
      dLawWord := ⟨fun_mk (st := sLawWord) l12 c12 k12, PySem.W.mg_of X G a12, (fun_mk (st := sLawWord) l12 c12 k12).binds (ps := PLawWord) fun _ _ _ _ _ _ us hl => match us, hl with | [_], _ => rfl⟩
      aLawIs := f13
      fdLawIs := PySem.W.fnOf "_law_is" "_law_is" (defArgs sLawIs) (defBody sLawIs) (defScope sLawIs) .none kV13 dc13 pm13 an13 cd13 ct13
      dLawIs := ⟨fun_mk (st := sLawIs) l13 c13 k13, PySem.W.mg_of X G a13, (fun_mk (st := sLawIs) l13 c13 k13).binds (ps := PLawIs) fun _ _ _ _ _ _ us hl => match us, hl with | [_, _], _ => rfl⟩
      aLawBits := f14
      fdLawBits := PySem.W.fnOf "_law_bits" "_law_bits" (defArgs sLawBits) (defBody sLawBits) (defScope sLawBits) .none kV14 dc14 pm14 an14 cd14 ct14
      dLawBits := ⟨fun_mk (st := sLawBits) l14 c14 k14, PySem.W.mg_of X G a14, (fun_mk (st := sLawBits) l14 c14 k14).binds (ps := PLawBits) fun _ _ _ _ _ _ us hl => match us, hl with | [_, _], _ => rfl⟩
      aLawShifts := f15
      fdLawShifts := PySem.W.fnOf "_law_shifts" "_law_shifts" (defArgs sLawShifts) (defBody sLawShifts) (defScope sLawShifts) .none kV15 dc15 pm15 an15 cd15 ct15
      dLawShifts := ⟨fun_mk (st := sLawShifts) l15 c15 k15, PySem.W.mg_of X G a15, (fun_mk (st := sLawShifts) l15 c15 k15).binds (ps := PLawShifts) fun _ _ _ _ _ _ us hl => match us, hl with | [_, _], _ => rfl⟩
      b_int := PySem.W.mg_none_of X G z_int
      b_len := PySem.W.mg_none_of X G z_len
      b_range := PySem.W.mg_none_of X G z_range
      b_max := PySem.W.mg_none_of X G z_max
      b_isinstance := PySem.W.mg_none_of X G z_isinstance
      b_bool := PySem.W.mg_none_of X G z_bool
      gWORDS := ⟨_, PySem.W.mg_of X G g_WORDS⟩
      gNEGATIVE := ⟨_, PySem.W.mg_of X G g_NEGATIVE⟩ } (fun_mk (st := sLaw) l16 c16 k16)⟩
theorem walk {l : PySem.W.OpenLaw} {q : Program} {loose : List Str} {XP : (Str → Option Value) → Heap → Prop} {YP : World → Heap → Prop} {d : DefRec} {K : Params → PySem.W.Frag} (hn : l.most = some 63) (hdf : d.params.defaults = [])
    (hY : ∀ (w : World) (h : Heap), YP w h → (K w.params).In h)
    (F : ∀ (w : World) (mg : Str → Option Value) (fa : Addr) (h : Heap), (K w.params).In h → h.Ns mainGlobals mg → mg d.name = some (.ref fa) →
      ∃ fd : FuncData, (∀ (s : Shared) (u : Value), BindsTo s fd ⟨[u], []⟩ [("script", u)]) ∧ ∀ base : Heap, (K w.params).In base → base.Ns mainGlobals mg → FnOk l.prog w (K w.params) mg base CX0 3 fa fd ["script"] (spLaw (K w.params))) :
    PySem.W.WalkO q loose XP YP l.row.toRowW d [] (fun f vs => PySem.call f vs) :=
  L2.walk_of (n := 63) (k := 3) (x := "script") (CX := fun _ => CX0) (sp := fun w => spLaw (K w.params)) hn (by decide) hdf ⟨rfl, by decide, by decide⟩ hY F (fun _ _ a ns hl _ hS => ⟨a, ns, rfl, hS, hl, fun _ => rfl⟩) fun _ _ _ _ _ z => z
end K00
open PySem PySem.W PyProof.Rows
set_option maxRecDepth 100000 in
set_option maxHeartbeats 0 in
theorem PySem.Challenge.cw_merestone_k00_words_modulo_65536_holds : PySem.Challenge.rw_merestone_k00_words_modulo_65536.Holds := by
  w_on; o_law; k_head; (case hw => w_witness2)
  k_fill
  refine K00.walk (l := PySem.Challenge.rw_merestone_k00_words_modulo_65536) rfl rfl (fun w h Y => PySem.W.kIn_of Y) ?F
  case F =>
    intro w mg fa h KX G hmg
    refine' K00.all_mk KX G hmg ?a0 ?l0 ?c0 ?k0 ?a1 ?l1 ?c1 ?k1 ?a2 ?l2 ?c2 ?k2 ?a3 ?l3 ?c3 ?k3 ?a4 ?l4 ?c4 ?k4 ?a5 ?l5 ?c5 ?k5 ?a6 ?l6 ?c6 ?k6 ?a7 ?l7 ?c7 ?k7 ?a8 ?l8 ?c8 ?k8 ?a9 ?l9 ?c9 ?k9 ?a10 ?l10 ?c10 ?k10 ?a11 ?l11 ?c11 ?k11 ?a12 ?l12 ?c12 ?k12 ?a13 ?l13 ?c13 ?k13 ?a14 ?l14 ?c14 ?k14 ?a15 ?l15 ?c15 ?k15 ?a16 ?l16 ?c16 ?k16 ?z_int ?z_len ?z_range ?z_max ?z_isinstance ?z_bool ?g_WORDS ?g_NEGATIVE
    (case a0 => k_is)
    (case l0 => k_is)
    (case c0 => k_is)
    (case k0 => k_is)
    (case a1 => k_is)
    (case l1 => k_is)
    (case c1 => k_is)
    (case k1 => k_is)
    (case a2 => k_is)
    (case l2 => k_is)
    (case c2 => k_is)
    (case k2 => k_is)
    (case a3 => k_is)
    (case l3 => k_is)
    (case c3 => k_is)
    (case k3 => k_is)
    (case a4 => k_is)
    (case l4 => k_is)
    (case c4 => k_is)
    (case k4 => k_is)
    (case a5 => k_is)
    (case l5 => k_is)
    (case c5 => k_is)
    (case k5 => k_is)
    (case a6 => k_is)
    (case l6 => k_is)
    (case c6 => k_is)
    (case k6 => k_is)
    (case a7 => k_is)
    (case l7 => k_is)
    (case c7 => k_is)
    (case k7 => k_is)
    (case a8 => k_is)
    (case l8 => k_is)
    (case c8 => k_is)
    (case k8 => k_is)
    (case a9 => k_is)
    (case l9 => k_is)
    (case c9 => k_is)
    (case k9 => k_is)
    (case a10 => k_is)
    (case l10 => k_is)
    (case c10 => k_is)
    (case k10 => k_is)
    (case a11 => k_is)
    (case l11 => k_is)
    (case c11 => k_is)
    (case k11 => k_is)
    (case a12 => k_is)
    (case l12 => k_is)
    (case c12 => k_is)
    (case k12 => k_is)
    (case a13 => k_is)
    (case l13 => k_is)
    (case c13 => k_is)
    (case k13 => k_is)
    (case a14 => k_is)
    (case l14 => k_is)
    (case c14 => k_is)
    (case k14 => k_is)
    (case a15 => k_is)
    (case l15 => k_is)
    (case c15 => k_is)
    (case k15 => k_is)
    (case a16 => k_is)
    (case l16 => k_is)
    (case c16 => k_is)
    (case k16 => k_is)
    (case z_int => k_is)
    (case z_len => k_is)
    (case z_range => k_is)
    (case z_max => k_is)
    (case z_isinstance => k_is)
    (case z_bool => k_is)
    (case g_WORDS => k_is)
    (case g_NEGATIVE => k_is)
#print axioms PySem.Challenge.cw_merestone_k00_words_modulo_65536_holds

