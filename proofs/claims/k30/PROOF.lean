import PyProof.Rows.All
import Wide.All
import OpenK.AllK
import Wide.FinOn
import HandS.ForMost
import HandS.Evl
import HandS.IsInst
import HandS.TupLe
import HandS.More
import HandS.Strs
import HandS.Walk
import HandS.Deep
import HandS.TupAny
import HandS.Conv
import HandS.ExcCtx
import HandS.CallSlots
import HandS.ExcInit
import HandS.ExcOwn
import HandS.WordsExc
import HandS.OwnEq
import KE.GoesMore
import PySem.Challenge.RW_merestone_k30_configurations
set_option Elab.async false
section
set_option Elab.async false
set_option linter.all false
set_option maxRecDepth 100000
set_option maxHeartbeats 4000000
namespace Wv
open PySem PySem.Spec PyProof.Rows L2 Evl

/-! ### data, trees of what is owned -/
inductive D where
  | non | bool (b : Bool) | int (i : Int) | str (s : Str)
  | lst (ds : List D) | ro (ds : List D) | tup (ds : List D) | tpx (ds : List D) | obj (c : Nat) (ds : List D) | cst (v : V) | any
inductive T where
  | dat (d : D) | lst (ts : List T) | obj (c : Nat) (ts : List T)
structure Cs where
  at_ : Nat → Addr
  ly : Nat → List Str
mutual
inductive DR (K : PySem.W.Frag) (C : Cs) (G : Hp) : V → D → Prop
  | non : DR K C G .non .non
  | bool (b : Bool) : DR K C G (.bl b) (.bool b)
  | int (i : Int) : DR K C G (.int i) (.int i)
  | str (s : Str) : DR K C G (.str s) (.str s)
  | lst {a : Addr} {xs : List V} {ds : List D} (h : G a = some (.lst xs)) (r : DRs K C G xs ds) : DR K C G (.ref a) (.lst ds)
  | ro {a : Addr} {xs : List V} {ds : List D} (h : SqL K G a xs) (r : DRs K C G xs ds) : DR K C G (.ref a) (.ro ds)
  | tup {a : Addr} {xs : List V} {ds : List D} (h : SqT K G a xs) (r : DRs K C G xs ds) : DR K C G (.ref a) (.tup ds)
  | tpx {a : Addr} {o : Obj} {xs : List V} {ds : List D} (h : G a = some (.frz o (.tup xs))) (n : o.dict = none) (r : DRs K C G xs ds) : DR K C G (.ref a) (.tpx ds)
  | obj {a dx : Addr} {fs : List (Str × V)} {c : Nat} {ds : List D} (h : G a = some (.ins (C.at_ c) dx fs)) (n : fs.map Prod.fst = (C.ly c).take fs.length) (r : DRs K C G (fs.map Prod.snd) ds) : DR K C G (.ref a) (.obj c ds)
  | cst (v : V) : DR K C G v (.cst v)
  | any (v : V) : DR K C G v .any
inductive DRs (K : PySem.W.Frag) (C : Cs) (G : Hp) : List V → List D → Prop
  | nil : DRs K C G [] []
  | cons {v : V} {d : D} {vs : List V} {ds : List D} (h : DR K C G v d) (r : DRs K C G vs ds) : DRs K C G (v :: vs) (d :: ds)
end
mutual
inductive TR (K : PySem.W.Frag) (C : Cs) (G H : Hp) : V → T → List Addr → Prop
  | dat {v : V} {d : D} (h : DR K C G v d) : TR K C G H v (.dat d) []
  | lst {a : Addr} {xs : List V} {ts : List T} {fp : List Addr} (h : H a = some (.lst xs)) (r : TRs K C G H xs ts fp) : TR K C G H (.ref a) (.lst ts) (a :: fp)
  | obj {a dx : Addr} {fs : List (Str × V)} {c : Nat} {ts : List T} {fp : List Addr} (h : H a = some (.ins (C.at_ c) dx fs)) (n : fs.map Prod.fst = (C.ly c).take fs.length) (r : TRs K C G H (fs.map Prod.snd) ts fp) : TR K C G H (.ref a) (.obj c ts) (a :: fp)
inductive TRs (K : PySem.W.Frag) (C : Cs) (G H : Hp) : List V → List T → List Addr → Prop
  | nil : TRs K C G H [] [] []
  | cons {v : V} {t : T} {vs : List V} {ts : List T} {fp fq : List Addr} (h : TR K C G H v t fp) (r : TRs K C G H vs ts fq) : TRs K C G H (v :: vs) (t :: ts) (fp ++ fq)
end
section
variable {K : PySem.W.Frag} {C : Cs} {G H G' H' : Hp}
mutual
theorem DR.up (e : Ex G G') : ∀ (d : D) (v : V), DR K C G v d → DR K C G' v d
  | .non, _, h => by cases h; exact .non
  | .bool b, _, h => by cases h; exact .bool b
  | .int i, _, h => by cases h; exact .int i
  | .str x, _, h => by cases h; exact .str x
  | .lst ds, _, h => by
    cases h with
    | lst hs ha => exact .lst (e _ _ hs) (DRs.up e ds _ ha)
  | .ro ds, _, h => by
    cases h with
    | ro hs ha => exact .ro (ex_l e hs) (DRs.up e ds _ ha)
  | .tup ds, _, h => by
    cases h with
    | tup hs ha => exact .tup (ex_t e hs) (DRs.up e ds _ ha)
  | .tpx ds, _, h => by
    cases h with
    | tpx hs n ha => exact .tpx (e _ _ hs) n (DRs.up e ds _ ha)
  | .obj c ds, _, h => by
    cases h with
    | obj hs n ha => exact .obj (e _ _ hs) n (DRs.up e ds _ ha)
  | .cst v, _, h => by cases h; exact .cst v
  | .any, v, h => .any v
theorem DRs.up (e : Ex G G') : ∀ (ds : List D) (vs : List V), DRs K C G vs ds → DRs K C G' vs ds
  | [], _, h => by cases h; exact .nil
  | d :: ds, _, h => by
    cases h with
    | cons h1 h2 => exact .cons (DR.up e d _ h1) (DRs.up e ds _ h2)
end
theorem DRs.len : ∀ {ds : List D} {vs : List V}, DRs K C G vs ds → vs.length = ds.length
  | [], _, .nil => rfl
  | _ :: _, _, .cons _ h => by rw [List.length_cons, List.length_cons, DRs.len h]
theorem DRs.get : ∀ {ds : List D} {vs : List V} {i : Nat} {d : D}, DRs K C G vs ds → ds[i]? = some d → ∃ v, vs[i]? = some v ∧ DR K C G v d
  | _, _, i, _, .nil, e => by simp at e
  | _, _, 0, _, .cons h _, e => by
    cases (Option.some.inj e)
    exact ⟨_, rfl, h⟩
  | _, _, i + 1, _, .cons _ h, e => DRs.get (i := i) h e
theorem DRs.app : ∀ {ds es : List D} {vs us : List V}, DRs K C G vs ds → DRs K C G us es → DRs K C G (vs ++ us) (ds ++ es)
  | _, _, _, _, .nil, h => h
  | _, _, _, _, .cons h1 h2, h => .cons h1 (DRs.app h2 h)
theorem DRs.ints : ∀ {ns : List Int} {vs : List V}, DRs K C G vs (ns.map .int) → vs = ns.map V.int
  | [], _, .nil => rfl
  | _ :: _, _, .cons h1 h2 => by
    cases h1
    rw [DRs.ints h2]
    rfl
theorem DRs.strs : ∀ {ns : List Str} {vs : List V}, DRs K C G vs (ns.map .str) → vs = ns.map V.str
  | [], _, .nil => rfl
  | _ :: _, _, .cons h1 h2 => by
    cases h1
    rw [DRs.strs h2]
    rfl
theorem DRs.bools : ∀ {ns : List Bool} {vs : List V}, DRs K C G vs (ns.map .bool) → vs = ns.map V.bl
  | [], _, .nil => rfl
  | _ :: _, _, .cons h1 h2 => by
    cases h1
    rw [DRs.bools h2]
    rfl
theorem DRs.of_ints : ∀ (ns : List Int), DRs K C G (ns.map V.int) (ns.map .int)
  | [] => .nil
  | s :: ss => .cons (.int s) (DRs.of_ints ss)
theorem DRs.of_strs : ∀ (ns : List Str), DRs K C G (ns.map V.str) (ns.map .str)
  | [] => .nil
  | s :: ss => .cons (.str s) (DRs.of_strs ss)
theorem TRs.len : ∀ {ts : List T} {vs : List V} {fp : List Addr}, TRs K C G H vs ts fp → vs.length = ts.length
  | [], _, _, .nil => rfl
  | _ :: _, _, _, .cons _ h => by rw [List.length_cons, List.length_cons, TRs.len h]
/-! a tree stays where its own objects stay -/
mutual
theorem TR.stay (e : Ex G G') : ∀ (t : T) (v : V) (fp : List Addr), TR K C G H v t fp → (∀ a ∈ fp, H' a = H a) → TR K C G' H' v t fp
  | .dat d, _, _, h, _ => by
    cases h with
    | dat h => exact .dat (DR.up e d _ h)
  | .lst ts, _, _, h, s => by
    cases h with
    | lst h r => exact .lst ((s _ List.mem_cons_self).trans h) (TRs.stay e ts _ _ r fun a ha => s a (List.mem_cons_of_mem _ ha))
  | .obj c ts, _, _, h, s => by
    cases h with
    | obj h n r => exact .obj ((s _ List.mem_cons_self).trans h) n (TRs.stay e ts _ _ r fun a ha => s a (List.mem_cons_of_mem _ ha))
theorem TRs.stay (e : Ex G G') : ∀ (ts : List T) (vs : List V) (fp : List Addr), TRs K C G H vs ts fp → (∀ a ∈ fp, H' a = H a) → TRs K C G' H' vs ts fp
  | [], _, _, h, _ => by cases h; exact .nil
  | t :: ts, _, _, h, s => by
    cases h with
    | cons h r => exact .cons (TR.stay e t _ _ h fun a ha => s a (List.mem_append_left _ ha)) (TRs.stay e ts _ _ r fun a ha => s a (List.mem_append_right _ ha))
end
/-! a tree becomes data -/
mutual
def T.toD : T → D
  | .dat d => d
  | .lst ts => .lst (T.toDs ts)
  | .obj c ts => .obj c (T.toDs ts)
def T.toDs : List T → List D
  | [] => []
  | t :: ts => t.toD :: T.toDs ts
end
theorem toDs_map : ∀ ds : List D, T.toDs (ds.map .dat) = ds
  | [] => rfl
  | d :: ds => by
    show d :: T.toDs (ds.map .dat) = _
    rw [toDs_map ds]
mutual
theorem TR.frz (e : Ex G G') : ∀ (t : T) (v : V) (fp : List Addr), TR K C G H v t fp → (∀ a ∈ fp, G' a = H a) → DR K C G' v t.toD
  | .dat d, _, _, h, _ => by
    cases h with
    | dat h => exact DR.up e d _ h
  | .lst ts, _, _, h, s => by
    cases h with
    | lst h r => exact .lst ((s _ List.mem_cons_self).trans h) (TRs.frz e ts _ _ r fun a ha => s a (List.mem_cons_of_mem _ ha))
  | .obj c ts, _, _, h, s => by
    cases h with
    | obj h n r => exact .obj ((s _ List.mem_cons_self).trans h) n (TRs.frz e ts _ _ r fun a ha => s a (List.mem_cons_of_mem _ ha))
theorem TRs.frz (e : Ex G G') : ∀ (ts : List T) (vs : List V) (fp : List Addr), TRs K C G H vs ts fp → (∀ a ∈ fp, G' a = H a) → DRs K C G' vs (T.toDs ts)
  | [], _, _, h, _ => by cases h; exact .nil
  | t :: ts, _, _, h, s => by
    cases h with
    | cons h r => exact .cons (TR.frz e t _ _ h fun a ha => s a (List.mem_append_left _ ha)) (TRs.frz e ts _ _ r fun a ha => s a (List.mem_append_right _ ha))
end
/-- the heap of data with the objects at fp -/
def mix (G H : Hp) (fp : List Addr) : Hp := fun a => if a ∈ fp then H a else G a
theorem mix_in {fp : List Addr} {a : Addr} (h : a ∈ fp) : mix G H fp a = H a := if_pos h
theorem mix_out {fp : List Addr} {a : Addr} (h : a ∉ fp) : mix G H fp a = G a := if_neg h
theorem mix_ex {fp : List Addr} (h : ∀ a ∈ fp, G a = none) : Ex G (mix G H fp) := fun a o e => by
  rw [mix_out fun z => by rw [h a z] at e; cases e]
  exact e
theorem mix_sub {fp : List Addr} (s : Ex G H) : Ex (mix G H fp) H := fun a o e => by
  by_cases z : a ∈ fp
  · rw [mix_in z] at e
    exact e
  · rw [mix_out z] at e
    exact s a o e

/-! ### places -/
def fol (H : Hp) : List Nat → V → Option V
  | [], v => some v
  | i :: p, .ref a => match H a with
    | some (.lst xs) => (xs[i]?).bind (fol H p)
    | some (.ins _ _ fs) => ((fs.map Prod.snd)[i]?).bind (fol H p)
    | _ => none
  | _ :: _, _ => none
def T.kids : T → List T
  | .dat _ => []
  | .lst ts => ts
  | .obj _ ts => ts
def T.at : List Nat → T → Option T
  | [], t => some t
  | i :: p, t => (t.kids[i]?).bind (T.at p)
def T.withKids : T → List T → T
  | .dat d, _ => .dat d
  | .lst _, ts => .lst ts
  | .obj c _, ts => .obj c ts
def T.put (u : T) : List Nat → T → T
  | [], _ => u
  | i :: p, t => match t.kids[i]? with
    | some x => t.withKids (t.kids.set i (T.put u p x))
    | none => t
def NodeV (H : Hp) (w : V) : Prop := ∃ a, w = .ref a ∧ ((∃ xs, H a = some (.lst xs)) ∨ ∃ c dx fs, H a = some (.ins c dx fs))
theorem TRs.split : ∀ {ts : List T} {vs : List V} {fp : List Addr} {i : Nat} {t : T}, TRs K C G H vs ts fp → ts[i]? = some t → ∃ v L fu R, vs[i]? = some v ∧ TR K C G H v t fu ∧ fp = L ++ (fu ++ R) ∧
    ∀ (G' H' : Hp) (t' : T) (fu' : List Addr), Ex G G' → (∀ a ∈ L ++ R, H' a = H a) → TR K C G' H' v t' fu' → TRs K C G' H' vs (ts.set i t') (L ++ (fu' ++ R))
  | _, _, _, _, _, .nil, e => by simp at e
  | _, _, _, 0, _, .cons (fp := fp) (fq := fq) h r, e => by
    cases Option.some.inj e
    exact ⟨_, [], fp, fq, rfl, h, rfl, fun G' H' t' fu' eg s h' => TRs.cons (fp := fu') (fq := fq) h' (TRs.stay eg _ _ _ r fun a ha => s a ha)⟩
  | _, _, _, i + 1, _, .cons (fp := fp) (fq := fq) h r, e => by
    obtain ⟨v, L, fu, R, h1, h2, h3, h4⟩ := TRs.split (i := i) r e
    refine ⟨v, fp ++ L, fu, R, h1, h2, by rw [h3, List.append_assoc], fun G' H' t' fu' eg s h' => ?_⟩
    rw [List.append_assoc]
    refine .cons (TR.stay eg _ _ _ h fun a ha => s a (by simp [ha])) (h4 G' H' t' fu' eg (fun a ha => s a ?_) h')
    rcases List.mem_append.mp ha with z | z <;> simp [z]
/-- the node at a place, and what may stand there -/
theorem TR.node : ∀ {p : List Nat} {t u : T} {v : V} {fp : List Addr}, TR K C G H v t fp → T.at p t = some u → ∃ w L fu R, fol H p v = some w ∧ TR K C G H w u fu ∧ fp = L ++ (fu ++ R) ∧
    ∀ (G' H' : Hp) (u' : T) (fu' : List Addr), Ex G G' → (∀ a ∈ L ++ R, H' a = H a) → TR K C G' H' w u' fu' → TR K C G' H' v (T.put u' p t) (L ++ (fu' ++ R))
  | [], t, u, v, fp, h, e => by
    cases Option.some.inj e
    exact ⟨v, [], fp, [], rfl, h, by simp, fun G' H' u' fu' eg s h' => by
      show TR K C G' H' v u' ([] ++ (fu' ++ []))
      simpa using h'⟩
  | i :: p, t, u, v, fp, h, e => by
    cases h with
    | dat h => simp [T.at, T.kids] at e
    | @lst a xs ts fq h r =>
      cases q : ts[i]? with
      | none => simp [T.at, T.kids, q] at e
      | some x =>
        have e : T.at p x = some u := by simpa [T.at, T.kids, q] using e
        obtain ⟨w, L, fu, R, h1, h2, h3, h4⟩ := TRs.split r q
        obtain ⟨w2, L2, fu2, R2, k1, k2, k3, k4⟩ := TR.node (p := p) h2 e
        refine ⟨w2, a :: (L ++ L2), fu2, R2 ++ R, ?_, k2, by rw [h3, k3]; simp, fun G' H' u' fu' eg s h' => ?_⟩
        · show (match H a with | some (.lst xs) => (xs[i]?).bind (fol H p) | some (.ins _ _ fs) => ((fs.map Prod.snd)[i]?).bind (fol H p) | _ => none) = _
          rw [h]
          show (xs[i]?).bind (fol H p) = _
          rw [h1]
          exact k1
        · have z := h4 G' H' (T.put u' p x) (L2 ++ (fu' ++ R2)) eg (fun b hb => s b (by rcases List.mem_append.mp hb with y | y <;> simp [y])) (k4 G' H' u' fu' eg (fun b hb => s b (by rcases List.mem_append.mp hb with y | y <;> simp [y])) h')
          have y : T.put u' (i :: p) (.lst ts) = .lst (ts.set i (T.put u' p x)) := by simp [T.put, T.kids, q, T.withKids]
          rw [y]
          have := TR.lst (C := C) ((s a (by simp)).trans h) z
          simpa using this
    | @obj a dx fs c ts fq h n r =>
      cases q : ts[i]? with
      | none => simp [T.at, T.kids, q] at e
      | some x =>
        have e : T.at p x = some u := by simpa [T.at, T.kids, q] using e
        obtain ⟨w, L, fu, R, h1, h2, h3, h4⟩ := TRs.split r q
        obtain ⟨w2, L2, fu2, R2, k1, k2, k3, k4⟩ := TR.node (p := p) h2 e
        refine ⟨w2, a :: (L ++ L2), fu2, R2 ++ R, ?_, k2, by rw [h3, k3]; simp, fun G' H' u' fu' eg s h' => ?_⟩
        · show (match H a with | some (.lst xs) => (xs[i]?).bind (fol H p) | some (.ins _ _ fs) => ((fs.map Prod.snd)[i]?).bind (fol H p) | _ => none) = _
          rw [h]
          show ((fs.map Prod.snd)[i]?).bind (fol H p) = _
          rw [h1]
          exact k1
        · have z := h4 G' H' (T.put u' p x) (L2 ++ (fu' ++ R2)) eg (fun b hb => s b (by rcases List.mem_append.mp hb with y | y <;> simp [y])) (k4 G' H' u' fu' eg (fun b hb => s b (by rcases List.mem_append.mp hb with y | y <;> simp [y])) h')
          have y : T.put u' (i :: p) (.obj c ts) = .obj c (ts.set i (T.put u' p x)) := by simp [T.put, T.kids, q, T.withKids]
          rw [y]
          have := TR.obj (C := C) ((s a (by simp)).trans h) n z
          simpa using this
/-- no place to a node is lost -/
def Idn (H H' : Hp) : Prop := ∀ (p : List Nat) (v w : V), fol H p v = some w → NodeV H w → fol H' p v = some w ∧ NodeV H' w
theorem Idn.refl (H : Hp) : Idn H H := fun _ _ _ h n => ⟨h, n⟩
theorem Idn.trans {H1 H2 : Hp} (a : Idn H H1) (b : Idn H1 H2) : Idn H H2 := fun p v w h n => by
  obtain ⟨h1, n1⟩ := a p v w h n
  exact b p v w h1 n1
/-- an object is laid, or a node gets other contents, its nodes in their places -/
theorem Idn.of (n : ∀ w, NodeV H w → NodeV H' w) (k : ∀ a i w, (∃ v, fol H [i] (.ref a) = some v ∧ v = w) → (NodeV H w) → fol H' [i] (.ref a) = some w) : Idn H H' := by
  intro p
  induction p with
  | nil => exact fun v w h nn => ⟨h, n w nn⟩
  | cons i p ih =>
    intro v w h nn
    cases v with
    | ref a =>
      have one : ∀ (H : Hp), fol H (i :: p) (.ref a) = (fol H [i] (.ref a)).bind (fol H p) := fun H => by
        show (match H a with | some (.lst xs) => (xs[i]?).bind (fol H p) | some (.ins _ _ fs) => ((fs.map Prod.snd)[i]?).bind (fol H p) | _ => none) = (match H a with | some (.lst xs) => (xs[i]?).bind (fol H []) | some (.ins _ _ fs) => ((fs.map Prod.snd)[i]?).bind (fol H []) | _ => none).bind (fol H p)
        have bind_some : ∀ (o : Option V), o.bind (fol H []) = o := fun o => by cases o <;> rfl
        split
        · rw [bind_some]
        · rw [bind_some]
        · rfl
      rw [one H] at h
      cases q : fol H [i] (.ref a) with
      | none => rw [q] at h; cases h
      | some x =>
        rw [q] at h
        have h : fol H p x = some w := h
        have nx : NodeV H x := by
          cases p with
          | nil => cases Option.some.inj h; exact nn
          | cons j p =>
            cases x with
            | ref b =>
              have h : (match H b with | some (.lst xs) => (xs[j]?).bind (fol H p) | some (.ins _ _ fs) => ((fs.map Prod.snd)[j]?).bind (fol H p) | _ => none) = some w := h
              split at h
              · rename_i xs hb
                exact ⟨b, rfl, .inl ⟨xs, hb⟩⟩
              · rename_i c dx fs hb
                exact ⟨b, rfl, .inr ⟨c, dx, fs, hb⟩⟩
              · cases h
            | _ => cases h
        rw [one H', k a i x ⟨x, q, rfl⟩ nx]
        exact ih x w h nn
    | _ => cases h
end
end Wv
end

section
set_option Elab.async false
set_option linter.all false
set_option maxRecDepth 100000
set_option maxHeartbeats 4000000
namespace Wv
open PySem PySem.Spec PyProof.Rows L2 Evl

inductive Val where | dat (d : D) | ref (r : Nat) (p : List Nat)
abbrev Slots := List (Option Val)
/-- an error of the program's own: its class, its fields -/
structure Exn where
  c : Nat
  ds : List D
abbrev Roots := List T
def VR (K : PySem.W.Frag) (C : Cs) (G H : Hp) (ρ : List Addr) : Val → V → Prop
  | .dat d, v => DR K C G v d
  | .ref r p, v => ∃ a, ρ[r]? = some a ∧ fol H p (.ref a) = some v ∧ NodeV H v
inductive VRs (K : PySem.W.Frag) (C : Cs) (G H : Hp) (ρ : List Addr) : List Val → List V → Prop
  | nil : VRs K C G H ρ [] []
  | cons {x : Val} {v : V} {xs : List Val} {vs : List V} (h : VR K C G H ρ x v) (r : VRs K C G H ρ xs vs) : VRs K C G H ρ (x :: xs) (v :: vs)
inductive Rts (K : PySem.W.Frag) (C : Cs) (G H : Hp) : List T → List Addr → List (List Addr) → Prop
  | nil : Rts K C G H [] [] []
  | cons {t : T} {a : Addr} {fp : List Addr} {ts : List T} {as : List Addr} {fps : List (List Addr)} (h : TR K C G H (.ref a) t fp) (r : Rts K C G H ts as fps) : Rts K C G H (t :: ts) (a :: as) (fp :: fps)
structure RSt (K : PySem.W.Frag) (C : Cs) (rt : Roots) (ρ : List Addr) (fps : List (List Addr)) (G H : Hp) : Prop where
  sub : Ex G H
  root : Rts K C G H rt ρ fps
  nd : fps.flatten.Nodup
  fr : ∀ a ∈ fps.flatten, G a = none
structure St (K : PySem.W.Frag) (C : Cs) (sl : Slots) (rt : Roots) (σ : L2.St) (ρ : List Addr) (fps : List (List Addr)) (G H : Hp) : Prop extends RSt K C rt ρ fps G H where
  len : σ.length = sl.length
  slot : ∀ (i : Nat) x, sl[i]? = some (some x) → ∃ v, σ[i]? = some (some v) ∧ VR K C G H ρ x v
structure Nx (fp : List Addr) (G H G' H' : Hp) (fp' : List Addr) : Prop where
  g : Ex G G'
  keep : ∀ l o, H l = some o → l ∉ fp → H' l = some o ∧ (G l = none → G' l = none)
  dom : ∀ l, H' l = none → H l = none
  new : ∀ l ∈ fp', l ∈ fp ∨ H l = none
  idn : Idn H H'
section
variable {K : PySem.W.Frag} {C : Cs} {G H G' H' G1 H1 G2 H2 : Hp} {sl : Slots} {rt rt' : Roots} {σ : L2.St} {ρ ρ' : List Addr} {fps fps' : List (List Addr)} {fp fp1 fp2 : List Addr}
theorem Nx.refl (fp : List Addr) (G H : Hp) : Nx fp G H G H fp := ⟨Ex.refl G, fun _ _ h _ => ⟨h, fun g => g⟩, fun _ h => h, fun _ h => .inl h, Idn.refl H⟩
theorem Nx.trans (a : Nx fp G H G1 H1 fp1) (b : Nx fp1 G1 H1 G2 H2 fp2) : Nx fp G H G2 H2 fp2 where
  g := a.g.trans b.g
  keep := fun l o h n => by
    obtain ⟨h1, g1⟩ := a.keep l o h n
    have n1 : l ∉ fp1 := fun z => by
      rcases a.new l z with q | q
      · exact n q
      · rw [q] at h; cases h
    obtain ⟨h2, g2⟩ := b.keep l o h1 n1
    exact ⟨h2, fun g => g2 (g1 g)⟩
  dom := fun l h => a.dom l (b.dom l h)
  new := fun l h => by
    rcases b.new l h with q | q
    · exact a.new l q
    · exact .inr (a.dom l q)
  idn := a.idn.trans b.idn
theorem Nx.less (a : Nx fp G H G' H' fp1) (h : ∀ l ∈ fp2, l ∈ fp1) : Nx fp G H G' H' fp2 := ⟨a.g, a.keep, a.dom, fun l z => a.new l (h l z), a.idn⟩
theorem VR.up (n : Nx fp G H G' H' fp1) (q : ∀ (i : Nat) (a : Addr), ρ[i]? = some a → ρ'[i]? = some a) : ∀ {x : Val} {v : V}, VR K C G H ρ x v → VR K C G' H' ρ' x v
  | .dat d, _, h => DR.up n.g d _ h
  | .ref r p, v, ⟨a, h1, h2, h3⟩ => by
    obtain ⟨k1, k2⟩ := n.idn p _ v h2 h3
    exact ⟨a, q r a h1, k1, k2⟩
theorem VRs.up (n : Nx fp G H G' H' fp1) (q : ∀ (i : Nat) (a : Addr), ρ[i]? = some a → ρ'[i]? = some a) : ∀ {x : List Val} {v : List V}, VRs K C G H ρ x v → VRs K C G' H' ρ' x v
  | _, _, .nil => .nil
  | _, _, .cons h r => .cons (h.up n q) (VRs.up n q r)
theorem VRs.len : ∀ {x : List Val} {v : List V}, VRs K C G H ρ x v → v.length = x.length
  | _, _, .nil => rfl
  | _, _, .cons h r => by rw [List.length_cons, List.length_cons, VRs.len r]
theorem VRs.get : ∀ {xs : List Val} {vs : List V} {i : Nat} {x : Val}, VRs K C G H ρ xs vs → xs[i]? = some x → ∃ v, vs[i]? = some v ∧ VR K C G H ρ x v
  | _, _, i, _, .nil, e => by simp at e
  | _, _, 0, _, .cons h _, e => by
    cases (Option.some.inj e)
    exact ⟨_, rfl, h⟩
  | _, _, i + 1, _, .cons _ h, e => VRs.get (i := i) h e
theorem St.step (s : St K C sl rt σ ρ fps G H) (r : RSt K C rt' ρ' fps' G' H') (n : Nx fp G H G' H' fp1) (q : ∀ (i : Nat) (a : Addr), ρ[i]? = some a → ρ'[i]? = some a) : St K C sl rt' σ ρ' fps' G' H' :=
  { toRSt := r
    len := s.len
    slot := fun i x e => by
      obtain ⟨v, h1, h2⟩ := s.slot i x e
      exact ⟨v, h1, h2.up n q⟩ }
theorem Rts.lens : ∀ {rt : Roots} {ρ : List Addr} {fps : List (List Addr)}, Rts K C G H rt ρ fps → ρ.length = rt.length ∧ fps.length = rt.length
  | _, _, _, .nil => ⟨rfl, rfl⟩
  | _, _, _, .cons _ r => by
    obtain ⟨h1, h2⟩ := Rts.lens r
    simp [h1, h2]
theorem Rts.stay (e : Ex G G') : ∀ {rt : Roots} {ρ : List Addr} {fps : List (List Addr)}, Rts K C G H rt ρ fps → (∀ a ∈ fps.flatten, H' a = H a) → Rts K C G' H' rt ρ fps
  | _, _, _, .nil, _ => .nil
  | _, _, _, .cons h r, s => .cons (TR.stay e _ _ _ h fun a ha => s a (by simp [ha])) (Rts.stay e r fun a ha => s a (by simp only [List.flatten_cons, List.mem_append]; exact .inr ha))
theorem Rts.split : ∀ {rt : Roots} {ρ : List Addr} {fps : List (List Addr)} {i : Nat} {t : T}, Rts K C G H rt ρ fps → rt[i]? = some t → ∃ a L fu R, ρ[i]? = some a ∧ TR K C G H (.ref a) t fu ∧ fps.flatten = L ++ (fu ++ R) ∧
    ∀ (G' H' : Hp) (t' : T) (fu' : List Addr), Ex G G' → (∀ a ∈ L ++ R, H' a = H a) → TR K C G' H' (.ref a) t' fu' → ∃ fps', Rts K C G' H' (rt.set i t') ρ fps' ∧ fps'.flatten = L ++ (fu' ++ R)
  | _, _, _, _, _, .nil, e => by simp at e
  | _, _, _, 0, _, .cons (fp := fp) (fps := fps) h r, e => by
    cases Option.some.inj e
    exact ⟨_, [], fp, fps.flatten, rfl, h, rfl, fun G' H' t' fu' eg s h' => ⟨fu' :: fps, Rts.cons h' (Rts.stay eg r fun a ha => s a ha), rfl⟩⟩
  | _, _, _, i + 1, _, .cons (fp := fp) (fps := fps) h r, e => by
    obtain ⟨a, L, fu, R, h1, h2, h3, h4⟩ := Rts.split (i := i) r e
    refine ⟨a, fp ++ L, fu, R, h1, h2, by simp [h3], fun G' H' t' fu' eg s h' => ?_⟩
    obtain ⟨fps', k1, k2⟩ := h4 G' H' t' fu' eg (fun a ha => s a (by rcases List.mem_append.mp ha with z | z <;> simp [z])) h'
    exact ⟨fp :: fps', .cons (TR.stay eg _ _ _ h fun a ha => s a (by simp [ha])) k1, by simp [k2]⟩
theorem Rts.app {t : T} {a : Addr} {fq : List Addr} (h2 : TR K C G H (.ref a) t fq) : ∀ {rt : Roots} {ρ : List Addr} {fps : List (List Addr)}, Rts K C G H rt ρ fps → Rts K C G H (rt ++ [t]) (ρ ++ [a]) (fps ++ [fq])
  | _, _, _, .nil => .cons h2 .nil
  | _, _, _, .cons h r => .cons h (Rts.app h2 r)
/-- the tree at a place -/
def tat (rt : Roots) (r : Nat) (p : List Nat) : Option T := (rt[r]?).bind (T.at p)
def Val.of (r : Nat) (p : List Nat) : T → Val
  | .dat d => .dat d
  | _ => .ref r p
/-- a place that is told: what stands there, the rest around it -/
theorem RSt.at (s : RSt K C rt ρ fps G H) {r : Nat} {p : List Nat} {t : T} {a : Addr} (h : tat rt r p = some t) (ha : ρ[r]? = some a) : ∃ w L fu R, fol H p (.ref a) = some w ∧ TR K C G H w t fu ∧ fps.flatten = L ++ (fu ++ R) ∧
    ∀ (G' H' : Hp) (t' : T) (fu' : List Addr), Ex G G' → (∀ a ∈ L ++ R, H' a = H a) → TR K C G' H' w t' fu' → ∃ fps', Rts K C G' H' (rt.modify r (T.put t' p)) ρ fps' ∧ fps'.flatten = L ++ (fu' ++ R) := by
  unfold tat at h
  cases q : rt[r]? with
  | none => rw [q] at h; cases h
  | some u =>
    rw [q] at h
    obtain ⟨b, L, fu, R, h1, h2, h3, h4⟩ := s.root.split q
    rw [ha] at h1
    cases h1
    obtain ⟨w, L2, fu2, R2, k1, k2, k3, k4⟩ := h2.node h
    refine ⟨w, L ++ L2, fu2, R2 ++ R, k1, k2, by rw [h3, k3]; simp, fun G' H' t' fu' eg st h' => ?_⟩
    have e : rt.modify r (T.put t' p) = rt.set r (T.put t' p u) := by
      refine List.ext_getElem? fun i => ?_
      rw [List.getElem?_modify, List.getElem?_set]
      by_cases z : r = i
      · subst z
        have := (List.getElem?_eq_some_iff.mp q).1
        have e2 : rt[r] = u := by rw [List.getElem?_eq_getElem this] at q; exact Option.some.inj q
        simp [this, e2]
      · simp [z]
    rw [e]
    obtain ⟨fps', y1, y2⟩ := h4 G' H' (T.put t' p u) (L2 ++ (fu' ++ R2)) eg (fun b hb => st b (by rcases List.mem_append.mp hb with y | y <;> simp [y])) (k4 G' H' t' fu' eg (fun b hb => st b (by rcases List.mem_append.mp hb with y | y <;> simp [y])) h')
    exact ⟨fps', y1, by rw [y2]; simp⟩
/-- a value that is a place -/
theorem RSt.val (s : RSt K C rt ρ fps G H) {r : Nat} {p : List Nat} {t : T} {v : V} (h : tat rt r p = some t) (hv : VR K C G H ρ (.ref r p) v) : VR K C G H ρ (Val.of r p t) v ∧ ∃ fu, TR K C G H v t fu ∧ ∀ a ∈ fu, a ∈ fps.flatten := by
  obtain ⟨a, h1, h2, h3⟩ := hv
  obtain ⟨w, L, fu, R, k1, k2, k3, _⟩ := s.at h h1
  rw [h2] at k1
  cases k1
  refine ⟨?_, fu, k2, fun b hb => by rw [k3]; simp [hb]⟩
  cases t with
  | dat d => cases k2 with | dat q => exact q
  | lst ts => exact ⟨a, h1, h2, h3⟩
  | obj c ts => exact ⟨a, h1, h2, h3⟩

/-! ### readings -/
def Pre (ρ ρ' : List Addr) : Prop := ∀ (i : Nat) (a : Addr), ρ[i]? = some a → ρ'[i]? = some a
theorem Pre.refl (ρ : List Addr) : Pre ρ ρ := fun _ _ h => h
theorem Pre.trans {ρ ρ1 ρ2 : List Addr} (a : Pre ρ ρ1) (b : Pre ρ1 ρ2) : Pre ρ ρ2 := fun i x h => b i x (a i x h)
theorem Pre.app (ρ more : List Addr) : Pre ρ (ρ ++ more) := fun i a h => by
  rw [List.getElem?_append_left (List.getElem?_eq_some_iff.mp h).1]
  exact h
/-- what is wanted of an error, by its class, its dict, the slots and the heap -/
abbrev UX := Value → Option Addr → L2.St → Hp → Prop
/-- an error as it leaves -/
def XR (K : PySem.W.Frag) (C : Cs) (G H : Hp) (x : Exn) (cls : Value) (d : Option Addr) : Prop := cls = .ref (C.at_ x.c) ∧ ∃ dd fs, d = some dd ∧ H dd = some (.xd fs) ∧ fs.map Prod.fst = (C.ly x.c).take fs.length ∧ DRs K C G (fs.map Prod.snd) x.ds
/-- what is wanted of an error -/
def Xf (K : PySem.W.Frag) (C : Cs) (U : UX) (ρ : List Addr) (fps : List (List Addr)) (G H : Hp) (ex : Exn → Slots → Roots → Prop) : Prop := ∀ x sl' rt' σ' ρ' fps' G' H' cls d, St K C sl' rt' σ' ρ' fps' G' H' → Nx fps.flatten G H G' H' fps'.flatten → Pre ρ ρ' → XR K C G' H' x cls d → ex x sl' rt' → U cls d σ' H'
theorem Xf.later {U : UX} {ex : Exn → Slots → Roots → Prop} {ρ1 : List Addr} {fps1 : List (List Addr)} (f : Xf K C U ρ fps G H ex) (n : Nx fps.flatten G H G1 H1 fps1.flatten) (p : Pre ρ ρ1) : Xf K C U ρ1 fps1 G1 H1 ex :=
  fun x sl' rt' σ' ρ' fps' G' H' cls d s n' p' => f x sl' rt' σ' ρ' fps' G' H' cls d s (n.trans n') (p.trans p')
theorem Xf.no {U : UX} : Xf K C U ρ fps G H fun _ _ _ => False := fun _ _ _ _ _ _ _ _ _ _ _ _ _ _ h => h.elim
/-- the slots, and what is wanted of an error -/
structure Cxt where
  sl : Slots
  ex : Exn → Slots → Roots → Prop
abbrev WE := Cxt → Roots → (Val → Roots → Prop) → Prop
abbrev WT := Cxt → Roots → (Bool → Roots → Prop) → Prop
abbrev WA := Cxt → Roots → (List Val → Roots → Prop) → Prop
abbrev WO := Cxt → Roots → (T → Roots → Prop) → Prop
variable (K C)
variable (U : UX)
def tE (w : WE) : TE := fun σ H Q => ∃ sl rt ρ fps G k, St K C sl.sl rt σ ρ fps G H ∧ Xf K C U ρ fps G H sl.ex ∧ w sl rt k ∧ ∀ x rt' fps' G' H' v, RSt K C rt' ρ fps' G' H' → Nx fps.flatten G H G' H' fps'.flatten → VR K C G' H' ρ x v → k x rt' → Q v H'
def tT (w : WT) : TT := fun σ H Q => ∃ sl rt ρ fps G k, St K C sl.sl rt σ ρ fps G H ∧ Xf K C U ρ fps G H sl.ex ∧ w sl rt k ∧ ∀ b rt' fps' G' H', RSt K C rt' ρ fps' G' H' → Nx fps.flatten G H G' H' fps'.flatten → k b rt' → Q b H'
def tA (w : WA) : TA := fun σ H Q => ∃ sl rt ρ fps G k, St K C sl.sl rt σ ρ fps G H ∧ Xf K C U ρ fps G H sl.ex ∧ w sl rt k ∧ ∀ xs rt' fps' G' H' vs, RSt K C rt' ρ fps' G' H' → Nx fps.flatten G H G' H' fps'.flatten → VRs K C G' H' ρ xs vs → k xs rt' → Q vs H'
/-- a new tree, owned by nobody yet -/
structure Own (fps : List (List Addr)) (G H : Hp) (t : T) (v : V) (fp : List Addr) : Prop where
  tr : TR K C G H v t fp
  nd : fp.Nodup
  ap : ∀ a ∈ fp, a ∉ fps.flatten
  fr : ∀ a ∈ fp, G a = none
def tO (w : WO) : TE := fun σ H Q => ∃ sl rt ρ fps G k, St K C sl.sl rt σ ρ fps G H ∧ Xf K C U ρ fps G H sl.ex ∧ w sl rt k ∧ ∀ t rt' fps' fp G' H' v, RSt K C rt' ρ fps' G' H' → Nx fps.flatten G H G' H' fps'.flatten → Own K C fps' G' H' t v fp → (∀ a ∈ fp, a ∈ fps.flatten ∨ H a = none) → k t rt' → Q v H'
variable {K C}
variable {U}

theorem pe_imp {X : Cx} {e : Expr} {t t' : TE} (h : PE X e t) (i : ∀ σ H Q, t' σ H Q → t σ H Q) : PE X e t' := ⟨fun pins s σ H Q I q => h.run pins s σ H Q I (i σ H Q q)⟩
theorem pt_imp {X : Cx} {e : Expr} {t t' : TT} (h : PT X e t) (i : ∀ σ H Q, t' σ H Q → t σ H Q) : PT X e t' := ⟨fun pins s σ H Q I q => h.run pins s σ H Q I (i σ H Q q)⟩
theorem pw_imp {X : Cx} {e : Expr} {t t' : TT} (h : PW X e t) (i : ∀ σ H Q, t' σ H Q → t σ H Q) : PW X e t' := ⟨fun wh pins s σ H Q I q => h.run wh pins s σ H Q I (i σ H Q q)⟩
theorem pa_imp {X : Cx} {e : List Expr} {t t' : TA} (h : PA X e t) (i : ∀ σ H Q, t' σ H Q → t σ H Q) : PA X e t' := ⟨fun pos pins s σ H Q I q => h.run pos pins s σ H Q I (i σ H Q q)⟩

/-! names and constants -/
def wVar (i : Nat) : WE := fun sl rt k => match sl.sl[i]? with
  | some (some (.dat d)) => k (.dat d) rt
  | some (some (.ref r p)) => match tat rt r p with
    | some t => k (Val.of r p t) rt
    | none => False
  | _ => False
theorem e_var {i : Nat} : ∀ σ H Q, tE K C U (wVar i) σ H Q → tVar i σ H Q := fun σ H Q ⟨sl, rt, ρ, fps, G, k, s, xf, w, q⟩ => by
  unfold wVar at w
  split at w
  · rename_i d e
    obtain ⟨v, h1, h2⟩ := s.slot i _ e
    exact ⟨v, h1, q _ rt fps G H v s.toRSt (Nx.refl _ G H) h2 w⟩
  · rename_i r p e
    obtain ⟨v, h1, h2⟩ := s.slot i _ e
    split at w
    · rename_i t ht
      exact ⟨v, h1, q _ rt fps G H v s.toRSt (Nx.refl _ G H) (s.toRSt.val ht h2).1 w⟩
    · exact w.elim
  · exact w.elim
def wC (d : D) : WE := fun _ rt k => k (.dat d) rt
theorem e_c {v : V} {d : D} (h : ∀ G, DR K C G v d) : ∀ σ H Q, tE K C U (wC d) σ H Q → tC v σ H Q := fun σ H Q ⟨sl, rt, ρ, fps, G, k, s, xf, w, q⟩ => q (.dat d) rt fps G H v s.toRSt (Nx.refl _ G H) (h G) w
theorem we_int {X : Cx} {i : Int} {j pos} : PE X (.Constant (.int i) j pos) (tE K C U (wC (.int i))) := pe_imp pe_int (e_c fun _ => .int i)
theorem we_bl {X : Cx} {i : Bool} {j pos} : PE X (.Constant (.bool i) j pos) (tE K C U (wC (.bool i))) := pe_imp pe_bl (e_c fun _ => .bool i)
theorem we_str {X : Cx} {i : Str} {j pos} : PE X (.Constant (.str i) j pos) (tE K C U (wC (.str i))) := pe_imp pe_str (e_c fun _ => .str i)
theorem we_non {X : Cx} {j pos} : PE X (.Constant .none j pos) (tE K C U (wC .non)) := pe_imp pe_non (e_c fun _ => .non)
theorem we_var {X : Cx} {e : Expr} {i : Nat} (h : PE X e (tVar i)) : PE X e (tE K C U (wVar i)) := pe_imp h e_var
theorem we_c {X : Cx} {e : Expr} {v : V} {d : D} (h : PE X e (tC v)) (hd : ∀ G, DR K C G v d) : PE X e (tE K C U (wC d)) := pe_imp h (e_c hd)

/-! operations on values that make nothing -/
abbrev Sem2 := Val → Val → Roots → (D → Prop) → Prop
def wBin (f : Sem2) (wa wb : WE) : WE := fun sl rt k => wa sl rt fun x rt1 => wb sl rt1 fun y rt2 => f x y rt2 fun d => k (.dat d) rt2
def S2 (K : PySem.W.Frag) (C : Cs) (f : Sem2) (r : R2) : Prop := ∀ rt ρ fps G H x y v u, RSt K C rt ρ fps G H → VR K C G H ρ x v → VR K C G H ρ y u → ∀ (k : D → Prop) (Q : VK), f x y rt k → (∀ d w, k d → DR K C G w d → Q w H) → r v u H Q
theorem e_bin {f : Sem2} {r : R2} {wa wb : WE} (h : S2 K C f r) : ∀ σ H Q, tE K C U (wBin f wa wb) σ H Q → tOp r (tE K C U wa) (tE K C U wb) σ H Q := fun σ H Q ⟨sl, rt, ρ, fps, G, k, s, xf, w, q⟩ =>
  ⟨sl, rt, ρ, fps, G, _, s, xf, w, fun x rt1 fps1 G1 H1 v r1 n1 v1 w1 => ⟨sl, rt1, ρ, fps1, G1, _, s.step r1 n1 fun _ _ e => e, xf.later n1 (Pre.refl _), w1, fun y rt2 fps2 G2 H2 u r2 n2 v2 w2 =>
    h rt2 ρ fps2 G2 H2 x y v u r2 (v1.up n2 fun _ _ e => e) v2 _ Q w2 fun d w' kd dr => q (.dat d) rt2 fps2 G2 H2 w' r2 (n1.trans n2) dr kd⟩⟩
theorem OpR.or' {X : Cx} {f : Value → Value → Sem Value} {r r' : R2} (h : OpR X f r) (h' : OpR X f r') : OpR X f (fun x y H Q => r x y H Q ∨ r' x y H Q) := fun pins s σ H x y v u Q I rx ry q => q.elim (h pins s σ H x y v u Q I rx ry) (h' pins s σ H x y v u Q I rx ry)
theorem S2.l {f : Sem2} {r r' : R2} (h : S2 K C f r) : S2 K C f (fun x y H Q => r x y H Q ∨ r' x y H Q) := fun rt ρ fps G H x y v u s a b k Q w q => .inl (h rt ρ fps G H x y v u s a b k Q w q)
def sInt (c : Int → Int → Prop) (g : Int → Int → D) : Sem2 := fun x y _ k => match x, y with
  | .dat (.int i), .dat (.int j) => c i j ∧ k (g i j)
  | _, _ => False
def sInt0 (g : Int → Int → D) : Sem2 := fun x y _ k => match x, y with
  | .dat (.int i), .dat (.int j) => k (g i j)
  | _, _ => False
theorem s_int {c : Int → Int → Prop} {g : Int → Int → V} {gd : Int → Int → D} (h : ∀ G i j, DR K C G (g i j) (gd i j)) : S2 K C (sInt c gd) (rI c g) := fun rt ρ fps G H x y v u s a b k Q w q => by
  unfold sInt at w
  split at w
  · cases a
    cases b
    exact ⟨_, _, rfl, rfl, w.1, q _ _ w.2 (h G _ _)⟩
  · exact w.elim
theorem s_int0 {g : Int → Int → V} {gd : Int → Int → D} (h : ∀ G i j, DR K C G (g i j) (gd i j)) : S2 K C (sInt0 gd) (rI0 g) := fun rt ρ fps G H x y v u s a b k Q w q => by
  unfold sInt0 at w
  split at w
  · cases a
    cases b
    exact ⟨_, _, rfl, rfl, q _ _ w (h G _ _)⟩
  · exact w.elim
def sAdd : Sem2 := fun x y _ k => match x, y with
  | .dat (.int i), .dat (.int j) => k (.int (i + j))
  | .dat (.str i), .dat (.str j) => i.length + j.length ≤ sizeLine ∧ k (.str (i ++ j))
  | _, _ => False
def rAdd2 : R2 := fun x y H Q => rI0 (fun i j => .int (i + j)) x y H Q ∨ ∃ i j, x = .str i ∧ y = .str j ∧ i.length + j.length ≤ sizeLine ∧ Q (.str (i ++ j)) H
theorem s_add : S2 K C sAdd rAdd2 := fun rt ρ fps G H x y v u s a b k Q w q => by
  unfold sAdd at w
  split at w
  · cases a
    cases b
    exact .inl ⟨_, _, rfl, rfl, q _ _ w (.int _)⟩
  · cases a
    cases b
    exact .inr ⟨_, _, rfl, rfl, w.1, q _ _ w.2 (.str _)⟩
  · exact w.elim
section
variable {X : Cx} {a b : Expr} {wa wb : WE} {pos : Pos}
abbrev wAdd := wBin sAdd
abbrev wSub := wBin (sInt0 fun i j => .int (i - j))
abbrev wMul := wBin (sInt CMul fun i j => .int (i * j))
abbrev wDiv := wBin (sInt CDiv fun i j => .int (i / j))
abbrev wMod := wBin (sInt (fun _ j => 0 < j) fun i j => .int (i % j))
abbrev wPow := wBin (sInt CPow fun i j => .int (i ^ j.toNat))
abbrev wShl := wBin (sInt CPow fun i j => .int (i * 2 ^ j.toNat))
abbrev wShr := wBin (sInt (fun _ j => 0 ≤ j) fun i j => .int (i / 2 ^ j.toNat))
abbrev wAnd := wBin (sInt0 fun i j => .int (Builtin.bitAnd i j))
abbrev wOr := wBin (sInt0 fun i j => .int (Builtin.bitOr i j))
abbrev wXor := wBin (sInt0 fun i j => .int (Builtin.bitXor i j))
theorem we_add (ha : PE X a (tE K C U wa)) (hb : PE X b (tE K C U wb)) : PE X (.BinOp a .Add b pos) (tE K C U (wAdd wa wb)) := pe_imp (pe_op (OpR.or' op_add op_add_str) ha hb) (e_bin s_add)
theorem we_sub (ha : PE X a (tE K C U wa)) (hb : PE X b (tE K C U wb)) : PE X (.BinOp a .Sub b pos) (tE K C U (wSub wa wb)) := pe_imp (pe_op op_sub ha hb) (e_bin (s_int0 fun _ _ _ => .int _))
theorem we_mul (ha : PE X a (tE K C U wa)) (hb : PE X b (tE K C U wb)) : PE X (.BinOp a .Mult b pos) (tE K C U (wMul wa wb)) := pe_imp (pe_op op_mul ha hb) (e_bin (s_int fun _ _ _ => .int _))
theorem we_fdiv (ha : PE X a (tE K C U wa)) (hb : PE X b (tE K C U wb)) : PE X (.BinOp a .FloorDiv b pos) (tE K C U (wDiv wa wb)) := pe_imp (pe_op op_fdiv ha hb) (e_bin (s_int fun _ _ _ => .int _))
theorem we_mod (ha : PE X a (tE K C U wa)) (hb : PE X b (tE K C U wb)) : PE X (.BinOp a .Mod b pos) (tE K C U (wMod wa wb)) := pe_imp (pe_op op_mod ha hb) (e_bin (s_int fun _ _ _ => .int _))
theorem we_pow (ha : PE X a (tE K C U wa)) (hb : PE X b (tE K C U wb)) : PE X (.BinOp a .Pow b pos) (tE K C U (wPow wa wb)) := pe_imp (pe_op op_pow ha hb) (e_bin (s_int fun _ _ _ => .int _))
theorem we_shl (ha : PE X a (tE K C U wa)) (hb : PE X b (tE K C U wb)) : PE X (.BinOp a .LShift b pos) (tE K C U (wShl wa wb)) := pe_imp (pe_op op_shl ha hb) (e_bin (s_int fun _ _ _ => .int _))
theorem we_shr (ha : PE X a (tE K C U wa)) (hb : PE X b (tE K C U wb)) : PE X (.BinOp a .RShift b pos) (tE K C U (wShr wa wb)) := pe_imp (pe_op op_shr ha hb) (e_bin (s_int fun _ _ _ => .int _))
theorem we_and (ha : PE X a (tE K C U wa)) (hb : PE X b (tE K C U wb)) : PE X (.BinOp a .BitAnd b pos) (tE K C U (wAnd wa wb)) := pe_imp (pe_op op_and ha hb) (e_bin (s_int0 fun _ _ _ => .int _))
theorem we_or (ha : PE X a (tE K C U wa)) (hb : PE X b (tE K C U wb)) : PE X (.BinOp a .BitOr b pos) (tE K C U (wOr wa wb)) := pe_imp (pe_op op_or ha hb) (e_bin (s_int0 fun _ _ _ => .int _))
theorem we_xor (ha : PE X a (tE K C U wa)) (hb : PE X b (tE K C U wb)) : PE X (.BinOp a .BitXor b pos) (tE K C U (wXor wa wb)) := pe_imp (pe_op op_xor ha hb) (e_bin (s_int0 fun _ _ _ => .int _))
end
end
end Wv
end

section
set_option Elab.async false
set_option linter.all false
set_option maxRecDepth 100000
set_option maxHeartbeats 4000000
namespace Wv
open PySem PySem.Spec PyProof.Rows L2 Evl
section
variable {K : PySem.W.Frag} {C : Cs} {U : UX} {G H G' H' G1 H1 G2 H2 : Hp} {sl : Slots} {rt rt' : Roots} {σ : L2.St} {ρ ρ' : List Addr} {fps fps' : List (List Addr)}
theorem fol_snoc (p : List Nat) (j : Nat) : ∀ v, fol H (p ++ [j]) v = (fol H p v).bind (fol H [j]) := by
  induction p with
  | nil => exact fun v => rfl
  | cons i p ih =>
    intro v
    cases v with
    | ref a =>
      show (match H a with | some (.lst xs) => (xs[i]?).bind (fol H (p ++ [j])) | some (.ins _ _ fs) => ((fs.map Prod.snd)[i]?).bind (fol H (p ++ [j])) | _ => none) = (match H a with | some (.lst xs) => (xs[i]?).bind (fol H p) | some (.ins _ _ fs) => ((fs.map Prod.snd)[i]?).bind (fol H p) | _ => none).bind (fol H [j])
      split
      · rename_i xs _
        cases xs[i]? with
        | none => rfl
        | some w => exact ih w
      · rename_i fs _
        cases (fs.map Prod.snd)[i]? with
        | none => rfl
        | some w => exact ih w
      · rfl
    | _ => rfl
theorem TRs.get {ts : List T} {vs : List V} {fp : List Addr} {i : Nat} {t : T} (h : TRs K C G H vs ts fp) (e : ts[i]? = some t) : ∃ v fu, vs[i]? = some v ∧ TR K C G H v t fu ∧ ∀ a ∈ fu, a ∈ fp := by
  obtain ⟨v, L, fu, R, h1, h2, h3, _⟩ := h.split e
  exact ⟨v, fu, h1, h2, fun a ha => by rw [h3]; simp [ha]⟩
theorem TR.nodeV {v : V} {t : T} {fu : List Addr} (h : TR K C G H v t fu) : (∀ d, t ≠ .dat d) → NodeV H v := fun n => by
  cases h with
  | dat _ => exact absurd rfl (n _)
  | lst h _ => exact ⟨_, rfl, .inl ⟨_, h⟩⟩
  | obj h _ _ => exact ⟨_, rfl, .inr ⟨_, _, _, h⟩⟩
theorem VR.of {r : Nat} {p : List Nat} {t : T} {v : V} {a : Addr} {fu : List Addr} (h1 : ρ[r]? = some a) (h2 : fol H p (.ref a) = some v) (h : TR K C G H v t fu) : VR K C G H ρ (Val.of r p t) v := by
  cases t with
  | dat d => cases h with | dat q => exact q
  | lst ts => exact ⟨a, h1, h2, h.nodeV (by intro d z; cases z)⟩
  | obj c ts => exact ⟨a, h1, h2, h.nodeV (by intro d z; cases z)⟩
/-- what a place is really -/
theorem RSt.get (s : RSt K C rt ρ fps G H) {r : Nat} {p : List Nat} {t : T} {v : V} (h : tat rt r p = some t) (hv : VR K C G H ρ (.ref r p) v) : ∃ a fu, ρ[r]? = some a ∧ fol H p (.ref a) = some v ∧ TR K C G H v t fu ∧ ∀ b ∈ fu, b ∈ fps.flatten := by
  obtain ⟨a, h1, h2, h3⟩ := hv
  obtain ⟨w, L, fu, R, k1, k2, k3, _⟩ := s.at h h1
  rw [h2] at k1
  cases k1
  exact ⟨a, fu, h1, h2, k2, fun b hb => by rw [k3]; simp [hb]⟩
theorem ints_dat {ns : List Int} {vs : List V} (h : DRs K C G vs (ns.map .int)) : vs = ns.map V.int := DRs.ints h
theorem TRs.dats : ∀ {ds : List D} {vs : List V} {fp : List Addr}, TRs K C G H vs (ds.map .dat) fp → DRs K C G vs ds ∧ fp = []
  | [], _, _, .nil => ⟨.nil, rfl⟩
  | d :: ds, _, _, .cons h r => by
    obtain ⟨h1, h2⟩ := TRs.dats (ds := ds) r
    cases h with
    | dat h => exact ⟨.cons h h1, by rw [h2]; rfl⟩
theorem DRs.trs : ∀ {ds : List D} {vs : List V}, DRs K C G vs ds → TRs K C G H vs (ds.map .dat) []
  | [], _, .nil => .nil
  | d :: ds, _, .cons h r => TRs.cons (fp := []) (fq := []) (.dat h) (DRs.trs r)
def dats : List T → Option (List D)
  | [] => some []
  | .dat d :: ts => (dats ts).map (d :: ·)
  | _ :: _ => none
theorem dats_map : ∀ {ts : List T} {ds : List D}, dats ts = some ds → ts = ds.map .dat
  | [], _, h => by cases h; rfl
  | .dat d :: ts, ds, h => by
    cases q : dats ts with
    | none => simp [dats, q] at h
    | some es =>
      simp [dats, q] at h
      subst h
      rw [dats_map q]
      rfl
  | .lst _ :: _, _, h => by cases h
  | .obj _ _ :: _, _, h => by cases h
theorem map_dats : ∀ ds : List D, dats (ds.map .dat) = some ds
  | [] => rfl
  | d :: ds => by
    show (dats (ds.map .dat)).map (d :: ·) = _
    rw [map_dats ds]
    rfl

/-! ### one place -/
def wUn (f : D → (D → Prop) → Prop) (wa : WE) : WE := fun sl rt k => wa sl rt fun x rt1 => match x with
  | .dat d => f d fun e => k (.dat e) rt1
  | _ => False
def S1 (K : PySem.W.Frag) (C : Cs) (f : D → (D → Prop) → Prop) (r : V → Hp → VK → Prop) : Prop := ∀ G H d v, Ex G H → DR K C G v d → ∀ (k : D → Prop) (Q : VK), f d k → (∀ e w, k e → DR K C G w e → Q w H) → r v H Q
theorem e_un {f : D → (D → Prop) → Prop} {r : V → Hp → VK → Prop} {wa : WE} (h : S1 K C f r) : ∀ σ H Q, tE K C U (wUn f wa) σ H Q → tUn r (tE K C U wa) σ H Q := fun σ H Q ⟨sl, rt, ρ, fps, G, k, s, xf, w, q⟩ =>
  ⟨sl, rt, ρ, fps, G, _, s, xf, w, fun x rt1 fps1 G1 H1 v r1 n1 v1 w1 => by
    cases x with
    | dat d => exact h G1 H1 d v r1.sub v1 _ Q w1 fun e w2 ke dr => q (.dat e) rt1 fps1 G1 H1 w2 r1 n1 dr ke
    | ref r p => exact w1.elim⟩
def fNeg : D → (D → Prop) → Prop := fun d k => match d with
  | .int i => k (.int (-i))
  | _ => False
def fNot : D → (D → Prop) → Prop := fun d k => match d with
  | .bool b => k (.bool (!b))
  | _ => False
abbrev wNeg := wUn fNeg
abbrev wNot := wUn fNot
section
variable {X : Cx} {a b c e : Expr} {es rest : List Expr} {wa wb wc : WE} {pos p : Pos}
theorem we_neg (ha : PE X a (tE K C U wa)) : PE X (.UnaryOp .USub a pos) (tE K C U (wNeg wa)) := pe_imp (pe_un un_neg ha) (e_un fun G H d v _ dr k Q w q => by
  unfold fNeg at w
  split at w
  · cases dr
    exact ⟨_, rfl, q _ _ w (.int _)⟩
  · exact w.elim)
theorem we_not (ha : PE X a (tE K C U wa)) : PE X (.UnaryOp .Not a pos) (tE K C U (wNot wa)) := pe_imp (pe_not ha) (e_un fun G H d v _ dr k Q w q => by
  unfold fNot at w
  split at w
  · cases dr
    exact ⟨_, rfl, q _ _ w (.bool _)⟩
  · exact w.elim)

/-! ### comparisons -/
def D.sc : D → D → Option Bool
  | .int i, .int j => some (decide (i = j))
  | .str i, .str j => some (decide (i = j))
  | .bool i, .bool j => some (decide (i = j))
  | .non, .non => some true
  | .non, .int _ => some false
  | .int _, .non => some false
  | .non, .bool _ => some false
  | .bool _, .non => some false
  | .non, .str _ => some false
  | .str _, .non => some false
  | .int _, .str _ => some false
  | .str _, .int _ => some false
  | .bool _, .str _ => some false
  | .str _, .bool _ => some false
  | _, _ => none
theorem sc_ok {x y : D} {v u : V} {b : Bool} (h : D.sc x y = some b) (hx : DR K C G v x) (hy : DR K C G u y) : scal v u = true ∧ decide (v = u) = b := by
  unfold D.sc at h
  split at h
  · cases hx; cases hy; cases h
    exact ⟨rfl, decide_eq_decide.mpr ⟨fun z => V.int.inj z, fun z => by rw [z]⟩⟩
  · cases hx; cases hy; cases h
    exact ⟨rfl, decide_eq_decide.mpr ⟨fun z => V.str.inj z, fun z => by rw [z]⟩⟩
  · cases hx; cases hy; cases h
    exact ⟨rfl, decide_eq_decide.mpr ⟨fun z => V.bl.inj z, fun z => by rw [z]⟩⟩
  all_goals first
    | (cases hx; cases hy; cases h; exact ⟨rfl, rfl⟩)
    | cases h
mutual
def D.py : D → Option PyData
  | .non => some .none
  | .bool b => some (.bool b)
  | .int i => some (.int i)
  | .str s => some (.str s)
  | .lst ds => (D.pys ds).map .list
  | .ro ds => (D.pys ds).map .list
  | .tup ds => (D.pys ds).map .tuple
  | .tpx ds => (D.pys ds).map .tuple
  | .obj _ _ => none
  | .cst _ => none
  | .any => none
def D.pys : List D → Option (List PyData)
  | [] => some []
  | d :: ds => match d.py, D.pys ds with
    | some x, some xs => some (x :: xs)
    | _, _ => none
end
mutual
theorem DR.py (e : Ex G H) : ∀ (d : D) (v : V) (x : PyData), DR K C G v d → d.py = some x → Dp K H v x
  | .non, _, _, h, q => by cases h; cases q; exact .non
  | .bool b, _, _, h, q => by cases h; cases q; exact .bl b
  | .int b, _, _, h, q => by cases h; cases q; exact .int b
  | .str b, _, _, h, q => by cases h; cases q; exact .str b
  | .lst ds, _, x, h, q => by
    cases h with
    | lst hs r =>
      cases z : D.pys ds with
      | none => simp [D.py, z] at q
      | some xs =>
        simp [D.py, z] at q
        subst q
        exact .lst (sq_of (e _ _ hs)) (DRs.py e ds _ _ r z)
  | .ro ds, _, x, h, q => by
    cases h with
    | ro hs r =>
      cases z : D.pys ds with
      | none => simp [D.py, z] at q
      | some xs =>
        simp [D.py, z] at q
        subst q
        exact .lst (ex_l e hs) (DRs.py e ds _ _ r z)
  | .tup ds, _, x, h, q => by
    cases h with
    | tup hs r =>
      cases z : D.pys ds with
      | none => simp [D.py, z] at q
      | some xs =>
        simp [D.py, z] at q
        subst q
        exact .tup (ex_t e hs) (DRs.py e ds _ _ r z)
  | .tpx ds, _, x, h, q => by
    cases h with
    | tpx hs _ r =>
      cases z : D.pys ds with
      | none => simp [D.py, z] at q
      | some xs =>
        simp [D.py, z] at q
        subst q
        exact .tup (.inl (.inr ⟨_, e _ _ hs⟩)) (DRs.py e ds _ _ r z)
  | .obj _ _, _, _, _, q => by cases q
  | .cst _, _, _, _, q => by cases q
  | .any, _, _, _, q => by cases q
theorem DRs.py (e : Ex G H) : ∀ (ds : List D) (vs : List V) (xs : List PyData), DRs K C G vs ds → D.pys ds = some xs → DpAll K H vs xs
  | [], _, _, h, q => by cases h; cases q; exact .nil
  | d :: ds, _, xs, h, q => by
    cases h with
    | cons h r =>
      cases z1 : d.py with
      | none => simp [D.pys, z1] at q
      | some x =>
        cases z2 : D.pys ds with
        | none => simp [D.pys, z1, z2] at q
        | some ys =>
          simp [D.pys, z1, z2] at q
          subst q
          exact .cons (DR.py e d _ _ h z1) (DRs.py e ds _ _ r z2)
end
/-- ==, of scalars, of data -/
def sEq (neg : Bool) : Sem2 := fun x y _ k => match x, y with
  | .dat dx, .dat dy => match D.sc dx dy with
    | some b => k (.bool (if neg then !b else b))
    | none => ∃ px py, dx.py = some px ∧ dy.py = some py ∧ SeqAt.shaped px = true ∧ SeqAt.shaped py = true ∧ k (.bool (if neg then !PyData.eqv px py else PyData.eqv px py))
  | _, _ => False
theorem s_eq : S2 K C (sEq false) (fun x y H Q => rEq x y H Q ∨ rEqD K x y H Q) := fun rt ρ fps G H x y v u s a b k Q w q => by
  unfold sEq at w
  split at w
  · rename_i dx dy
    split at w
    · rename_i b' e
      obtain ⟨h1, h2⟩ := sc_ok e a b
      exact .inl ⟨h1, by rw [h2]; exact q _ _ w (.bool _)⟩
    · obtain ⟨px, py, h1, h2, h3, h4, w⟩ := w
      exact .inr ⟨px, py, DR.py s.sub _ _ _ a h1, DR.py s.sub _ _ _ b h2, h3, h4, q _ _ w (.bool _)⟩
  · exact w.elim
theorem s_ne : S2 K C (sEq true) (fun x y H Q => rNe x y H Q ∨ rNeD K x y H Q) := fun rt ρ fps G H x y v u s a b k Q w q => by
  unfold sEq at w
  split at w
  · rename_i dx dy
    split at w
    · rename_i b' e
      obtain ⟨h1, h2⟩ := sc_ok e a b
      exact .inl ⟨h1, by rw [h2]; exact q _ _ w (.bool _)⟩
    · obtain ⟨px, py, h1, h2, h3, h4, w⟩ := w
      exact .inr ⟨px, py, DR.py s.sub _ _ _ a h1, DR.py s.sub _ _ _ b h2, h3, h4, q _ _ w (.bool _)⟩
  · exact w.elim
abbrev sLt : Sem2 := sInt0 fun i j => .bool (decide (i < j))
abbrev sLe : Sem2 := sInt0 fun i j => .bool (decide (i ≤ j))
abbrev sGt : Sem2 := sInt0 fun i j => .bool (decide (j < i))
abbrev sGe : Sem2 := sInt0 fun i j => .bool (decide (j ≤ i))
def D.isNon : D → Bool
  | .non => true
  | _ => false
def sIs (neg : Bool) : Sem2 := fun x y _ k => match x, y with
  | .dat (.cst _), _ => False
  | .dat .any, _ => False
  | .dat d, .dat .non => k (.bool (if neg then !d.isNon else d.isNon))
  | .ref _ _, .dat .non => k (.bool neg)
  | _, _ => False
theorem dec_non {v : V} {d : D} (h : DR K C G v d) (n : ∀ c, d ≠ .cst c) (n2 : d ≠ .any) : decide (v = .non) = d.isNon := by
  cases h <;> first | rfl | exact absurd rfl (n _) | exact absurd rfl n2
theorem s_is : S2 K C (sIs false) (fun x y H Q => y = .non ∧ Q (.bl (decide (x = .non))) H) := fun rt ρ fps G H x y v u s a b k Q w q => by
  unfold sIs at w
  split at w
  · exact w.elim
  · exact w.elim
  · cases b
    exact ⟨rfl, by rw [dec_non a (by intro c z; subst z; simp_all) (by intro z; subst z; simp_all)]; exact q _ _ w (.bool _)⟩
  · cases b
    obtain ⟨_, _, _, _, rfl, _⟩ := a
    exact ⟨rfl, q _ _ w (.bool _)⟩
  · exact w.elim
theorem s_isnt : S2 K C (sIs true) (fun x y H Q => y = .non ∧ Q (.bl (!decide (x = .non))) H) := fun rt ρ fps G H x y v u s a b k Q w q => by
  unfold sIs at w
  split at w
  · exact w.elim
  · exact w.elim
  · cases b
    exact ⟨rfl, by rw [dec_non a (by intro c z; subst z; simp_all) (by intro z; subst z; simp_all)]; exact q _ _ w (.bool _)⟩
  · cases b
    obtain ⟨_, _, _, _, rfl, _⟩ := a
    exact ⟨rfl, q _ _ w (.bool _)⟩
  · exact w.elim
end
end
end Wv
end

section
set_option Elab.async false
set_option linter.all false
set_option maxRecDepth 100000
set_option maxHeartbeats 4000000
namespace Wv
open PySem PySem.Spec PyProof.Rows L2 Evl
section
variable {K : PySem.W.Frag} {C : Cs} {U : UX} {G H G' H' G1 H1 G2 H2 : Hp} {sl : Slots} {rt rt' : Roots} {σ : L2.St} {ρ ρ' : List Addr} {fps fps' : List (List Addr)}
variable {X : Cx} {a b c e : Expr} {es rest : List Expr} {wa wb wc : WE} {ta tb : WT} {pos p : Pos}

/-! ### compare as a value, as a test -/
theorem we_cmp {op : CmpOp} {r : R2} {f : Sem2} (ho : OpR X (compareOp op) r) (hs : S2 K C f r) (ha : PE X a (tE K C U wa)) (hb : PE X b (tE K C U wb)) (hm : behindInMarks op b = false) : PE X (.Compare a [op] [b] pos) (tE K C U (wBin f wa wb)) := pe_imp (pe_cmpR ho ha hb hm) (e_bin hs)
def wB (wa : WE) : WT := fun sl rt k => wa sl rt fun x rt1 => match x with
  | .dat (.bool b) => k b rt1
  | _ => False
theorem t_test {w : WE} : ∀ σ H Q, tT K C U (wB w) σ H Q → tE K C U w σ H fun x H' => ∃ k, x = .bl k ∧ Q k H' := fun σ H Q ⟨sl, rt, ρ, fps, G, k, s, xf, w, q⟩ =>
  ⟨sl, rt, ρ, fps, G, _, s, xf, w, fun x rt1 fps1 G1 H1 v r1 n1 v1 w1 => by
    split at w1
    · cases v1
      exact ⟨_, rfl, q _ rt1 fps1 G1 H1 r1 n1 w1⟩
    · exact w1.elim⟩
theorem wt_cmp {op : CmpOp} {r : R2} {f : Sem2} (ho : OpR X (compareOp op) r) (hs : S2 K C f r) (ha : PE X a (tE K C U wa)) (hb : PE X b (tE K C U wb)) (hm : behindInMarks op b = false) : PT X (.Compare a [op] [b] pos) (tT K C U (wB (wBin f wa wb))) :=
  pt_imp (pt_cmpR ho ha hb hm) fun σ H Q h => e_bin hs σ H _ (t_test σ H Q h)
theorem wt_val {w : WE} (h : PE X e (tE K C U w)) (he : ∀ whole, isTrue e X.env whole = (do let v ← whole; standAt e.pos; holding [v] (truthy v)) := by intro _; rfl) : PT X e (tT K C U (wB w)) := pt_imp (pt_val h he) fun σ H Q h => t_test σ H Q h
/-- both, the second without a trace -/
def wAndT (ta tb : WT) : WT := fun sl rt k => ta sl rt fun a rt1 => ∃ b, (a = true → tb sl rt1 fun b' rt2 => b' = b ∧ rt2 = rt1) ∧ k (a && b) rt1
def wOrT (ta tb : WT) : WT := fun sl rt k => ta sl rt fun a rt1 => ∃ b, (a = false → tb sl rt1 fun b' rt2 => b' = b ∧ rt2 = rt1) ∧ k (a || b) rt1
def wNotT (ta : WT) : WT := fun sl rt k => ta sl rt fun a rt1 => k (!a) rt1
theorem t_and : ∀ σ H Q, tT K C U (wAndT ta tb) σ H Q → tAnd (tT K C U ta) (tT K C U tb) σ H Q := fun σ H Q ⟨sl, rt, ρ, fps, G, k, s, xf, w, q⟩ =>
  ⟨sl, rt, ρ, fps, G, _, s, xf, w, fun a rt1 fps1 G1 H1 r1 n1 ⟨b, w1, w2⟩ => by
    cases a with
    | true => exact ⟨sl, rt1, ρ, fps1, G1, _, s.step r1 n1 fun _ _ e => e, xf.later n1 (Pre.refl _), w1 rfl, fun b' rt2 fps2 G2 H2 r2 n2 ⟨e1, e2⟩ => q b' rt2 fps2 G2 H2 r2 (n1.trans n2) (by rw [e1, e2]; exact w2)⟩
    | false => exact q false rt1 fps1 G1 H1 r1 n1 w2⟩
theorem t_or : ∀ σ H Q, tT K C U (wOrT ta tb) σ H Q → tOr (tT K C U ta) (tT K C U tb) σ H Q := fun σ H Q ⟨sl, rt, ρ, fps, G, k, s, xf, w, q⟩ =>
  ⟨sl, rt, ρ, fps, G, _, s, xf, w, fun a rt1 fps1 G1 H1 r1 n1 ⟨b, w1, w2⟩ => by
    cases a with
    | false => exact ⟨sl, rt1, ρ, fps1, G1, _, s.step r1 n1 fun _ _ e => e, xf.later n1 (Pre.refl _), w1 rfl, fun b' rt2 fps2 G2 H2 r2 n2 ⟨e1, e2⟩ => q b' rt2 fps2 G2 H2 r2 (n1.trans n2) (by rw [e1, e2]; exact w2)⟩
    | true => exact q true rt1 fps1 G1 H1 r1 n1 w2⟩
theorem wt_not (ha : PT X a (tT K C U ta)) : PT X (.UnaryOp .Not a pos) (tT K C U (wNotT ta)) := pt_imp (pt_not ha) fun σ H Q ⟨sl, rt, ρ, fps, G, k, s, xf, w, q⟩ => ⟨sl, rt, ρ, fps, G, _, s, xf, w, fun a rt1 fps1 G1 H1 r1 n1 w1 => q _ rt1 fps1 G1 H1 r1 n1 w1⟩
theorem ww_and (ha : PT X a (tT K C U ta)) (hb : PW X (.BoolOp .And (b :: rest) pos) (tT K C U tb)) : PW X (.BoolOp .And (a :: b :: rest) pos) (tT K C U (wAndT ta tb)) := pw_imp (pw_and ha hb) t_and
theorem ww_or (ha : PT X a (tT K C U ta)) (hb : PW X (.BoolOp .Or (b :: rest) pos) (tT K C U tb)) : PW X (.BoolOp .Or (a :: b :: rest) pos) (tT K C U (wOrT ta tb)) := pw_imp (pw_or ha hb) t_or
/-- .. as values -/
def wAndV (wa wb : WE) : WE := fun sl rt k => wa sl rt fun x rt1 => match x with
  | .dat (.bool a) => ∃ b, (a = true → wb sl rt1 fun y rt2 => y = .dat (.bool b) ∧ rt2 = rt1) ∧ k (.dat (.bool (a && b))) rt1
  | _ => False
def wOrV (wa wb : WE) : WE := fun sl rt k => wa sl rt fun x rt1 => match x with
  | .dat (.bool a) => ∃ b, (a = false → wb sl rt1 fun y rt2 => y = .dat (.bool b) ∧ rt2 = rt1) ∧ k (.dat (.bool (a || b))) rt1
  | _ => False
theorem e_andV : ∀ σ H Q, tE K C U (wAndV wa wb) σ H Q → tAndV (tE K C U wa) (tE K C U wb) σ H Q := fun σ H Q ⟨sl, rt, ρ, fps, G, k, s, xf, w, q⟩ =>
  ⟨sl, rt, ρ, fps, G, _, s, xf, w, fun x rt1 fps1 G1 H1 v r1 n1 v1 w1 => by
    split at w1
    · rename_i a
      obtain ⟨b, w1, w2⟩ := w1
      cases v1
      refine ⟨a, rfl, ?_⟩
      cases a with
      | true => exact ⟨sl, rt1, ρ, fps1, G1, _, s.step r1 n1 fun _ _ e => e, xf.later n1 (Pre.refl _), w1 rfl, fun y rt2 fps2 G2 H2 u r2 n2 v2 ⟨e1, e2⟩ => q y rt2 fps2 G2 H2 u r2 (n1.trans n2) v2 (by rw [e1, e2]; exact w2)⟩
      | false => exact q (.dat (.bool false)) rt1 fps1 G1 H1 _ r1 n1 (.bool _) w2
    · exact w1.elim⟩
theorem e_orV : ∀ σ H Q, tE K C U (wOrV wa wb) σ H Q → tOrV (tE K C U wa) (tE K C U wb) σ H Q := fun σ H Q ⟨sl, rt, ρ, fps, G, k, s, xf, w, q⟩ =>
  ⟨sl, rt, ρ, fps, G, _, s, xf, w, fun x rt1 fps1 G1 H1 v r1 n1 v1 w1 => by
    split at w1
    · rename_i a
      obtain ⟨b, w1, w2⟩ := w1
      cases v1
      refine ⟨a, rfl, ?_⟩
      cases a with
      | false => exact ⟨sl, rt1, ρ, fps1, G1, _, s.step r1 n1 fun _ _ e => e, xf.later n1 (Pre.refl _), w1 rfl, fun y rt2 fps2 G2 H2 u r2 n2 v2 ⟨e1, e2⟩ => q y rt2 fps2 G2 H2 u r2 (n1.trans n2) v2 (by rw [e1, e2]; exact w2)⟩
      | true => exact q (.dat (.bool true)) rt1 fps1 G1 H1 _ r1 n1 (.bool _) w2
    · exact w1.elim⟩
theorem we_andV (ha : PE X a (tE K C U wa)) (hb : PE X (.BoolOp .And (b :: rest) pos) (tE K C U wb)) : PE X (.BoolOp .And (a :: b :: rest) pos) (tE K C U (wAndV wa wb)) := pe_imp (pe_and ha hb) e_andV
theorem we_orV (ha : PE X a (tE K C U wa)) (hb : PE X (.BoolOp .Or (b :: rest) pos) (tE K C U wb)) : PE X (.BoolOp .Or (a :: b :: rest) pos) (tE K C U (wOrV wa wb)) := pe_imp (pe_or ha hb) e_orV
/-- a if t else b -/
def wIfE (t : WT) (wa wb : WE) : WE := fun sl rt k => t sl rt fun a rt1 => (a = true → wa sl rt1 k) ∧ (a = false → wb sl rt1 k)
theorem we_ifExp (hc : PT X c (tT K C U ta)) (ha : PE X a (tE K C U wa)) (hb : PE X b (tE K C U wb)) : PE X (.IfExp c a b pos) (tE K C U (wIfE ta wa wb)) := pe_imp (pe_ifExp hc ha hb) fun σ H Q ⟨sl, rt, ρ, fps, G, k, s, xf, w, q⟩ =>
  ⟨sl, rt, ρ, fps, G, _, s, xf, w, fun a rt1 fps1 G1 H1 r1 n1 w1 => by
    cases a with
    | true => exact ⟨sl, rt1, ρ, fps1, G1, k, s.step r1 n1 fun _ _ e => e, xf.later n1 (Pre.refl _), w1.1 rfl, fun x rt2 fps2 G2 H2 v r2 n2 v2 k2 => q x rt2 fps2 G2 H2 v r2 (n1.trans n2) v2 k2⟩
    | false => exact ⟨sl, rt1, ρ, fps1, G1, k, s.step r1 n1 fun _ _ e => e, xf.later n1 (Pre.refl _), w1.2 rfl, fun x rt2 fps2 G2 H2 v r2 n2 v2 k2 => q x rt2 fps2 G2 H2 v r2 (n1.trans n2) v2 k2⟩⟩
/-- a < b < c, the third without a trace -/
def wChain (f g : Sem2) (wa wb wc : WE) : WE := fun sl rt k => wa sl rt fun x rt1 => wb sl rt1 fun y rt2 => f x y rt2 fun d => ∃ p q, d = .bool p ∧ (p = true → wc sl rt2 fun z rt3 => rt3 = rt2 ∧ g y z rt3 fun d' => d' = .bool q) ∧ k (.dat (.bool (p && q))) rt2
theorem e_chain {f g : Sem2} {r r' : R2} (hf : S2 K C f r) (hg : S2 K C g r') : ∀ σ H Q, tE K C U (wChain f g wa wb wc) σ H Q → tChain r r' (tE K C U wa) (tE K C U wb) (tE K C U wc) σ H Q := fun σ H Q ⟨sl, rt, ρ, fps, G, k, s, xf, w, q⟩ =>
  ⟨sl, rt, ρ, fps, G, _, s, xf, w, fun x rt1 fps1 G1 H1 v r1 n1 v1 w1 => ⟨sl, rt1, ρ, fps1, G1, _, s.step r1 n1 fun _ _ e => e, xf.later n1 (Pre.refl _), w1, fun y rt2 fps2 G2 H2 u r2 n2 v2 w2 =>
    hf rt2 ρ fps2 G2 H2 x y v u r2 (v1.up n2 fun _ _ e => e) v2 _ _ w2 fun d w' ⟨p, q', e, w3, w4⟩ dr => by
      subst e
      cases dr
      refine ⟨p, rfl, ?_⟩
      cases p with
      | true => exact ⟨sl, rt2, ρ, fps2, G2, _, (s.step r1 n1 fun _ _ e => e).step r2 n2 fun _ _ e => e, xf.later (n1.trans n2) (Pre.refl _), w3 rfl, fun z rt3 fps3 G3 H3 w5 r3 n3 v3 ⟨e3, k3⟩ =>
          hg rt3 ρ fps3 G3 H3 y z u w5 r3 (v2.up n3 fun _ _ e => e) v3 _ _ k3 fun d' w6 e4 dr' => q (.dat d') rt3 fps3 G3 H3 w6 r3 (n1.trans (n2.trans n3)) dr' (by rw [e3, e4]; exact w4)⟩
      | false => exact q (.dat (.bool false)) rt2 fps2 G2 H2 _ r2 (n1.trans n2) (.bool _) w4⟩⟩
theorem we_chain {op op' : CmpOp} {f g : Sem2} {r r' : R2} (ho : OpR X (compareOp op) r) (ho' : OpR X (compareOp op') r') (hf : S2 K C f r) (hg : S2 K C g r') (ha : PE X a (tE K C U wa)) (hb : PE X b (tE K C U wb)) (hc : PE X c (tE K C U wc))
    (P : PE X (.Compare a [op, op'] [b, c] pos) (tChain r r' (tE K C U wa) (tE K C U wb) (tE K C U wc))) : PE X (.Compare a [op, op'] [b, c] pos) (tE K C U (wChain f g wa wb wc)) := pe_imp P (e_chain hf hg)
theorem wt_chain {op op' : CmpOp} {f g : Sem2} {r r' : R2} (hf : S2 K C f r) (hg : S2 K C g r')
    (P : PT X (.Compare a [op, op'] [b, c] pos) (tTest (tChain r r' (tE K C U wa) (tE K C U wb) (tE K C U wc)))) : PT X (.Compare a [op, op'] [b, c] pos) (tT K C U (wB (wChain f g wa wb wc))) := pt_imp P fun σ H Q h => e_chain hf hg σ H _ (t_test σ H Q h)

/-! ### argument lists -/
def wNil : WA := fun _ rt k => k [] rt
def wCons (w : WE) (r : WA) : WA := fun sl rt k => w sl rt fun x rt1 => r sl rt1 fun xs rt2 => k (x :: xs) rt2
theorem wa_nil : PA X [] (tA K C U wNil) := pa_imp pa_nil fun σ H Q ⟨sl, rt, ρ, fps, G, k, s, xf, w, q⟩ => q [] rt fps G H [] s.toRSt (Nx.refl _ G H) .nil w
theorem wa_cons {w : WE} {r : WA} (h : PE X e (tE K C U w)) (hr : PA X es (tA K C U r)) (hs : starEach (e :: es) X.env = (false, eval e X.env) :: starEach es X.env := by rfl) : PA X (e :: es) (tA K C U (wCons w r)) := pa_imp (pa_cons h hr hs) fun σ H Q ⟨sl, rt, ρ, fps, G, k, s, xf, w, q⟩ =>
  ⟨sl, rt, ρ, fps, G, _, s, xf, w, fun x rt1 fps1 G1 H1 v r1 n1 v1 w1 => ⟨sl, rt1, ρ, fps1, G1, _, s.step r1 n1 fun _ _ e => e, xf.later n1 (Pre.refl _), w1, fun xs rt2 fps2 G2 H2 vs r2 n2 v2 w2 =>
    q _ rt2 fps2 G2 H2 _ r2 (n1.trans n2) (.cons (v1.up n2 fun _ _ e => e) v2) w2⟩⟩
/-- all of them data -/
def datsV : List Val → Option (List D)
  | [] => some []
  | .dat d :: xs => (datsV xs).map (d :: ·)
  | _ :: _ => none
theorem VRs.dats : ∀ {xs : List Val} {vs : List V} {ds : List D}, VRs K C G H ρ xs vs → datsV xs = some ds → DRs K C G vs ds
  | [], _, _, .nil, e => by cases e; exact .nil
  | .dat d :: xs, _, ds, .cons h r, e => by
    cases q : datsV xs with
    | none => simp [datsV, q] at e
    | some es =>
      simp [datsV, q] at e
      subst e
      exact .cons h (VRs.dats r q)
  | .ref _ _ :: _, _, _, _, e => by cases e
/-- a new object laid as data -/
theorem RSt.laid (s : RSt K C rt ρ fps G H) {p : Addr} {o : HO} (hp : H p = none) : RSt K C rt ρ fps (upd G p o) (upd H p o) := by
  have gp : G p = none := fresh_back s.sub hp
  have ne : ∀ a ∈ fps.flatten, a ≠ p := fun a ha z => by
    obtain ⟨l, h1, h2⟩ := List.mem_flatten.mp ha
    subst z
    -- an owned object is in the heap
    have : ∀ {rt : Roots} {ρ : List Addr} {fps : List (List Addr)}, Rts K C G H rt ρ fps → ∀ a ∈ fps.flatten, H a ≠ none := by
      intro rt ρ fps r
      have tr : ∀ (t : T) (v : V) (fp : List Addr), TR K C G H v t fp → ∀ a ∈ fp, H a ≠ none := by
        intro t v fp h
        refine TR.rec (motive_1 := fun v t fp _ => ∀ a ∈ fp, H a ≠ none) (motive_2 := fun vs ts fp _ => ∀ a ∈ fp, H a ≠ none) (fun _ _ z => nomatch z) (fun h _ ih a ha => ?_) (fun h _ _ ih a ha => ?_) (fun _ z => nomatch z) (fun _ _ i1 i2 a ha => ?_) h
        · rcases List.mem_cons.mp ha with z | z
          · rw [z, h]; exact fun q => nomatch q
          · exact ih a z
        · rcases List.mem_cons.mp ha with z | z
          · rw [z, h]; exact fun q => nomatch q
          · exact ih a z
        · rcases List.mem_append.mp ha with z | z
          · exact i1 a z
          · exact i2 a z
      induction r with
      | nil => exact fun _ z => nomatch z
      | cons h _ ih =>
        intro a ha
        rw [List.flatten_cons] at ha
        rcases List.mem_append.mp ha with z | z
        · exact tr _ _ _ h a z
        · exact ih a z
    exact this s.root a ha hp
  refine ⟨fun a u e => ?_, s.root.stay (Ex.new gp) (fun a ha => upd_ne (ne a ha)), s.nd, fun a ha => by rw [upd_ne (ne a ha)]; exact s.fr a ha⟩
  by_cases h : a = p
  · rw [h, upd_same] at e ⊢
    exact e
  · rw [upd_ne h] at e ⊢
    exact s.sub a u e
theorem idn_new {p : Addr} {o : HO} (hp : H p = none) : Idn H (upd H p o) := by
  have up : ∀ a, H a ≠ none → upd H p o a = H a := fun a h => upd_ne fun z => h (by rw [z]; exact hp)
  refine Idn.of (fun w hw => ?_) (fun a i w hw hn => ?_)
  · obtain ⟨a, rfl, h⟩ := hw
    refine ⟨a, rfl, ?_⟩
    rcases h with ⟨xs, h⟩ | ⟨c, dx, fs, h⟩
    · exact .inl ⟨xs, by rw [up a (by rw [h]; exact fun z => nomatch z)]; exact h⟩
    · exact .inr ⟨c, dx, fs, by rw [up a (by rw [h]; exact fun z => nomatch z)]; exact h⟩
  · obtain ⟨v, h, rfl⟩ := hw
    have ne : H a ≠ none := fun z => by
      have h' : (match H a with | some (.lst xs) => (xs[i]?).bind (fol H []) | some (.ins _ _ fs) => ((fs.map Prod.snd)[i]?).bind (fol H []) | _ => none) = some v := h
      rw [z] at h'
      cases h'
    show (match upd H p o a with | some (.lst xs) => (xs[i]?).bind (fol (upd H p o) []) | some (.ins _ _ fs) => ((fs.map Prod.snd)[i]?).bind (fol (upd H p o) []) | _ => none) = some v
    rw [up a ne]
    exact h
theorem upd_none {p l : Addr} {o : HO} (h : upd H p o l = none) : H l = none := by
  by_cases e : l = p
  · rw [e, upd_same] at h
    cases h
  · rw [upd_ne e] at h
    exact h
theorem Nx.laid (s : Ex G H) {p : Addr} {o : HO} (hp : H p = none) (fp : List Addr) : Nx fp G H (upd G p o) (upd H p o) fp where
  g := Ex.new (fresh_back s hp)
  keep := fun l u h _ => by
    have ne : l ≠ p := fun z => by rw [z, hp] at h; cases h
    exact ⟨by rw [upd_ne ne]; exact h, fun g => by rw [upd_ne ne]; exact g⟩
  dom := fun l h => upd_none h
  new := fun _ h => .inl h
  idn := idn_new hp
/-- (a, b): data -/
def wTup (w : WA) : WE := fun sl rt k => w sl rt fun xs rt1 => match datsV xs with
  | some ds => ds.length ≤ 1000 ∧ k (.dat (.tup ds)) rt1
  | none => False
theorem sz_le {n m : Nat} (h : n ≤ m) (hm : m ≤ 100000 := by decide) : n ≤ sizeLine := sz_of (Nat.le_trans h hm)
theorem we_tup {x1} {w : WA} (h : PA X es (tA K C U w)) : PE X (.Tuple es x1 pos) (tE K C U (wTup w)) := pe_imp (pe_tup h) fun σ H Q ⟨sl, rt, ρ, fps, G, k, s, xf, w, q⟩ =>
  ⟨sl, rt, ρ, fps, G, _, s, xf, w, fun xs rt1 fps1 G1 H1 vs r1 n1 v1 w1 => by
    split at w1
    · rename_i ds e
      have dr := v1.dats e
      refine ⟨sz_le (by rw [dr.len]; exact w1.1), fun p hp => q (.dat (.tup ds)) rt1 fps1 _ _ _ (r1.laid hp) (n1.trans (Nx.laid r1.sub hp _)) ?_ w1.2⟩
      exact .tup (st_of upd_same) (DRs.up (Ex.new (fresh_back r1.sub hp)) _ _ dr)
    · exact w1.elim⟩
end
end Wv
end

section
set_option Elab.async false
set_option linter.all false
set_option maxRecDepth 100000
set_option maxHeartbeats 4000000
namespace Wv
open PySem PySem.Spec PyProof.Rows L2 Evl
section
variable {K : PySem.W.Frag} {C : Cs} {U : UX} {G H G' H' G1 H1 G2 H2 : Hp} {sl : Slots} {rt rt' : Roots} {σ : L2.St} {ρ ρ' : List Addr} {fps fps' : List (List Addr)}
variable {X : Cx} {a b c e : Expr} {es rest : List Expr} {wa wb wc : WE} {ta tb : WT} {pos p : Pos}

/-! ### what is owned is in the heap -/
theorem TR.inH {t : T} {v : V} {fp : List Addr} (h : TR K C G H v t fp) : ∀ a ∈ fp, H a ≠ none := by
  refine TR.rec (motive_1 := fun v t fp _ => ∀ a ∈ fp, H a ≠ none) (motive_2 := fun vs ts fp _ => ∀ a ∈ fp, H a ≠ none) (fun _ _ z => nomatch z) (fun h _ ih a ha => ?_) (fun h _ _ ih a ha => ?_) (fun _ z => nomatch z) (fun _ _ i1 i2 a ha => ?_) h
  · rcases List.mem_cons.mp ha with z | z
    · rw [z, h]; exact fun q => nomatch q
    · exact ih a z
  · rcases List.mem_cons.mp ha with z | z
    · rw [z, h]; exact fun q => nomatch q
    · exact ih a z
  · rcases List.mem_append.mp ha with z | z
    · exact i1 a z
    · exact i2 a z
theorem Rts.inH : ∀ {rt : Roots} {ρ : List Addr} {fps : List (List Addr)}, Rts K C G H rt ρ fps → ∀ a ∈ fps.flatten, H a ≠ none
  | _, _, _, .nil => fun _ z => nomatch z
  | _, _, _, .cons h r => fun a ha => by
    rw [List.flatten_cons] at ha
    rcases List.mem_append.mp ha with z | z
    · exact h.inH a z
    · exact Rts.inH r a z
theorem Own.inH {t : T} {v : V} {fp : List Addr} (h : Own K C fps G H t v fp) : ∀ a ∈ fp, H a ≠ none := h.tr.inH
/-- the heap grows -/
theorem RSt.grow (s : RSt K C rt ρ fps G H) (e : Ex H H') : RSt K C rt ρ fps G H' := ⟨s.sub.trans e, s.root.stay (Ex.refl G) fun a ha => by
    cases q : H a with
    | none => exact absurd q (s.root.inH a ha)
    | some o => exact e a o q, s.nd, s.fr⟩
theorem Own.grow {t : T} {v : V} {fp : List Addr} (s : Own K C fps G H t v fp) (e : Ex H H') : Own K C fps G H' t v fp := ⟨s.tr.stay (Ex.refl G) _ _ _ fun a ha => by
    cases q : H a with
    | none => exact absurd q (s.inH a ha)
    | some o => exact e a o q, s.nd, s.ap, s.fr⟩
/-- what is owned by nobody stays while a piece of the program runs -/
theorem Own.past {t : T} {v : V} {fp : List Addr} (s : Own K C fps G H t v fp) (n : Nx fps.flatten G H G' H' fps'.flatten) : Own K C fps' G' H' t v fp where
  tr := s.tr.stay n.g _ _ _ fun a ha => by
    cases q : H a with
    | none => exact absurd q (s.inH a ha)
    | some o => exact (n.keep a o q (s.ap a ha)).1
  nd := s.nd
  ap := fun a ha z => by
    rcases n.new a z with y | y
    · exact s.ap a ha y
    · exact s.inH a ha y
  fr := fun a ha => by
    cases q : H a with
    | none => exact absurd q (s.inH a ha)
    | some o => exact (n.keep a o q (s.ap a ha)).2 (s.fr a ha)
theorem Nx.grow {fp : List Addr} {p : Addr} {o : HO} (hp : H p = none) : Nx fp G H G (upd H p o) fp where
  g := Ex.refl G
  keep := fun l u h _ => ⟨Ex.new hp l u h, fun g => g⟩
  dom := fun l h => upd_none h
  new := fun _ h => .inl h
  idn := idn_new hp
/-- a new list of what is owned -/
theorem RSt.newL (s : RSt K C rt ρ fps G H) {p : Addr} {vs : List V} {ts : List T} {fp : List Addr} (hp : H p = none) (r : TRs K C G H vs ts fp) (nd : fp.Nodup) (ap : ∀ a ∈ fp, a ∉ fps.flatten) (fr : ∀ a ∈ fp, G a = none) (ih : ∀ a ∈ fp, H a ≠ none) :
    RSt K C rt ρ fps G (upd H p (.lst vs)) ∧ Own K C fps G (upd H p (.lst vs)) (.lst ts) (.ref p) (p :: fp) := by
  refine ⟨s.grow (Ex.new hp), .lst upd_same (TRs.stay (Ex.refl G) _ _ _ r fun a ha => upd_ne fun z => ih a ha (by rw [z]; exact hp)), ?_, fun a ha => ?_, fun a ha => ?_⟩
  · exact List.nodup_cons.mpr ⟨fun z => ih p z hp, nd⟩
  · rcases List.mem_cons.mp ha with z | z
    · exact fun y => s.root.inH a y (by rw [z]; exact hp)
    · exact ap a z
  · rcases List.mem_cons.mp ha with z | z
    · rw [z]; exact fresh_back s.sub hp
    · exact fr a z
/-- what is owned by nobody becomes data -/
theorem RSt.frz (s : RSt K C rt ρ fps G H) {t : T} {v : V} {fp : List Addr} (o : Own K C fps G H t v fp) : RSt K C rt ρ fps (mix G H fp) H ∧ DR K C (mix G H fp) v t.toD := by
  have eg := mix_ex (G := G) (H := H) o.fr
  refine ⟨⟨mix_sub s.sub, s.root.stay eg fun _ _ => rfl, s.nd, fun a ha => ?_⟩, o.tr.frz eg _ _ _ fun a ha => mix_in ha⟩
  rw [mix_out fun z => o.ap a z ha]
  exact s.fr a ha
theorem Nx.frz {fp fu : List Addr} {t : T} (n : Nx fp G H G' H' fps.flatten) (fr : ∀ a ∈ fu, G' a = none) (new : ∀ a ∈ fu, a ∈ fp ∨ H a = none) : Nx fp G H (mix G' H' fu) H' fps.flatten where
  g := n.g.trans (mix_ex fr)
  keep := fun l o h z => by
    obtain ⟨h1, g1⟩ := n.keep l o h z
    refine ⟨h1, fun g => ?_⟩
    rw [mix_out fun y => by
      rcases new l y with q | q
      · exact z q
      · rw [q] at h; cases h]
    exact g1 g
  dom := n.dom
  new := n.new
  idn := n.idn
/-- a new thing taken as data -/
def wFrz (w : WO) : WE := fun sl rt k => w sl rt fun t rt1 => k (.dat t.toD) rt1
theorem e_frz {w : WO} : ∀ σ H Q, tE K C U (wFrz w) σ H Q → tO K C U w σ H Q := fun σ H Q ⟨sl, rt, ρ, fps, G, k, s, xf, w, q⟩ =>
  ⟨sl, rt, ρ, fps, G, _, s, xf, w, fun t rt1 fps1 fp G1 H1 v r1 n1 o1 new w1 => by
    obtain ⟨r2, d⟩ := r1.frz o1
    exact q (.dat t.toD) rt1 fps1 _ H1 v r2 (n1.frz (t := t) o1.fr new) d w1⟩
theorem we_frz {w : WO} (h : PE X e (tO K C U w)) : PE X e (tE K C U (wFrz w)) := pe_imp h e_frz
/-- data as a tree -/
def wLift (w : WE) : WO := fun sl rt k => w sl rt fun x rt1 => match x with
  | .dat d => k (.dat d) rt1
  | _ => False
theorem Own.dat {v : V} {d : D} (h : DR K C G v d) : Own K C fps G H (.dat d) v [] := ⟨.dat h, List.nodup_nil, fun _ z => (nomatch z), fun _ z => (nomatch z)⟩
theorem o_lift {w : WE} : ∀ σ H Q, tO K C U (wLift w) σ H Q → tE K C U w σ H Q := fun σ H Q ⟨sl, rt, ρ, fps, G, k, s, xf, w, q⟩ =>
  ⟨sl, rt, ρ, fps, G, _, s, xf, w, fun x rt1 fps1 G1 H1 v r1 n1 v1 w1 => by
    cases x with
    | dat d => exact q _ rt1 fps1 [] G1 H1 v r1 n1 (Own.dat v1) (fun _ z => nomatch z) w1
    | ref _ _ => exact w1.elim⟩
theorem wo_lift {w : WE} (h : PE X e (tE K C U w)) : PE X e (tO K C U (wLift w)) := pe_imp h o_lift
/-- a root that is held by a name becomes data -/
def wFz (wa : WE) : WE := fun sl rt k => wa sl rt fun x rt1 => match x with
  | .dat d => k (.dat d) rt1
  | .ref r [] => match rt1[r]? with
    | some t => k (.dat t.toD) (rt1.set r (.dat t.toD))
    | none => False
  | _ => False
theorem e_fz : ∀ σ H Q, tE K C U (wFz wa) σ H Q → tE K C U wa σ H Q := fun σ H Q ⟨sl, rt, ρ, fps, G, k, s, xf, w, q⟩ =>
  ⟨sl, rt, ρ, fps, G, _, s, xf, w, fun x rt1 fps1 G1 H1 v r1 n1 v1 w1 => by
    split at w1
    · exact q _ rt1 fps1 G1 H1 v r1 n1 v1 w1
    · rename_i r
      split at w1
      · rename_i t ht
        obtain ⟨a, h1, h2, h3⟩ := v1
        cases Option.some.inj h2
        obtain ⟨a', L, fu, R, k1, k2, k3, k4⟩ := r1.root.split ht
        rw [h1] at k1
        cases k1
        have nd := r1.nd
        rw [k3] at nd
        have fr : ∀ b ∈ fu, G1 b = none := fun b hb => r1.fr b (by rw [k3]; simp [hb])
        have eg := mix_ex (G := G1) (H := H1) fr
        obtain ⟨fps2, y1, y2⟩ := k4 (mix G1 H1 fu) H1 (.dat t.toD) [] eg (fun _ _ => rfl) (.dat (k2.frz eg _ _ _ fun b hb => mix_in hb))
        have sub2 : ∀ b ∈ fps2.flatten, b ∈ fps1.flatten ∧ b ∉ fu := fun b hb => by
          rw [y2] at hb
          rw [k3]
          have nd2 := List.nodup_append.mp nd
          have nd3 := List.nodup_append.mp nd2.2.1
          rcases List.mem_append.mp hb with z | z
          · exact ⟨by simp [z], fun y => nd2.2.2 b z b (by simp [y]) rfl⟩
          · have z : b ∈ R := by simpa using z
            exact ⟨by simp [z], fun y => nd3.2.2 b y b z rfl⟩
        have nd' : fps2.flatten.Nodup := by
          rw [y2]
          refine List.Nodup.sublist ?_ nd
          exact List.Sublist.append (List.Sublist.refl L) (List.Sublist.append (List.nil_sublist fu) (List.Sublist.refl R))
        refine q (.dat t.toD) _ fps2 (mix G1 H1 fu) H1 _ ⟨mix_sub r1.sub, y1, nd', fun b hb => ?_⟩ ?_ (k2.frz eg _ _ _ fun b hb => mix_in hb) w1
        · rw [mix_out (sub2 b hb).2]
          exact r1.fr b (sub2 b hb).1
        · refine n1.trans ⟨eg, fun l o h z => ⟨h, fun g => ?_⟩, fun _ h => h, fun l h => .inl (sub2 l h).1, Idn.refl _⟩
          rw [mix_out fun y => z (by rw [k3]; simp [y])]
          exact g
      · exact w1.elim
    · exact w1.elim⟩
theorem we_fz (h : PE X e (tE K C U wa)) : PE X e (tE K C U (wFz wa)) := pe_imp h e_fz

/-! ### lists made -/
/-- [a, b] of data -/
def wLst (w : WA) : WO := fun sl rt k => w sl rt fun xs rt1 => match datsV xs with
  | some ds => ds.length ≤ 1000 ∧ k (.lst (ds.map .dat)) rt1
  | none => False
theorem wo_lst {w : WA} (h : PA X es (tA K C U w)) : PE X (.List es pos) (tO K C U (wLst w)) := pe_imp (pe_lst h) fun σ H Q ⟨sl, rt, ρ, fps, G, k, s, xf, w, q⟩ =>
  ⟨sl, rt, ρ, fps, G, _, s, xf, w, fun xs rt1 fps1 G1 H1 vs r1 n1 v1 w1 => by
    split at w1
    · rename_i ds e
      have dr := v1.dats e
      refine ⟨sz_le (by rw [dr.len]; exact w1.1), fun p hp => ?_⟩
      obtain ⟨r2, o2⟩ := r1.newL hp (dr.trs (H := H1)) List.nodup_nil (fun _ z => nomatch z) (fun _ z => nomatch z) (fun _ z => nomatch z)
      exact q _ rt1 fps1 _ G1 _ _ r2 (n1.trans (Nx.grow hp)) o2 (fun b hb => by
        have : b = p := by simpa using hb
        rw [this]
        exact .inr (n1.dom p hp)) w1.2
    · exact w1.elim⟩
/-- a list that is there: as data or owned, of data alone -/
def listOf (x : Val) (rt : Roots) : Option (List D) := match x with
  | .dat (.lst ds) => some ds
  | .dat (.ro ds) => some ds
  | .ref r p => match tat rt r p with
    | some (.lst ts) => dats ts
    | _ => none
  | _ => none
theorem RSt.listOf (s : RSt K C rt ρ fps G H) {x : Val} {v : V} {ds : List D} (h : listOf x rt = some ds) (hv : VR K C G H ρ x v) : ∃ a xs, v = .ref a ∧ SqL K H a xs ∧ DRs K C G xs ds := by
  unfold Wv.listOf at h
  split at h
  · cases h
    cases hv with
    | lst h r => exact ⟨_, _, rfl, sq_of (s.sub _ _ h), r⟩
  · cases h
    cases hv with
    | ro h r => exact ⟨_, _, rfl, ex_l s.sub h, r⟩
  · split at h
    · rename_i ts ht
      obtain ⟨a, fu, _, _, k, _⟩ := s.get ht hv
      cases k with
      | lst h2 r =>
        have e := dats_map h
        rw [e] at r
        exact ⟨_, _, rfl, sq_of h2, (TRs.dats r).1⟩
    · cases h
  · cases h
/-- a list or a tuple of data -/
def seqOf (x : Val) (rt : Roots) : Option (List D) := match x with
  | .dat (.tup ds) => some ds
  | .dat (.tpx ds) => some ds
  | _ => listOf x rt
theorem RSt.seqOf (s : RSt K C rt ρ fps G H) {x : Val} {v : V} {ds : List D} (h : seqOf x rt = some ds) (hv : VR K C G H ρ x v) : ∃ a xs, v = .ref a ∧ (SqL K H a xs ∨ SqT K H a xs) ∧ DRs K C G xs ds := by
  unfold Wv.seqOf at h
  split at h
  · cases h
    cases hv with
    | tup h r => exact ⟨_, _, rfl, .inr (ex_t s.sub h), r⟩
  · cases h
    cases hv with
    | tpx h _ r => exact ⟨_, _, rfl, .inr (ex_t s.sub (.inl (.inr ⟨_, h⟩))), r⟩
  · obtain ⟨a, xs, h1, h2, h3⟩ := s.listOf h hv
    exact ⟨a, xs, h1, .inl h2, h3⟩
/-- a call of a built-in with values that makes nothing -/
abbrev SemA := List Val → Roots → (D → Prop) → Prop
def wCB (f : SemA) (w : WA) : WE := fun sl rt k => w sl rt fun xs rt1 => f xs rt1 fun d => k (.dat d) rt1
def SA (K : PySem.W.Frag) (C : Cs) (f : SemA) (r : List V → Hp → VK → Prop) : Prop := ∀ rt ρ fps G H xs vs, RSt K C rt ρ fps G H → VRs K C G H ρ xs vs → ∀ (k : D → Prop) (Q : VK), f xs rt k → (∀ d w, k d → DR K C G w d → Q w H) → r vs H Q
theorem e_cb {f : SemA} {r : List V → Hp → VK → Prop} {w : WA} (h : SA K C f r) : ∀ σ H Q, tE K C U (wCB f w) σ H Q → tCB r (tA K C U w) σ H Q := fun σ H Q ⟨sl, rt, ρ, fps, G, k, s, xf, w, q⟩ =>
  ⟨sl, rt, ρ, fps, G, _, s, xf, w, fun xs rt1 fps1 G1 H1 vs r1 n1 v1 w1 => h rt1 ρ fps1 G1 H1 xs vs r1 v1 _ Q w1 fun d w2 kd dr => q (.dat d) rt1 fps1 G1 H1 w2 r1 n1 dr kd⟩
/-- len -/
def fLen : SemA := fun xs rt k => match xs with
  | [.dat (.str z)] => z.length ≤ sizeLine ∧ k (.int z.length)
  | [x] => match x with
    | .ref r p => match tat rt r p with
      | some (.lst ts) => k (.int ts.length)
      | _ => False
    | _ => match seqOf x rt with
      | some ds => k (.int ds.length)
      | none => False
  | _ => False
theorem sa_len : SA K C fLen (fun xs H Q => ∃ x n, xs = [x] ∧ LenV K x H n ∧ Q (.int n) H) := fun rt ρ fps G H xs vs s v k Q w q => by
  unfold fLen at w
  split at w
  · cases v with
    | cons h r =>
      cases r
      cases h
      exact ⟨_, _, rfl, ⟨w.1, rfl⟩, q _ _ w.2 (.int _)⟩
  · cases v with
    | cons h r =>
      cases r
      split at w
      · split at w
        · rename_i ts ht
          obtain ⟨a, fu, _, _, k2, _⟩ := s.get ht h
          cases k2 with
          | lst h2 r2 => exact ⟨_, _, rfl, .inl ⟨_, sq_of h2, (TRs.len r2).symm⟩, q _ _ w (.int _)⟩
        · exact w.elim
      · split at w
        · rename_i ds e
          obtain ⟨a, xs, rfl, h2, h3⟩ := s.seqOf e h
          refine ⟨_, _, rfl, ?_, q _ _ w (.int _)⟩
          rcases h2 with h2 | h2
          · exact .inl ⟨xs, h2, h3.len.symm⟩
          · exact .inr ⟨xs, h2, h3.len.symm⟩
        · exact w.elim
  · exact w.elim
/-- int(x) of an int, a bool -/
def fInt : SemA := fun xs _ k => match xs with
  | [.dat (.int i)] => k (.int i)
  | [.dat (.bool b)] => k (.int (if b = true then 1 else 0))
  | _ => False
theorem sa_int : SA K C fInt (fun xs H Q => (∃ i, xs = [.int i] ∧ Q (.int i) H) ∨ ∃ k, xs = [.bl k] ∧ Q (.int (if k then 1 else 0)) H) := fun rt ρ fps G H xs vs s v k Q w q => by
  unfold fInt at w
  split at w
  · cases v with
    | cons h r =>
      cases r
      cases h
      exact .inl ⟨_, rfl, q _ _ w (.int _)⟩
  · cases v with
    | cons h r =>
      cases r
      cases h
      exact .inr ⟨_, rfl, q _ _ w (.int _)⟩
  · exact w.elim
def fMax : SemA := fun xs _ k => match xs with
  | [.dat (.int i), .dat (.int j)] => k (.int (if j > i then j else i))
  | _ => False
def fMin : SemA := fun xs _ k => match xs with
  | [.dat (.int i), .dat (.int j)] => k (.int (if j < i then j else i))
  | _ => False
theorem sa_max : SA K C fMax (fun xs H Q => ∃ i j, xs = [.int i, .int j] ∧ Q (.int (if j > i then j else i)) H) := fun rt ρ fps G H xs vs s v k Q w q => by
  unfold fMax at w
  split at w
  · cases v with
    | cons h r =>
      cases r with
      | cons h' r =>
        cases r
        cases h
        cases h'
        exact ⟨_, _, rfl, q _ _ w (.int _)⟩
  · exact w.elim
theorem sa_min : SA K C fMin (fun xs H Q => ∃ i j, xs = [.int i, .int j] ∧ Q (.int (if j < i then j else i)) H) := fun rt ρ fps G H xs vs s v k Q w q => by
  unfold fMin at w
  split at w
  · cases v with
    | cons h r =>
      cases r with
      | cons h' r =>
        cases r
        cases h
        cases h'
        exact ⟨_, _, rfl, q _ _ w (.int _)⟩
  · exact w.elim
/-- sum of ints -/
def fSum : SemA := fun xs rt k => match xs with
  | [x] => ∃ ns : List Int, listOf x rt = some (ns.map .int) ∧ k (.int ns.sum)
  | _ => False
theorem sa_sum : SA K C fSum (rSum K) := fun rt ρ fps G H xs vs s v k Q w q => by
  unfold fSum at w
  split at w
  · cases v with
    | cons h r =>
      cases r
      obtain ⟨ns, e, w⟩ := w
      obtain ⟨a, xs, rfl, h2, h3⟩ := s.listOf e h
      rw [DRs.ints h3] at h2
      exact ⟨a, ns, rfl, h2, q _ _ w (.int _)⟩
  · exact w.elim
def fAll : SemA := fun xs rt k => match xs with
  | [x] => ∃ ns : List Bool, listOf x rt = some (ns.map .bool) ∧ k (.bool (ns.all id))
  | _ => False
theorem sa_all : SA K C fAll (rAll K) := fun rt ρ fps G H xs vs s v k Q w q => by
  unfold fAll at w
  split at w
  · cases v with
    | cons h r =>
      cases r
      obtain ⟨ns, e, w⟩ := w
      obtain ⟨a, xs, rfl, h2, h3⟩ := s.listOf e h
      rw [DRs.bools h3] at h2
      exact ⟨a, ns, rfl, h2, q _ _ w (.bool _)⟩
  · exact w.elim
/-- list(x) -/
def wListOf (w : WA) : WO := fun sl rt k => w sl rt fun xs rt1 => match xs with
  | [x] => match seqOf x rt1 with
    | some ds => k (.lst (ds.map .dat)) rt1
    | none => False
  | _ => False
theorem o_listOf {w : WA} : ∀ σ H Q, tO K C U (wListOf w) σ H Q → tCB (fun xs H Q => ∃ p ys, xs = [.ref p] ∧ (SqL K H p ys ∨ SqT K H p ys) ∧ ∀ l, H l = none → Q (.ref l) (upd H l (.lst ys))) (tA K C U w) σ H Q := fun σ H Q ⟨sl, rt, ρ, fps, G, k, s, xf, w, q⟩ =>
  ⟨sl, rt, ρ, fps, G, _, s, xf, w, fun xs rt1 fps1 G1 H1 vs r1 n1 v1 w1 => by
    split at w1
    · split at w1
      · rename_i ds e
        cases v1 with
        | cons h r =>
          cases r
          obtain ⟨a, xs, rfl, h2, h3⟩ := r1.seqOf e h
          refine ⟨a, xs, rfl, h2, fun p hp => ?_⟩
          obtain ⟨r2, o2⟩ := r1.newL hp (h3.trs (H := H1)) List.nodup_nil (fun _ z => nomatch z) (fun _ z => nomatch z) (fun _ z => nomatch z)
          exact q _ rt1 fps1 _ G1 _ _ r2 (n1.trans (Nx.grow hp)) o2 (fun b hb => by
            have : b = p := by simpa using hb
            rw [this]
            exact .inr (n1.dom p hp)) w1
      · exact w1.elim
    · exact w1.elim⟩
/-- tuple(x): data -/
def wTupOf (w : WA) : WE := fun sl rt k => w sl rt fun xs rt1 => match xs with
  | [x] => match seqOf x rt1 with
    | some ds => k (.dat (.tup ds)) rt1
    | none => False
  | _ => False
theorem e_tupOf {w : WA} : ∀ σ H Q, tE K C U (wTupOf w) σ H Q → tCB (fun xs H Q => ∃ p ys, xs = [.ref p] ∧ ((SqL K H p ys ∧ ∀ l, H l = none → Q (.ref l) (upd H l (.tup ys))) ∨ (SqT K H p ys ∧ Q (.ref p) H))) (tA K C U w) σ H Q := fun σ H Q ⟨sl, rt, ρ, fps, G, k, s, xf, w, q⟩ =>
  ⟨sl, rt, ρ, fps, G, _, s, xf, w, fun xs rt1 fps1 G1 H1 vs r1 n1 v1 w1 => by
    split at w1
    · split at w1
      · rename_i ds e
        cases v1 with
        | cons h r =>
          cases r
          unfold Wv.seqOf at e
          split at e
          · cases e
            cases h with
            | tup h2 r => exact ⟨_, _, rfl, .inr ⟨ex_t r1.sub h2, q (.dat (.tup ds)) rt1 fps1 G1 H1 _ r1 n1 (.tup h2 r) w1⟩⟩
          · cases e
            cases h with
            | tpx h2 _ r => exact ⟨_, _, rfl, .inr ⟨ex_t r1.sub (.inl (.inr ⟨_, h2⟩)), q (.dat (.tup ds)) rt1 fps1 G1 H1 _ r1 n1 (.tup (.inl (.inr ⟨_, h2⟩)) r) w1⟩⟩
          · obtain ⟨a, xs, rfl, h2, h3⟩ := r1.listOf e h
            refine ⟨a, xs, rfl, .inl ⟨h2, fun p hp => q (.dat (.tup ds)) rt1 fps1 _ _ _ (r1.laid hp) (n1.trans (Nx.laid r1.sub hp _)) ?_ w1⟩⟩
            exact .tup (st_of upd_same) (DRs.up (Ex.new (fresh_back r1.sub hp)) _ _ h3)
      · exact w1.elim
    · exact w1.elim⟩
/-- a[i] -/
def wIdx (wa wb : WE) : WE := fun sl rt k => wa sl rt fun x rt1 => wb sl rt1 fun y rt2 => match y with
  | .dat (.int n) => match x with
    | .dat (.str z) => z.length ≤ sizeLine ∧ ∃ c, atI z.cps.toList n = some c ∧ k (.dat (.str ⟨#[c]⟩)) rt2
    | .dat d => match seqOf (.dat d) rt2 with
      | some ds => ∃ d, atI ds n = some d ∧ k (.dat d) rt2
      | none => False
    | .ref r p => match tat rt2 r p with
      | some (.lst ts) => ∃ j u, ixN ts.length n = some j ∧ ts[j]? = some u ∧ k (Val.of r (p ++ [j]) u) rt2
      | _ => False
  | _ => False
theorem atI_get {xs : List V} {ds : List D} {n : Int} {d : D} (r : DRs K C G xs ds) (h : atI ds n = some d) : ∃ v, atI xs n = some v ∧ DR K C G v d := by
  unfold atI at h ⊢
  rw [r.len]
  cases q : ixN ds.length n with
  | none => rw [q] at h; cases h
  | some j =>
    rw [q] at h
    exact r.get h
theorem e_idx : ∀ σ H Q, tE K C U (wIdx wa wb) σ H Q → tOp (rIx K) (tE K C U wa) (tE K C U wb) σ H Q := fun σ H Q ⟨sl, rt, ρ, fps, G, k, s, xf, w, q⟩ =>
  ⟨sl, rt, ρ, fps, G, _, s, xf, w, fun x rt1 fps1 G1 H1 v r1 n1 v1 w1 => ⟨sl, rt1, ρ, fps1, G1, _, s.step r1 n1 fun _ _ e => e, xf.later n1 (Pre.refl _), w1, fun y rt2 fps2 G2 H2 u r2 n2 v2 w2 => by
    have v1 := v1.up n2 fun _ _ e => e
    split at w2
    · rename_i n
      cases v2
      split at w2
      · cases v1
        obtain ⟨hz, c, hc, w2⟩ := w2
        exact .inr (.inr ⟨_, n, c, rfl, rfl, hz, hc, q (.dat (.str ⟨#[c]⟩)) rt2 fps2 G2 H2 _ r2 (n1.trans n2) (DR.str _) w2⟩)
      · split at w2
        · rename_i ds e
          obtain ⟨d, hd, w2⟩ := w2
          obtain ⟨a, xs, rfl, h2, h3⟩ := r2.seqOf e v1
          obtain ⟨z, hz, hr⟩ := atI_get h3 hd
          rcases h2 with h2 | h2
          · exact .inl ⟨a, xs, n, z, rfl, rfl, h2, hz, q (.dat d) rt2 fps2 G2 H2 _ r2 (n1.trans n2) hr w2⟩
          · exact .inr (.inl ⟨a, xs, n, z, rfl, rfl, h2, hz, q (.dat d) rt2 fps2 G2 H2 _ r2 (n1.trans n2) hr w2⟩)
        · exact w2.elim
      · rename_i r p
        split at w2
        · rename_i ts ht
          obtain ⟨j, u, hj, hu, w2⟩ := w2
          obtain ⟨a, fu, k1, k2, k3, _⟩ := r2.get ht v1
          cases k3 with
          | lst h2 r3 =>
            obtain ⟨z, fz, z1, z2, _⟩ := r3.get hu
            refine .inl ⟨_, _, n, z, rfl, rfl, sq_of h2, ?_, q _ rt2 fps2 G2 H2 z r2 (n1.trans n2) (VR.of k1 ?_ z2) w2⟩
            · unfold atI
              rw [TRs.len r3, hj]
              exact z1
            · rw [fol_snoc, k2]
              show (match H2 _ with | some (.lst xs) => (xs[j]?).bind (fol H2 []) | some (.ins _ _ fs) => ((fs.map Prod.snd)[j]?).bind (fol H2 []) | _ => none) = some z
              rw [h2]
              show (_[j]?).bind (fol H2 []) = some z
              rw [z1]
              rfl
        · exact w2.elim
    · exact w2.elim⟩⟩
theorem we_idx (ha : PE X a (tE X.K C U wa)) (hb : PE X b (tE X.K C U wb)) (hs : PlainIx b) : PE X (.Subscript a b pos) (tE X.K C U (wIdx wa wb)) := pe_imp (pe_ix (r := rIx X.K) ix_seq ha hb hs) e_idx
end
end Wv
end

section
set_option Elab.async false
set_option linter.all false
set_option maxRecDepth 100000
set_option maxHeartbeats 4000000
namespace Wv
open PySem PySem.Spec PyProof.Rows L2 Evl

structure WEnds where
  nx : Slots → Roots → Prop
  rt : Val → Roots → Prop := fun _ _ => False
  ro : T → Roots → Prop := fun _ _ => False
  bk : Slots → Roots → Prop := fun _ _ => False
  ct : Slots → Roots → Prop := fun _ _ => False
  ex : Exn → Slots → Roots → Prop := fun _ _ _ => False
abbrev WS := WEnds → Slots → Roots → Prop
/-- where a piece of the program may end -/
structure Fin (K : PySem.W.Frag) (C : Cs) (U : UX) (ρ : List Addr) (fps : List (List Addr)) (G H : Hp) (Z : WEnds) (D : Ends) : Prop where
  nx : ∀ sl' rt' σ' ρ' fps' G' H', St K C sl' rt' σ' ρ' fps' G' H' → Nx fps.flatten G H G' H' fps'.flatten → Pre ρ ρ' → Z.nx sl' rt' → D.nx σ' H'
  rt : ∀ x rt' ρ' fps' G' H' v, RSt K C rt' ρ' fps' G' H' → Nx fps.flatten G H G' H' fps'.flatten → Pre ρ ρ' → VR K C G' H' ρ' x v → Z.rt x rt' → D.rt v H'
  ro : ∀ t rt' ρ' fps' fp G' H' v, RSt K C rt' ρ' fps' G' H' → Nx fps.flatten G H G' H' fps'.flatten → Pre ρ ρ' → Own K C fps' G' H' t v fp → (∀ a ∈ fp, a ∈ fps.flatten ∨ H a = none) → Z.ro t rt' → D.rt v H'
  bk : ∀ sl' rt' σ' ρ' fps' G' H', St K C sl' rt' σ' ρ' fps' G' H' → Nx fps.flatten G H G' H' fps'.flatten → Pre ρ ρ' → Z.bk sl' rt' → D.bk σ' H'
  ct : ∀ sl' rt' σ' ρ' fps' G' H', St K C sl' rt' σ' ρ' fps' G' H' → Nx fps.flatten G H G' H' fps'.flatten → Pre ρ ρ' → Z.ct sl' rt' → D.ct σ' H'
  xf : Xf K C U ρ fps G H Z.ex
section
variable {K : PySem.W.Frag} {C : Cs} {U : UX} {G H G' H' G1 H1 G2 H2 : Hp} {sl : Slots} {rt rt' : Roots} {σ : L2.St} {ρ ρ' ρ1 : List Addr} {fps fps' fps1 : List (List Addr)}
variable {X : Cx} {a b c e : Expr} {es rest : List Expr} {wa wb wc : WE} {ta tb : WT} {pos p : Pos} {Z : WEnds} {E : Ends} {st : Stmt} {sts : List Stmt} {u z : WS}
theorem Fin.later (f : Fin K C U ρ fps G H Z E) (n : Nx fps.flatten G H G1 H1 fps1.flatten) (p : Pre ρ ρ1) : Fin K C U ρ1 fps1 G1 H1 Z E where
  nx := fun sl' rt' σ' ρ' fps' G' H' s n' p' => f.nx sl' rt' σ' ρ' fps' G' H' s (n.trans n') (p.trans p')
  rt := fun x rt' ρ' fps' G' H' v s n' p' => f.rt x rt' ρ' fps' G' H' v s (n.trans n') (p.trans p')
  ro := fun t rt' ρ' fps' fp G' H' v s n' p' o h => f.ro t rt' ρ' fps' fp G' H' v s (n.trans n') (p.trans p') o fun a ha => (h a ha).elim (fun q => n.new a q) fun q => .inr (n.dom a q)
  bk := fun sl' rt' σ' ρ' fps' G' H' s n' p' => f.bk sl' rt' σ' ρ' fps' G' H' s (n.trans n') (p.trans p')
  ct := fun sl' rt' σ' ρ' fps' G' H' s n' p' => f.ct sl' rt' σ' ρ' fps' G' H' s (n.trans n') (p.trans p')
  xf := f.xf.later n p
variable (K C)
variable (U)
def tS (w : WS) : TS := fun D σ H => ∃ Z sl rt ρ fps G, St K C sl rt σ ρ fps G H ∧ w Z sl rt ∧ Fin K C U ρ fps G H Z D
variable {K C}
variable {U}
theorem ps_imp {t t' : TS} (h : PS X st t) (i : ∀ D σ H, t' D σ H → t D σ H) : PS X st t' := ⟨fun pins s σ H D I q => h.run pins s σ H D I (i D σ H q)⟩
theorem pss_imp {t t' : TS} (h : PSs X sts t) (i : ∀ D σ H, t' D σ H → t D σ H) : PSs X sts t' := ⟨fun pins s σ H D I q => h.run pins s σ H D I (i D σ H q)⟩
theorem pre_len (p : Pre ρ ρ') : ρ.length ≤ ρ'.length := by
  cases h : ρ.length with
  | zero => omega
  | succ n =>
    have := p n (ρ[n]'(by omega)) (List.getElem?_eq_getElem (by omega))
    have := (List.getElem?_eq_some_iff.mp this).1
    omega

/-! ### blocks -/
def wSeq (u z : WS) : WS := fun Z sl rt => u { Z with nx := z Z } sl rt
/-- with a place told between -/
def wCut (u z : WS) : WS := fun Z sl rt => ∃ N : Slots → Roots → Prop, u { Z with nx := N } sl rt ∧ ∀ sl' rt', N sl' rt' → z Z sl' rt'
def wNext : WS := fun Z sl rt => Z.nx sl rt
theorem Fin.seq (f : Fin K C U ρ fps G H Z E) (N : Slots → Roots → Prop) (h : ∀ sl' rt', N sl' rt' → z Z sl' rt') : Fin K C U ρ fps G H { Z with nx := N } { E with nx := tS K C U z E } :=
  ⟨fun sl' rt' σ' ρ' fps' G' H' s n p hn => ⟨Z, sl', rt', ρ', fps', G', s, h sl' rt' hn, f.later n p⟩, f.rt, f.ro, f.bk, f.ct, f.xf⟩
theorem wss_nil : PSs X [] (tS K C U wNext) := pss_imp pss_nil fun D σ H ⟨Z, sl, rt, ρ, fps, G, s, w, f⟩ => f.nx sl rt σ ρ fps G H s (Nx.refl _ _ _) (Pre.refl _) w
theorem wss_cons (h1 : PS X st (tS K C U u)) (h2 : PSs X sts (tS K C U z)) : PSs X (st :: sts) (tS K C U (wSeq u z)) := pss_imp (pss_cons h1 h2) fun D σ H ⟨Z, sl, rt, ρ, fps, G, s, w, f⟩ => ⟨_, sl, rt, ρ, fps, G, s, w, f.seq _ fun _ _ h => h⟩
theorem wss_cut (h1 : PS X st (tS K C U u)) (h2 : PSs X sts (tS K C U z)) : PSs X (st :: sts) (tS K C U (wCut u z)) := pss_imp (pss_cons h1 h2) fun D σ H ⟨Z, sl, rt, ρ, fps, G, s, ⟨N, w, h⟩, f⟩ => ⟨_, sl, rt, ρ, fps, G, s, w, f.seq N h⟩
theorem wss_one (h1 : PS X st (tS K C U u)) : PSs X [st] (tS K C U u) := pss_one h1
theorem ws_pass : PS X (.Pass pos) (tS K C U wNext) := ps_imp ps_pass fun D σ H ⟨Z, sl, rt, ρ, fps, G, s, w, f⟩ => f.nx sl rt σ ρ fps G H s (Nx.refl _ _ _) (Pre.refl _) w
theorem ws_doc {x j pos'} : PS X (.Expr (.Constant (.str x) j pos) pos') (tS K C U wNext) := ps_imp ps_doc fun D σ H ⟨Z, sl, rt, ρ, fps, G, s, w, f⟩ => f.nx sl rt σ ρ fps G H s (Nx.refl _ _ _) (Pre.refl _) w
def wBreak : WS := fun Z sl rt => Z.bk sl rt
def wCont : WS := fun Z sl rt => Z.ct sl rt
theorem ws_break : PS X (.Break pos) (tS K C U wBreak) := ps_imp ps_break fun D σ H ⟨Z, sl, rt, ρ, fps, G, s, w, f⟩ => f.bk sl rt σ ρ fps G H s (Nx.refl _ _ _) (Pre.refl _) w
theorem ws_continue : PS X (.Continue pos) (tS K C U wCont) := ps_imp ps_continue fun D σ H ⟨Z, sl, rt, ρ, fps, G, s, w, f⟩ => f.ct sl rt σ ρ fps G H s (Nx.refl _ _ _) (Pre.refl _) w

/-! ### names -/
theorem get_set {α : Type} {l : List α} {i j : Nat} {a b : α} (h : (l.set i a)[j]? = some b) : (i = j ∧ a = b) ∨ (i ≠ j ∧ l[j]? = some b) := by
  by_cases e : i = j
  · left
    subst e
    refine ⟨rfl, ?_⟩
    by_cases hl : i < l.length
    · rw [List.getElem?_set_self hl] at h
      exact Option.some.inj h
    · rw [List.getElem?_eq_none (by rw [List.length_set]; omega)] at h
      cases h
  · right
    rw [List.getElem?_set_ne e] at h
    exact ⟨e, h⟩
theorem St.set (s : St K C sl rt σ ρ fps G H) {i : Nat} {x : Val} {v : V} (h : VR K C G H ρ x v) : St K C (sl.set i (some x)) rt (σ.set i (some v)) ρ fps G H where
  toRSt := s.toRSt
  len := by rw [List.length_set, List.length_set, s.len]
  slot := fun j y e => by
    rcases get_set e with ⟨rfl, q⟩ | ⟨n, q⟩
    · cases q
      refine ⟨v, ?_, h⟩
      have hl : i < sl.length := by
        by_cases z : i < sl.length
        · exact z
        · rw [List.getElem?_eq_none (by rw [List.length_set]; omega)] at e
          cases e
      exact List.getElem?_set_self (by rw [s.len]; exact hl)
    · obtain ⟨w, h1, h2⟩ := s.slot j y q
      exact ⟨w, by rw [List.getElem?_set_ne n]; exact h1, h2⟩
def wAsg (i : Nat) (w : WE) : WS := fun Z sl rt => w ⟨sl, Z.ex⟩ rt fun x rt1 => Z.nx (sl.set i (some x)) rt1
theorem s_asg {i : Nat} {w : WE} : ∀ D σ H, tS K C U (wAsg i w) D σ H → tAsg (tE K C U w) (gName i) D σ H := fun D σ H ⟨Z, sl, rt, ρ, fps, G, s, w, f⟩ =>
  ⟨⟨sl, Z.ex⟩, rt, ρ, fps, G, _, s, f.xf, w, fun x rt1 fps1 G1 H1 v r1 n1 v1 w1 => f.nx _ _ _ ρ fps1 G1 H1 ((s.step r1 n1 fun _ _ e => e).set v1) n1 (Pre.refl _) w1⟩
def wNew (i : Nat) (w : WO) : WS := fun Z sl rt => w ⟨sl, Z.ex⟩ rt fun t rt1 => match t with
  | .dat d => Z.nx (sl.set i (some (.dat d))) rt1
  | t => Z.nx (sl.set i (some (.ref rt1.length []))) (rt1 ++ [t])
theorem RSt.app (s : RSt K C rt ρ fps G H) {t : T} {a : Addr} {fp : List Addr} (o : Own K C fps G H t (.ref a) fp) : RSt K C (rt ++ [t]) (ρ ++ [a]) (fps ++ [fp]) G H where
  sub := s.sub
  root := Rts.app o.tr s.root
  nd := by
    rw [List.flatten_append]
    simp only [List.flatten_cons, List.flatten_nil, List.append_nil]
    exact List.nodup_append.mpr ⟨s.nd, o.nd, fun x hx y hy z => o.ap y hy (by rw [← z]; exact hx)⟩
  fr := fun x hx => by
    rw [List.flatten_append] at hx
    simp only [List.flatten_cons, List.flatten_nil, List.append_nil] at hx
    rcases List.mem_append.mp hx with z | z
    · exact s.fr x z
    · exact o.fr x z
theorem St.new (s : St K C sl rt σ ρ fps G H) {i : Nat} {t : T} {v : V} {fp : List Addr} (o : Own K C fps G H t v fp) (n : ∀ d, t ≠ .dat d) : ∃ a, v = .ref a ∧ St K C (sl.set i (some (.ref rt.length []))) (rt ++ [t]) (σ.set i (some v)) (ρ ++ [a]) (fps ++ [fp]) G H := by
  obtain ⟨a, rfl, hn⟩ := o.tr.nodeV n
  refine ⟨a, rfl, ?_⟩
  have r := s.toRSt.app o
  have s2 : St K C sl (rt ++ [t]) σ (ρ ++ [a]) (fps ++ [fp]) G H := s.step r (Nx.refl fps.flatten G H) (Pre.app ρ [a])
  refine s2.set ⟨a, ?_, rfl, ⟨a, rfl, hn⟩⟩
  rw [← (s.root.lens).1]
  simp
theorem new_flat {fp : List Addr} (n : Nx fps.flatten G H G' H' fps'.flatten) (new : ∀ a ∈ fp, a ∈ fps.flatten ∨ H a = none) : Nx fps.flatten G H G' H' (fps' ++ [fp]).flatten := ⟨n.g, n.keep, n.dom, fun l hl => by
    rw [List.flatten_append] at hl
    simp only [List.flatten_cons, List.flatten_nil, List.append_nil] at hl
    rcases List.mem_append.mp hl with z | z
    · exact n.new l z
    · exact new l z, n.idn⟩
theorem s_new {i : Nat} {w : WO} : ∀ D σ H, tS K C U (wNew i w) D σ H → tAsg (tO K C U w) (gName i) D σ H := fun D σ H ⟨Z, sl, rt, ρ, fps, G, s, w, f⟩ =>
  ⟨⟨sl, Z.ex⟩, rt, ρ, fps, G, _, s, f.xf, w, fun t rt1 fps1 fp G1 H1 v r1 n1 o1 new w1 => by
    have s1 := s.step r1 n1 fun _ _ e => e
    cases t with
    | dat d =>
      cases o1.tr with
      | dat h => exact f.nx _ _ _ ρ fps1 G1 H1 (s1.set (x := .dat d) h) n1 (Pre.refl _) w1
    | lst ts =>
      obtain ⟨a, rfl, s2⟩ := s1.new (i := i) o1 (by intro d z; cases z)
      exact f.nx _ _ _ _ _ G1 H1 s2 (new_flat n1 new) (Pre.app ρ [a]) w1
    | obj c ts =>
      obtain ⟨a, rfl, s2⟩ := s1.new (i := i) o1 (by intro d z; cases z)
      exact f.nx _ _ _ _ _ G1 H1 s2 (new_flat n1 new) (Pre.app ρ [a]) w1⟩
theorem ws_asg {i : Nat} {w : WE} (h : PS X st (tAsg (tE K C U w) (gName i))) : PS X st (tS K C U (wAsg i w)) := ps_imp h s_asg
theorem ws_new {i : Nat} {w : WO} (h : PS X st (tAsg (tO K C U w) (gName i))) : PS X st (tS K C U (wNew i w)) := ps_imp h s_new
/-- names bound by a target -/
abbrev Tg := D → Slots → (Slots → Prop) → Prop
def TgOk (K : PySem.W.Frag) (C : Cs) (g : TG) (tg : Tg) : Prop := ∀ d v sl rt σ ρ fps G H (k : Slots → Prop) (Q : L2.St → Hp → Prop), St K C sl rt σ ρ fps G H → DR K C G v d → tg d sl k → (∀ sl2 σ2, k sl2 → St K C sl2 rt σ2 ρ fps G H → Q σ2 H) → g v σ H Q
def tgName (j : Nat) : Tg := fun d sl k => k (sl.set j (some (.dat d)))
theorem tg_name {j : Nat} : TgOk K C (gName j) (tgName j) := fun d v sl rt σ ρ fps G H k Q s h w q => q _ _ w (s.set (x := .dat d) h)
def setAll : List Nat → List D → Slots → Slots
  | j :: js, d :: ds, sl => setAll js ds (sl.set j (some (.dat d)))
  | _, _, sl => sl
def gAll : List Nat → TGs
  | [] => gNil
  | j :: js => gCons (gName j) (gAll js)
theorem gall : ∀ {js : List Nat} {ds : List D} {vs : List V} {sl : Slots} {σ : L2.St} {Q : L2.St → Hp → Prop}, St K C sl rt σ ρ fps G H → DRs K C G vs ds → ds.length = js.length → (∀ σ2, St K C (setAll js ds sl) rt σ2 ρ fps G H → Q σ2 H) → gAll js vs σ H Q
  | [], [], _, sl, σ, Q, s, .nil, _, q => ⟨rfl, q σ s⟩
  | j :: js, d :: ds, _, sl, σ, Q, s, .cons h r, e, q => ⟨_, _, rfl, gall (s.set (x := .dat d) h) r (by simpa using e) q⟩
  | [], _ :: _, _, _, _, _, _, _, e, _ => by cases e
  | _ :: _, [], _, _, _, _, _, _, e, _ => by cases e
def tgTup (js : List Nat) : Tg := fun d sl k => match d with
  | .tup ds => ds.length = js.length ∧ k (setAll js ds sl)
  | .tpx ds => ds.length = js.length ∧ k (setAll js ds sl)
  | _ => False
theorem tg_tup {js : List Nat} {n : Nat} (hn : n = js.length) : TgOk K C (gTup K n (gAll js)) (tgTup js) := fun d v sl rt σ ρ fps G H k Q s h w q => by
  unfold tgTup at w
  split at w
  · cases h with
    | tup h2 r => exact ⟨_, _, rfl, ex_t s.sub h2, by rw [r.len, w.1, hn], gall s r w.1 fun σ2 s2 => q _ σ2 w.2 s2⟩
  · cases h with
    | tpx h2 _ r => exact ⟨_, _, rfl, ex_t s.sub (.inl (.inr ⟨_, h2⟩)), by rw [r.len, w.1, hn], gall s r w.1 fun σ2 s2 => q _ σ2 w.2 s2⟩
  · exact w.elim
def wAsgT (tg : Tg) (w : WE) : WS := fun Z sl rt => w ⟨sl, Z.ex⟩ rt fun x rt1 => match x with
  | .dat d => tg d sl fun sl2 => Z.nx sl2 rt1
  | _ => False
theorem s_asgT {g : TG} {tg : Tg} {w : WE} (hg : TgOk K C g tg) : ∀ D σ H, tS K C U (wAsgT tg w) D σ H → tAsg (tE K C U w) g D σ H := fun D σ H ⟨Z, sl, rt, ρ, fps, G, s, w, f⟩ =>
  ⟨⟨sl, Z.ex⟩, rt, ρ, fps, G, _, s, f.xf, w, fun x rt1 fps1 G1 H1 v r1 n1 v1 w1 => by
    cases x with
    | dat d => exact hg d v sl rt1 σ ρ fps1 G1 H1 _ _ (s.step r1 n1 fun _ _ e => e) v1 w1 fun sl2 σ2 h s2 => f.nx sl2 rt1 σ2 ρ fps1 G1 H1 s2 n1 (Pre.refl _) h
    | ref _ _ => exact w1.elim⟩
theorem ws_asgT {g : TG} {tg : Tg} {w : WE} (hg : TgOk K C g tg) (h : PS X st (tAsg (tE K C U w) g)) : PS X st (tS K C U (wAsgT tg w)) := ps_imp h (s_asgT hg)

/-! ### ends -/
def wRet (w : WE) : WS := fun Z sl rt => w ⟨sl, Z.ex⟩ rt fun x rt1 => Z.rt x rt1
def wRetO (w : WO) : WS := fun Z sl rt => w ⟨sl, Z.ex⟩ rt fun t rt1 => Z.ro t rt1
theorem ws_ret {w : WE} (h : PE X e (tE K C U w)) : PS X (.Return (some e) pos) (tS K C U (wRet w)) := ps_imp (ps_ret h) fun D σ H ⟨Z, sl, rt, ρ, fps, G, s, w, f⟩ =>
  ⟨⟨sl, Z.ex⟩, rt, ρ, fps, G, _, s, f.xf, w, fun x rt1 fps1 G1 H1 v r1 n1 v1 w1 => f.rt x rt1 ρ fps1 G1 H1 v r1 n1 (Pre.refl _) v1 w1⟩
theorem ws_retO {w : WO} (h : PE X e (tO K C U w)) : PS X (.Return (some e) pos) (tS K C U (wRetO w)) := ps_imp (ps_ret h) fun D σ H ⟨Z, sl, rt, ρ, fps, G, s, w, f⟩ =>
  ⟨⟨sl, Z.ex⟩, rt, ρ, fps, G, _, s, f.xf, w, fun t rt1 fps1 fp G1 H1 v r1 n1 o1 new w1 => f.ro t rt1 ρ fps1 fp G1 H1 v r1 n1 (Pre.refl _) o1 new w1⟩
def wRetN : WS := fun Z sl rt => Z.rt (.dat .non) rt
theorem ws_retN : PS X (.Return none pos) (tS K C U wRetN) := ps_imp ps_retN fun D σ H ⟨Z, sl, rt, ρ, fps, G, s, w, f⟩ => f.rt (.dat .non) rt ρ fps G H .non s.toRSt (Nx.refl _ _ _) (Pre.refl _) .non w
def wDrop (w : WE) : WS := fun Z sl rt => w ⟨sl, Z.ex⟩ rt fun _ rt1 => Z.nx sl rt1
theorem ws_expr {w : WE} (h : PE X e (tE K C U w)) (hs : swapsWith e none pos.line X.env = pure false := by rfl) : PS X (.Expr e pos) (tS K C U (wDrop w)) := ps_imp (ps_expr h hs) fun D σ H ⟨Z, sl, rt, ρ, fps, G, s, w, f⟩ =>
  ⟨⟨sl, Z.ex⟩, rt, ρ, fps, G, _, s, f.xf, w, fun x rt1 fps1 G1 H1 v r1 n1 v1 w1 => f.nx sl rt1 σ ρ fps1 G1 H1 (s.step r1 n1 fun _ _ e => e) n1 (Pre.refl _) w1⟩
def wIf (c : WT) (u v : WS) : WS := fun Z sl rt => c ⟨sl, Z.ex⟩ rt fun b rt1 => (b = true → u Z sl rt1) ∧ (b = false → v Z sl rt1)
theorem ws_if {cnd : Expr} {sa sb : List Stmt} {tc : WT} {u v : WS} (hc : PT X cnd (tT K C U tc)) (ha : PSs X sa (tS K C U u)) (hb : PSs X sb (tS K C U v)) : PS X (.If cnd sa sb pos) (tS K C U (wIf tc u v)) := ps_imp (ps_if hc ha hb) fun D σ H ⟨Z, sl, rt, ρ, fps, G, s, w, f⟩ =>
  ⟨⟨sl, Z.ex⟩, rt, ρ, fps, G, _, s, f.xf, w, fun b rt1 fps1 G1 H1 r1 n1 w1 => by
    have s1 := s.step r1 n1 fun _ _ e => e
    cases b with
    | true => exact ⟨Z, sl, rt1, ρ, fps1, G1, s1, w1.1 rfl, f.later n1 (Pre.refl _)⟩
    | false => exact ⟨Z, sl, rt1, ρ, fps1, G1, s1, w1.2 rfl, f.later n1 (Pre.refl _)⟩⟩
def wAug (i : Nat) (g : Int → Int → Int) (w : WE) : WS := fun Z sl rt => match sl[i]? with
  | some (some (.dat (.int m))) => w ⟨sl, Z.ex⟩ rt fun y rt1 => match y with
    | .dat (.int n) => Z.nx (sl.set i (some (.dat (.int (g m n))))) rt1
    | _ => False
  | _ => False
theorem s_aug {i : Nat} {g : Int → Int → Int} {w : WE} : ∀ D σ H, tS K C U (wAug i g w) D σ H → tAug i (tE K C U w) (ipI g) D σ H := fun D σ H ⟨Z, sl, rt, ρ, fps, G, s, w, f⟩ => by
  unfold wAug at w
  split at w
  · rename_i m e
    obtain ⟨v, h1, h2⟩ := s.slot i _ e
    cases h2
    refine ⟨_, h1, ⟨sl, Z.ex⟩, rt, ρ, fps, G, _, s, f.xf, w, fun y rt1 fps1 G1 H1 u r1 n1 v1 w1 => ?_⟩
    split at w1
    · cases v1
      exact ⟨m, _, rfl, rfl, f.nx _ _ _ ρ fps1 G1 H1 ((s.step r1 n1 fun _ _ e => e).set (x := .dat (.int _)) (DR.int _)) n1 (Pre.refl _) w1⟩
    · exact w1.elim
  · exact w.elim
theorem ws_aug {i : Nat} {g : Int → Int → Int} {w : WE} (h : PS X st (tAug i (tE K C U w) (ipI g))) : PS X st (tS K C U (wAug i g w)) := ps_imp h s_aug

/-! ### writing into what is owned -/
theorem idn_lst {b : Addr} {xs xs' : List V} (hb : H b = some (.lst xs)) (k : ∀ (i : Nat) x, xs[i]? = some x → NodeV H x → xs'[i]? = some x) : Idn H (upd H b (.lst xs')) := by
  refine Idn.of (fun w hw => ?_) (fun a i w hw hn => ?_)
  · obtain ⟨a, rfl, h⟩ := hw
    refine ⟨a, rfl, ?_⟩
    by_cases z : a = b
    · exact .inl ⟨xs', by rw [z, upd_same]⟩
    · rw [upd_ne z]
      exact h
  · obtain ⟨v, h, rfl⟩ := hw
    by_cases z : a = b
    · subst z
      have h' : (match H a with | some (.lst xs) => (xs[i]?).bind (fol H []) | some (.ins _ _ fs) => ((fs.map Prod.snd)[i]?).bind (fol H []) | _ => none) = some v := h
      rw [hb] at h'
      have h2 : (xs[i]?).bind (fol H []) = some v := h'
      show (match upd H a (.lst xs') a with | some (.lst xs) => (xs[i]?).bind (fol (upd H a (.lst xs')) []) | some (.ins _ _ fs) => ((fs.map Prod.snd)[i]?).bind (fol (upd H a (.lst xs')) []) | _ => none) = some v
      rw [upd_same]
      show (xs'[i]?).bind (fol (upd H a (.lst xs')) []) = some v
      cases q : xs[i]? with
      | none => rw [q] at h2; cases h2
      | some y =>
        rw [q] at h2
        cases Option.some.inj h2
        rw [k i v q hn]
        rfl
    · show (match upd H b (.lst xs') a with | some (.lst xs) => (xs[i]?).bind (fol (upd H b (.lst xs')) []) | some (.ins _ _ fs) => ((fs.map Prod.snd)[i]?).bind (fol (upd H b (.lst xs')) []) | _ => none) = some v
      rw [upd_ne z]
      exact h
/-- another content at a place -/
theorem RSt.write (s : RSt K C rt ρ fps G H) {r : Nat} {p : List Nat} {t t' : T} {a b : Addr} {o : HO} {fn : List Addr} (h : tat rt r p = some t) (ha : ρ[r]? = some a) (hf : fol H p (.ref a) = some (.ref b)) (nt : ∀ d, t ≠ .dat d)
    (idn : Idn H (upd H b o)) (hn : ∀ fu, TR K C G H (.ref b) t fu → b ∈ fu ∧ (fu.Nodup → (∀ x ∈ fn, x ∉ fu) → ∃ fu', TR K C G (upd H b o) (.ref b) t' fu' ∧ fu'.Perm (fu ++ fn)))
    (nd : fn.Nodup) (ap : ∀ x ∈ fn, x ∉ fps.flatten) (fr : ∀ x ∈ fn, G x = none) : ∃ fps', RSt K C (rt.modify r (T.put t' p)) ρ fps' G (upd H b o) ∧ (∀ x ∈ fps'.flatten, x ∈ fps.flatten ∨ x ∈ fn) ∧ b ∈ fps.flatten := by
  obtain ⟨w, L, fu, R, k1, k2, k3, k4⟩ := s.at h ha
  rw [hf] at k1
  cases k1
  obtain ⟨hb, hn⟩ := hn fu k2
  have nd0 := s.nd
  rw [k3] at nd0
  have nd1 := List.nodup_append.mp nd0
  have nd2 := List.nodup_append.mp nd1.2.1
  obtain ⟨fu', q1, q2⟩ := hn nd2.1 fun x hx z => ap x hx (by rw [k3]; simp [z])
  have hbF : b ∈ fps.flatten := by rw [k3]; simp [hb]
  obtain ⟨fps', y1, y2⟩ := k4 G (upd H b o) t' fu' (Ex.refl G) (fun x hx => upd_ne fun z => by
    subst z
    rcases List.mem_append.mp hx with y | y
    · exact nd1.2.2 x y x (by simp [hb]) rfl
    · exact nd2.2.2 x hb x y rfl) q1
  have mem : ∀ x ∈ fps'.flatten, x ∈ fps.flatten ∨ x ∈ fn := fun x hx => by
    rw [y2] at hx
    rw [k3]
    rcases List.mem_append.mp hx with y | y
    · exact .inl (by simp [y])
    · rcases List.mem_append.mp y with y | y
      · rcases List.mem_append.mp (q2.mem_iff.mp y) with y | y
        · exact .inl (by simp [y])
        · exact .inr y
      · exact .inl (by simp [y])
  refine ⟨fps', ⟨fun x u e => ?_, y1, ?_, fun x hx => ?_⟩, mem, hbF⟩
  · have : x ≠ b := fun z => by rw [z, s.fr b hbF] at e; cases e
    rw [upd_ne this]
    exact s.sub x u e
  · rw [y2]
    have pm : (L ++ (fu' ++ R)).Perm ((L ++ (fu ++ R)) ++ fn) := by
      have h1 : (fu' ++ R).Perm ((fu ++ R) ++ fn) := by
        have : (fu' ++ R).Perm ((fu ++ fn) ++ R) := List.Perm.append_right R q2
        refine this.trans ?_
        rw [List.append_assoc, List.append_assoc]
        exact List.Perm.append_left fu List.perm_append_comm
      have := List.Perm.append_left L h1
      rw [← List.append_assoc L] at this
      rw [List.append_assoc] 
      rw [List.append_assoc] at this
      exact this
    refine pm.nodup_iff.mpr ?_
    rw [← k3]
    exact List.nodup_append.mpr ⟨s.nd, nd, fun x hx y hy z => ap y hy (by rw [← z]; exact hx)⟩
  · rcases mem x hx with z | z
    · exact s.fr x z
    · exact fr x z
theorem Nx.write {b : Addr} {o : HO} {fp : List Addr} (hb : b ∈ fps.flatten) (hH : H b ≠ none) (idn : Idn H (upd H b o)) (mem : ∀ x ∈ fp, x ∈ fps.flatten ∨ x ∈ fps'.flatten) : Nx fps.flatten G H G (upd H b o) fps.flatten where
  g := Ex.refl G
  keep := fun l u h z => ⟨by rw [upd_ne fun y => z (by rw [y]; exact hb)]; exact h, fun g => g⟩
  dom := fun l h => upd_none h
  new := fun _ h => .inl h
  idn := idn
end
end Wv
end

section
set_option Elab.async false
set_option linter.all false
set_option maxRecDepth 100000
set_option maxHeartbeats 4000000
namespace Wv
open PySem PySem.Spec PyProof.Rows L2 Evl
section
variable {K : PySem.W.Frag} {C : Cs} {U : UX} {G H G' H' G1 H1 G2 H2 : Hp} {sl sl' : Slots} {rt rt' : Roots} {σ : L2.St} {ρ ρ' ρ1 : List Addr} {fps fps' fps1 : List (List Addr)}
variable {X : Cx} {a b c e : Expr} {es rest : List Expr} {wa wb wc : WE} {ta tb : WT} {pos p : Pos} {Z : WEnds} {E : Ends} {st : Stmt} {sts : List Stmt} {u z : WS}
theorem TRs.app : ∀ {ts : List T} {vs : List V} {fp : List Addr} {us : List T} {ws : List V} {fq : List Addr}, TRs K C G H vs ts fp → TRs K C G H ws us fq → TRs K C G H (vs ++ ws) (ts ++ us) (fp ++ fq)
  | _, _, _, _, _, _, .nil, h => h
  | _, _, _, _, _, _, .cons (fp := fp) (fq := fq) h r, h' => by
    rw [List.append_assoc]
    exact .cons h (TRs.app r h')
/-- xs.append(e) -/
def wApp (wx : WE) (w : WO) : WS := fun Z sl rt => wx ⟨sl, Z.ex⟩ rt fun x rt1 => match x with
  | .ref r p => match tat rt1 r p with
    | some (.lst _) => w ⟨sl, Z.ex⟩ rt1 fun t rt2 => match tat rt2 r p with
      | some (.lst ts) => ts.length < 40000 ∧ Z.nx sl (rt2.modify r (T.put (.lst (ts ++ [t])) p))
      | _ => False
    | _ => False
  | _ => False
theorem s_app {wx : WE} {w : WO} : ∀ D σ H, tS K C U (wApp wx w) D σ H → tDrop (tBM K "list" rAppend (tE K C U wx) (tCons (tO K C U w) tNil)) D σ H := fun D σ H ⟨Z, sl, rt, ρ, fps, G, s, w, f⟩ =>
  ⟨⟨sl, Z.ex⟩, rt, ρ, fps, G, _, s, f.xf, w, fun x rt1 fps1 G1 H1 v r1 n1 v1 w1 => by
    split at w1
    · rename_i r p
      split at w1
      · rename_i ts0 ht0
        obtain ⟨a, fu, k1, k2, k3, _⟩ := r1.get ht0 v1
        cases k3 with
        | @lst b xs0 _ fq0 hb0 tr0 =>
          refine ⟨.inl ⟨rfl, xs0, sq_of hb0⟩, ⟨sl, Z.ex⟩, rt1, ρ, fps1, G1, _, s.step r1 n1 fun _ _ e => e, f.xf.later n1 (Pre.refl _), w1, fun t rt2 fps2 fp G2 H2 y r2 n2 o2 new w2 => ?_⟩
          have v2 := v1.up n2 fun _ _ e => e
          split at w2
          · rename_i ts ht
            obtain ⟨a', fu, z1, z2, z3, _⟩ := r2.get ht v2
            cases z3 with
            | @lst _ xs _ fq hb tr =>
              have idn : Idn H2 (upd H2 b (.lst (xs ++ [y]))) := idn_lst hb fun i q hq _ => by
                rw [List.getElem?_append_left (List.getElem?_eq_some_iff.mp hq).1]
                exact hq
              have inH := o2.inH
              obtain ⟨fps3, r3, mem, hbF⟩ := r2.write (t' := .lst (ts ++ [t])) (fn := fp) ht z1 z2 (by intro d q; cases q) idn (fun fu hfu => by
                cases hfu with
                | @lst _ xs' _ fq' hb' tr' =>
                  rw [hb] at hb'
                  cases hb'
                  refine ⟨List.mem_cons_self, fun nd dis => ?_⟩
                  have nb := (List.nodup_cons.mp nd).1
                  refine ⟨b :: (fq' ++ (fp ++ [])), .lst upd_same (TRs.app (TRs.stay (Ex.refl _) _ _ _ tr' fun q hq => upd_ne fun z => nb (by rw [← z]; exact hq)) (.cons (TR.stay (Ex.refl _) _ _ _ o2.tr fun q hq => upd_ne fun z => dis q hq (by rw [z]; exact List.mem_cons_self)) .nil)), ?_⟩
                  rw [List.append_nil]
                  exact List.Perm.refl _) o2.nd o2.ap o2.fr
              refine ⟨b, xs, y, rfl, rfl, hb, sz_lt (by rw [TRs.len tr]; omega), ?_⟩
              have nW : Nx fps2.flatten G2 H2 G2 (upd H2 b (.lst (xs ++ [y]))) fps2.flatten := Nx.write (fps' := fps2) hbF (by rw [hb]; exact fun q => nomatch q) idn (fp := []) (fun _ q => nomatch q)
              have n3 := (n1.trans n2).trans nW
              have n4 : Nx fps.flatten G H G2 (upd H2 b (.lst (xs ++ [y]))) fps3.flatten := ⟨n3.g, n3.keep, n3.dom, fun l hl => by
                rcases mem l hl with q | q
                · exact n3.new l q
                · exact (new l q).elim (fun y => n1.new l y) fun y => .inr (n1.dom l y), n3.idn⟩
              exact f.nx sl _ σ ρ fps3 G2 _ (s.step r3 n4 fun _ _ e => e) n4 (Pre.refl _) w2.2
          · exact w2.elim
      · exact w1.elim
    · exact w1.elim⟩
theorem ws_app {wx : WE} {w : WO} (h : PS X st (tDrop (tBM K "list" rAppend (tE K C U wx) (tCons (tO K C U w) tNil)))) : PS X st (tS K C U (wApp wx w)) := ps_imp h s_app
/-- what may be overwritten -/
def leafT : T → Bool
  | .dat .non => true
  | .dat (.bool _) => true
  | .dat (.int _) => true
  | .dat (.str _) => true
  | _ => false
theorem leaf_ok {t : T} {v : V} {fu : List Addr} (h : leafT t = true) (r : TR K C G H v t fu) : (∃ d, t = .dat d) ∧ fu = [] ∧ ∀ H, ¬ NodeV H v := by
  unfold leafT at h
  split at h
  all_goals first
    | (cases r with
       | dat q =>
         cases q
         exact ⟨⟨_, rfl⟩, rfl, fun H ⟨a, z, _⟩ => nomatch z⟩)
    | cases h
theorem TRs.set : ∀ {ts : List T} {vs : List V} {fp : List Addr} {j : Nat} {t : T} {v : V} {d : D}, TRs K C G H vs ts fp → ts[j]? = some t → leafT t = true → DR K C G v d → TRs K C G H (vs.set j v) (ts.set j (.dat d)) fp
  | _, _, _, _, _, _, _, .nil, e, _, _ => by simp at e
  | _, _, _, 0, _, _, _, .cons (fp := fp) (fq := fq) h r, e, l, d => by
    cases Option.some.inj e
    obtain ⟨_, hf, _⟩ := leaf_ok l h
    subst hf
    exact TRs.cons (fp := []) (.dat d) r
  | _, _, _, j + 1, _, _, _, .cons h r, e, l, d => .cons h (TRs.set (j := j) r e l d)
/-- xs[i] = e -/
def wSetI (w : WE) (wx wi : WE) : WS := fun Z sl rt => w ⟨sl, Z.ex⟩ rt fun y rt1 => wx ⟨sl, Z.ex⟩ rt1 fun x rt2 => wi ⟨sl, Z.ex⟩ rt2 fun n rt3 => match y with
  | .dat d => match x, n with
    | .ref r p, .dat (.int n) => match tat rt3 r p with
      | some (.lst ts) => ∃ j u, ixN ts.length n = some j ∧ ts[j]? = some u ∧ leafT u = true ∧ Z.nx sl (rt3.modify r (T.put (.lst (ts.set j (.dat d))) p))
      | _ => False
    | _, _ => False
  | _ => False
theorem s_setI {w wx wi : WE} : ∀ D σ H, tS K C U (wSetI w wx wi) D σ H → tAsg (tE K C U w) (gSub (tE K C U wx) (tE K C U wi) rSetL) D σ H := fun D σ H ⟨Z, sl, rt, ρ, fps, G, s, w, f⟩ =>
  ⟨⟨sl, Z.ex⟩, rt, ρ, fps, G, _, s, f.xf, w, fun y rt1 fps1 G1 H1 vy r1 n1 v1 w1 => ⟨⟨sl, Z.ex⟩, rt1, ρ, fps1, G1, _, s.step r1 n1 fun _ _ e => e, f.xf.later n1 (Pre.refl _), w1, fun x rt2 fps2 G2 H2 vx r2 n2 v2 w2 =>
    ⟨⟨sl, Z.ex⟩, rt2, ρ, fps2, G2, _, s.step r2 (n1.trans n2) fun _ _ e => e, f.xf.later (n1.trans n2) (Pre.refl _), w2, fun n rt3 fps3 G3 H3 vn r3 n3 v3 w3 => by
      split at w3
      · rename_i d
        split at w3
        · rename_i r p n
          split at w3
          · rename_i ts ht
            obtain ⟨j, u, hj, hu, hl, w3⟩ := w3
            have v2 := v2.up n3 fun _ _ e => e
            have v1 : DR K C G3 vy d := DR.up (n2.trans n3).g d vy v1
            cases v3
            obtain ⟨a, fu, z1, z2, z3, _⟩ := r3.get ht v2
            cases z3 with
            | @lst b xs _ fq hb tr =>
              obtain ⟨vo, fo, q1, q2, _⟩ := tr.get hu
              have idn : Idn H3 (upd H3 b (.lst (xs.set j vy))) := idn_lst hb fun i q hq nq => by
                by_cases z : j = i
                · subst z
                  rw [q1] at hq
                  cases hq
                  exact absurd nq ((leaf_ok hl q2).2.2 _)
                · rw [List.getElem?_set_ne z]
                  exact hq
              obtain ⟨fps4, r4, mem, hbF⟩ := r3.write (t' := .lst (ts.set j (.dat d))) (fn := []) ht z1 z2 (by intro d q; cases q) idn (fun fu hfu => by
                cases hfu with
                | @lst _ xs' _ fq' hb' tr' =>
                  rw [hb] at hb'
                  cases hb'
                  refine ⟨List.mem_cons_self, fun nd dis => ?_⟩
                  have nb := (List.nodup_cons.mp nd).1
                  refine ⟨b :: fq', .lst upd_same (TRs.set (TRs.stay (Ex.refl _) _ _ _ tr' fun q hq => upd_ne fun z => nb (by rw [← z]; exact hq)) hu hl v1), ?_⟩
                  rw [List.append_nil]) List.nodup_nil (fun _ q => nomatch q) (fun _ q => nomatch q)
              refine ⟨b, xs, n, j, rfl, rfl, hb, by rw [TRs.len tr]; exact hj, ?_⟩
              have nW : Nx fps3.flatten G3 H3 G3 (upd H3 b (.lst (xs.set j vy))) fps3.flatten := Nx.write (fps' := fps3) hbF (by rw [hb]; exact fun q => nomatch q) idn (fp := []) (fun _ q => nomatch q)
              have n4 := (n1.trans (n2.trans n3)).trans nW
              have n5 : Nx fps.flatten G H G3 (upd H3 b (.lst (xs.set j vy))) fps4.flatten := n4.less fun l hl => by
                rcases mem l hl with q | q
                · exact q
                · cases q
              exact f.nx sl _ σ ρ fps4 G3 _ (s.step r4 n5 fun _ _ e => e) n5 (Pre.refl _) w3
          · exact w3.elim
        · exact w3.elim
      · exact w3.elim⟩⟩⟩
theorem ws_setI {w wx wi : WE} (h : PS X st (tAsg (tE K C U w) (gSub (tE K C U wx) (tE K C U wi) rSetL))) : PS X st (tS K C U (wSetI w wx wi)) := ps_imp h s_setI

/-! ### forgetting -/
def Less (m : Nat) (sl' sl : Slots) : Prop := sl'.length = sl.length ∧ ∀ (i : Nat) x, sl'[i]? = some (some x) → sl[i]? = some (some x) ∧ ∀ r p, x = .ref r p → r < m
def Fg (n : Nat) (P : Slots → Roots → Prop) (sl : Slots) (rt : Roots) : Prop := P sl rt ∨ ∃ sl' m, n ≤ m ∧ Less m sl' sl ∧ P sl' (rt.take m)
theorem Rts.take : ∀ {rt : Roots} {ρ : List Addr} {fps : List (List Addr)} (m : Nat), Rts K C G H rt ρ fps → Rts K C G H (rt.take m) (ρ.take m) (fps.take m)
  | _, _, _, 0, _ => .nil
  | _, _, _, m + 1, .nil => .nil
  | _, _, _, m + 1, .cons h r => .cons h (Rts.take m r)
theorem flat_take (m : Nat) : ∀ a ∈ (fps.take m).flatten, a ∈ fps.flatten := fun a ha => by
  obtain ⟨l, h1, h2⟩ := List.mem_flatten.mp ha
  exact List.mem_flatten.mpr ⟨l, List.mem_of_mem_take h1, h2⟩
theorem RSt.take (s : RSt K C rt ρ fps G H) (m : Nat) : RSt K C (rt.take m) (ρ.take m) (fps.take m) G H :=
  ⟨s.sub, s.root.take m, by
    have h := s.nd
    rw [← List.take_append_drop m fps, List.flatten_append] at h
    exact (List.nodup_append.mp h).1, fun a ha => s.fr a (flat_take m a ha)⟩
theorem St.take (s : St K C sl rt σ ρ fps G H) {m : Nat} (l : Less m sl' sl) : St K C sl' (rt.take m) σ (ρ.take m) (fps.take m) G H where
  toRSt := s.toRSt.take m
  len := s.len.trans l.1.symm
  slot := fun i x e => by
    obtain ⟨h1, h2⟩ := l.2 i x e
    obtain ⟨v, k1, k2⟩ := s.slot i x h1
    refine ⟨v, k1, ?_⟩
    cases x with
    | dat d => exact k2
    | ref r p =>
      obtain ⟨a, q1, q2, q3⟩ := k2
      refine ⟨a, ?_, q2, q3⟩
      rw [List.getElem?_take_of_lt (h2 r p rfl)]
      exact q1
theorem Fg.back {n : Nat} {P : Slots → Roots → Prop} (h : Fg n P sl rt') (s : St K C sl rt' σ ρ' fps' G' H') (nx : Nx fps.flatten G H G' H' fps'.flatten) (pr : Pre ρ ρ') (hn : ρ.length ≤ n) : ∃ sl2 rt2 ρ2 fps2, St K C sl2 rt2 σ ρ2 fps2 G' H' ∧ Nx fps.flatten G H G' H' fps2.flatten ∧ Pre ρ ρ2 ∧ P sl2 rt2 := by
  rcases h with h | ⟨sl2, m, hm, l, h⟩
  · exact ⟨sl, rt', ρ', fps', s, nx, pr, h⟩
  · refine ⟨sl2, _, _, _, s.take l, nx.less (flat_take m), fun i a e => ?_, h⟩
    have hi : i < ρ.length := (List.getElem?_eq_some_iff.mp e).1
    rw [List.getElem?_take_of_lt (by omega)]
    exact pr i a e

/-! ### loops -/
def wWhile (c : WT) (body : WS) : WS := fun Z sl rt => ∃ I : Nat → Slots → Roots → Prop, (∃ m, I m sl rt) ∧ ∀ m sl' rt', I m sl' rt' → c ⟨sl', Z.ex⟩ rt' fun b rt1 =>
  (b = true → body { Z with nx := Fg rt.length (fun s r => ∃ m', m' < m ∧ I m' s r), ct := Fg rt.length (fun s r => ∃ m', m' < m ∧ I m' s r), bk := Z.nx } sl' rt1) ∧ (b = false → Z.nx sl' rt1)
theorem s_while {c : WT} {body : WS} : ∀ D σ H, tS K C U (wWhile c body) D σ H → tWhile (tT K C U c) (tS K C U body) D σ H := fun D σ H ⟨Z, sl, rt, ρ, fps, G, s, ⟨I, ⟨m0, i0⟩, w⟩, f⟩ => by
  have hl : ρ.length = rt.length := s.root.lens.1
  refine ⟨fun m σ' H' => ∃ sl' rt' ρ' fps' G', I m sl' rt' ∧ St K C sl' rt' σ' ρ' fps' G' H' ∧ Nx fps.flatten G H G' H' fps'.flatten ∧ Pre ρ ρ', ⟨m0, sl, rt, ρ, fps, G, i0, s, Nx.refl _ _ _, Pre.refl _⟩, fun m σ' H' ⟨sl', rt', ρ', fps', G', hi, s', n', p'⟩ => ?_⟩
  refine ⟨⟨sl', Z.ex⟩, rt', ρ', fps', G', _, s', f.xf.later n' p', w m sl' rt' hi, fun b rt1 fps1 G1 H1 r1 n1 w1 => ?_⟩
  have s1 := s'.step r1 n1 fun _ _ e => e
  cases b with
  | true =>
    refine ⟨fun σ2 H2 => ∃ sl2 rt2 ρ2 fps2 G2, (∃ m', m' < m ∧ I m' sl2 rt2) ∧ St K C sl2 rt2 σ2 ρ2 fps2 G2 H2 ∧ Nx fps.flatten G H G2 H2 fps2.flatten ∧ Pre ρ ρ2, fun σ2 H2 ⟨sl2, rt2, ρ2, fps2, G2, ⟨m', h1, h2⟩, q⟩ => ⟨m', h1, sl2, rt2, ρ2, fps2, G2, h2, q⟩, ?_⟩
    refine ⟨_, sl', rt1, ρ', fps1, G1, s1, w1.1 rfl, ⟨?_, ?_, ?_, ?_, ?_, f.xf.later (n'.trans n1) p'⟩⟩
    · intro sl2 rt2 σ2 ρ2 fps2 G2 H2 s2 n2 p2 h
      have h : Fg rt.length (fun s r => ∃ m', m' < m ∧ I m' s r) sl2 rt2 := h
      obtain ⟨sl3, rt3, ρ3, fps3, s3, n3, p3, h3⟩ := Fg.back (ρ := ρ) (n := rt.length) h s2 ((n'.trans n1).trans n2) (p'.trans p2) (by omega)
      exact ⟨sl3, rt3, ρ3, fps3, G2, h3, s3, n3, p3⟩
    · exact (f.later (n'.trans n1) p').rt
    · exact (f.later (n'.trans n1) p').ro
    · exact (f.later (n'.trans n1) p').nx
    · intro sl2 rt2 σ2 ρ2 fps2 G2 H2 s2 n2 p2 h
      have h : Fg rt.length (fun s r => ∃ m', m' < m ∧ I m' s r) sl2 rt2 := h
      obtain ⟨sl3, rt3, ρ3, fps3, s3, n3, p3, h3⟩ := Fg.back (ρ := ρ) (n := rt.length) h s2 ((n'.trans n1).trans n2) (p'.trans p2) (by omega)
      exact ⟨sl3, rt3, ρ3, fps3, G2, h3, s3, n3, p3⟩
  | false => exact f.nx sl' rt1 σ' ρ' fps1 G1 H1 s1 (n'.trans n1) p' (w1.2 rfl)
theorem ws_while {cnd : Expr} {body : List Stmt} {tc : WT} {wb : WS} (hp : PassesOwn (model X.prog X.w) X.A X.env X.xe) (hc : PT X cnd (tT K C U tc)) (hb : PSs X body (tS K C U wb)) : PS X (.While cnd body [] pos) (tS K C U (wWhile tc wb)) := ps_imp (ps_while hp hc hb) s_while

/-! ### what is walked -/
abbrev WI := Cxt → Roots → (List D → Roots → Prop) → Prop
/-- the turn's value bears its datum; perhaps in a new tuple -/
def YD (K : PySem.W.Frag) (C : Cs) (G : Hp) (d : D) (H2 : Hp) (v : V) (H3 : Hp) : Prop := (H3 = H2 ∧ DR K C G v d) ∨ ∃ p xs ds, H2 p = none ∧ H3 = upd H2 p (.tup xs) ∧ v = .ref p ∧ d = .tup ds ∧ DRs K C G xs ds
variable (K C)
variable (U)
def tI (w : WI) : TI := fun σ H R => ∃ sl rt ρ fps G k, St K C sl.sl rt σ ρ fps G H ∧ Xf K C U ρ fps G H sl.ex ∧ w sl rt k ∧ ∀ ds rt' fps' G' H' J, RSt K C rt' ρ fps' G' H' → Nx fps.flatten G H G' H' fps'.flatten →
  (∃ Gd Y, Walk J ds.length Gd Y ∧ (∀ H2, Ex G' H2 → Gd H2) ∧ ∀ i d H2 v H3, ds[i]? = some d → Ex G' H2 → Y i H2 v H3 → YD K C G' d H2 v H3) → k ds rt' → R J H'
variable {K C}
variable {U}
theorem pi_imp {tg it : Expr} {t t' : TI} (h : PI X tg it t) (i : ∀ σ H Q, t' σ H Q → t σ H Q) : PI X tg it t' := ⟨fun pins s σ H R I q => h.run pins s σ H R I (i σ H R q)⟩
/-- range(n), range(a, b) -/
def wRng1 (w : WA) : WI := fun sl rt k => w sl rt fun xs rt1 => match xs with
  | [.dat (.int n)] => n ≤ 100000 ∧ -100000 ≤ n ∧ k ((List.range n.toNat).map fun i => .int (i : Nat)) rt1
  | _ => False
def wRng2 (w : WA) : WI := fun sl rt k => w sl rt fun xs rt1 => match xs with
  | [.dat (.int a), .dat (.int b)] => (-100000000 ≤ a ∧ a ≤ 100000000) ∧ (-100000000 ≤ b ∧ b ≤ 100000000) ∧ k ((List.range (b - a).toNat).map fun i => .int (a + (i : Nat))) rt1
  | _ => False
theorem i_rng1 {w : WA} : ∀ σ H Q, tI K C U (wRng1 w) σ H Q → iRng1 (tA K C U w) σ H Q := fun σ H Q ⟨sl, rt, ρ, fps, G, k, s, xf, w, q⟩ =>
  ⟨sl, rt, ρ, fps, G, _, s, xf, w, fun xs rt1 fps1 G1 H1 vs r1 n1 v1 w1 => by
    split at w1
    · cases v1 with
      | cons h r =>
        cases r
        cases h
        rename_i n
        refine ⟨n, rfl, by omega, by omega, q _ rt1 fps1 G1 H1 _ r1 n1 ⟨fun _ => True, YFn fun i => .int ((0 : Int) + (i : Nat)), ?_, fun _ _ => trivial, fun i d H2 v H3 hd _ y => ?_⟩ w1.2.2⟩
        · rw [List.length_map, List.length_range]
          exact walk_range
        · obtain ⟨y1, y2⟩ := y
          rw [List.getElem?_map] at hd
          by_cases hi : i < n.toNat
          · rw [List.getElem?_range hi] at hd
            cases hd
            subst y2
            refine .inl ⟨y1, ?_⟩
            have : (0 : Int) + (i : Nat) = (i : Nat) := Int.zero_add _
            show DR K C G1 (.int ((0 : Int) + (i : Nat))) (.int (i : Nat))
            rw [this]
            exact .int _
          · rw [List.getElem?_eq_none (by rw [List.length_range]; omega)] at hd
            cases hd
    · exact w1.elim⟩
theorem i_rng2 {w : WA} : ∀ σ H Q, tI K C U (wRng2 w) σ H Q → iRng2 (tA K C U w) σ H Q := fun σ H Q ⟨sl, rt, ρ, fps, G, k, s, xf, w, q⟩ =>
  ⟨sl, rt, ρ, fps, G, _, s, xf, w, fun xs rt1 fps1 G1 H1 vs r1 n1 v1 w1 => by
    split at w1
    · rename_i a b
      cases v1 with
      | cons h r =>
        cases r with
        | cons h2 r =>
        cases r
        cases h
        cases h2
        refine ⟨a, b, rfl, by omega, q _ rt1 fps1 G1 H1 _ r1 n1 ⟨fun _ => True, YFn fun i => .int (a + (i : Nat)), ?_, fun _ _ => trivial, fun i d H2 v H3 hd _ y => ?_⟩ w1.2.2⟩
        · rw [List.length_map, List.length_range]
          exact walk_range
        · obtain ⟨y1, y2⟩ := y
          rw [List.getElem?_map] at hd
          by_cases hi : i < (b - a).toNat
          · rw [List.getElem?_range hi] at hd
            cases hd
            subst y2
            exact .inl ⟨y1, .int _⟩
          · rw [List.getElem?_eq_none (by rw [List.length_range]; omega)] at hd
            cases hd
    · exact w1.elim⟩
theorem wi_rng1 {tg e : Expr} {w : WA} (h : PI X tg e (iRng1 (tA K C U w))) : PI X tg e (tI K C U (wRng1 w)) := pi_imp h i_rng1
theorem wi_rng2 {tg e : Expr} {w : WA} (h : PI X tg e (iRng2 (tA K C U w))) : PI X tg e (tI K C U (wRng2 w)) := pi_imp h i_rng2
/-- a list, a tuple, of data -/
def wItL (w : WE) : WI := fun sl rt k => w sl rt fun x rt1 => match x with
  | .dat (.lst ds) => k ds rt1
  | .dat (.ro ds) => k ds rt1
  | _ => False
def wItT (w : WE) : WI := fun sl rt k => w sl rt fun x rt1 => match x with
  | .dat (.tup ds) => k ds rt1
  | _ => False
theorem i_lst {w : WE} : ∀ σ H Q, tI K C U (wItL w) σ H Q → iList K (tE K C U w) σ H Q := fun σ H Q ⟨sl, rt, ρ, fps, G, k, s, xf, w, q⟩ =>
  ⟨sl, rt, ρ, fps, G, _, s, xf, w, fun x rt1 fps1 G1 H1 v r1 n1 v1 w1 => by
    have main : ∀ a xs ds, SqL K G1 a xs → DRs K C G1 xs ds → k ds rt1 → v = .ref a → ∃ a, v = .ref a ∧ (∃ xs, SqL K H1 a xs) ∧ Q (Itl K a) H1 := fun a xs ds h2 r hk e => by
      refine ⟨a, e, ⟨xs, ex_l r1.sub h2⟩, q ds rt1 fps1 G1 H1 _ r1 n1 ⟨fun H => SqL K H a xs, YAt xs, by rw [← r.len]; exact walk_list, fun H2 e2 => ex_l e2 h2, fun i d H2 v H3 hd _ y => ?_⟩ hk⟩
      obtain ⟨y1, y2⟩ := y
      obtain ⟨w, h3, h4⟩ := r.get hd
      rw [h3] at y2
      cases y2
      exact .inl ⟨y1, h4⟩
    split at w1
    · cases v1 with
      | lst h r => exact main _ _ _ (sq_of h) r w1 rfl
    · cases v1 with
      | ro h r => exact main _ _ _ h r w1 rfl
    · exact w1.elim⟩
theorem i_tup {w : WE} : ∀ σ H Q, tI K C U (wItT w) σ H Q → iTup K (tE K C U w) σ H Q := fun σ H Q ⟨sl, rt, ρ, fps, G, k, s, xf, w, q⟩ =>
  ⟨sl, rt, ρ, fps, G, _, s, xf, w, fun x rt1 fps1 G1 H1 v r1 n1 v1 w1 => by
    split at w1
    · cases v1 with
      | @tup a xs _ h2 r =>
        refine ⟨_, rfl, ⟨_, ex_t r1.sub h2⟩, q _ rt1 fps1 G1 H1 _ r1 n1 ⟨fun H => SqT K H a xs, YAt xs, by rw [← r.len]; exact walk_tup, fun H2 e2 => ex_t e2 h2, fun i d H2 v H3 hd _ y => ?_⟩ w1⟩
        obtain ⟨y1, y2⟩ := y
        obtain ⟨w, h3, h4⟩ := r.get hd
        rw [h3] at y2
        cases y2
        exact .inl ⟨y1, h4⟩
    · exact w1.elim⟩
theorem wi_list {tg e : Expr} {w : WE} (h : PE X e (tE X.K C U w)) : PI X tg e (tI X.K C U (wItL w)) := pi_imp (pi_list h) i_lst
theorem wi_tup {tg e : Expr} {w : WE} (h : PE X e (tE X.K C U w)) : PI X tg e (tI X.K C U (wItT w)) := pi_imp (pi_tup h) i_tup
/-- a turn's value: as data of a larger heap -/
theorem YD.step {d : D} {v : V} {H3 : Hp} (y : YD K C G d H v H3) (s : St K C sl rt σ ρ fps G' H) (e : Ex G G') : ∃ G3, St K C sl rt σ ρ fps G3 H3 ∧ Nx fps.flatten G' H G3 H3 fps.flatten ∧ DR K C G3 v d := by
  rcases y with ⟨rfl, h⟩ | ⟨p, xs, ds, hp, rfl, rfl, rfl, r⟩
  · exact ⟨G', s, Nx.refl _ _ _, DR.up e _ _ h⟩
  · have n := Nx.laid (o := .tup xs) s.sub hp fps.flatten
    exact ⟨_, s.step (s.toRSt.laid hp) n fun _ _ e => e, n, .tup (st_of upd_same) (DRs.up (e.trans (Ex.new (fresh_back s.sub hp))) _ _ r)⟩
def wFor (it : WI) (tg : Tg) (body : WS) : WS := fun Z sl rt => it ⟨sl, Z.ex⟩ rt fun ds rt1 => ∃ I : Nat → Slots → Roots → Prop, I 0 sl rt1 ∧
  (∀ i d sl' rt', ds[i]? = some d → I i sl' rt' → tg d sl' fun sl2 => body { Z with nx := Fg rt.length (I (i + 1)), ct := Fg rt.length (I (i + 1)), bk := Z.nx } sl2 rt') ∧ ∀ sl' rt', I ds.length sl' rt' → Z.nx sl' rt'
theorem s_for {it : WI} {g : TG} {tg : Tg} {body : WS} (hg : TgOk K C g tg) : ∀ D σ H, tS K C U (wFor it tg body) D σ H → tFor (tI K C U it) g (tS K C U body) D σ H := fun D σ H ⟨Z, sl, rt, ρ, fps, G, s, w, f⟩ =>
  ⟨⟨sl, Z.ex⟩, rt, ρ, fps, G, _, s, f.xf, w, fun ds rt1 fps1 G1 H1 J r1 n1 ⟨Gd, Y, wk, hGd, hY⟩ ⟨I, i0, it, fin⟩ => by
    have hl : ρ.length = rt.length := s.root.lens.1
    refine for_it wk (fun i σ' H' => ∃ sl' rt' ρ' fps' G', I i sl' rt' ∧ St K C sl' rt' σ' ρ' fps' G' H' ∧ Nx fps.flatten G H G' H' fps'.flatten ∧ Pre ρ ρ' ∧ Ex G1 G') ⟨sl, rt1, ρ, fps1, G1, i0, s.step r1 n1 fun _ _ e => e, n1, Pre.refl _, Ex.refl _⟩ (fun i σ' H' _ ⟨sl', rt', ρ', fps', G', _, s', _, _, e'⟩ => hGd H' (e'.trans s'.sub)) (fun i v σ' H' H3 hi ⟨sl', rt', ρ', fps', G', hI, s', n', p', e'⟩ y => ?_) fun σ' H' ⟨sl', rt', ρ', fps', G', hI, s', n', p', _⟩ => f.nx sl' rt' σ' ρ' fps' G' H' s' n' p' (fin sl' rt' hI)
    have hd : ds[i]? = some ds[i] := List.getElem?_eq_getElem hi
    obtain ⟨G3, s3, n3, d3⟩ := YD.step (hY i _ H' v H3 hd (e'.trans s'.sub) y) s' e'
    refine hg _ v sl' rt' σ' ρ' fps' G3 H3 _ _ s3 d3 (it i _ sl' rt' hd hI) fun sl2 σ2 hb s2 => ?_
    refine ⟨_, sl2, rt', ρ', fps', G3, s2, hb, ⟨?_, ?_, ?_, ?_, ?_, f.xf.later (n'.trans n3) p'⟩⟩
    · intro sl4 rt4 σ4 ρ4 fps4 G4 H4 s4 n4 p4 h
      obtain ⟨sl5, rt5, ρ5, fps5, s5, n5, p5, h5⟩ := Fg.back (ρ := ρ) (n := rt.length) h s4 ((n'.trans n3).trans n4) (p'.trans p4) (by omega)
      exact ⟨sl5, rt5, ρ5, fps5, G4, h5, s5, n5, p5, e'.trans (n3.g.trans n4.g)⟩
    · exact (f.later (n'.trans n3) p').rt
    · exact (f.later (n'.trans n3) p').ro
    · exact (f.later (n'.trans n3) p').nx
    · intro sl4 rt4 σ4 ρ4 fps4 G4 H4 s4 n4 p4 h
      obtain ⟨sl5, rt5, ρ5, fps5, s5, n5, p5, h5⟩ := Fg.back (ρ := ρ) (n := rt.length) h s4 ((n'.trans n3).trans n4) (p'.trans p4) (by omega)
      exact ⟨sl5, rt5, ρ5, fps5, G4, h5, s5, n5, p5, e'.trans (n3.g.trans n4.g)⟩⟩
theorem ws_for {it : WI} {g : TG} {tg : Tg} {wb : WS} (hg : TgOk K C g tg) (h : PS X st (tFor (tI K C U it) g (tS K C U wb))) : PS X st (tS K C U (wFor it tg wb)) := ps_imp h (s_for hg)
end
end Wv
end

section
set_option Elab.async false
set_option linter.all false
set_option maxRecDepth 100000
set_option maxHeartbeats 4000000
namespace Wv
open PySem PySem.Spec PyProof.Rows L2 Evl
section
variable {K : PySem.W.Frag} {C : Cs} {U : UX} {G H G' H' G1 H1 G2 H2 : Hp} {sl sl' : Slots} {rt rt' : Roots} {σ : L2.St} {ρ ρ' ρ1 : List Addr} {fps fps' fps1 : List (List Addr)}

/-! ### places handed to a callee -/
abbrev Pl := Nat × List Nat
/-- the roots of these values, each once -/
def rdd : List Nat → List Val → List Nat
  | rs, [] => rs
  | rs, .dat _ :: xs => rdd rs xs
  | rs, .ref r _ :: xs => rdd (if rs.contains r then rs else rs ++ [r]) xs
def plc (xs : List Val) : List Pl := (rdd [] xs).map fun r => (r, [])
/-- the values as the callee sees them: its roots are these -/
def renV (rs : List Nat) : Val → Val
  | .dat d => .dat d
  | .ref r p => .ref (rs.idxOf r) p
def ren (xs : List Val) : List Val := xs.map (renV (rdd [] xs))
def getR (rt : Roots) : List Pl → Option (List T)
  | [] => some []
  | (r, p) :: ps => match tat rt r p, getR rt ps with
    | some t, some ts => some (t :: ts)
    | _, _ => none
def putR (rt : Roots) : List Pl → List T → Roots
  | (r, p) :: ps, t :: ts => (putR rt ps ts).modify r (T.put t p)
  | _, _ => rt
def dst : List Pl → Bool
  | [] => true
  | (r, _) :: ps => ps.all (fun q => r != q.1) && dst ps
theorem mod_get {α : Type} (l : List α) (r : Nat) (f : α → α) (i : Nat) : (l.modify r f)[i]? = if r = i then (l[i]?).map f else l[i]? := by
  rw [List.getElem?_modify]
  split <;> simp_all
theorem put_put (u v : T) : ∀ (p : List Nat) (t : T), T.put u p (T.put v p t) = T.put u p t
  | [], _ => rfl
  | i :: p, t => by
    cases q : t.kids[i]? with
    | none => simp [T.put, q]
    | some x =>
      have hi := (List.getElem?_eq_some_iff.mp q).1
      cases t with
      | dat d => simp [T.kids] at q
      | lst ts =>
        have q' : ts[i]? = some x := q
        have hi' : i < ts.length := hi
        simp only [T.put, T.kids, q', T.withKids]
        rw [List.getElem?_set_self hi']
        simp only [put_put u v p x, List.set_set]
      | obj c ts =>
        have q' : ts[i]? = some x := q
        have hi' : i < ts.length := hi
        simp only [T.put, T.kids, q', T.withKids]
        rw [List.getElem?_set_self hi']
        simp only [put_put u v p x, List.set_set]
theorem tat_mod (rt : Roots) (r : Nat) (f : T → T) (i : Nat) (p : List Nat) (h : r ≠ i) : tat (rt.modify r f) i p = tat rt i p := by
  unfold tat
  rw [mod_get, if_neg h]
theorem getR_mod (rt : Roots) (r : Nat) (f : T → T) : ∀ ps : List Pl, (ps.all fun q => r != q.1) = true → getR (rt.modify r f) ps = getR rt ps
  | [], _ => rfl
  | (i, p) :: ps, h => by
    simp only [List.all_cons, Bool.and_eq_true] at h
    have h1 : r ≠ i := bne_iff_ne.mp h.1
    show (match tat (rt.modify r f) i p, getR (rt.modify r f) ps with | some t, some ts => some (t :: ts) | _, _ => none) = _
    rw [tat_mod rt r f i p h1, getR_mod rt r f ps h.2]
    rfl
theorem putR_mod (rt : Roots) (r : Nat) (f : T → T) : ∀ (ps : List Pl) (ts : List T), (ps.all fun q => r != q.1) = true → putR (rt.modify r f) ps ts = (putR rt ps ts).modify r f
  | [], _, _ => by simp [putR]
  | _ :: _, [], _ => by simp [putR]
  | (i, p) :: ps, t :: ts, h => by
    simp only [List.all_cons, Bool.and_eq_true] at h
    have h1 : r ≠ i := bne_iff_ne.mp h.1
    show (putR (rt.modify r f) ps ts).modify i (T.put t p) = ((putR rt ps ts).modify i (T.put t p)).modify r f
    rw [putR_mod rt r f ps ts h.2]
    refine List.ext_getElem? fun j => ?_
    simp only [mod_get]
    by_cases e1 : i = j
    · by_cases e2 : r = j
      · exact absurd (e2.trans e1.symm) h1
      · simp [e1, e2]
    · by_cases e2 : r = j <;> simp [e1, e2]
theorem putR_at (rt : Roots) (r : Nat) : ∀ (ps : List Pl) (ts : List T), (ps.all fun q => r != q.1) = true → (putR rt ps ts)[r]? = rt[r]?
  | [], _, _ => by simp [putR]
  | _ :: _, [], _ => by simp [putR]
  | (i, p) :: ps, t :: ts, h => by
    simp only [List.all_cons, Bool.and_eq_true] at h
    have h1 : r ≠ i := bne_iff_ne.mp h.1
    show ((putR rt ps ts).modify i (T.put t p))[r]? = _
    rw [mod_get, if_neg fun z => h1 z.symm]
    exact putR_at rt r ps ts h.2
theorem Rts.at (s : Rts K C G H rt ρ fps) {r : Nat} {p : List Nat} {t : T} {a : Addr} (h : tat rt r p = some t) (ha : ρ[r]? = some a) : ∃ w L fu R, fol H p (.ref a) = some w ∧ TR K C G H w t fu ∧ fps.flatten = L ++ (fu ++ R) ∧
    ∀ (G' H' : Hp) (t' : T) (fu' : List Addr), Ex G G' → (∀ a ∈ L ++ R, H' a = H a) → TR K C G' H' w t' fu' → ∃ fps', Rts K C G' H' (rt.modify r (T.put t' p)) ρ fps' ∧ fps'.flatten = L ++ (fu' ++ R) := by
  unfold tat at h
  cases q : rt[r]? with
  | none => rw [q] at h; cases h
  | some u =>
    rw [q] at h
    obtain ⟨b, L, fu, R, h1, h2, h3, h4⟩ := s.split q
    rw [ha] at h1
    cases h1
    obtain ⟨w, L2, fu2, R2, k1, k2, k3, k4⟩ := h2.node h
    refine ⟨w, L ++ L2, fu2, R2 ++ R, k1, k2, by rw [h3, k3]; simp, fun G' H' t' fu' eg st h' => ?_⟩
    have e : rt.modify r (T.put t' p) = rt.set r (T.put t' p u) := by
      refine List.ext_getElem? fun i => ?_
      rw [mod_get, List.getElem?_set]
      by_cases z : r = i
      · subst z
        have := (List.getElem?_eq_some_iff.mp q).1
        have e2 : rt[r] = u := by rw [List.getElem?_eq_getElem this] at q; exact Option.some.inj q
        simp [this, e2]
      · simp [z]
    rw [e]
    obtain ⟨fps', y1, y2⟩ := h4 G' H' (T.put t' p u) (L2 ++ (fu' ++ R2)) eg (fun b hb => st b (by rcases List.mem_append.mp hb with y | y <;> simp [y])) (k4 G' H' t' fu' eg (fun b hb => st b (by rcases List.mem_append.mp hb with y | y <;> simp [y])) h')
    exact ⟨fps', y1, by rw [y2]; simp⟩
/-- the trees at these places, taken out and put back -/
theorem Rts.borrow : ∀ {ps : List Pl} {rt : Roots} {fps : List (List Addr)} {ts : List T} {bs : List Addr}, Rts K C G H rt ρ fps → dst ps = true → getR rt ps = some ts → Paired (fun (q : Pl) b => ∃ a, ρ[q.1]? = some a ∧ fol H q.2 (.ref a) = some (.ref b) ∧ NodeV H (.ref b)) ps bs →
    ∃ fpsc rst, Rts K C G H ts bs fpsc ∧ fps.flatten.Perm (fpsc.flatten ++ rst) ∧ ∀ (G' H' : Hp) (ts' : List T) (fpsc' : List (List Addr)), Ex G G' → Idn H H' → (∀ a ∈ rst, H' a = H a) → Rts K C G' H' ts' bs fpsc' → ∃ fps', Rts K C G' H' (putR rt ps ts') ρ fps' ∧ fps'.flatten.Perm (fpsc'.flatten ++ rst)
  | [], rt, fps, ts, [], s, _, e, .nil => by
    cases e
    refine ⟨[], fps.flatten, .nil, by simp, fun G' H' ts' fpsc' eg _ st r => ?_⟩
    cases r
    exact ⟨fps, s.stay eg st, by simp⟩
  | (r, p) :: ps, rt, fps, ts, b :: bs, s, d, e, .cons ⟨a, ha, hf, hn⟩ hp => by
    simp only [dst, Bool.and_eq_true] at d
    simp only [getR] at e
    cases q1 : tat rt r p with
    | none => rw [q1] at e; cases e
    | some t =>
      cases q2 : getR rt ps with
      | none => rw [q1, q2] at e; cases e
      | some us =>
        rw [q1, q2] at e
        cases e
        obtain ⟨w, L, fu, R, k1, k2, k3, k4⟩ := s.at q1 ha
        rw [hf] at k1
        cases k1
        obtain ⟨fps1, y1, y2⟩ := k4 G H (.dat .any) [] (Ex.refl G) (fun _ _ => rfl) (.dat (.any _))
        have ge := getR_mod rt r (T.put (.dat .any) p) ps d.1
        obtain ⟨fpsc, rst, i1, i2, i3⟩ := Rts.borrow (ps := ps) y1 d.2 (ge.trans q2) hp
        refine ⟨fu :: fpsc, rst, .cons k2 i1, ?_, fun G' H' ts' fpsc' eg idn st rc => ?_⟩
        · rw [k3]
          have h1 : (L ++ (fu ++ R)).Perm (fu ++ (L ++ R)) := by
            rw [← List.append_assoc, ← List.append_assoc]
            exact List.Perm.append_right R List.perm_append_comm
          refine h1.trans ?_
          rw [List.flatten_cons, List.append_assoc]
          refine List.Perm.append_left fu ?_
          rw [y2] at i2
          simpa using i2
        · cases rc with
          | @cons t' _ fu' ts'' _ fpsc'' h' rc =>
            obtain ⟨fps2, z1, z2⟩ := i3 G' H' ts'' fpsc'' eg idn st rc
            have hat : tat (putR (rt.modify r (T.put (.dat .any) p)) ps ts'') r p = some (.dat .any) := by
              unfold tat
              rw [putR_at _ r ps ts'' d.1, mod_get, if_pos rfl]
              unfold tat at q1
              cases q3 : rt[r]? with
              | none => rw [q3] at q1; cases q1
              | some u0 =>
                rw [q3] at q1
                have q1 : T.at p u0 = some t := q1
                show T.at p (T.put (.dat .any) p u0) = _
                have : ∀ (p : List Nat) (u0 t v : T), T.at p u0 = some t → T.at p (T.put v p u0) = some v := by
                  intro p
                  induction p with
                  | nil => exact fun _ _ _ _ => rfl
                  | cons i p ih =>
                    intro u0 t v h
                    cases q : u0.kids[i]? with
                    | none => simp [T.at, q] at h
                    | some x =>
                      have hx : T.at p x = some t := by simpa [T.at, q] using h
                      have hi := (List.getElem?_eq_some_iff.mp q).1
                      cases u0 with
                      | dat d => simp [T.kids] at q
                      | lst ts =>
                        have hi' : i < ts.length := hi
                        have q' : ts[i]? = some x := q
                        simp only [T.put, T.kids, q', T.withKids, T.at]
                        rw [List.getElem?_set_self hi']
                        exact ih x t v hx
                      | obj c ts =>
                        have hi' : i < ts.length := hi
                        have q' : ts[i]? = some x := q
                        simp only [T.put, T.kids, q', T.withKids, T.at]
                        rw [List.getElem?_set_self hi']
                        exact ih x t v hx
                exact this p u0 t _ q1
            obtain ⟨w2, L2, fu2, R2, m1, m2, m3, m4⟩ := z1.at hat ha
            have m0 := (idn p _ _ hf hn).1
            rw [m0] at m1
            cases m1
            obtain ⟨fps3, n1, n2⟩ := m4 G' H' t' fu' (Ex.refl _) (fun _ _ => rfl) h'
            refine ⟨fps3, ?_, ?_⟩
            · have e2 : (putR (rt.modify r (T.put (.dat .any) p)) ps ts'').modify r (T.put t' p) = putR rt ((r, p) :: ps) (t' :: ts'') := by
                rw [putR_mod rt r _ ps ts'' d.1]
                show _ = (putR rt ps ts'').modify r (T.put t' p)
                refine List.ext_getElem? fun j => ?_
                simp only [mod_get]
                by_cases e1 : r = j
                · simp only [e1, if_true, Option.map_map]
                  congr 1
                  funext x
                  exact put_put _ _ _ _
                · simp [e1]
              rw [← e2]
              exact n1
            · rw [n2]
              have e3 : fu2 = [] := by cases m2; rfl
              subst e3
              have h1 : (L2 ++ (fu' ++ R2)).Perm (fu' ++ (L2 ++ R2)) := by
                rw [← List.append_assoc, ← List.append_assoc]
                exact List.Perm.append_right R2 List.perm_append_comm
              refine h1.trans ?_
              rw [List.flatten_cons, List.append_assoc]
              refine List.Perm.append_left fu' ?_
              rw [m3] at z2
              simpa using z2

/-! ### defs -/
abbrev CW := List Val → Roots → (T → Roots → Prop) → (Exn → Roots → Prop) → Prop
variable (K C)
def spW (cw : CW) : Sp := fun vs H Q E => ∃ G ρ fps args rt k kx, RSt K C rt ρ fps G H ∧ VRs K C G H ρ args vs ∧ cw args rt k kx ∧
  (∀ t rt' fps' fp G' H' v, RSt K C rt' ρ fps' G' H' → Nx fps.flatten G H G' H' fps'.flatten → Own K C fps' G' H' t v fp → (∀ a ∈ fp, a ∈ fps.flatten ∨ H a = none) → k t rt' → Q v H') ∧
  ∀ x rt' fps' G' H' cls d, RSt K C rt' ρ fps' G' H' → Nx fps.flatten G H G' H' fps'.flatten → XR K C G' H' x cls d → kx x rt' → E cls d H'
variable {K C}
/-- what a call of w's def gives: n more slots than parameters -/
def cwOf (m n : Nat) (w : WS) : CW := fun args rt k kx => args.length = m ∧ w
  { nx := fun _ rt' => k (.dat .non) (rt'.take rt.length)
    rt := fun x rt' => match x with
      | .dat d => k (.dat d) (rt'.take rt.length)
      | .ref r [] => rt.length ≤ r ∧ match rt'[r]? with
        | some t => k t (rt'.take rt.length)
        | none => False
      | _ => False
    ro := fun t rt' => k t (rt'.take rt.length)
    ex := fun x _ rt' => kx x (rt'.take rt.length) } (args.map some ++ List.replicate n none) rt
theorem pre_take (p : Pre ρ ρ') : ρ'.take ρ.length = ρ := by
  refine List.ext_getElem? fun i => ?_
  by_cases h : i < ρ.length
  · rw [List.getElem?_take_of_lt h, p i ρ[i] (List.getElem?_eq_getElem h), List.getElem?_eq_getElem h]
  · have h1 : ρ[i]? = none := List.getElem?_eq_none (by omega)
    have h2 : (ρ'.take ρ.length)[i]? = none := List.getElem?_eq_none (by rw [List.length_take]; omega)
    rw [h1, h2]
/-- the reading at a def's entry -/
theorem w_enter {N ps : List Str} {n : Nat} {body : WS} {vs : List V} {Q : VK} {E : XK} (hn : N.length = ps.length + n) (h : spW K C (cwOf ps.length n body) vs H Q E) : tS K C (fun c d _ H => E c d H) body { nx := fun _ H' => Q .non H', rt := Q } (L2.start N vs) H := by
  obtain ⟨G, ρ, fps, args, rt, k', kx, r, va, ⟨h1, w⟩, q, qx⟩ := h
  have hl := r.root.lens.1
  refine ⟨_, _, rt, ρ, fps, G, ⟨r, ?_, ?_⟩, w, ⟨?_, ?_, ?_, ?_, ?_, ?_⟩⟩
  · unfold L2.start
    simp only [List.length_append, List.length_map, List.length_replicate]
    rw [va.len, h1]
    omega
  · intro i x e
    by_cases hi : i < args.length
    · rw [List.getElem?_append_left (by rw [List.length_map]; exact hi), List.getElem?_map] at e
      cases e2 : args[i]? with
      | none => rw [e2] at e; cases e
      | some y =>
        rw [e2] at e
        cases e
        obtain ⟨v, h2, h3⟩ := va.get e2
        refine ⟨v, ?_, h3⟩
        unfold L2.start
        rw [List.getElem?_append_left (by rw [List.length_map, va.len]; exact hi), List.getElem?_map, h2]
        rfl
    · rw [List.getElem?_append_right (by rw [List.length_map]; omega), List.getElem?_replicate] at e
      split at e <;> cases e
  · intro sl' rt' σ' ρ' fps' G' H' s' n' p' h
    have r2 := s'.toRSt.take ρ.length
    rw [pre_take p', hl] at r2
    exact q (.dat .non) _ _ [] G' H' .non r2 (n'.less (flat_take _)) (Own.dat .non) (fun _ z => nomatch z) h
  · intro x rt' ρ' fps' G' H' v s' n' p' vr h
    have r2 := s'.take ρ.length
    rw [pre_take p', hl] at r2
    dsimp only at h
    split at h
    · exact q _ _ _ [] G' H' v r2 (n'.less (flat_take _)) (Own.dat vr) (fun _ z => nomatch z) h
    · rename_i r
      obtain ⟨h2, h⟩ := h
      split at h
      · rename_i t ht
        obtain ⟨a, z1, z2, z3⟩ := vr
        cases Option.some.inj z2
        -- the root apart from the first ones
        have hd : rt' = rt'.take rt.length ++ rt'.drop rt.length := (List.take_append_drop _ _).symm
        obtain ⟨fr, hfr⟩ : ∃ fr, fps'[r]? = some fr := ⟨_, List.getElem?_eq_getElem (by rw [s'.root.lens.2]; exact (List.getElem?_eq_some_iff.mp ht).1)⟩
        have tr : ∀ {rt : Roots} {ρ : List Addr} {fps : List (List Addr)} {r : Nat} {t : T} {a : Addr} {fr : List Addr}, Rts K C G' H' rt ρ fps → rt[r]? = some t → ρ[r]? = some a → fps[r]? = some fr → TR K C G' H' (.ref a) t fr := by
          intro rt ρ fps r t a fr h
          induction h generalizing r with
          | nil => intro e; simp at e
          | cons h _ ih =>
            intro e1 e2 e3
            cases r with
            | zero => cases Option.some.inj e1; cases Option.some.inj e2; cases Option.some.inj e3; exact h
            | succ r => exact ih e1 e2 e3
        have nd := s'.nd
        rw [← List.take_append_drop rt.length fps', List.flatten_append] at nd
        have nd := List.nodup_append.mp nd
        have inD : ∀ a ∈ fr, a ∈ (fps'.drop rt.length).flatten := fun a ha => List.mem_flatten.mpr ⟨fr, by
          refine List.mem_of_getElem? (i := r - rt.length) ?_
          rw [List.getElem?_drop]
          rw [show rt.length + (r - rt.length) = r by omega]
          exact hfr, ha⟩
        refine q t _ _ fr G' H' _ r2 (n'.less (flat_take _)) ⟨tr s'.root ht z1 hfr, ?_, fun a ha z => nd.2.2 a z a (inD a ha) rfl, fun a ha => s'.fr a ?_⟩ (fun a ha => n'.new a ?_) h
        · have : fr.Sublist fps'.flatten := List.sublist_flatten_of_mem (List.mem_of_getElem? hfr)
          exact List.Nodup.sublist this s'.nd
        · exact List.mem_flatten.mpr ⟨fr, List.mem_of_getElem? hfr, ha⟩
        · exact List.mem_flatten.mpr ⟨fr, List.mem_of_getElem? hfr, ha⟩
      · exact h.elim
    · exact h.elim
  · intro t rt' ρ' fps' fp G' H' v s' n' p' o new h
    have r2 := s'.take ρ.length
    rw [pre_take p', hl] at r2
    exact q t _ _ fp G' H' v r2 (n'.less (flat_take _)) ⟨o.tr, o.nd, fun a ha z => o.ap a ha (flat_take _ a z), o.fr⟩ new h
  · exact fun _ _ _ _ _ _ _ _ _ _ h => h.elim
  · exact fun _ _ _ _ _ _ _ _ _ _ h => h.elim
  · intro x sl' rt' σ' ρ' fps' G' H' cls d s' n' p' xr h
    have r2 := s'.toRSt.take ρ.length
    rw [pre_take p', hl] at r2
    exact qx x _ _ G' H' cls d r2 (n'.less (flat_take _)) xr h
theorem spW_len {ps : List Str} {n : Nat} {body : WS} {vs : List V} {Q : VK} {E : XK} (h : spW K C (cwOf ps.length n body) vs H Q E) : vs.length = ps.length := by
  obtain ⟨G, ρ, fps, args, rt, k, kx, r, v, ⟨h1, _⟩, _⟩ := h
  rw [v.len, h1]
/-- a def that may let errors out -/
theorem ok_W {P : Program} {w : World} {mg : Str → Option Value} {base : Heap} {x qual : Str} {st : Stmt} {f : Addr} {fd : FuncData} {N ps : List Str} {k n : Nat} {body : WS}
    (F : Fun K x qual st f fd) (S : FnScope N ps (defScope st)) (hn : N.length = ps.length + n)
    (der : ∀ (cdv : Value) (A : Around) (outer : List Env) (s : Shared) (H : Hp) (E : XK), Room k (A.deeper (envOfC qual (defScope st) s.heap.objs.size f cdv)) → L2N.Takes (cxOf (L2N.CX P w) P w K mg base N qual (defScope st) f cdv A outer s H E) (fun c d _ H => E c d H) →
      PSs (cxOf (L2N.CX P w) P w K mg base N qual (defScope st) f cdv A outer s H E) (defBody st) (tS K C (fun c d _ H => E c d H) body)) :
    FnOk P w K mg base (L2N.CX P w) (k + 1) f fd ps (spW K C (cwOf ps.length n body)) := by
  obtain ⟨oc, od, kV, doc, pm, an, cdv, ct, osl, rfl, lk, hcd⟩ := F.ex
  exact fn_of lk hcd S (fun vs H Q E h => spW_len h) fun A outer s H vs Q E hr h => ⟨_, der cdv A outer s H E hr (L2N.takes_of rfl rfl rfl rfl), w_enter hn h⟩
/-- a def that lets none out -/
theorem ok_W0 {P : Program} {w : World} {mg : Str → Option Value} {base : Heap} {x qual : Str} {st : Stmt} {f : Addr} {fd : FuncData} {N ps : List Str} {k n : Nat} {body : WS}
    (F : Fun K x qual st f fd) (S : FnScope N ps (defScope st)) (hn : N.length = ps.length + n)
    (der : ∀ (cdv : Value) (A : Around) (outer : List Env) (s : Shared) (H : Hp) (E : XK), Room k (A.deeper (envOfC qual (defScope st) s.heap.objs.size f cdv)) → L2N.Takes (cxOf CX0 P w K mg base N qual (defScope st) f cdv A outer s H E).nox (fun _ _ _ _ => False) →
      PSs (cxOf CX0 P w K mg base N qual (defScope st) f cdv A outer s H E).nox (defBody st) (tS K C (fun _ _ _ _ => False) body)) :
    FnOk P w K mg base CX0 (k + 1) f fd ps (fun vs H Q _ => spW K C (cwOf ps.length n body) vs H Q fun _ _ _ => False) := by
  refine F.ok S (fun vs H Q E h => spW_len h) (fun cdv A outer s H vs Q E hr h => ⟨_, der cdv A outer s H E hr (fun u s' x => ?_), w_enter hn h⟩)
  obtain ⟨_, _, _, _, _, _, _, _, _, _, _, _, _, _, _, _, z⟩ := x
  exact z.elim
end
end Wv
end

section
set_option Elab.async false
set_option linter.all false
set_option maxRecDepth 100000
set_option maxHeartbeats 4000000
namespace Wv
open PySem PySem.Spec PyProof.Rows L2 Evl
section
variable {K : PySem.W.Frag} {C : Cs} {U : UX} {G H G' H' G1 H1 G2 H2 : Hp} {sl sl' : Slots} {rt rt' : Roots} {σ : L2.St} {ρ ρ' ρ1 : List Addr} {fps fps' fps1 : List (List Addr)}
variable {X : Cx} {CX : CXT} {a b c e o : Expr} {es rest : List Expr} {wa wb wc : WE} {pos p apos : Pos} {Z : WEnds} {E : L2.St → XK} {st : Stmt} {k : Nat} {f Ca : Addr} {fd : FuncData} {ps : List Str} {sp : Sp} {x m : Str} {ta : TE} {t : TA} {ds : List Value}
theorem rdd_mem : ∀ (xs : List Val) (rs : List Nat), (∀ r ∈ rs, r ∈ rdd rs xs) ∧ ∀ r p, Val.ref r p ∈ xs → r ∈ rdd rs xs
  | [], rs => ⟨fun _ h => h, fun _ _ h => nomatch h⟩
  | .dat d :: xs, rs => by
    obtain ⟨h1, h2⟩ := rdd_mem xs rs
    refine ⟨h1, fun r p h => ?_⟩
    rcases List.mem_cons.mp h with z | z
    · cases z
    · exact h2 r p z
  | .ref i q :: xs, rs => by
    obtain ⟨h1, h2⟩ := rdd_mem xs (if rs.contains i then rs else rs ++ [i])
    refine ⟨fun r h => h1 r ?_, fun r p h => ?_⟩
    · split
      · exact h
      · simp [h]
    · rcases List.mem_cons.mp h with z | z
      · injection z with z1 z2
        subst z1
        refine h1 r ?_
        split
        · rename_i c
          simpa using c
        · simp
      · exact h2 r p z
theorem node_root {p : List Nat} {a : Addr} {v : V} (h : fol H p (.ref a) = some v) (n : NodeV H v) : NodeV H (.ref a) := by
  cases p with
  | nil => cases Option.some.inj h; exact n
  | cons j p =>
    have h : (match H a with | some (.lst xs) => (xs[j]?).bind (fol H p) | some (.ins _ _ fs) => ((fs.map Prod.snd)[j]?).bind (fol H p) | _ => none) = some v := h
    split at h
    · rename_i xs hb
      exact ⟨a, rfl, .inl ⟨xs, hb⟩⟩
    · rename_i c dx fs hb
      exact ⟨a, rfl, .inr ⟨c, dx, fs, hb⟩⟩
    · cases h
theorem VRs.mem : ∀ {xs : List Val} {vs : List V}, VRs K C G H ρ xs vs → ∀ x ∈ xs, ∃ v, VR K C G H ρ x v
  | _, _, .nil => fun _ h => nomatch h
  | _, _, .cons h r => fun x hx => by
    rcases List.mem_cons.mp hx with z | z
    · subst z; exact ⟨_, h⟩
    · exact VRs.mem r x z
theorem rdd_only : ∀ (xs : List Val) (rs : List Nat), ∀ r ∈ rdd rs xs, r ∈ rs ∨ ∃ p, Val.ref r p ∈ xs
  | [], rs => fun _ h => .inl h
  | .dat d :: xs, rs => fun r h => by
    rcases rdd_only xs rs r h with z | ⟨p, z⟩
    · exact .inl z
    · exact .inr ⟨p, List.mem_cons_of_mem _ z⟩
  | .ref i q :: xs, rs => fun r h => by
    rcases rdd_only xs _ r h with z | ⟨p, z⟩
    · split at z
      · exact .inl z
      · rcases List.mem_append.mp z with y | y
        · exact .inl y
        · have : r = i := by simpa using y
          subst this
          exact .inr ⟨q, List.mem_cons_self⟩
    · exact .inr ⟨p, List.mem_cons_of_mem _ z⟩
theorem vr_ren {xs : List Val} {vs : List V} (h : VRs K C G H ρ xs vs) : ∃ bs, Paired (fun (q : Pl) b => ∃ a, ρ[q.1]? = some a ∧ fol H q.2 (.ref a) = some (.ref b) ∧ NodeV H (.ref b)) (plc xs) bs ∧ VRs K C G H bs (ren xs) vs := by
  have each : ∀ rs : List Nat, (∀ r ∈ rs, ∃ a, ρ[r]? = some a ∧ NodeV H (.ref a)) → ∃ bs, Paired (fun (q : Pl) b => ∃ a, ρ[q.1]? = some a ∧ fol H q.2 (.ref a) = some (.ref b) ∧ NodeV H (.ref b)) (rs.map fun r => (r, [])) bs ∧ ∀ r ∈ rs, ∃ a, ρ[r]? = some a ∧ bs[rs.idxOf r]? = some a := by
    intro rs
    induction rs with
    | nil => exact fun _ => ⟨[], .nil, fun _ z => nomatch z⟩
    | cons r rs ih =>
      intro h
      obtain ⟨bs, h1, h2⟩ := ih fun x hx => h x (List.mem_cons_of_mem _ hx)
      obtain ⟨a, ha, hn⟩ := h r List.mem_cons_self
      refine ⟨a :: bs, .cons ⟨a, ha, rfl, hn⟩ h1, fun x hx => ?_⟩
      by_cases e : r = x
      · subst e
        exact ⟨a, ha, by simp⟩
      · rcases List.mem_cons.mp hx with z | z
        · exact absurd z.symm e
        · obtain ⟨b, k1, k2⟩ := h2 x z
          refine ⟨b, k1, ?_⟩
          rw [List.idxOf_cons]
          have : (r == x) = false := by simpa using e
          rw [this]
          exact k2
  have hroot : ∀ r ∈ rdd [] xs, ∃ a, ρ[r]? = some a ∧ NodeV H (.ref a) := fun r hr => by
    rcases rdd_only xs [] r hr with z | ⟨p, z⟩
    · cases z
    · obtain ⟨v, a, h1, h2, h3⟩ := h.mem _ z
      exact ⟨a, h1, node_root h2 h3⟩
  obtain ⟨bs, h1, h2⟩ := each _ hroot
  refine ⟨bs, h1, ?_⟩
  have gen : ∀ {ys : List Val} {us : List V}, VRs K C G H ρ ys us → (∀ r p, Val.ref r p ∈ ys → r ∈ rdd [] xs) → VRs K C G H bs (ys.map (renV (rdd [] xs))) us := by
    intro ys us hy
    induction hy with
    | nil => exact fun _ => .nil
    | @cons x v ys us hx _ ih =>
      intro hm
      refine .cons ?_ (ih fun r p hr => hm r p (List.mem_cons_of_mem _ hr))
      cases x with
      | dat d => exact hx
      | ref r p =>
        obtain ⟨a, k1, k2, k3⟩ := hx
        obtain ⟨b, q1, q2⟩ := h2 r (hm r p List.mem_cons_self)
        rw [k1] at q1
        cases q1
        exact ⟨a, q2, k2, k3⟩
  exact gen h fun r p hr => (rdd_mem xs []).2 r p hr
/-- behind a callee: the caller's own state -/
theorem borrowed {xs : List Val} {vs : List V} {ts : List T} (r : RSt K C rt ρ fps G H) (v : VRs K C G H ρ xs vs) (hd : dst (plc xs) = true) (hg : getR rt (plc xs) = some ts) : ∃ bs fpsc, RSt K C ts bs fpsc G H ∧ VRs K C G H bs (ren xs) vs ∧ (∀ a ∈ fpsc.flatten, a ∈ fps.flatten) ∧
    ∀ ts' fpsc' G' H', RSt K C ts' bs fpsc' G' H' → Nx fpsc.flatten G H G' H' fpsc'.flatten → ∃ fps', RSt K C (putR rt (plc xs) ts') ρ fps' G' H' ∧ Nx fps.flatten G H G' H' fps'.flatten ∧ ∀ fp : List Addr, (∀ a ∈ fp, a ∉ fpsc'.flatten) → (∀ a ∈ fp, a ∈ fpsc.flatten ∨ H a = none) → ∀ a ∈ fp, a ∉ fps'.flatten := by
  obtain ⟨bs, h1, h2⟩ := vr_ren v
  obtain ⟨fpsc, rst, i1, i2, i3⟩ := r.root.borrow hd hg h1
  have nd := i2.nodup_iff.mp r.nd
  have nd1 := List.nodup_append.mp nd
  have mem : ∀ a, a ∈ fps.flatten ↔ a ∈ fpsc.flatten ++ rst := fun a => i2.mem_iff
  refine ⟨bs, fpsc, ⟨r.sub, i1, nd1.1, fun a ha => r.fr a ((mem a).mpr (by simp [ha]))⟩, h2, fun a ha => (mem a).mpr (by simp [ha]), fun ts' fpsc' G' H' r' n' => ?_⟩
  have rin : ∀ a ∈ rst, H a ≠ none := fun a ha => r.root.inH a ((mem a).mpr (by simp [ha]))
  have rout : ∀ a ∈ rst, a ∉ fpsc.flatten := fun a ha z => nd1.2.2 a z a ha rfl
  have rkeep : ∀ a ∈ rst, H' a = H a ∧ G' a = none := fun a ha => by
    cases z : H a with
    | none => exact absurd z (rin a ha)
    | some o =>
      obtain ⟨k1, k2⟩ := n'.keep a o z (rout a ha)
      exact ⟨k1, k2 (r.fr a ((mem a).mpr (by simp [ha])))⟩
  have dis : ∀ a ∈ rst, a ∉ fpsc'.flatten := fun a ha z => by
    rcases n'.new a z with y | y
    · exact rout a ha y
    · exact rin a ha y
  obtain ⟨fps', z1, z2⟩ := i3 G' H' ts' fpsc' n'.g n'.idn (fun a ha => (rkeep a ha).1) r'.root
  have mem' : ∀ a, a ∈ fps'.flatten ↔ a ∈ fpsc'.flatten ++ rst := fun a => z2.mem_iff
  refine ⟨fps', ⟨r'.sub, z1, z2.nodup_iff.mpr (List.nodup_append.mpr ⟨r'.nd, nd1.2.1, fun a ha b hb e => dis b hb (by rw [← e]; exact ha)⟩), fun a ha => ?_⟩, ⟨n'.g, fun l u h z => ?_, n'.dom, fun l hl => ?_, n'.idn⟩, fun fp h1 h2 a ha z => ?_⟩
  · rcases List.mem_append.mp ((mem' a).mp ha) with y | y
    · exact r'.fr a y
    · exact (rkeep a y).2
  · exact n'.keep l u h fun y => z ((mem l).mpr (by simp [y]))
  · rcases List.mem_append.mp ((mem' l).mp hl) with y | y
    · rcases n'.new l y with x | x
      · exact .inl ((mem l).mpr (by simp [x]))
      · exact .inr x
    · exact .inl ((mem l).mpr (by simp [y]))
  · rcases List.mem_append.mp ((mem' a).mp z) with y | y
    · exact h1 a ha y
    · rcases h2 a ha with x | x
      · exact rout a y x
      · exact rin a y x
/-- a def is called: its promise from where the caller stands -/
theorem sp_use {cw : CW} {xs : List Val} {vs : List V} {ts : List T} {k : T → Roots → Prop} {kx : Exn → Roots → Prop} {Q : VK} {E : XK} (r : RSt K C rt ρ fps G H) (v : VRs K C G H ρ xs vs) (hd : dst (plc xs) = true) (hg : getR rt (plc xs) = some ts)
    (w : cw (ren xs) ts (fun t ts' => k t (putR rt (plc xs) ts')) fun x ts' => kx x (putR rt (plc xs) ts')) (q : ∀ t rt' fps' fp G' H' v, RSt K C rt' ρ fps' G' H' → Nx fps.flatten G H G' H' fps'.flatten → Own K C fps' G' H' t v fp → (∀ a ∈ fp, a ∈ fps.flatten ∨ H a = none) → k t rt' → Q v H')
    (qx : ∀ x rt' fps' G' H' cls d, RSt K C rt' ρ fps' G' H' → Nx fps.flatten G H G' H' fps'.flatten → XR K C G' H' x cls d → kx x rt' → E cls d H') : spW K C cw vs H Q E := by
  obtain ⟨bs, fpsc, b1, b2, b3, b4⟩ := borrowed r v hd hg
  refine ⟨G, bs, fpsc, ren xs, ts, _, _, b1, b2, w, ?_, ?_⟩
  · intro t ts' fpsc' fp G' H' v r' n' o' new hk
    obtain ⟨fps', z1, z2, z3⟩ := b4 ts' fpsc' G' H' r' n'
    exact q t _ fps' fp G' H' v z1 z2 ⟨o'.tr, o'.nd, z3 fp o'.ap new, o'.fr⟩ (fun a ha => (new a ha).imp (b3 a) id) hk
  · intro x ts' fpsc' G' H' cls d r' n' xr hk
    obtain ⟨fps', z1, z2, z3⟩ := b4 ts' fpsc' G' H' r' n'
    exact qx x _ fps' G' H' cls d z1 z2 xr hk
/-- f(..) -/
def wCall (cw : CW) (w : WA) : WO := fun sl rt k => w sl rt fun xs rt1 => dst (plc xs) = true ∧ match getR rt1 (plc xs) with
  | some ts => cw (ren xs) ts (fun t ts' => k t (putR rt1 (plc xs) ts')) fun x ts' => sl.ex x sl.sl (putR rt1 (plc xs) ts')
  | none => False
theorem o_call {cw : CW} {w : WA} : ∀ σ H Q, tO K C U (wCall cw w) σ H Q → tCallS (spW K C cw) (fun σ cls d H => U cls d σ H) (tA K C U w) σ H Q := fun σ H Q ⟨sl, rt, ρ, fps, G, k, s, xf, w, q⟩ =>
  ⟨sl, rt, ρ, fps, G, _, s, xf, w, fun xs rt1 fps1 G1 H1 vs r1 n1 v1 ⟨hd, w1⟩ => by
    split at w1
    · rename_i ts ht
      exact sp_use r1 v1 hd ht w1 (fun t rt' fps' fp G' H' v r' n' o' new hk => q t rt' fps' fp G' H' v r' (n1.trans n') o' (fun a ha => (new a ha).elim (fun y => n1.new a y) fun y => .inr (n1.dom a y)) hk)
        fun x rt' fps' G' H' cls d r' n' xr hk => xf x _ rt' σ ρ fps' G' H' cls d (s.step r' (n1.trans n') fun _ _ e => e) (n1.trans n') (Pre.refl _) xr hk
    · exact w1.elim⟩
theorem o_call0 {cw : CW} : ∀ σ H Q, tO K C U (wCall cw wNil) σ H Q → tCallS (spW K C cw) (fun σ cls d H => U cls d σ H) tNil σ H Q := fun σ H Q ⟨sl, rt, ρ, fps, G, k, s, xf, ⟨hd, w1⟩, q⟩ => by
  exact sp_use (xs := []) (ts := []) (k := fun t rt' => k t rt') (kx := fun x rt' => sl.ex x sl.sl rt') s.toRSt .nil rfl rfl w1 (fun t rt' fps' fp G' H' v r' n' o' new hk => q t rt' fps' fp G' H' v r' n' o' new hk)
    fun x rt' fps' G' H' cls d r' n' xr hk => xf x _ rt' σ ρ fps' G' H' cls d (s.step r' n' fun _ _ e => e) n' (Pre.refl _) xr hk
theorem pe_callS0 (F : FnOk X.prog X.w X.K X.mg X.base CX k f fd ps sp) (hr : Room k X.A) (hg : Gl X x) (hm : X.mg x = some (.ref f)) (hk : PySem.W.keepIn X.K (.ref f) = true) (hb : Binds X.K fd ps []) (hx : ∀ σ, PassesAt CX X σ (E σ))
    (hdb : (x == ("__debug__" : Str)) = false := by decide) : PE X (.Call (.Name x p) [] [] pos) (tCallS sp E tNil) := by
  refine ⟨fun pins s σ H Q I h => ?_⟩
  refine wpAny_Call_Name_kw (ld_glob I hg hm ?_ hdb)
  exact PySem.W.callWith_K0 I.kIn hk (run_fnSD (us := []) (dvs := []) (ds := []) F hr hb .nil (hx σ) I .nil h)
theorem wo_call {cw : CW} {w : WA} (h : PE X e (tCallS (spW K C cw) (fun σ cls d H => U cls d σ H) (tA K C U w))) : PE X e (tO K C U (wCall cw w)) := pe_imp h o_call
theorem wo_call0 {cw : CW} (h : PE X e (tCallS (spW K C cw) (fun σ cls d H => U cls d σ H) tNil)) : PE X e (tO K C U (wCall cw wNil)) := pe_imp h o_call0
def tMethX (C : Addr) (m : Str) (sp : Sp) (E : L2.St → XK) (ta : TE) (t : TA) : TE := fun σ H Q => ta σ H fun x H1 => ∃ a dx fs, x = .ref a ∧ H1 a = some (.ins C dx fs) ∧ fs.lookup m = none ∧ t σ H1 fun vs H2 => sp (x :: vs) H2 Q (E σ)
theorem pe_methX {pl : PySem.Sem Bool} (he : PE X o ta) (c : Cls X.K Ca) (hm : Meth X.K Ca m f) (F : FnOk X.prog X.w X.K X.mg X.base CX k f fd ps sp) (hr : Room k X.A) (hb : Binds X.K fd ps []) (hx : ∀ σ, PassesAt CX X σ (E σ)) (ha : PA X (e :: es) t)
    (hst : starEach (e :: es) X.env = (false, eval e X.env) :: starEach es X.env := by rfl) (hpl : (backTo pos (starEach es X.env)).any (·.1) = false := by rfl)
    (ht : eval (.Call (.Attribute o m apos) (e :: es) [] pos) X.env = (do
      let ov ← eval o X.env
      standAt apos.atName
      let (f, first) ← holding [ov] (getMethod ov m pl)
      callWith pos f first (backTo pos (starEach (e :: es) X.env)) (backToKw pos (keywordEach [] X.env))) := by rfl) :
    PE X (.Call (.Attribute o m apos) (e :: es) [] pos) (tMethX Ca m sp E ta t) := by
  refine ⟨fun pins s σ H Q I h => ?_⟩
  refine PySem.W.methodCall_KW (pl := pl) (thn (he.run pins s σ H _ I h) fun u s1 ⟨x, H1, I1, rx, a, dx, fs, ex, ea, l, q⟩ => ?_) ht
  subst ex
  obtain rfl : u = Value.ref a := rx
  refine getmeth_ok I1 ea c hm l ?_
  refine PySem.W.callWith_K (first := [.ref a]) (h₀ := X.base) I.ok.mod.kin hm.kp (thn (ha.run pos pins s1 σ H1 _ I1 q) fun us s2 ⟨vs, H2, I2, r, q2⟩ => ⟨I2.kIn, ?_⟩) hst hpl
  exact run_fnSD (us := .ref a :: us) (vs := .ref a :: vs) (dvs := []) (ds := []) F hr hb .nil (hx σ) I2 (.cons rfl r) (by simpa using q2)
theorem pe_methX0 {pl : PySem.Sem Bool} (he : PE X o ta) (c : Cls X.K Ca) (hm : Meth X.K Ca m f) (F : FnOk X.prog X.w X.K X.mg X.base CX k f fd ps sp) (hr : Room k X.A) (hb : Binds X.K fd ps []) (hx : ∀ σ, PassesAt CX X σ (E σ))
    (ht : eval (.Call (.Attribute o m apos) [] [] pos) X.env = (do
      let ov ← eval o X.env
      standAt apos.atName
      let (f, first) ← holding [ov] (getMethod ov m pl)
      callWith pos f first (backTo pos (starEach [] X.env)) (backToKw pos (keywordEach [] X.env))) := by rfl) :
    PE X (.Call (.Attribute o m apos) [] [] pos) (tMethX Ca m sp E ta tNil) := by
  refine ⟨fun pins s σ H Q I h => ?_⟩
  refine PySem.W.methodCall_KW (pl := pl) (thn (he.run pins s σ H _ I h) fun u s1 ⟨x, H1, I1, rx, a, dx, fs, ex, ea, l, q⟩ => ?_) ht
  subst ex
  obtain rfl : u = Value.ref a := rx
  refine getmeth_ok I1 ea c hm l ?_
  exact PySem.W.callWith_K0 (first := [.ref a]) I1.kIn hm.kp (run_fnSD (us := [.ref a]) (vs := [.ref a]) (dvs := []) (ds := []) F hr hb .nil (hx σ) I1 (.cons rfl .nil) q)

/-! ### objects -/
theorem Rts.unapp : ∀ {rt : Roots} {t : T} {ρ : List Addr} {a : Addr} {fps : List (List Addr)}, Rts K C G H (rt ++ [t]) (ρ ++ [a]) fps → rt.length = ρ.length → ∃ fps0 fq, fps = fps0 ++ [fq] ∧ Rts K C G H rt ρ fps0 ∧ TR K C G H (.ref a) t fq
  | [], t, [], a, _, .cons h .nil, _ => ⟨[], _, rfl, .nil, h⟩
  | u :: rt, t, b :: ρ, a, _, .cons h r, e => by
    obtain ⟨fps0, fq, e1, h1, h2⟩ := Rts.unapp r (by simpa using e)
    exact ⟨_ :: fps0, fq, by rw [e1]; rfl, .cons h h1, h2⟩
  | [], _, _ :: _, _, _, _, e => by cases e
  | _ :: _, _, [], _, _, _, e => by cases e
theorem getR_lt {ps : List Pl} {ts : List T} : getR rt ps = some ts → ∀ q ∈ ps, q.1 < rt.length := by
  induction ps generalizing ts with
  | nil => exact fun _ _ z => nomatch z
  | cons q ps ih =>
    obtain ⟨r, p⟩ := q
    intro h
    simp only [getR] at h
    split at h
    · rename_i t us h1 h2
      intro q hq
      rcases List.mem_cons.mp hq with z | z
      · subst z
        unfold tat at h1
        cases y : rt[r]? with
        | none => rw [y] at h1; cases h1
        | some u => exact (List.getElem?_eq_some_iff.mp y).1
      · exact ih h2 q z
    · cases h
theorem getR_app {ps : List Pl} {ts : List T} (z : T) : getR rt ps = some ts → getR (rt ++ [z]) ps = some ts := by
  induction ps generalizing ts with
  | nil => exact fun h => h
  | cons q ps ih =>
    obtain ⟨r, p⟩ := q
    intro h
    simp only [getR] at h ⊢
    split at h
    · rename_i t us h1 h2
      have lt : r < rt.length := by
        unfold tat at h1
        cases y : rt[r]? with
        | none => rw [y] at h1; cases h1
        | some u => exact (List.getElem?_eq_some_iff.mp y).1
      have e1 : tat (rt ++ [z]) r p = tat rt r p := by
        unfold tat
        rw [List.getElem?_append_left lt]
      rw [e1, h1, ih h2]
      exact h
    · cases h
theorem putR_app (z : T) : ∀ {ps : List Pl} {ts : List T}, (∀ q ∈ ps, q.1 < rt.length) → putR (rt ++ [z]) ps ts = putR rt ps ts ++ [z] ∧ (putR rt ps ts).length = rt.length
  | [], ts, _ => by simp [putR]
  | _ :: _, [], _ => by simp [putR]
  | (r, p) :: ps, t :: ts, h => by
    obtain ⟨h1, h2⟩ := putR_app (ps := ps) (ts := ts) z fun q hq => h q (by simp [hq])
    have lt := h (r, p) (by simp)
    have lt : r < rt.length := lt
    refine ⟨?_, by simp only [putR, List.length_modify]; exact h2⟩
    simp only [putR, h1]
    refine List.ext_getElem? fun j => ?_
    rw [mod_get]
    by_cases e : j < rt.length
    · rw [List.getElem?_append_left (by rw [h2]; exact e), List.getElem?_append_left (by rw [List.length_modify, h2]; exact e), mod_get]
    · rw [if_neg (by omega), List.getElem?_append_right (by rw [h2]; omega), List.getElem?_append_right (by rw [List.length_modify, h2]; omega), h2, List.length_modify, h2]
theorem idn2 {x dx : Addr} {u v : HO} (hx : H x = none) (hd : H dx = none) (n : dx ≠ x) : Idn H (upd (upd H dx u) x v) := (idn_new hd).trans (idn_new (by rw [upd_ne (Ne.symm n)]; exact hx))
/-- C(..) -/
def mkEnd (n : Nat) (k : T → Roots → Prop) : T → Roots → Prop := fun t full => t = .dat .non ∧ match full[n]? with
  | some o => k o (full.take n)
  | none => False
def wMake (c : Nat) (cw : CW) (w : WA) : WO := fun sl rt k => w sl rt fun xs rt1 => dst (plc (.ref rt1.length [] :: xs)) = true ∧ match getR (rt1 ++ [.obj c []]) (plc (.ref rt1.length [] :: xs)) with
  | some ts => cw (ren (.ref rt1.length [] :: xs)) ts (fun t ts' => mkEnd rt1.length k t (putR (rt1 ++ [.obj c []]) (plc (.ref rt1.length [] :: xs)) ts')) fun _ _ => False
  | none => False
theorem sp_make {cw : CW} {xs : List Val} {vs : List V} {ts : List T} {c : Nat} {k : T → Roots → Prop} {Q : VK} {E : XK} {x dx : Addr} (r : RSt K C rt ρ fps G H) (v : VRs K C G H ρ xs vs) (hd3 : dst (plc (.ref rt.length [] :: xs)) = true) (hg3 : getR (rt ++ [.obj c []]) (plc (.ref rt.length [] :: xs)) = some ts)
    (w : cw (ren (.ref rt.length [] :: xs)) ts (fun t ts' => mkEnd rt.length k t (putR (rt ++ [.obj c []]) (plc (.ref rt.length [] :: xs)) ts')) fun _ _ => False) (hx : H x = none) (hdx : H dx = none) (ne : dx ≠ x)
    (q : ∀ t rt' fps' fp G' H', RSt K C rt' ρ fps' G' H' → Nx fps.flatten G H G' H' fps'.flatten → Own K C fps' G' H' t (.ref x) fp → (∀ a ∈ fp, a ∈ fps.flatten ∨ H a = none) → k t rt' → Q (.ref x) H') :
    spW K C cw (.ref x :: vs) (upd (upd H dx (.own x)) x (.ins (C.at_ c) dx [])) (fun v H2 => v = .non ∧ Q (.ref x) H2) E := by
  have idn := idn2 (u := .own x) (v := .ins (C.at_ c) dx []) hx hdx ne
  have ex : Ex H (upd (upd H dx (.own x)) x (.ins (C.at_ c) dx [])) := (Ex.new hdx).trans (Ex.new (by rw [upd_ne (Ne.symm ne)]; exact hx))
  have r2 := r.grow ex
  have own : Own K C fps G (upd (upd H dx (.own x)) x (.ins (C.at_ c) dx [])) (.obj c []) (.ref x) [x] := by
    refine ⟨.obj upd_same rfl .nil, by simp, fun a ha z => ?_, fun a ha => ?_⟩
    · have : a = x := by simpa using ha
      subst this
      exact r.root.inH a z hx
    · have : a = x := by simpa using ha
      subst this
      exact fresh_back r.sub hx
  have r3 := r2.app own
  have n0 : Nx fps.flatten G H G (upd (upd H dx (.own x)) x (.ins (C.at_ c) dx [])) (fps ++ [[x]]).flatten := ⟨Ex.refl G, fun l u h _ => ⟨ex l u h, fun g => g⟩, fun l h => upd_none (upd_none h), fun l hl => by
    rw [List.flatten_append] at hl
    simp only [List.flatten_cons, List.flatten_nil, List.append_nil] at hl
    rcases List.mem_append.mp hl with z | z
    · exact .inl z
    · have : l = x := by simpa using z
      subst this
      exact .inr hx, idn⟩
  have hl : ρ.length = rt.length := r.root.lens.1
  have v3 : VRs K C G (upd (upd H dx (.own x)) x (.ins (C.at_ c) dx [])) (ρ ++ [x]) (.ref rt.length [] :: xs) (.ref x :: vs) := .cons ⟨x, by rw [← hl]; simp, rfl, ⟨x, rfl, .inr ⟨_, _, _, upd_same⟩⟩⟩ (v.up n0 (Pre.app ρ [x]))
  refine sp_use (kx := fun _ _ => False) r3 v3 hd3 hg3 w (fun t rt' fps' fp G' H' v r' n' o' new ⟨ht, hk⟩ => ?_) fun _ _ _ _ _ _ _ _ _ _ z => z.elim
  subst ht
  have e0 : v = .non := by
    cases o'.tr with
    | dat h => cases h; rfl
  refine ⟨e0, ?_⟩
  split at hk
  · rename_i o ho
    have hlen : rt'.length = rt.length + 1 := by
      have := r'.root.lens.1
      rw [List.length_append, hl] at this
      simpa using this.symm
    have hr : rt' = rt'.take rt.length ++ [o] := by
      refine List.ext_getElem? fun j => ?_
      by_cases e : j < rt.length
      · rw [List.getElem?_append_left (by rw [List.length_take]; omega), List.getElem?_take_of_lt e]
      · rw [List.getElem?_append_right (by rw [List.length_take]; omega)]
        have e2 : (rt'.take rt.length).length = rt.length := by rw [List.length_take]; omega
        rw [e2]
        by_cases e3 : j = rt.length
        · subst e3
          rw [ho]
          simp
        · rw [List.getElem?_eq_none (by omega), List.getElem?_eq_none (by simp; omega)]
    have root := r'.root
    rw [hr] at root
    obtain ⟨fps0, fq, e1, h1, h2⟩ := root.unapp (by rw [List.length_take, hl]; omega)
    have nd := r'.nd
    have fl : fps'.flatten = fps0.flatten ++ fq := by rw [e1]; simp
    rw [fl] at nd
    have nd1 := List.nodup_append.mp nd
    have n2 := n0.trans n'
    refine q o _ fps0 fq G' H' ⟨r'.sub, h1, nd1.1, fun a ha => r'.fr a (by rw [fl]; simp [ha])⟩ (n2.less fun l hl => by rw [fl]; simp [hl]) ⟨h2, nd1.2.1, fun a ha z => nd1.2.2 a z a ha rfl, fun a ha => r'.fr a (by rw [fl]; simp [ha])⟩ (fun a ha => n2.new a (by rw [fl]; simp [ha])) hk
  · exact hk.elim
theorem o_make {c : Nat} {cw : CW} {w : WA} {E : XK} : ∀ σ H Q, tO K C U (wMake c cw w) σ H Q → tMake (C.at_ c) (spW K C cw) [] E (tA K C U w) σ H Q := fun σ H Q ⟨sl, rt, ρ, fps, G, k, s, xf, w, q⟩ =>
  ⟨sl, rt, ρ, fps, G, _, s, xf, w, fun xs rt1 fps1 G1 H1 vs r1 n1 v1 ⟨hd, w1⟩ => by
    split at w1
    · rename_i ts ht
      intro x dx hx hdx ne
      rw [List.append_nil]
      exact sp_make r1 v1 hd ht w1 hx hdx ne fun t rt' fps' fp G' H' r' n' o' new hk => q t rt' fps' fp G' H' _ r' (n1.trans n') o' (fun a ha => (new a ha).elim (fun y => n1.new a y) fun y => .inr (n1.dom a y)) hk
    · exact w1.elim⟩
theorem wo_make {c : Nat} {cw : CW} {w : WA} {E : XK} (h : PE X e (tMake (C.at_ c) (spW K C cw) [] E (tA K C U w))) : PE X e (tO K C U (wMake c cw w)) := pe_imp h o_make

/-! ### fields -/
theorem look_at : ∀ {fs : List (Str × V)} {ns : List Str} {i : Nat} {f : Str} {v : V}, fs.map Prod.fst = ns.take fs.length → ns.Nodup → ns[i]? = some f → (fs.map Prod.snd)[i]? = some v → fs.lookup f = some v
  | [], _, _, _, _, _, _, _, h => by simp at h
  | (g, x) :: fs, n :: ns, 0, f, v, e, _, h1, h2 => by
    simp only [List.map_cons, List.length_cons, List.take_succ_cons, List.cons.injEq] at e
    cases Option.some.inj h1
    cases Option.some.inj h2
    rw [e.1]
    simp [List.lookup]
  | (g, x) :: fs, n :: ns, i + 1, f, v, e, nd, h1, h2 => by
    simp only [List.map_cons, List.length_cons, List.take_succ_cons, List.cons.injEq] at e
    have nd := List.nodup_cons.mp nd
    have h1 : ns[i]? = some f := h1
    have ne : f ≠ g := fun z => nd.1 (by rw [← e.1, ← z]; exact List.mem_of_getElem? h1)
    have : (f == g) = false := by simpa using ne
    simp only [List.lookup, this]
    exact look_at e.2 nd.2 h1 h2
  | _ :: _, [], _, _, _, e, _, _, _ => by simp at e
theorem look_no : ∀ {fs : List (Str × V)} {f : Str}, f ∉ fs.map Prod.fst → fs.lookup f = none
  | [], _, _ => rfl
  | (g, x) :: fs, f, h => by
    simp only [List.map_cons, List.mem_cons, not_or] at h
    have : (f == g) = false := by simpa using h.1
    simp only [List.lookup, this]
    exact look_no h.2
/-- f is a field of these classes, at these places -/
def FOk (K : PySem.W.Frag) (C : Cs) (F : Nat → Option Nat) (f : Str) : Prop := ∀ c i, F c = some i → Cls K (C.at_ c) ∧ NoAttr K (C.at_ c) f ∧ (C.ly c)[i]? = some f ∧ (C.ly c).Nodup
def wFld (F : Nat → Option Nat) (w : WE) : WE := fun sl rt k => w sl rt fun x rt1 => match x with
  | .dat (.obj c ds) => match F c with
    | some i => match ds[i]? with
      | some d => k (.dat d) rt1
      | none => False
    | none => False
  | .ref r p => match tat rt1 r p with
    | some (.obj c ts) => match F c with
      | some i => match ts[i]? with
        | some u => k (Val.of r (p ++ [i]) u) rt1
        | none => False
      | none => False
    | _ => False
  | _ => False
theorem e_fld {F : Nat → Option Nat} {f : Str} (hF : FOk K C F f) {w : WE} : ∀ σ H Q, tE K C U (wFld F w) σ H Q → tFld K (tE K C U w) f σ H Q := fun σ H Q ⟨sl, rt, ρ, fps, G, k, s, xf, w, q⟩ =>
  ⟨sl, rt, ρ, fps, G, _, s, xf, w, fun x rt1 fps1 G1 H1 v r1 n1 v1 w1 => by
    split at w1
    · split at w1
      · rename_i c ds i hi
        split at w1
        · rename_i d hd
          cases v1 with
          | obj h n r =>
            obtain ⟨z, z1, z2⟩ := r.get hd
            obtain ⟨f1, f2, f3, f4⟩ := hF _ _ hi
            exact ⟨_, _, _, _, z, rfl, r1.sub _ _ h, f1, f2, look_at n f4 f3 z1, q (.dat d) rt1 fps1 G1 H1 _ r1 n1 z2 w1⟩
        · exact w1.elim
      · exact w1.elim
    · rename_i r p
      split at w1
      · rename_i c ts ht
        split at w1
        · rename_i i hi
          split at w1
          · rename_i u hu
            obtain ⟨a, fu, k1, k2, k3, _⟩ := r1.get ht v1
            cases k3 with
            | obj h n tr =>
              obtain ⟨z, fz, z1, z2, _⟩ := tr.get hu
              obtain ⟨f1, f2, f3, f4⟩ := hF _ _ hi
              refine ⟨_, _, _, _, z, rfl, h, f1, f2, look_at n f4 f3 z1, q _ rt1 fps1 G1 H1 z r1 n1 (VR.of k1 ?_ z2) w1⟩
              rw [fol_snoc, k2]
              show (match H1 _ with | some (.lst xs) => (xs[i]?).bind (fol H1 []) | some (.ins _ _ fs) => ((fs.map Prod.snd)[i]?).bind (fol H1 []) | _ => none) = some z
              rw [h]
              show (_[i]?).bind (fol H1 []) = some z
              rw [z1]
              rfl
          · exact w1.elim
        · exact w1.elim
      · exact w1.elim
    · exact w1.elim⟩
theorem we_fld {F : Nat → Option Nat} {f : Str} (hF : FOk X.K C F f) {w : WE} (he : PE X e (tE X.K C U w)) (hb : attributeBase e f X.env (eval e X.env) = eval e X.env) : PE X (.Attribute e f pos) (tE X.K C U (wFld F w)) := pe_imp (pe_fld he hb) (e_fld hF)
/-- o.m(..) of a class -/
def isObj (c : Nat) (x : Val) (rt : Roots) : Prop := match x with
  | .dat (.obj c' _) => c' = c
  | .ref r p => match tat rt r p with
    | some (.obj c' _) => c' = c
    | _ => False
  | _ => False
theorem RSt.isObj (r1 : RSt K C rt ρ fps G H) {x : Val} {v : V} {c : Nat} (v1 : VR K C G H ρ x v) (hx : isObj c x rt) : ∃ a dx fs, v = .ref a ∧ H a = some (.ins (C.at_ c) dx fs) ∧ fs.map Prod.fst = (C.ly c).take fs.length := by
  unfold Wv.isObj at hx
  split at hx
  · cases v1 with
    | obj h n r =>
      subst hx
      exact ⟨_, _, _, rfl, r1.sub _ _ h, n⟩
  · split at hx
    · rename_i ht
      obtain ⟨a, fu, k1, k2, k3, _⟩ := r1.get ht v1
      cases k3 with
      | obj h n tr =>
        subst hx
        exact ⟨_, _, _, rfl, h, n⟩
    · exact hx.elim
  · exact hx.elim
def wMeth (c : Nat) (cw : CW) (wo : WE) (w : WA) : WO := fun sl rt k => wo sl rt fun x rt1 => isObj c x rt1 ∧ w sl rt1 fun xs rt2 => dst (plc (x :: xs)) = true ∧ match getR rt2 (plc (x :: xs)) with
  | some ts => cw (ren (x :: xs)) ts (fun t ts' => k t (putR rt2 (plc (x :: xs)) ts')) fun y ts' => sl.ex y sl.sl (putR rt2 (plc (x :: xs)) ts')
  | none => False
theorem o_meth {c : Nat} {cw : CW} {wo : WE} {w : WA} {m : Str} (hm : m ∉ C.ly c) : ∀ σ H Q, tO K C U (wMeth c cw wo w) σ H Q → tMethX (C.at_ c) m (spW K C cw) (fun σ cls d H => U cls d σ H) (tE K C U wo) (tA K C U w) σ H Q := fun σ H Q ⟨sl, rt, ρ, fps, G, k, s, xf, w, q⟩ =>
  ⟨sl, rt, ρ, fps, G, _, s, xf, w, fun x rt1 fps1 G1 H1 v r1 n1 v1 ⟨hx, w1⟩ => by
    obtain ⟨a, dx, fs, rfl, h, n⟩ := r1.isObj v1 hx
    refine ⟨a, dx, fs, rfl, h, look_no fun z => hm (List.mem_of_mem_take (by rw [← n]; exact z)), sl, rt1, ρ, fps1, G1, _, s.step r1 n1 fun _ _ e => e, xf.later n1 (Pre.refl _), w1, fun xs rt2 fps2 G2 H2 vs r2 n2 v2 ⟨hd, w2⟩ => ?_⟩
    split at w2
    · rename_i ts ht
      have n3 := n1.trans n2
      exact sp_use r2 (.cons (v1.up n2 fun _ _ e => e) v2) hd ht w2 (fun t rt' fps' fp G' H' v r' n' o' new hk => q t rt' fps' fp G' H' v r' (n3.trans n') o' (fun a ha => (new a ha).elim (fun y => n3.new a y) fun y => .inr (n3.dom a y)) hk)
        fun y rt' fps' G' H' cls d r' n' xr hk => xf y _ rt' σ ρ fps' G' H' cls d (s.step r' (n3.trans n') fun _ _ e => e) (n3.trans n') (Pre.refl _) xr hk
    · exact w2.elim⟩
theorem o_meth0 {c : Nat} {cw : CW} {wo : WE} {m : Str} (hm : m ∉ C.ly c) {σ : L2.St} {H : Hp} {Q : VK} (h : tO K C U (wMeth c cw wo wNil) σ H Q) : tMethX (C.at_ c) m (spW K C cw) (fun σ cls d H => U cls d σ H) (tE K C U wo) tNil σ H Q := by
  have := o_meth hm σ H Q h
  obtain ⟨sl, rt, ρ, fps, G, k, s, xf, w, q⟩ := this
  refine ⟨sl, rt, ρ, fps, G, k, s, xf, w, fun x rt' fps' G' H' v r n vr hk => ?_⟩
  obtain ⟨a, dx, fs, h1, h2, h3, h4⟩ := q x rt' fps' G' H' v r n vr hk
  refine ⟨a, dx, fs, h1, h2, h3, ?_⟩
  obtain ⟨sl2, rt2, ρ2, fps2, G2, k2, s2, _, w2, q2⟩ := h4
  exact q2 [] rt2 fps2 G2 H' [] s2.toRSt (Nx.refl _ _ _) .nil w2
theorem wo_meth {c : Nat} {cw : CW} {wo : WE} {w : WA} {m : Str} (hm : m ∉ C.ly c) (h : PE X e (tMethX (C.at_ c) m (spW K C cw) (fun σ cls d H => U cls d σ H) (tE K C U wo) (tA K C U w))) : PE X e (tO K C U (wMeth c cw wo w)) := pe_imp h (o_meth hm)
theorem wo_meth0 {c : Nat} {cw : CW} {wo : WE} {m : Str} (hm : m ∉ C.ly c) (h : PE X e (tMethX (C.at_ c) m (spW K C cw) (fun σ cls d H => U cls d σ H) (tE K C U wo) tNil)) : PE X e (tO K C U (wMeth c cw wo wNil)) := pe_imp h fun σ H Q q => o_meth0 hm q
/-- o.f = e -/
theorem putF_new : ∀ {fs : List (Str × V)} {f : Str} {v : V}, f ∉ fs.map Prod.fst → putF f v fs = fs ++ [(f, v)]
  | [], _, _, _ => rfl
  | (g, x) :: fs, f, v, h => by
    simp only [List.map_cons, List.mem_cons, not_or] at h
    show (if g = f then (g, v) :: fs else (g, x) :: putF f v fs) = _
    rw [if_neg fun z => h.1 z.symm, putF_new h.2]
    rfl
theorem putF_old : ∀ {fs : List (Str × V)} {ns : List Str} {i : Nat} {f : Str} {v : V}, fs.map Prod.fst = ns.take fs.length → ns.Nodup → ns[i]? = some f → i < fs.length → putF f v fs = fs.set i (f, v)
  | [], _, _, _, _, _, _, _, h => by simp at h
  | (g, x) :: fs, n :: ns, 0, f, v, e, _, h1, _ => by
    simp only [List.map_cons, List.length_cons, List.take_succ_cons, List.cons.injEq] at e
    cases Option.some.inj h1
    have e1 : g = n := e.1
    show (if g = n then (g, v) :: fs else (g, x) :: putF n v fs) = _
    rw [if_pos e1, e1]
    rfl
  | (g, x) :: fs, n :: ns, i + 1, f, v, e, nd, h1, h2 => by
    simp only [List.map_cons, List.length_cons, List.take_succ_cons, List.cons.injEq] at e
    have nd := List.nodup_cons.mp nd
    have h1 : ns[i]? = some f := h1
    have ne : g ≠ f := fun z => nd.1 (by rw [← e.1, z]; exact List.mem_of_getElem? h1)
    show (if g = f then (g, v) :: fs else (g, x) :: putF f v fs) = _
    rw [if_neg ne, putF_old e.2 nd.2 h1 (by simpa using h2)]
    rfl
  | _ :: _, [], _, _, _, e, _, _, _ => by simp at e
theorem idn_ins {b c dx : Addr} {fs fs' : List (Str × V)} (hb : H b = some (.ins c dx fs)) (k : ∀ (i : Nat) x, (fs.map Prod.snd)[i]? = some x → NodeV H x → (fs'.map Prod.snd)[i]? = some x) : Idn H (upd H b (.ins c dx fs')) := by
  refine Idn.of (fun w hw => ?_) (fun a i w hw hn => ?_)
  · obtain ⟨a, rfl, h⟩ := hw
    refine ⟨a, rfl, ?_⟩
    by_cases z : a = b
    · exact .inr ⟨c, dx, fs', by rw [z, upd_same]⟩
    · rw [upd_ne z]
      exact h
  · obtain ⟨v, h, rfl⟩ := hw
    by_cases z : a = b
    · subst z
      have h' : (match H a with | some (.lst xs) => (xs[i]?).bind (fol H []) | some (.ins _ _ fs) => ((fs.map Prod.snd)[i]?).bind (fol H []) | _ => none) = some v := h
      rw [hb] at h'
      have h2 : ((fs.map Prod.snd)[i]?).bind (fol H []) = some v := h'
      show (match upd H a (.ins c dx fs') a with | some (.lst xs) => (xs[i]?).bind (fol (upd H a (.ins c dx fs')) []) | some (.ins _ _ fs) => ((fs.map Prod.snd)[i]?).bind (fol (upd H a (.ins c dx fs')) []) | _ => none) = some v
      rw [upd_same]
      show ((fs'.map Prod.snd)[i]?).bind (fol (upd H a (.ins c dx fs')) []) = some v
      cases q : (fs.map Prod.snd)[i]? with
      | none => rw [q] at h2; cases h2
      | some y =>
        rw [q] at h2
        cases Option.some.inj h2
        rw [k i v q hn]
        rfl
    · show (match upd H b (.ins c dx fs') a with | some (.lst xs) => (xs[i]?).bind (fol (upd H b (.ins c dx fs')) []) | some (.ins _ _ fs) => ((fs.map Prod.snd)[i]?).bind (fol (upd H b (.ins c dx fs')) []) | _ => none) = some v
      rw [upd_ne z]
      exact h
def wSetF (F : Nat → Option Nat) (w : WO) (wx : WE) : WS := fun Z sl rt => w ⟨sl, Z.ex⟩ rt fun t rt1 => wx ⟨sl, Z.ex⟩ rt1 fun x rt2 => match x with
  | .ref r p => match tat rt2 r p with
    | some (.obj c ts) => match F c with
      | some i => ts.length < 900 ∧ ((i = ts.length ∧ Z.nx sl (rt2.modify r (T.put (.obj c (ts ++ [t])) p))) ∨ ∃ d u, t = .dat d ∧ ts[i]? = some u ∧ leafT u = true ∧ Z.nx sl (rt2.modify r (T.put (.obj c (ts.set i (.dat d))) p)))
      | none => False
    | _ => False
  | _ => False
theorem noPassW {P : Program} {w : World} : Passes (L2N.CX P w) X (fun _ _ _ => False) := fun pins σ H s e s' I c => by
  obtain ⟨_, _, _, _, _, _, _, _, _, _, _, _, z⟩ := c
  exact z.elim
theorem takesNo : L2N.Takes X (fun _ _ _ _ => False) := fun u s' x => by
  obtain ⟨_, _, _, _, _, _, _, _, _, _, _, _, _, _, _, _, z⟩ := x
  exact z.elim
end
end Wv
end

section
set_option Elab.async false
set_option linter.all false
set_option maxRecDepth 100000
set_option maxHeartbeats 4000000
namespace Wv
open PySem PySem.Spec PyProof.Rows L2 Evl
section
variable {K : PySem.W.Frag} {C : Cs} {U U' : UX} {G H G' H' G1 H1 G2 H2 : Hp} {sl sl' : Slots} {rt rt' : Roots} {σ : L2.St} {ρ ρ' ρ1 : List Addr} {fps fps' fps1 : List (List Addr)}
variable {X : Cx} {CX : CXT} {a b c e o : Expr} {es rest : List Expr} {wa wb wc : WE} {pos p apos : Pos} {Z : WEnds} {E : Ends} {st : Stmt}
theorem s_setF {F : Nat → Option Nat} {f : Str} (hF : FOk K C F f) {w : WO} {wx : WE} : ∀ D σ H, tS K C U (wSetF F w wx) D σ H → sFld K (tE K C U wx) (tO K C U w) f D σ H := fun D σ H ⟨Z, sl, rt, ρ, fps, G, s, w, fn⟩ =>
  ⟨⟨sl, Z.ex⟩, rt, ρ, fps, G, _, s, fn.xf, w, fun t rt1 fps1 fp G1 H1 y r1 n1 o1 new w1 => ⟨⟨sl, Z.ex⟩, rt1, ρ, fps1, G1, _, s.step r1 n1 fun _ _ e => e, fn.xf.later n1 (Pre.refl _), w1, fun x rt2 fps2 G2 H2 v r2 n2 v2 w2 => by
    split at w2
    · rename_i r p
      split at w2
      · rename_i c ts ht
        split at w2
        · rename_i i hi
          obtain ⟨f1, f2, f3, f4⟩ := hF _ _ hi
          obtain ⟨a, fu, z1, z2, z3, _⟩ := r2.get ht v2
          have o2 := o1.past n2
          cases z3 with
          | @obj b dx fs _ _ fq hb nm tr =>
            have hlen : fs.length = ts.length := by
              have := TRs.len tr
              simpa using this
            obtain ⟨w0, w2⟩ := w2
            refine ⟨b, _, dx, fs, rfl, hb, f1, f2, by omega, ?_⟩
            rcases w2 with ⟨he, w2⟩ | ⟨d, u, rfl, hu, hlf, w2⟩
            · have hnew : f ∉ fs.map Prod.fst := fun z => by
                rw [nm] at z
                obtain ⟨j, hj⟩ := List.getElem?_of_mem z
                have hj2 : j < fs.length := by
                  have := (List.getElem?_eq_some_iff.mp hj).1
                  rw [List.length_take] at this
                  omega
                rw [List.getElem?_take_of_lt hj2] at hj
                obtain ⟨p1, p2⟩ := List.getElem?_eq_some_iff.mp hj
                obtain ⟨p3, p4⟩ := List.getElem?_eq_some_iff.mp f3
                have := (List.getElem_inj f4).mp (p2.trans p4.symm)
                omega
              have e0 : putF f y fs = fs ++ [(f, y)] := putF_new hnew
              rw [e0]
              have idn : Idn H2 (upd H2 b (.ins (C.at_ c) dx (fs ++ [(f, y)]))) := idn_ins hb fun i q hq _ => by
                rw [List.map_append, List.getElem?_append_left (List.getElem?_eq_some_iff.mp hq).1]
                exact hq
              obtain ⟨fps3, r3, mem, hbF⟩ := r2.write (t' := .obj c (ts ++ [t])) (fn := fp) ht z1 z2 (by intro d q; cases q) idn (fun fu hfu => by
                cases hfu with
                | @obj _ dx' fs' _ _ fq' hb' nm' tr' =>
                  rw [hb] at hb'
                  cases hb'
                  refine ⟨List.mem_cons_self, fun nd dis => ?_⟩
                  have nb := (List.nodup_cons.mp nd).1
                  refine ⟨b :: (fq' ++ (fp ++ [])), .obj upd_same ?_ ?_, ?_⟩
                  · rw [List.map_append, nm, List.length_append, List.length_cons, List.length_nil]
                    have : (C.ly c).take (fs.length + (0 + 1)) = (C.ly c).take fs.length ++ [f] := by
                      rw [Nat.zero_add, List.take_succ, hlen, ← he, f3]
                      rfl
                    rw [this]
                    rfl
                  · rw [List.map_append]
                    exact TRs.app (TRs.stay (Ex.refl _) _ _ _ tr' fun q hq => upd_ne fun z => nb (by rw [← z]; exact hq)) (.cons (TR.stay (Ex.refl _) _ _ _ o2.tr fun q hq => upd_ne fun z => dis q hq (by rw [z]; exact List.mem_cons_self)) .nil)
                  · rw [List.append_nil]
                    exact List.Perm.refl _) o2.nd o2.ap o2.fr
              have nW : Nx fps2.flatten G2 H2 G2 (upd H2 b (.ins (C.at_ c) dx (fs ++ [(f, y)]))) fps2.flatten := Nx.write (fps' := fps2) hbF (by rw [hb]; exact fun q => nomatch q) idn (fp := []) (fun _ q => nomatch q)
              have n3 := (n1.trans n2).trans nW
              have n4 : Nx fps.flatten G H G2 (upd H2 b (.ins (C.at_ c) dx (fs ++ [(f, y)]))) fps3.flatten := ⟨n3.g, n3.keep, n3.dom, fun l hl => by
                rcases mem l hl with q | q
                · exact n3.new l q
                · exact new l q, n3.idn⟩
              exact fn.nx sl _ σ ρ fps3 G2 _ (s.step r3 n4 fun _ _ e => e) n4 (Pre.refl _) w2
            · have hi2 : i < fs.length := by rw [hlen]; exact (List.getElem?_eq_some_iff.mp hu).1
              have e0 : putF f y fs = fs.set i (f, y) := putF_old nm f4 f3 hi2
              rw [e0]
              have hd : DR K C G2 y d := by
                cases o2.tr with
                | dat h => exact h
              obtain ⟨vo, fo, q1, q2, _⟩ := tr.get hu
              have ms : (fs.set i (f, y)).map Prod.snd = (fs.map Prod.snd).set i y := by rw [List.map_set]
              have mf : (fs.set i (f, y)).map Prod.fst = (C.ly c).take (fs.set i (f, y)).length := by
                rw [List.map_set, nm, List.length_set]
                refine List.ext_getElem? fun j => ?_
                rw [List.getElem?_set]
                split
                · rename_i e
                  subst e
                  split
                  · rw [List.getElem?_take_of_lt hi2, f3]
                  · rename_i h
                    exfalso
                    rw [List.length_take] at h
                    have := (List.getElem?_eq_some_iff.mp f3).1
                    omega
                · rfl
              have idn : Idn H2 (upd H2 b (.ins (C.at_ c) dx (fs.set i (f, y)))) := idn_ins hb fun j q hq nq => by
                rw [ms]
                by_cases z : i = j
                · subst z
                  rw [q1] at hq
                  cases hq
                  exact absurd nq ((leaf_ok hlf q2).2.2 _)
                · rw [List.getElem?_set_ne z]
                  exact hq
              obtain ⟨fps3, r3, mem, hbF⟩ := r2.write (t' := .obj c (ts.set i (.dat d))) (fn := []) ht z1 z2 (by intro d q; cases q) idn (fun fu hfu => by
                cases hfu with
                | @obj _ dx' fs' _ _ fq' hb' nm' tr' =>
                  rw [hb] at hb'
                  cases hb'
                  refine ⟨List.mem_cons_self, fun nd dis => ?_⟩
                  have nb := (List.nodup_cons.mp nd).1
                  refine ⟨b :: fq', .obj upd_same mf ?_, by rw [List.append_nil]⟩
                  rw [ms]
                  exact TRs.set (TRs.stay (Ex.refl _) _ _ _ tr' fun q hq => upd_ne fun z => nb (by rw [← z]; exact hq)) hu hlf hd) List.nodup_nil (fun _ q => nomatch q) (fun _ q => nomatch q)
              have nW : Nx fps2.flatten G2 H2 G2 (upd H2 b (.ins (C.at_ c) dx (fs.set i (f, y)))) fps2.flatten := Nx.write (fps' := fps2) hbF (by rw [hb]; exact fun q => nomatch q) idn (fp := []) (fun _ q => nomatch q)
              have n3 := (n1.trans n2).trans nW
              have n4 : Nx fps.flatten G H G2 (upd H2 b (.ins (C.at_ c) dx (fs.set i (f, y)))) fps3.flatten := n3.less fun l hl => by
                rcases mem l hl with q | q
                · exact q
                · cases q
              exact fn.nx sl _ σ ρ fps3 G2 _ (s.step r3 n4 fun _ _ e => e) n4 (Pre.refl _) w2
        · exact w2.elim
      · exact w2.elim
    · exact w2.elim⟩⟩
theorem ws_setF {F : Nat → Option Nat} {f : Str} (hF : FOk X.K C F f) {w : WO} {wx : WE} {pos' : Pos} (ha : PE X o (tE X.K C U wx)) (hv : PE X e (tO X.K C U w)) (hs : swapsWith e (some (.Attribute o f pos')) pos.line X.env = pure false) : PS X (.Assign [.Attribute o f pos'] e pos) (tS X.K C U (wSetF F w wx)) :=
  ps_imp (ps_fld ha hv hs) (s_setF hF)

/-! ### comprehensions -/
def wipeS : List Nat → Slots → Slots
  | [], sl => sl
  | v :: vs, sl => (wipeS vs sl).set v none
theorem St.wipe (s : St K C sl rt σ ρ fps G H) : ∀ vs : List Nat, St K C (wipeS vs sl) rt (L2.wipe σ vs) ρ fps G H
  | [] => s
  | v :: vs => by
    have s2 := St.wipe s vs
    refine ⟨s2.toRSt, ?_, fun i x e => ?_⟩
    · show ((L2.wipe σ vs).set v none).length = ((wipeS vs sl).set v none).length
      rw [List.length_set, List.length_set, s2.len]
    · rcases get_set (show ((wipeS vs sl).set v none)[i]? = some (some x) from e) with ⟨_, q⟩ | ⟨n, q⟩
      · cases q
      · obtain ⟨w, h1, h2⟩ := s2.slot i x q
        exact ⟨w, by show ((L2.wipe σ vs).set v none)[i]? = _; rw [List.getElem?_set_ne n]; exact h1, h2⟩
theorem wipe_set : ∀ (vs : List Nat) (σ : L2.St) (j : Nat) (x : Option V), j ∈ vs → L2.wipe (σ.set j x) vs = L2.wipe σ vs
  | v :: vs, σ, j, x, h => by
    show (L2.wipe (σ.set j x) vs).set v none = (L2.wipe σ vs).set v none
    by_cases e : j ∈ vs
    · rw [wipe_set vs σ j x e]
    · have ej : j = v := by
        rcases List.mem_cons.mp h with z | z
        · exact z
        · exact absurd z e
      subst ej
      have : ∀ (vs : List Nat) (σ : L2.St), j ∉ vs → L2.wipe (σ.set j x) vs = (L2.wipe σ vs).set j x := by
        intro vs
        induction vs with
        | nil => exact fun _ _ => rfl
        | cons u us ih =>
          intro σ h
          simp only [List.mem_cons, not_or] at h
          show (L2.wipe (σ.set j x) us).set u none = ((L2.wipe σ us).set u none).set j x
          rw [ih σ h.2, List.set_comm _ _ h.1]
      rw [this vs σ e, List.set_set]
theorem wipe_idem : ∀ (vs : List Nat) (σ : L2.St), L2.wipe (L2.wipe σ vs) vs = L2.wipe σ vs := by
  intro vs σ
  have : ∀ (us : List Nat), (∀ u ∈ us, u ∈ vs) → L2.wipe (L2.wipe σ us) vs = L2.wipe σ vs := by
    intro us
    induction us with
    | nil => exact fun _ => rfl
    | cons u us ih =>
      intro h
      show L2.wipe ((L2.wipe σ us).set u none) vs = _
      rw [wipe_set vs _ u none (h u (by simp)), ih fun x hx => h x (by simp [hx])]
  exact this vs fun _ h => h
/-- a target stores in the block's own slots alone -/
def TgW (g : TG) (vs : List Nat) : Prop := ∀ v σ H Q, g v σ H (fun σ2 H2 => L2.wipe σ2 vs = L2.wipe σ vs → Q σ2 H2) → g v σ H Q
theorem tgw_name {j : Nat} {vs : List Nat} (h : j ∈ vs) : TgW (gName j) vs := fun v σ H Q q => q (wipe_set vs σ j _ h)
theorem tgw_all {vs : List Nat} : ∀ {js : List Nat}, (∀ j ∈ js, j ∈ vs) → ∀ xs σ H Q, gAll js xs σ H (fun σ2 H2 => L2.wipe σ2 vs = L2.wipe σ vs → Q σ2 H2) → gAll js xs σ H Q
  | [], _, xs, σ, H, Q, ⟨e, q⟩ => ⟨e, q rfl⟩
  | j :: js, h, xs, σ, H, Q, ⟨v, r, e, q⟩ => ⟨v, r, e, by
    refine tgw_all (js := js) (fun x hx => h x (by simp [hx])) r (σ.set j (some v)) H Q ?_
    rw [wipe_set vs σ j _ (h j (by simp))]
    exact q⟩
theorem tgw_tup {js vs : List Nat} {n : Nat} (h : ∀ j ∈ js, j ∈ vs) : TgW (gTup K n (gAll js)) vs := fun v σ H Q ⟨a, xs, e, h1, h2, q⟩ => ⟨a, xs, e, h1, h2, tgw_all h xs σ H Q q⟩
def wYes : WT := fun _ rt k => k true rt
theorem t_yes : ∀ σ H Q, tT K C U wYes σ H Q → tYes σ H Q := fun σ H Q ⟨sl, rt, ρ, fps, G, k, s, xf, w, q⟩ => q true rt fps G H s.toRSt (Nx.refl _ _ _) w
/-- no error leaves a comprehension -/
abbrev noU : UX := fun _ _ _ _ => False
def blk (sl : Slots) : Cxt := ⟨sl, fun _ _ _ => False⟩
def wLc (it : WI) (tg : Tg) (vs : List Nat) (tt : WT) (elt : WO) : WO := fun sl rt k => it sl rt fun ds rt1 => ∃ I : Nat → List T → Roots → Prop, I 0 [] rt1 ∧
  (∀ i d acc rt', ds[i]? = some d → I i acc rt' → acc.length < 40000 ∧ tg d (wipeS vs sl.sl) fun sl2 => tt (blk sl2) rt' fun b rt2 => (b = true → elt (blk sl2) rt2 fun t rt3 => I (i + 1) (acc ++ [t]) rt3) ∧ (b = false → I (i + 1) acc rt2)) ∧
  ∀ acc rt', I ds.length acc rt' → k (.lst acc) rt'
theorem o_lc {it : WI} {tg : Tg} {g : TG} {vs : List Nat} {tt : WT} {elt : WO} (hg : TgOk K C g tg) (hw : TgW g vs) : ∀ σ H Q, tO K C U (wLc it tg vs tt elt) σ H Q → tLc (tI K C U it) g (tT K C U' tt) (tO K C U' elt) vs σ H Q := fun σ H Q ⟨sl, rt, ρ, fps, G, k, s, xf, w, q⟩ =>
  ⟨sl, rt, ρ, fps, G, _, s, xf, w, fun ds rt1 fps1 G1 H1 J r1 n1 ⟨Gd, Y, wk, hGd, hY⟩ ⟨I, i0, it, fin⟩ Dl hDl => by
    have sW := s.wipe vs
    have hD0 : H Dl = none := n1.dom Dl hDl
    obtain ⟨r2, o2⟩ := r1.newL hDl (TRs.nil (K := K) (C := C) (G := G1) (H := H1)) List.nodup_nil (fun _ z => nomatch z) (fun _ z => nomatch z) (fun _ z => nomatch z)
    refine lc_it wk (fun i H' => ∃ acc rt' fps' G' fpD, I i acc rt' ∧ RSt K C rt' ρ fps' G' H' ∧ Nx fps.flatten G H G' H' fps'.flatten ∧ Ex G1 G' ∧ Own K C fps' G' H' (.lst acc) (.ref Dl) fpD ∧ ∀ a ∈ fpD, a ∈ fps.flatten ∨ H a = none)
      ⟨[], rt1, fps1, G1, _, i0, r2, n1.trans (Nx.grow hDl), Ex.refl _, o2, fun a ha => by
        have : a = Dl := by simpa using ha
        exact .inr (by rw [this]; exact hD0)⟩ (fun i H' _ ⟨acc, rt', fps', G', fpD, _, r', _, e', _⟩ => hGd H' (e'.trans r'.sub)) (fun i v H' H3 hi ⟨acc, rt', fps', G', fpD, hI, r', n', e', oD, newD⟩ y => ?_) fun H' ⟨acc, rt', fps', G', fpD, hI, r', n', _, oD, newD⟩ => q (.lst acc) rt' fps' fpD G' H' _ r' n' oD newD (fin acc rt' hI)
    have hd : ds[i]? = some ds[i] := List.getElem?_eq_getElem hi
    have s' := sW.step r' n' fun _ _ e => e
    obtain ⟨G3, s3, n3, d3⟩ := YD.step (hY i _ H' v H3 hd (e'.trans r'.sub) y) s' e'
    obtain ⟨hlen, ht⟩ := it i _ acc rt' hd hI
    have oD3 := oD.past n3
    have fr1 : ∀ a ∈ fpD, a ∉ fps.flatten → H a = none := fun a ha z => (newD a ha).elim (fun y => absurd y z) fun y => y
    refine hw v _ _ _ (hg _ v _ rt' _ ρ fps' G3 H3 _ _ s3 d3 ht fun sl2 σ2 hb s2 he => ⟨by rw [he, wipe_idem], blk sl2, rt', ρ, fps', G3, _, s2, Xf.no, hb, fun b rt2 fps2 G4 H4 r4 n4 w4 => ?_⟩)
    have oD4 := oD3.past n4
    have n14 := n'.trans (n3.trans n4)
    cases b with
    | false =>
      show _
      simp only [Bool.false_eq_true, if_false]
      exact ⟨acc, rt2, fps2, G4, fpD, w4.2 rfl, r4, n14, e'.trans (n3.g.trans n4.g), oD4, newD⟩
    | true =>
      simp only [if_true]
      refine ⟨blk sl2, rt2, ρ, fps2, G4, _, s2.step r4 n4 fun _ _ e => e, Xf.no, w4.1 rfl, fun t rt3 fps3 fp G5 H5 y5 r5 n5 o5 new5 hI5 => ?_⟩
      have oD5 := oD4.past n5
      have inD4 := oD4.inH
      have dis : ∀ a ∈ fp, a ∉ fpD := fun a ha z => by
        rcases new5 a ha with q | q
        · exact oD4.ap a z q
        · exact inD4 a z q
      have n15 := n14.trans n5
      obtain ⟨otr, ond, oap, ofr⟩ := oD5
      cases otr with
      | @lst _ accV _ fq hD tr =>
        have idn : Idn H5 (upd H5 Dl (.lst (accV ++ [y5]))) := idn_lst hD fun i q hq _ => by
          rw [List.getElem?_append_left (List.getElem?_eq_some_iff.mp hq).1]
          exact hq
        have nq := List.nodup_cons.mp ond
        have out : ∀ a, a ∈ fps3.flatten → a ≠ Dl := fun a ha z => oap Dl List.mem_cons_self (by rw [← z]; exact ha)
        refine ⟨accV, hD, sz_lt (by rw [TRs.len tr]; omega), acc ++ [t], rt3, fps3, G5, Dl :: (fq ++ (fp ++ [])), hI5, ⟨fun a u e => ?_, r5.root.stay (Ex.refl _) (fun a ha => upd_ne (out a ha)), r5.nd, r5.fr⟩, ⟨n15.g, fun l u h z => ?_, fun l h => n15.dom l (upd_none h), n15.new, n15.idn.trans idn⟩, e'.trans (n3.g.trans (n4.g.trans n5.g)), ⟨.lst upd_same (TRs.app (TRs.stay (Ex.refl _) _ _ _ tr fun a ha => upd_ne fun z => nq.1 (by rw [← z]; exact ha)) (.cons (TR.stay (Ex.refl _) _ _ _ o5.tr fun a ha => upd_ne fun z => dis a ha (by rw [z]; exact List.mem_cons_self)) .nil)), ?_, ?_, ?_⟩, ?_⟩
        · have : a ≠ Dl := fun z => by rw [z, ofr Dl List.mem_cons_self] at e; cases e
          rw [upd_ne this]
          exact r5.sub a u e
        · obtain ⟨k1, k2⟩ := n15.keep l u h z
          refine ⟨?_, k2⟩
          rw [upd_ne fun y => by rw [y, hD0] at h; cases h]
          exact k1
        · rw [List.append_nil]
          refine List.nodup_cons.mpr ⟨fun z => ?_, List.nodup_append.mpr ⟨nq.2, o5.nd, fun a ha b hb e => dis b hb (by rw [← e]; exact List.mem_cons_of_mem _ ha)⟩⟩
          rcases List.mem_append.mp z with q | q
          · exact nq.1 q
          · exact dis Dl q List.mem_cons_self
        · intro a ha
          rw [List.append_nil] at ha
          rcases List.mem_cons.mp ha with q | q
          · rw [q]; exact oap Dl List.mem_cons_self
          · rcases List.mem_append.mp q with q | q
            · exact oap a (List.mem_cons_of_mem _ q)
            · exact o5.ap a q
        · intro a ha
          rw [List.append_nil] at ha
          rcases List.mem_cons.mp ha with q | q
          · rw [q]; exact ofr Dl List.mem_cons_self
          · rcases List.mem_append.mp q with q | q
            · exact ofr a (List.mem_cons_of_mem _ q)
            · exact o5.fr a q
        · intro a ha
          rw [List.append_nil] at ha
          rcases List.mem_cons.mp ha with q | q
          · rw [q]; exact .inr hD0
          · rcases List.mem_append.mp q with q | q
            · exact newD a (List.mem_cons_of_mem _ q)
            · rcases new5 a q with z | z
              · exact n14.new a z
              · exact .inr (n14.dom a z)⟩
theorem wo_lc {it : WI} {tg : Tg} {g : TG} {vs : List Nat} {tt : WT} {elt : WO} (hg : TgOk K C g tg) (hw : TgW g vs) (h : PE X e (tLc (tI K C U it) g (tT K C noU tt) (tO K C noU elt) vs)) : PE X e (tO K C U (wLc it tg vs tt elt)) := pe_imp h (o_lc hg hw)
theorem wts_nil : PTs X [] (tT K C U wYes) := ⟨fun pins s σ H Q I h => pts_nil.run pins s σ H Q I (t_yes σ H Q h)⟩
end
end Wv
end

section
set_option Elab.async false
set_option linter.all false
set_option maxRecDepth 100000
set_option maxHeartbeats 4000000
namespace Wv
open PySem PySem.Spec PyProof.Rows L2 Evl
section
variable {K : PySem.W.Frag} {C : Cs} {U U' : UX} {G H G' H' G1 H1 G2 H2 : Hp} {sl sl' : Slots} {rt rt' : Roots} {σ : L2.St} {ρ ρ' ρ1 : List Addr} {fps fps' fps1 : List (List Addr)}
variable {X : Cx} {CX : CXT} {a b c e o : Expr} {es rest : List Expr} {wa wb wc : WE} {pos p apos : Pos} {Z : WEnds} {E : Ends} {st : Stmt}
theorem s_lt : S2 K C sLt (rI0 fun i j => .bl (decide (i < j))) := s_int0 fun _ _ _ => .bool _
theorem s_le : S2 K C sLe (rI0 fun i j => .bl (decide (i ≤ j))) := s_int0 fun _ _ _ => .bool _
theorem s_gt : S2 K C sGt (rI0 fun i j => .bl (decide (j < i))) := s_int0 fun _ _ _ => .bool _
theorem s_ge : S2 K C sGe (rI0 fun i j => .bl (decide (j ≤ i))) := s_int0 fun _ _ _ => .bool _
theorem op_eqA (hu : X.A.units + 64 < cLine) : OpR X (compareOp .Eq) (fun x y H Q => rEq x y H Q ∨ rEqD X.K x y H Q) := OpR.or' op_eq (op_eqD hu)
theorem op_neA (hu : X.A.units + 64 < cLine) : OpR X (compareOp .NotEq) (fun x y H Q => rNe x y H Q ∨ rNeD X.K x y H Q) := OpR.or' op_ne (op_neD hu)
/-- a comprehension kept by a name -/
theorem s_setLc {i : Nat} {it : WI} {tg : Tg} {g : TG} {vs : List Nat} {tt : WT} {elt : WO} (hg : TgOk K C g tg) (hw : TgW g vs) (h : PS X st (tAsg (tLc (tI K C U it) g (tT K C noU tt) (tO K C noU elt) vs) (gName i))) : PS X st (tS K C U (wNew i (wLc it tg vs tt elt))) :=
  ps_imp h fun D σ H q => o_lc hg hw σ H _ (s_new D σ H q)
theorem s_setLcF {i : Nat} {it : WI} {tg : Tg} {g : TG} {vs : List Nat} {tt : WT} {elt : WO} (hg : TgOk K C g tg) (hw : TgW g vs) (h : PS X st (tAsg (tLc (tI K C U it) g (tT K C noU tt) (tO K C noU elt) vs) (gName i))) : PS X st (tS K C U (wAsg i (wFrz (wLc it tg vs tt elt)))) :=
  ps_imp h fun D σ H q => o_lc hg hw σ H _ (e_frz σ H _ (s_asg D σ H q))

/-! ### in -/
def D.flat : D → Bool
  | .non => true
  | .bool _ => true
  | .int _ => true
  | .str _ => true
  | _ => false
def D.v : D → V
  | .non => .non
  | .bool b => .bl b
  | .int i => .int i
  | .str s => .str s
  | _ => .non
theorem flat_v {d : D} {v : V} (h : DR K C G v d) (f : d.flat = true) : v = d.v ∧ flatV v = true := by
  cases h <;> first | exact ⟨rfl, rfl⟩ | cases f
theorem flats_v : ∀ {ds : List D} {vs : List V}, DRs K C G vs ds → ds.all D.flat = true → vs = ds.map D.v ∧ vs.all flatV = true
  | [], _, .nil, _ => ⟨rfl, rfl⟩
  | d :: ds, _, .cons h r, f => by
    simp only [List.all_cons, Bool.and_eq_true] at f
    obtain ⟨h1, h2⟩ := flat_v h f.1
    obtain ⟨h3, h4⟩ := flats_v r f.2
    refine ⟨by rw [h1, h3]; rfl, ?_⟩
    rw [List.all_cons, h2, h4]
    rfl
/-- x in a list or tuple of flat items -/
def sIn (neg : Bool) : Sem2 := fun x y rt k => match x with
  | .dat d => match seqOf y rt with
    | some ds => d.flat = true ∧ ds.all D.flat = true ∧ k (.bool (if neg then !inV d.v (ds.map D.v) else inV d.v (ds.map D.v)))
    | none => False
  | _ => False
theorem s_in {neg : Bool} : S2 K C (sIn neg) (rIn K neg) := fun rt ρ fps G H x y v u s a b k Q w q => by
  unfold sIn at w
  split at w
  · split at w
    · rename_i ds e
      obtain ⟨w1, w2, w3⟩ := w
      obtain ⟨p, xs, rfl, h2, h3⟩ := s.seqOf e b
      obtain ⟨z1, z2⟩ := flats_v h3 w2
      obtain ⟨z3, z4⟩ := flat_v (show DR K C G v _ from a) w1
      refine ⟨p, xs, rfl, h2, z4, z2, ?_⟩
      rw [z1, z3]
      exact q _ _ w3 (.bool _)
    · exact w.elim
  · exact w.elim
/-- x in a text -/
def sInS (neg : Bool) : Sem2 := fun x y rt k => match x, y with
  | .dat (.str i), .dat (.str j) => k (.bool (if neg then !(!(Builtin.Str.occurrences j i 0 j.length 1).isEmpty) else !(Builtin.Str.occurrences j i 0 j.length 1).isEmpty))
  | _, _ => False
theorem s_inS : S2 K C (sInS false) (fun x y H Q => ∃ i j, x = .str i ∧ y = .str j ∧ Q (.bl (!(Builtin.Str.occurrences j i 0 j.length 1).isEmpty)) H) := fun rt ρ fps G H x y v u s a b k Q w q => by
  unfold sInS at w
  split at w
  · cases a
    cases b
    exact ⟨_, _, rfl, rfl, q _ _ w (.bool _)⟩
  · exact w.elim
theorem s_ninS : S2 K C (sInS true) (fun x y H Q => ∃ i j, x = .str i ∧ y = .str j ∧ Q (.bl (!(!(Builtin.Str.occurrences j i 0 j.length 1).isEmpty))) H) := fun rt ρ fps G H x y v u s a b k Q w q => by
  unfold sInS at w
  split at w
  · cases a
    cases b
    exact ⟨_, _, rfl, rfl, q _ _ w (.bool _)⟩
  · exact w.elim
/-- x in a tuple (or list) of data of any depth -/
def rInT (K : PySem.W.Frag) (neg : Bool) : R2 := fun x y H Q => ∃ d ds, Dp K H x d ∧ Dp K H y (.tuple ds) ∧ SeqAt.shaped d = true ∧ d.depth ≤ 32 ∧ SeqAt.shaped (.tuple ds) = true ∧ Q (.bl (if neg then !(ds.any fun z => PyData.eqv z d) else ds.any fun z => PyData.eqv z d)) H
theorem op_inT (hu : X.A.units + 64 < cLine) : OpR X (compareOp .In) (rInT X.K false) := by
  intro pins s σ H x y v u Q I rx ry h
  obtain ⟨d, ds, hd, he, sd, dep, se, q⟩ := h
  obtain ⟨as, r1⟩ := Dp.reads I d x v hd rx
  obtain ⟨bs, r2⟩ := Dp.reads I (.tuple ds) y u he ry
  exact SeqAt.in_tuple_reads r2 r1 (SeqAt.canLay_of_shaped se) (SeqAt.canLay_of_shaped sd) (by omega) ⟨.bl _, H, I, rfl, q⟩
def sInT : Sem2 := fun x y _ k => match x, y with
  | .dat d, .dat (.tup ds) => ∃ px ps, d.py = some px ∧ D.pys ds = some ps ∧ SeqAt.shaped px = true ∧ px.depth ≤ 32 ∧ SeqAt.shaped (.tuple ps) = true ∧ k (.bool (ps.any fun z => PyData.eqv z px))
  | _, _ => False
theorem s_inT : S2 K C sInT (rInT K false) := fun rt ρ fps G H x y v u s a b k Q w q => by
  unfold sInT at w
  split at w
  · obtain ⟨px, ps, h1, h2, h3, h5, h4, w⟩ := w
    exact ⟨px, ps, DR.py s.sub _ _ _ a h1, DR.py s.sub _ _ _ b (by simp [D.py, h2]), h3, h5, h4, q _ _ w (.bool _)⟩
  · exact w.elim

/-! ### lists and tuples made of others -/
theorem DRs.drop : ∀ {ds : List D} {vs : List V} (n : Nat), DRs K C G vs ds → DRs K C G (vs.drop n) (ds.drop n)
  | _, _, 0, h => h
  | [], _, n + 1, .nil => .nil
  | _ :: _, _, n + 1, .cons _ r => DRs.drop n r
theorem DRs.take : ∀ {ds : List D} {vs : List V} (n : Nat), DRs K C G vs ds → DRs K C G (vs.take n) (ds.take n)
  | _, _, 0, _ => .nil
  | [], _, n + 1, .nil => .nil
  | _ :: _, _, n + 1, .cons h r => .cons h (DRs.take n r)
def cutD (ds : List D) (lo hi : Option Int) : List D := (ds.drop (HT.sIx ds.length 0 lo)).take (HT.sIx ds.length ds.length hi - HT.sIx ds.length 0 lo)
theorem DRs.cut {ds : List D} {vs : List V} (h : DRs K C G vs ds) (lo hi : Option Int) : DRs K C G (cutV vs lo hi) (cutD ds lo hi) := by
  unfold cutV cutD
  rw [h.len]
  exact DRs.take _ (DRs.drop _ h)
/-- a slice's part -/
abbrev WP := Cxt → Roots → (Option Int → Roots → Prop) → Prop
def wNo : WP := fun _ rt k => k none rt
def wPart (w : WE) : WP := fun sl rt k => w sl rt fun x rt1 => match x with
  | .dat (.int i) => k (some i) rt1
  | _ => False
def tP (K : PySem.W.Frag) (C : Cs) (U : UX) (w : WP) : TO := fun σ H Q => ∃ sl rt ρ fps G k, St K C sl.sl rt σ ρ fps G H ∧ Xf K C U ρ fps G H sl.ex ∧ w sl rt k ∧ ∀ o rt' fps' G' H', RSt K C rt' ρ fps' G' H' → Nx fps.flatten G H G' H' fps'.flatten → k o rt' → Q o H'
theorem po_imp {e : Option Expr} {t t' : TO} (h : PO X e t) (i : ∀ σ H Q, t' σ H Q → t σ H Q) : PO X e t' := ⟨fun pins s σ H Q I q => h.run pins s σ H Q I (i σ H Q q)⟩
theorem wp_none : PO X none (tP K C U wNo) := po_imp po_none fun σ H Q ⟨sl, rt, ρ, fps, G, k, s, xf, w, q⟩ => q none rt fps G H s.toRSt (Nx.refl _ _ _) w
theorem wp_some {w : WE} (h : PE X e (tE K C U w)) : PO X (some e) (tP K C U (wPart w)) := po_imp (po_some h) fun σ H Q ⟨sl, rt, ρ, fps, G, k, s, xf, w, q⟩ =>
  ⟨sl, rt, ρ, fps, G, _, s, xf, w, fun x rt1 fps1 G1 H1 v r1 n1 v1 w1 => by
    split at w1
    · cases v1
      exact ⟨_, rfl, q _ rt1 fps1 G1 H1 r1 n1 w1⟩
    · exact w1.elim⟩
/-- xs[lo:hi], a new list -/
def wSlL (w : WE) (lo hi : WP) : WO := fun sl rt k => w sl rt fun x rt1 => lo sl rt1 fun l rt2 => hi sl rt2 fun h rt3 => match listOf x rt3 with
  | some ds => k (.lst ((cutD ds l h).map .dat)) rt3
  | none => False
theorem o_slL {w : WE} {lo hi : WP} : ∀ σ H Q, tO K C U (wSlL w lo hi) σ H Q → tSl (rSlL K) (tE K C U w) (tP K C U lo) (tP K C U hi) σ H Q := fun σ H Q ⟨sl, rt, ρ, fps, G, k, s, xf, w, q⟩ =>
  ⟨sl, rt, ρ, fps, G, _, s, xf, w, fun x rt1 fps1 G1 H1 v r1 n1 v1 w1 => ⟨sl, rt1, ρ, fps1, G1, _, s.step r1 n1 fun _ _ e => e, xf.later n1 (Pre.refl _), w1, fun l rt2 fps2 G2 H2 r2 n2 w2 =>
    ⟨sl, rt2, ρ, fps2, G2, _, s.step r2 (n1.trans n2) fun _ _ e => e, xf.later (n1.trans n2) (Pre.refl _), w2, fun h rt3 fps3 G3 H3 r3 n3 w3 => by
      split at w3
      · rename_i ds e
        obtain ⟨a, xs, rfl, h2, h3⟩ := r3.listOf e ((v1.up n2 fun _ _ e => e).up n3 fun _ _ e => e)
        refine ⟨a, xs, rfl, h2, fun p hp => ?_⟩
        have n := n1.trans (n2.trans n3)
        obtain ⟨r4, o4⟩ := r3.newL hp ((h3.cut l h).trs (H := H3)) List.nodup_nil (fun _ z => nomatch z) (fun _ z => nomatch z) (fun _ z => nomatch z)
        exact q _ rt3 fps3 _ G3 _ _ r4 (n.trans (Nx.grow hp)) o4 (fun b hb => by
          have : b = p := by simpa using hb
          rw [this]
          exact .inr (n.dom p hp)) w3
      · exact w3.elim⟩⟩⟩
theorem wo_slL {w : WE} {lo hi : WP} {l h : Option Expr} {p2 : Pos} (he : PE X e (tE X.K C U w)) (hl : PO X l (tP X.K C U lo)) (hh : PO X h (tP X.K C U hi)) : PE X (.Subscript e (.Slice l h none p2) pos) (tO X.K C U (wSlL w lo hi)) := pe_imp (pe_slice sl_list he hl hh) o_slL
/-- a tuple's slice: data -/
def wSlT (w : WE) (lo hi : WP) : WE := fun sl rt k => w sl rt fun x rt1 => lo sl rt1 fun l rt2 => hi sl rt2 fun h rt3 => match x with
  | .dat (.tup ds) => k (.dat (.tup (cutD ds l h))) rt3
  | _ => False
theorem cut_whole {ds : List D} {l h : Option Int} (e : HT.sIx ds.length 0 l = 0 ∧ HT.sIx ds.length ds.length h = ds.length) : cutD ds l h = ds := by
  unfold cutD
  rw [e.1, e.2]
  simp
theorem e_slT {w : WE} {lo hi : WP} : ∀ σ H Q, tE K C U (wSlT w lo hi) σ H Q → tSl (rSlA K) (tE K C U w) (tP K C U lo) (tP K C U hi) σ H Q := fun σ H Q ⟨sl, rt, ρ, fps, G, k, s, xf, w, q⟩ =>
  ⟨sl, rt, ρ, fps, G, _, s, xf, w, fun x rt1 fps1 G1 H1 v r1 n1 v1 w1 => ⟨sl, rt1, ρ, fps1, G1, _, s.step r1 n1 fun _ _ e => e, xf.later n1 (Pre.refl _), w1, fun l rt2 fps2 G2 H2 r2 n2 w2 =>
    ⟨sl, rt2, ρ, fps2, G2, _, s.step r2 (n1.trans n2) fun _ _ e => e, xf.later (n1.trans n2) (Pre.refl _), w2, fun h rt3 fps3 G3 H3 r3 n3 w3 => by
      have n := n1.trans (n2.trans n3)
      split at w3
      · rename_i ds
        have v3 := (v1.up n2 fun _ _ e => e).up n3 fun _ _ e => e
        cases v3 with
        | @tup a xs _ h2 r =>
          refine ⟨_, _, rfl, ex_t r3.sub h2, fun hw => ?_, fun hw p hp => ?_⟩
          · rw [r.len] at hw
            rw [cut_whole hw] at w3
            exact q (.dat (.tup ds)) rt3 fps3 G3 H3 _ r3 n (.tup h2 r) w3
          · refine q (.dat (.tup (cutD ds l h))) rt3 fps3 _ _ _ (r3.laid hp) (n.trans (Nx.laid r3.sub hp _)) ?_ w3
            exact .tup (st_of upd_same) (DRs.up (Ex.new (fresh_back r3.sub hp)) _ _ (r.cut l h))
      · exact w3.elim⟩⟩⟩
theorem we_slT {w : WE} {lo hi : WP} {l h : Option Expr} {p2 : Pos} (he : PE X e (tE X.K C U w)) (hl : PO X l (tP X.K C U lo)) (hh : PO X h (tP X.K C U hi)) : PE X (.Subscript e (.Slice l h none p2) pos) (tE X.K C U (wSlT w lo hi)) := pe_imp (pe_slice sl_tupA he hl hh) e_slT
/-- a tracked list of data -/
def lstOf (x : Val) (rt : Roots) : Option (List D) := match x with
  | .dat (.lst ds) => some ds
  | .ref r p => match tat rt r p with
    | some (.lst ts) => dats ts
    | _ => none
  | _ => none
theorem RSt.lstOf (s : RSt K C rt ρ fps G H) {x : Val} {v : V} {ds : List D} (h : lstOf x rt = some ds) (hv : VR K C G H ρ x v) : ∃ a xs, v = .ref a ∧ H a = some (.lst xs) ∧ DRs K C G xs ds := by
  unfold Wv.lstOf at h
  split at h
  · cases h
    cases hv with
    | lst h r => exact ⟨_, _, rfl, s.sub _ _ h, r⟩
  · split at h
    · rename_i ts ht
      obtain ⟨a, fu, _, _, k, _⟩ := s.get ht hv
      cases k with
      | lst h2 r =>
        have e := dats_map h
        rw [e] at r
        exact ⟨_, _, rfl, h2, (TRs.dats r).1⟩
    · cases h
  · cases h
/-- xs + ys, a new list -/
def wCatL (wa wb : WE) : WO := fun sl rt k => wa sl rt fun x rt1 => wb sl rt1 fun y rt2 => match lstOf x rt2, lstOf y rt2 with
  | some ds, some es => ds.length + es.length ≤ 40000 ∧ k (.lst ((ds ++ es).map .dat)) rt2
  | _, _ => False
theorem o_catL : ∀ σ H Q, tO K C U (wCatL wa wb) σ H Q → tOp rCat (tE K C U wa) (tE K C U wb) σ H Q := fun σ H Q ⟨sl, rt, ρ, fps, G, k, s, xf, w, q⟩ =>
  ⟨sl, rt, ρ, fps, G, _, s, xf, w, fun x rt1 fps1 G1 H1 v r1 n1 v1 w1 => ⟨sl, rt1, ρ, fps1, G1, _, s.step r1 n1 fun _ _ e => e, xf.later n1 (Pre.refl _), w1, fun y rt2 fps2 G2 H2 u r2 n2 v2 w2 => by
    split at w2
    · rename_i ds es e1 e2
      obtain ⟨a, xs, rfl, h1, d1⟩ := r2.lstOf e1 (v1.up n2 fun _ _ e => e)
      obtain ⟨b, ys, rfl, h2, d2⟩ := r2.lstOf e2 v2
      refine ⟨a, b, xs, ys, rfl, rfl, h1, h2, sz_le (by rw [d1.len, d2.len]; exact w2.1), fun p hp => ?_⟩
      have n := n1.trans n2
      obtain ⟨r4, o4⟩ := r2.newL hp ((d1.app d2).trs (H := H2)) List.nodup_nil (fun _ z => nomatch z) (fun _ z => nomatch z) (fun _ z => nomatch z)
      exact q _ rt2 fps2 _ G2 _ _ r4 (n.trans (Nx.grow hp)) o4 (fun b hb => by
        have : b = p := by simpa using hb
        rw [this]
        exact .inr (n.dom p hp)) w2.2
    · exact w2.elim⟩⟩
theorem wo_catL (ha : PE X a (tE K C U wa)) (hb : PE X b (tE K C U wb)) : PE X (.BinOp a .Add b pos) (tO K C U (wCatL wa wb)) := pe_imp (pe_op op_cat ha hb) o_catL
/-- [x, ..] * n -/
def wRepL (wa wb : WE) : WO := fun sl rt k => wa sl rt fun x rt1 => wb sl rt1 fun y rt2 => match lstOf x rt2, y with
  | some ds, .dat (.int n) => (-100000 ≤ n ∧ n ≤ 100000) ∧ ds.length * n.toNat ≤ 100000 ∧ k (.lst (((List.replicate n.toNat ds).flatten).map .dat)) rt2
  | _, _ => False
theorem DRs.rep {ds : List D} {vs : List V} (h : DRs K C G vs ds) : ∀ n : Nat, DRs K C G (List.replicate n vs).flatten (List.replicate n ds).flatten
  | 0 => .nil
  | n + 1 => by
    rw [List.replicate_succ, List.replicate_succ, List.flatten_cons, List.flatten_cons]
    exact h.app (DRs.rep h n)
theorem o_repL : ∀ σ H Q, tO K C U (wRepL wa wb) σ H Q → tOp rRep (tE K C U wa) (tE K C U wb) σ H Q := fun σ H Q ⟨sl, rt, ρ, fps, G, k, s, xf, w, q⟩ =>
  ⟨sl, rt, ρ, fps, G, _, s, xf, w, fun x rt1 fps1 G1 H1 v r1 n1 v1 w1 => ⟨sl, rt1, ρ, fps1, G1, _, s.step r1 n1 fun _ _ e => e, xf.later n1 (Pre.refl _), w1, fun y rt2 fps2 G2 H2 u r2 n2 v2 w2 => by
    split at w2
    · rename_i ds n e1
      obtain ⟨a, xs, rfl, h1, d1⟩ := r2.lstOf e1 (v1.up n2 fun _ _ e => e)
      cases v2
      refine ⟨a, n, xs, rfl, rfl, h1, by omega, by omega, sz_of (by rw [d1.len]; exact w2.2.1), fun p hp => ?_⟩
      have nn := n1.trans n2
      obtain ⟨r4, o4⟩ := r2.newL hp ((d1.rep n.toNat).trs (H := H2)) List.nodup_nil (fun _ z => nomatch z) (fun _ z => nomatch z) (fun _ z => nomatch z)
      exact q _ rt2 fps2 _ G2 _ _ r4 (nn.trans (Nx.grow hp)) o4 (fun b hb => by
        have : b = p := by simpa using hb
        rw [this]
        exact .inr (nn.dom p hp)) w2.2.2
    · exact w2.elim⟩⟩
theorem wo_repL (ha : PE X a (tE K C U wa)) (hb : PE X b (tE K C U wb)) : PE X (.BinOp a .Mult b pos) (tO K C U (wRepL wa wb)) := pe_imp (pe_op op_rep ha hb) o_repL
/-- t + u -/
def wCatT (wa wb : WE) : WE := fun sl rt k => wa sl rt fun x rt1 => wb sl rt1 fun y rt2 => match x, y with
  | .dat (.tup ds), .dat (.tup es) => ds.length + es.length ≤ 40000 ∧ k (.dat (.tup (ds ++ es))) rt2
  | _, _ => False
theorem e_catT : ∀ σ H Q, tE K C U (wCatT wa wb) σ H Q → tOp (rCatA K) (tE K C U wa) (tE K C U wb) σ H Q := fun σ H Q ⟨sl, rt, ρ, fps, G, k, s, xf, w, q⟩ =>
  ⟨sl, rt, ρ, fps, G, _, s, xf, w, fun x rt1 fps1 G1 H1 v r1 n1 v1 w1 => ⟨sl, rt1, ρ, fps1, G1, _, s.step r1 n1 fun _ _ e => e, xf.later n1 (Pre.refl _), w1, fun y rt2 fps2 G2 H2 u r2 n2 v2 w2 => by
    have v1 := v1.up n2 fun _ _ e => e
    have n := n1.trans n2
    split at w2
    · rename_i ds es _
      cases v1 with
      | @tup a xs _ h1 d1 =>
        cases v2 with
        | @tup b ys _ h2 d2 =>
          refine ⟨a, b, xs, ys, rfl, rfl, ex_t r2.sub h1, ex_t r2.sub h2, sz_le (by rw [d1.len, d2.len]; exact w2.1), fun e => ?_, fun _ e => ?_, fun _ _ p hp => ?_⟩
          · subst e
            cases d1
            exact q (.dat (.tup es)) rt2 fps2 G2 H2 _ r2 n (.tup h2 d2) w2.2
          · subst e
            cases d2
            have := w2.2
            rw [List.append_nil] at this
            exact q (.dat (.tup ds)) rt2 fps2 G2 H2 _ r2 n (.tup h1 d1) this
          · exact q (.dat (.tup (ds ++ es))) rt2 fps2 _ _ _ (r2.laid hp) (n.trans (Nx.laid r2.sub hp _)) (.tup (st_of upd_same) (DRs.up (Ex.new (fresh_back r2.sub hp)) _ _ (d1.app d2))) w2.2
    · exact w2.elim⟩⟩
theorem we_catT (ha : PE X a (tE X.K C U wa)) (hb : PE X b (tE X.K C U wb)) : PE X (.BinOp a .Add b pos) (tE X.K C U (wCatT wa wb)) := pe_imp (pe_op op_catA ha hb) e_catT
/-- divmod -/
def wDivmod (w : WA) : WE := fun sl rt k => w sl rt fun xs rt1 => match xs with
  | [.dat (.int i), .dat (.int j)] => CDiv i j ∧ k (.dat (.tup [.int (i / j), .int (i % j)])) rt1
  | _ => False
theorem e_divmod {w : WA} : ∀ σ H Q, tE K C U (wDivmod w) σ H Q → tCB (fun xs H Q => ∃ i j, xs = [.int i, .int j] ∧ CDiv i j ∧ ∀ p, H p = none → Q (.ref p) (upd H p (.tup [.int (i / j), .int (i % j)]))) (tA K C U w) σ H Q := fun σ H Q ⟨sl, rt, ρ, fps, G, k, s, xf, w, q⟩ =>
  ⟨sl, rt, ρ, fps, G, _, s, xf, w, fun xs rt1 fps1 G1 H1 vs r1 n1 v1 w1 => by
    split at w1
    · rename_i i j
      cases v1 with
      | cons h r =>
        cases r with
        | cons h' r =>
          cases r
          cases h
          cases h'
          refine ⟨i, j, rfl, w1.1, fun p hp => q (.dat (.tup [.int (i / j), .int (i % j)])) rt1 fps1 _ _ _ (r1.laid hp) (n1.trans (Nx.laid r1.sub hp _)) ?_ w1.2⟩
          exact .tup (st_of upd_same) (.cons (.int _) (.cons (.int _) .nil))
    · exact w1.elim⟩
/-- enumerate(list), the pairs new -/
def wEnum (w : WA) : WI := fun sl rt k => w sl rt fun xs rt1 => match xs with
  | [.dat (.lst ds)] => k (ds.zipIdx.map fun q => .tup [.int (q.2 : Nat), q.1]) rt1
  | _ => False
theorem i_enum {w : WA} : ∀ σ H Q, tI K C U (wEnum w) σ H Q → iEnum K (tA K C U w) σ H Q := fun σ H Q ⟨sl, rt, ρ, fps, G, k, s, xf, w, q⟩ =>
  ⟨sl, rt, ρ, fps, G, _, s, xf, w, fun xs rt1 fps1 G1 H1 vs r1 n1 v1 w1 => by
    split at w1
    · rename_i ds
      cases v1 with
      | cons h r =>
        cases r
        cases h with
        | @lst a xs _ h2 r =>
          refine ⟨a, xs, rfl, sq_of (r1.sub _ _ h2), q _ rt1 fps1 G1 H1 _ r1 n1 ⟨fun H => SqL K H a xs, YPair (fun i => some (.int (i : Nat))) (fun i => xs[i]?), ?_, fun H2 e2 => sq_of (e2 _ _ h2), fun i d H2 v H3 hd _ y => ?_⟩ w1⟩
          · rw [List.length_map, List.length_zipIdx, ← r.len]
            exact walk_enum
          · obtain ⟨T, x, y', rfl, hT, rfl, e1, e2⟩ := y
            cases e1
            rw [List.getElem?_map, List.getElem?_zipIdx] at hd
            cases z : ds[i]? with
            | none => rw [z] at hd; cases hd
            | some d0 =>
              rw [z] at hd
              cases hd
              obtain ⟨u, z1, z2⟩ := r.get z
              have e3 : some u = some y' := z1.symm.trans e2
              cases e3
              refine .inr ⟨T, _, _, hT, rfl, rfl, rfl, .cons ?_ (.cons z2 .nil)⟩
              show DR K C G1 (.int (i : Nat)) (.int ((0 + i : Nat) : Int))
              rw [Nat.zero_add]
              exact .int _
    · exact w1.elim⟩
end
end Wv
end

section
set_option Elab.async false
set_option linter.all false
set_option maxRecDepth 100000
set_option maxHeartbeats 4000000
namespace Wv
open PySem PySem.Spec PyProof.Rows L2 Evl
section
variable {K : PySem.W.Frag} {C : Cs} {U : UX} {G H G' H' G1 H1 G2 H2 : Hp} {sl sl' : Slots} {rt rt' : Roots} {σ : L2.St} {ρ ρ' ρ1 : List Addr} {fps fps' fps1 : List (List Addr)}
variable {X : Cx} {CX : CXT} {a b c e o : Expr} {es rest : List Expr} {wa wb wc : WE} {pos p apos cpos : Pos} {Z : WEnds} {E : L2.St → XK} {st : Stmt} {k : Nat} {f Ca : Addr} {fd : FuncData} {ps : List Str} {sp : Sp} {x m name : Str} {ta to : TE} {t : TA} {ds : List Value}
/-! ### a tuple whose object is known -/
def tTupX (t : TA) : TE := fun σ H Q => t σ H fun xs H1 => xs.length ≤ sizeLine ∧ ∀ p ob, ob.dict = none → H1 p = none → Q (.ref p) (upd H1 p (.frz ob (.tup xs)))
theorem pe_tupX {x1} (h : PA X es t) : PE X (.Tuple es x1 pos) (tTupX t) := by
  refine ⟨fun pins s σ H Q I hq => ?_⟩
  refine wpAny_Tuple_spliced (thn (h.run pos pins s σ H _ I hq) fun us s1 ⟨xs, H1, I1, r, z, q⟩ => ⟨by rw [← r.length]; exact z, ?_⟩)
  have hf : H1 s1.heap.objs.size = none := I1.hok.fresh (Nat.le_refl _)
  refine ⟨.ref s1.heap.objs.size, upd H1 s1.heap.objs.size (.frz { cls := .type "tuple", data := .seq us.toArray } (.tup xs)), I1.laid (t' := s1.toks) (fun b u e => Heap.get?_push_of_some _ e) (Nat.le_refl _) ?_, rfl, q _ _ rfl hf⟩
  exact ⟨Heap.get?_push_size _ rfl, z, us, r, ⟨_, Heap.get?_push_size _ rfl, rfl, _, rfl⟩⟩
def wTupX (w : WA) : WE := fun sl rt k => w sl rt fun xs rt1 => match datsV xs with
  | some ds => ds.length ≤ 1000 ∧ k (.dat (.tpx ds)) rt1
  | none => False
theorem we_tupX {x1} {w : WA} (h : PA X es (tA K C U w)) : PE X (.Tuple es x1 pos) (tE K C U (wTupX w)) := pe_imp (pe_tupX h) fun σ H Q ⟨sl, rt, ρ, fps, G, k, s, xf, w, q⟩ =>
  ⟨sl, rt, ρ, fps, G, _, s, xf, w, fun xs rt1 fps1 G1 H1 vs r1 n1 v1 w1 => by
    split at w1
    · rename_i ds e
      have dr := v1.dats e
      refine ⟨sz_le (by rw [dr.len]; exact w1.1), fun p ob ho hp => q (.dat (.tpx ds)) rt1 fps1 _ _ _ (r1.laid hp) (n1.trans (Nx.laid r1.sub hp _)) ?_ w1.2⟩
      exact .tpx upd_same ho (DRs.up (Ex.new (fresh_back r1.sub hp)) _ _ dr)
    · exact w1.elim⟩

/-! ### index of a flat thing in a list of flat things -/
def flatD : D → Bool
  | .int _ => true
  | .str _ => true
  | .bool _ => true
  | .non => true
  | _ => false
theorem flatD_ok {d : D} {v : V} (h : flatD d = true) (r : DR K C G v d) : flatV v = true := by
  cases r <;> first | rfl | cases h
/-- j is the first place of y in ds -/
def firstAt (ds : List D) (y : D) (j : Nat) : Prop := (∃ z, ds[j]? = some z ∧ D.sc z y = some true) ∧ ∀ (m : Nat) z, m < j → ds[m]? = some z → D.sc z y = some false
theorem sc_eqV {x y : D} {v u : V} {b : Bool} (h : D.sc x y = some b) (hx : DR K C G v x) (hy : DR K C G u y) : eqV v u = b := by
  unfold D.sc at h
  split at h
  case h_15 => cases h
  all_goals
    cases hx; cases hy; cases h
    first
      | rfl
      | (unfold eqV; simp)
theorem flats_ok : ∀ {ds : List D} {xs : List V}, ds.all flatD = true → DRs K C G xs ds → xs.all flatV = true
  | _, _, _, .nil => rfl
  | _, _, h, .cons r rs => by
    rw [List.all_cons, Bool.and_eq_true] at h ⊢
    exact ⟨flatD_ok h.1 r, flats_ok h.2 rs⟩
def wIxL (wo : WE) (w : WA) : WE := fun sl rt k => wo sl rt fun x rt1 => match x with
  | .dat (.lst ds) => w sl rt1 fun ys rt2 => match ys with
    | [.dat y] => flatD y = true ∧ ds.all flatD = true ∧ ∃ j, firstAt ds y j ∧ k (.dat (.int (j : Nat))) rt2
    | _ => False
  | _ => False
theorem e_ixL {wo : WE} {w : WA} : ∀ σ H Q, tE K C U (wIxL wo w) σ H Q → tBM K "list" (rIndex K) (tE K C U wo) (tA K C U w) σ H Q := fun σ H Q ⟨sl, rt, ρ, fps, G, k, s, xf, w, q⟩ =>
  ⟨sl, rt, ρ, fps, G, _, s, xf, w, fun x rt1 fps1 G1 H1 v r1 n1 v1 w1 => by
    split at w1
    · rename_i ds
      have v1' := v1
      cases v1 with
      | @lst a xs _ h r =>
        refine ⟨.inl ⟨rfl, xs, sq_of (r1.sub _ _ h)⟩, sl, rt1, ρ, fps1, G1, _, s.step r1 n1 fun _ _ e => e, xf.later n1 (Pre.refl _), w1, fun ys rt2 fps2 G2 H2 us r2 n2 v2 w2 => ?_⟩
        split at w2
        · rename_i y
          cases v2 with
          | cons hy rr =>
            cases rr
            obtain ⟨f1, f2, j, ⟨⟨z, z1, z2⟩, z3⟩, w2⟩ := w2
            have h' := n2.g _ _ h
            have r' := DRs.up n2.g _ _ r
            obtain ⟨u, u1, u2⟩ := r'.get z1
            refine ⟨a, xs, _, j, u, rfl, rfl, sq_of (r2.sub _ _ h'), flatD_ok f1 hy, flats_ok f2 r', u1, sc_eqV z2 u2 hy, fun m z' hm hz' => ?_, q (.dat (.int j)) rt2 fps2 G2 H2 _ r2 (n1.trans n2) (DR.int _) w2⟩
            have hl : m < ds.length := by
              have := (List.getElem?_eq_some_iff.mp hz').1
              rw [r'.len] at this
              exact this
            obtain ⟨u', k1, k2⟩ := r'.get (List.getElem?_eq_getElem hl)
            rw [k1] at hz'
            cases hz'
            exact sc_eqV (z3 m _ hm (List.getElem?_eq_getElem hl)) k2 hy
        · exact w2.elim
    · exact w1.elim⟩
theorem we_ixL {wo : WE} {w : WA} (h : PE X e (tBM X.K "list" (rIndex X.K) (tE X.K C U wo) (tA X.K C U w))) : PE X e (tE X.K C U (wIxL wo w)) := pe_imp h e_ixL
/-- t.index(x), t a tuple whose object is known -/
def rIndexT : V → List V → Hp → VK → Prop := fun x xs H Q => ∃ (a : Addr) (ob : Obj) (ys : List V) (y : V) (j : Nat) (z : V), x = V.ref a ∧ xs = [y] ∧ H a = some (.frz ob (.tup ys)) ∧ flatV y = true ∧ ys.all flatV = true ∧ ys[j]? = some z ∧ eqV z y = true ∧
  (∀ (m : Nat) (z' : V), m < j → ys[m]? = some z' → eqV z' y = false) ∧ Q (.int (j : Nat)) H
theorem mt_indexT : MtR X "tuple.index" rIndexT := by
  intro pins s σ H x xs v us Q I rx rxs h
  obtain ⟨a, ob, ys, y, j, z, rfl, rfl, hs, fy, fys, hz, hzj, hno, q⟩ := h
  cases rx
  cases rxs with
  | cons ry rt =>
    rename_i uy ut
    cases rt
    obtain ⟨its, rv, pl, hlen⟩ := I.tuple (.inl (.inr ⟨ob, hs⟩))
    obtain ⟨⟨cls, dd, dt, sl⟩, ho, hc, n, hd⟩ := pl
    simp only at hc hd
    subst hc hd
    obtain ⟨u, hu, ru⟩ := rv.get hz
    obtain ⟨hjl, hje⟩ := List.getElem?_eq_some_iff.mp hu
    have hvl := rv.length
    have hj : j < its.toArray.size := by simpa using hjl
    refine call_meets PySem.F.slot_tuple_index ⟨_, ho, rfl⟩ PySem.F.entry_tuple_index (PySem.F.args_tuple_index_2 _ _)
      (TI.tuple_indexAt a its.toArray n dd sl uy (eqU y) j hj ?_ ?_) ⟨ho, fun u' hu' => mem_eqAt ry fy rv fys u' (by simpa using hu'), ?_⟩
    · have e1 : its.toArray[j] = u := by simpa using hje
      rw [e1, eqU_of ru (flat_at fys hz)]
      exact hzj
    · intro m hm hmj
      have hml : m < its.length := by simpa using hm
      have hmy : m < ys.length := by omega
      have hy' : ys[m]? = some ys[m] := List.getElem?_eq_getElem hmy
      obtain ⟨u2, hu2, ru2⟩ := rv.get hy'
      obtain ⟨_, hme⟩ := List.getElem?_eq_some_iff.mp hu2
      have e1 : its.toArray[m] = u2 := by simpa using hme
      rw [e1, eqU_of ru2 (flat_at fys hy')]
      exact hno m _ hmj hy'
    · exact ⟨.int (j : Nat), H, I.tok _, ⟨_, rfl⟩, q⟩
def tBMT (r : V → List V → Hp → VK → Prop) (to : TE) (t : TA) : TE := fun σ H Q => to σ H fun x H1 => (∃ a ob xs, x = .ref a ∧ H1 a = some (.frz ob (.tup xs)) ∧ ob.dict = none) ∧ t σ H1 fun xs H2 => r x xs H2 Q
theorem pe_bmT {T id : String} {r : V → List V → Hp → VK → Prop} (hT : T = "tuple") (pa : PlainAttrs T) (slot : Slot T name id) (hty : typeOf (.builtin id) = pure (.type "method_descriptor")) (hm : MtR X id r) (ho : PE X o to) (ha : PA X (e :: es) t)
    (hbase : attributeBase o name X.env (eval o X.env) = eval o X.env := by rfl)
    (hfew : ((backTo cpos (starEach (e :: es) X.env)).all (fun x => !x.1) && (backToKw cpos (keywordEach [] X.env)).all (fun x => x.1.isSome)
      && decide ((e :: es).length + ([] : List Keyword).length + (if ([] : List Keyword).isEmpty then 0 else 1) < 30)) = true := by rfl)
    (hline : (apos.endLine == cpos.line) = true := by rfl) (hs : starEach (e :: es) X.env = (false, eval e X.env) :: starEach es X.env := by rfl) (hplain : (backTo cpos (starEach es X.env)).any (·.1) = false := by rfl) :
    PE X (.Call (.Attribute o name apos) (e :: es) [] cpos) (tBMT r to t) := by
  refine ⟨fun pins s σ H Q I h => ?_⟩
  refine wpAny_Call_method_late hbase hfew hline rfl (thn (ho.run pins s σ H _ I h) fun v s1 ⟨x, H1, I1, r1, ⟨a, ob, xs, ea, hx, hd⟩, q1⟩ => ?_)
  subst ea
  obtain rfl : v = Value.ref a := r1
  obtain ⟨h0, _, _, _, o', h1, h2, _⟩ := (show ObjOk X.prog X.w H1 s1.heap a (.frz ob (.tup xs)) from I1.hok a _ hx)
  have e : o' = ob := by rw [h0] at h1; exact (Option.some.inj h1).symm
  subst e
  subst hT
  refine ⟨_, id, pa, slot, hty, ⟨_, h0, h2⟩, fun a' e' => by cases e'; exact ⟨_, h0, hd⟩, ?_⟩
  have hA := ha.run cpos pins s1 σ H1 _ I1 q1
  rw [hs] at hA ⊢
  refine Calls.callWith_builtin (by show (false || (backTo cpos (starEach es X.env)).any (·.1)) = false; rw [hplain] <;> rfl) (Calls.evalArgs_plain ?_)
  exact thn hA fun us s2 ⟨vs, H2, I2, r2, q2⟩ => hm pins s2 σ H2 (.ref a) vs _ us Q I2 rfl r2 q2
def wIxT (wo : WE) (w : WA) : WE := fun sl rt k => wo sl rt fun x rt1 => match x with
  | .dat (.tpx ds) => w sl rt1 fun ys rt2 => match ys with
    | [.dat y] => flatD y = true ∧ ds.all flatD = true ∧ ∃ j, firstAt ds y j ∧ k (.dat (.int (j : Nat))) rt2
    | _ => False
  | _ => False
theorem e_ixT {wo : WE} {w : WA} : ∀ σ H Q, tE K C U (wIxT wo w) σ H Q → tBMT rIndexT (tE K C U wo) (tA K C U w) σ H Q := fun σ H Q ⟨sl, rt, ρ, fps, G, k, s, xf, w, q⟩ =>
  ⟨sl, rt, ρ, fps, G, _, s, xf, w, fun x rt1 fps1 G1 H1 v r1 n1 v1 w1 => by
    split at w1
    · rename_i ds
      cases v1 with
      | @tpx a ob xs _ h hd r =>
        refine ⟨⟨a, ob, xs, rfl, r1.sub _ _ h, hd⟩, sl, rt1, ρ, fps1, G1, _, s.step r1 n1 fun _ _ e => e, xf.later n1 (Pre.refl _), w1, fun ys rt2 fps2 G2 H2 us r2 n2 v2 w2 => ?_⟩
        split at w2
        · rename_i y
          cases v2 with
          | cons hy rr =>
            cases rr
            obtain ⟨f1, f2, j, ⟨⟨z, z1, z2⟩, z3⟩, w2⟩ := w2
            have h' := n2.g _ _ h
            have r' := DRs.up n2.g _ _ r
            obtain ⟨u, u1, u2⟩ := r'.get z1
            refine ⟨a, ob, xs, _, j, u, rfl, rfl, r2.sub _ _ h', flatD_ok f1 hy, flats_ok f2 r', u1, sc_eqV z2 u2 hy, fun m z' hm hz' => ?_, q (.dat (.int j)) rt2 fps2 G2 H2 _ r2 (n1.trans n2) (DR.int _) w2⟩
            have hl : m < ds.length := by
              have := (List.getElem?_eq_some_iff.mp hz').1
              rw [r'.len] at this
              exact this
            obtain ⟨u', k1, k2⟩ := r'.get (List.getElem?_eq_getElem hl)
            rw [k1] at hz'
            cases hz'
            exact sc_eqV (z3 m _ hm (List.getElem?_eq_getElem hl)) k2 hy
        · exact w2.elim
    · exact w1.elim⟩
theorem we_ixT {wo : WE} {w : WA} (h : PE X e (tBMT rIndexT (tE K C U wo) (tA K C U w))) : PE X e (tE K C U (wIxT wo w)) := pe_imp h e_ixT

/-! ### sorted of fewer than 64 integers -/
def intsD : List D → Option (List Int)
  | [] => some []
  | .int i :: ds => (intsD ds).map (i :: ·)
  | _ :: _ => none
theorem intsD_ok : ∀ (ds : List D) (xs : List V) (ns : List Int), intsD ds = some ns → DRs K C G xs ds → xs = ns.map V.int
  | [], _, ns, h, r => by cases r; cases h; rfl
  | d :: ds, _, ns, h, r => by
    cases r with
    | cons r rs =>
      cases d with
      | int i =>
        cases r
        obtain ⟨ms, h1, rfl⟩ := Option.map_eq_some_iff.mp (show (intsD ds).map (i :: ·) = some ns from h)
        rw [intsD_ok ds _ ms h1 rs]
        rfl
      | _ => cases h
theorem trs_ints : ∀ (ns : List Int), TRs K C G H (ns.map V.int) (ns.map fun i => .dat (.int i)) []
  | [] => .nil
  | i :: ns => .cons (fp := []) (fq := []) (.dat (.int i)) (trs_ints ns)
def wSorted (w : WA) : WO := fun sl rt k => w sl rt fun xs rt1 => match xs with
  | [x] => match listOf x rt1 with
    | some ds => ∃ ns, intsD ds = some ns ∧ ns.length < 64 ∧ ∀ ns' : List Int, ns'.Perm ns → ns'.Pairwise (· ≤ ·) → k (.lst (ns'.map fun i => .dat (.int i))) rt1
    | none => False
  | _ => False
theorem o_sorted {w : WA} : ∀ σ H Q, tO K C U (wSorted w) σ H Q → tCB (rSorted K) (tA K C U w) σ H Q := fun σ H Q ⟨sl, rt, ρ, fps, G, k, s, xf, w, q⟩ =>
  ⟨sl, rt, ρ, fps, G, _, s, xf, w, fun xs rt1 fps1 G1 H1 vs r1 n1 v1 w1 => by
    split at w1
    · split at w1
      · rename_i ds e
        cases v1 with
        | cons h r =>
          cases r
          obtain ⟨a, xs, rfl, h2, h3⟩ := r1.listOf e h
          obtain ⟨ns, i1, i2, w1⟩ := w1
          have hx := intsD_ok _ _ _ i1 h3
          subst hx
          refine ⟨a, ns, rfl, h2, i2, fun ns' p hp hs hn => ?_⟩
          obtain ⟨r2, o2⟩ := r1.newL hn (trs_ints (H := H1) ns') List.nodup_nil (fun _ z => nomatch z) (fun _ z => nomatch z) (fun _ z => nomatch z)
          exact q _ rt1 fps1 _ G1 _ _ r2 (n1.trans (Nx.grow hn)) o2 (fun b hb => by
            have : b = p := by simpa using hb
            rw [this]
            exact .inr (n1.dom p hn)) (w1 ns' hp hs)
      · exact w1.elim
    · exact w1.elim⟩

/-! ### isinstance of an own instance or an int; an own == -/
structure IsK (K : PySem.W.Frag) (C : Addr) : Prop where
  cl : Cls K C
  ha : PySem.W.findIn K (.ref C) "__class__" = some (some (.builtin "object.__class__"))
  hn : PySem.W.specialIn K (.builtin "object.__class__") "__get__" = some (some (.builtin "getset_descriptor.__get__"))
  htk : PySem.W.takesIn K (.builtin "object.__class__") = some true
  hm : PySem.W.mroIn K C (.type "object") = some true
  me : PySem.W.kitOne K (.ref C) (.ref C) = some true
  int : PySem.W.kitOne K (.type "int") (.ref C) = some false
def wIsC (c : Nat) (w : WE) : WE := fun sl rt k => w sl rt fun x rt1 => match x with
  | .dat (.obj c' _) => c' = c ∧ k (.dat (.bool true)) rt1
  | .dat (.int _) => k (.dat (.bool false)) rt1
  | _ => False
theorem e_isC {c : Nat} {w : WE} (hc : IsK K (C.at_ c)) : ∀ σ H Q, tE K C U (wIsC c w) σ H Q → tCB (rIsi K) (tCons (tE K C U w) (tCons (tC (.ref (C.at_ c))) tNil)) σ H Q := fun σ H Q ⟨sl, rt, ρ, fps, G, k, s, xf, w, q⟩ =>
  ⟨sl, rt, ρ, fps, G, _, s, xf, w, fun x rt1 fps1 G1 H1 v r1 n1 v1 w1 => by
    split at w1
    · obtain ⟨e, w1⟩ := w1
      subst e
      cases v1 with
      | obj h n r => exact ⟨_, _, _, _, true, rfl, .own _, .base (.ins (r1.sub _ _ h) hc.cl hc.ha hc.hn hc.htk hc.hm), hc.me, q (.dat (.bool true)) rt1 fps1 G1 H1 _ r1 n1 (DR.bool _) w1⟩
    · cases v1 with
      | int i => exact ⟨_, _, _, _, false, rfl, .own _, .base (.int _), hc.int, q (.dat (.bool false)) rt1 fps1 G1 H1 _ r1 n1 (DR.bool _) w1⟩
    · exact w1.elim⟩
theorem we_isC {c : Nat} {w : WE} (hc : IsK X.K (C.at_ c)) (h : PE X e (tCB (rIsi X.K) (tCons (tE X.K C U w) (tCons (tC (.ref (C.at_ c))) tNil)))) : PE X e (tE X.K C U (wIsC c w)) := pe_imp h (e_isC hc)
end
end Wv
end

section
set_option Elab.async false
set_option linter.all false
set_option maxRecDepth 100000
set_option maxHeartbeats 4000000
namespace Wv
open PySem PySem.Spec PyProof.Rows L2 Evl
section
variable {K : PySem.W.Frag} {C : Cs} {U : UX} {G H G' H' G1 H1 G2 H2 : Hp} {sl sl' : Slots} {rt rt' : Roots} {σ : L2.St} {ρ ρ' ρ1 : List Addr} {fps fps' fps1 : List (List Addr)}
variable {X : Cx} {CX : CXT} {a b c e o : Expr} {es rest : List Expr} {wa wb wc : WE} {pos p apos cpos : Pos} {Z : WEnds} {E : XK} {st : Stmt} {k : Nat} {f Ca : Addr} {fd : FuncData} {ps : List Str} {sp : Sp} {x m name : Str} {ta to : TE} {t : TA} {ds : List Value}
/-! ### an own ==, both answers -/
/-- a def called from below -/
theorem run_at {A : Around} {pins : List (Addr × Obj)} {H : Hp} {s : Shared} {Q : VK} {us : List Value} {vs : List V} (sb : Sub X k A) (F : FnOk X.prog X.w X.K X.mg X.base CX k f fd ps sp) (hb : Binds X.K fd ps []) (hx : Passes CX X E)
    (I : Inv X pins σ H s) (r : Vals vs us) (h : sp vs H Q E) : wpAny (model X.prog X.w) A (call (.ref f) us) (EP X pins σ Q) X.xe s := by
  have e0 : Env0 X.prog X.w X.K X.mg X.base A X.stack s H := by
    have e := I.env0
    exact ⟨by rw [sb.fr]; exact e.frames, e.mod, e.bs, e.bsz, e.funs, e.frf, e.hok, e.bare⟩
  have hl := F.len _ _ _ _ h
  refine wpAny_call (codeAny_mono (F.run A X.stack s H ⟨us, []⟩ us vs Q E sb.room e0 (by
    have := hb s us I.kIn (by rw [← hl, r.length]; simp)
    simpa using this) r h) fun z s' hq => ?_)
  cases z with
  | error e => exact hx pins σ H s e s' I hq
  | ok fl =>
    cases fl with
    | ret w => exact I.after hq
    | next => exact False.elim hq
    | brk => exact False.elim hq
    | cont => exact False.elim hq
def rOwn (Ca : Addr) (sp : Sp) (neg : Bool) : R2 := fun x y H Q => ∃ a dx fs, x = .ref a ∧ H a = some (.ins Ca dx fs) ∧ ((∃ i, y = .int i) ∨ ∃ b dy gs, y = .ref b ∧ H b = some (.ins Ca dy gs)) ∧
  sp [x, y] H (fun v H' => ∃ b, v = .bl b ∧ Q (.bl (neg != b)) H') fun _ _ _ => False
structure EqK (K : PySem.W.Frag) (Ca f : Addr) : Prop where
  eq : PySem.W.findIn K (.ref Ca) "__eq__" = some (some (.ref f))
  ne : PySem.W.findIn K (.ref Ca) "__ne__" = some (some (.builtin "object.__ne__"))
  fn : PySem.W.isFn K (.ref f) = true
  hm : PySem.W.mroIn K Ca (.type "object") = some true
theorem not_int {K : PySem.W.Frag} {C : Addr} : PySem.W.notFirst K C (.type "int") = true := by
  have e : fastBuiltinMro "int" = some [.type "int", .type "object"] := by decide +kernel
  have : PySem.W.subIn K (.type "int") (.ref C) = some false := by
    show (fastBuiltinMro "int").map (·.contains (.ref C)) = some false
    rw [e]
    first
      | rfl
      | simp
  unfold PySem.W.notFirst
  rw [this]
  simp
theorem op_ownEq (F : FnOk X.prog X.w X.K X.mg X.base CX k f fd ps sp) (hr : Room k X.A) (hk : EqK X.K Ca f) (hb : Binds X.K fd ps []) (hx : Passes CX X fun _ _ _ => False) : OpR X (compareOp .Eq) (rOwn Ca sp false) := by
  intro pins s σ H x y v u Q I rx ry ⟨a, dx, fs, ex, ha, hy, h⟩
  subst ex
  obtain rfl : v = Value.ref a := rx
  obtain ⟨mA, J, _⟩ := ins_get I.hok ha
  obtain ⟨od, J, _⟩ := J.look
  obtain ⟨m, hF⟩ := I.fr
  have r2 : Vals [V.ref a, y] [Value.ref a, u] := .cons rfl (.cons ry .nil)
  have hcall := run_at ⟨hr, rfl⟩ F hb hx I r2 h
  have back : wpAny (model X.prog X.w) X.A (call (.ref f) [.ref a, u]) (PySem.W.CmpBack (EP X pins σ Q)) X.xe s := wpAny_mono hcall (fun w s' hw => by
    obtain ⟨z, H', I', rz, b, ez, q⟩ := hw
    subst ez
    cases rz
    exact ⟨.bl b, H', I', rfl, by simpa using q⟩) fun _ _ z => z
  show wpAny (model X.prog X.w) X.A (richCompare .Eq (.ref a) u) (EP X pins σ Q) X.xe s
  rcases hy with ⟨i, rfl⟩ | ⟨b, dy, gs, rfl, hb'⟩
  · obtain ⟨t, rfl⟩ := ry
    exact PySem.W.cmp_K (op := .Eq) (tb := .type "int") hr.units0 hF I.ok.mod.kin J (PySem.W.Looks.of_pure rfl) not_int hk.eq hk.fn back
  · obtain rfl : u = Value.ref b := ry
    obtain ⟨mB, J', _⟩ := ins_get I.hok hb'
    obtain ⟨od', J', _⟩ := J'.look
    exact PySem.W.cmp_K (op := .Eq) (tb := .ref Ca) hr.units0 hF I.ok.mod.kin J J'.type (by simp [PySem.W.notFirst]) hk.eq hk.fn back
section
variable {A : Around} {EV : Value → Shared → Prop} {s : Shared} {ax : Addr} {ox : Obj} {od : Option Obj}
theorem ifBound_ne {args : List Value} {Q : Option Value → Shared → Prop} (hX : K.In s.heap) (I : PySem.W.InstAt s.heap ax ox Ca od) (hs : PySem.W.findIn K (.ref Ca) "__ne__" = some (some (.builtin "object.__ne__")))
    (h : wpAny (model X.prog X.w) A (call (.builtin "object.__ne__") (.ref ax :: args)) (fun v => Q (some v)) EV s) : wpAny (model X.prog X.w) A (callSpecialIfBound? (.ref ax) "__ne__" args) Q EV s := by
  simp only [callSpecialIfBound?, bindSpecialIfBound?]
  refine wpAny_holding (wpAny_bind (wpAny_bind (wpAny_bind (I.type.here ((PySem.W.looks_findIn hX hs).here ?_)))))
  refine wpAny_bind (wpAny_askSetting (wpAny_ite ?_))
  have fin : wpAny (model X.prog X.w) A (call (.builtin "object.__ne__") ([.ref ax] ++ args) >>= fun v => pure (some v)) Q EV s := wpAny_bind (wpAny_mono h (fun v s' h' => wpAny_pure h') fun _ _ h' => h')
  split
  · exact wpAny_bind (wpAny_of_eq (F.cmp_object.ne.bind _) (wpAny_pure (by exact fin)))
  · exact wpAny_tryCatch (wpAny_bind (wpAny_of_eq (F.cmp_object.ne.bind _) (wpAny_pure (by exact fin))))
theorem entry_ne {y : Value} {Q : PySem.Fin → Shared → Prop} (hX : K.In s.heap) (I : PySem.W.InstAt s.heap ax ox Ca od) (hk : EqK K Ca f) (hu : A.units < cLine)
    (h : wpAny (model X.prog X.w) A (call (.ref f) [.ref ax, y]) (fun v s' => ∃ b, v = .bool b ∧ Q (.done (.ret (.bool (!b)))) s') EV s) : wpAny (model X.prog X.w) A (Builtin.«object.__ne__» ⟨[.ref ax, y], []⟩) Q EV s := by
  unfold Builtin.«object.__ne__»
  repeat (first
    | with_reducible refine wpAny_cRoomFor hu ?_
    | (refine wpAny_bind (m := callSpecialIfBound? (.ref ax) (Str.ofString "__eq__") [y])
        (PySem.W.ifBound_K hX I hk.eq hk.fn (wpAny_mono h (fun r s' hr => by
          obtain ⟨b, rfl, hq⟩ := hr
          repeat (first | exact hq | exact wpAny_pure hq | exact wpAny_truthy_bool hq | (refine wpAny_bind (m := truthy (.bool _)) (wpAny_truthy_bool ?_)) | wp_step)) fun _ _ e => e)))
    | wp_step)
theorem rc_ne {y tb : Value} {Q : Value → Shared → Prop} (hX : K.In s.heap) (I : PySem.W.InstAt s.heap ax ox Ca od) (hk : EqK K Ca f) (hu : A.units + 1 < cLine) (hb : PySem.W.Looks (model X.prog X.w) s.heap (typeOf y) tb) (hn : PySem.W.notFirst K Ca tb = true)
    (h : wpAny (model X.prog X.w) A.in1 (call (.ref f) [.ref ax, y]) (fun v s' => ∃ b, v = .bool b ∧ Q (.bool (!b)) s') EV s) : wpAny (model X.prog X.w) A (richCompare .NotEq (.ref ax) y) Q EV s := by
  have one : wpAny (model X.prog X.w) A (tryCompare (.ref ax) (cmpInfo .NotEq).2.1 y) (fun r s' => ∃ v, r = some v ∧ Q v s') EV s := by
    unfold tryCompare
    refine wpAny_bind (ifBound_ne hX I hk.ne (wpAny_call (codeAny_call_builtin F.cmp_object.ne.plain F.cmpEntry_ne
      (PySem.W.check_slot F.cmpKind_ne F.cmpSplit_ne (I.type.andThen (PySem.W.looks_mroIn hX hk.hm)) (F.cmpArgs_ne _ _) (entry_ne (A := A.in1) hX I hk hu (wpAny_mono h (fun v s' hv => ?_) fun _ _ e => e))))))
    obtain ⟨b, rfl, hq⟩ := hv
    first
      | exact ⟨b, rfl, wpAny_pure ⟨_, rfl, hq⟩⟩
      | exact ⟨b, rfl, wpAny_pure (wpAny_pure ⟨_, rfl, hq⟩)⟩
  unfold richCompare
  simp only [oneThing_ref]
  refine wpAny_holding (wpAny_bind (wpAny_cRoomFor (Nat.lt_of_succ_lt hu) ?_))
  refine wpAny_bind (I.type.here (wpAny_bind (hb.here ?_)))
  split
  · rename_i q
    have e : PySem.W.subIn K tb (.ref Ca) = some false := by
      rcases Bool.or_eq_true_iff.mp hn with e | e
      · rw [beq_iff_eq.mp e] at q; simp at q
      · exact beq_iff_eq.mp e
    refine wpAny_bind ((PySem.W.looks_subIn hX e).here ?_)
    simp only [Bool.false_eq_true, if_false]
    refine wpAny_bind (wpAny_mono one (fun r s' z => ?_) fun _ _ e => e)
    obtain ⟨v, rfl, hq⟩ := z
    exact wpAny_pure hq
  · refine wpAny_bind (wpAny_pure ?_)
    simp only [Bool.false_eq_true, if_false]
    refine wpAny_bind (wpAny_mono one (fun r s' z => ?_) fun _ _ e => e)
    obtain ⟨v, rfl, hq⟩ := z
    exact wpAny_pure hq
end
theorem op_ownNe (F : FnOk X.prog X.w X.K X.mg X.base CX k f fd ps sp) (hr : Room (k + 1) X.A) (hk : EqK X.K Ca f) (hb : Binds X.K fd ps []) (hx : Passes CX X fun _ _ _ => False) : OpR X (compareOp .NotEq) (rOwn Ca sp true) := by
  intro pins s σ H x y v u Q I rx ry ⟨a, dx, fs, ex, ha, hy, h⟩
  subst ex
  obtain rfl : v = Value.ref a := rx
  obtain ⟨mA, J, _⟩ := ins_get I.hok ha
  obtain ⟨od, J, _⟩ := J.look
  have r2 : Vals [V.ref a, y] [Value.ref a, u] := .cons rfl (.cons ry .nil)
  have sb : Sub X (k + 1) X.A := ⟨hr, rfl⟩
  have hcall := run_at sb.in1 F hb hx I r2 h
  have back : wpAny (model X.prog X.w) X.A.in1 (call (.ref f) [.ref a, u]) (fun v s' => ∃ b, v = .bool b ∧ EP X pins σ Q (.bool (!b)) s') X.xe s := wpAny_mono hcall (fun w s' hw => by
    obtain ⟨z, H', I', rz, b, ez, q⟩ := hw
    subst ez
    cases rz
    exact ⟨b, rfl, .bl (!b), H', I', rfl, by simpa using q⟩) fun _ _ z => z
  have hu : X.A.units + 1 < cLine := by have := hr.un; omega
  show wpAny (model X.prog X.w) X.A (richCompare .NotEq (.ref a) u) (EP X pins σ Q) X.xe s
  rcases hy with ⟨i, rfl⟩ | ⟨b, dy, gs, rfl, hb'⟩
  · obtain ⟨t, rfl⟩ := ry
    exact rc_ne (tb := .type "int") I.kIn J hk hu (PySem.W.Looks.of_pure rfl) not_int back
  · obtain rfl : u = Value.ref b := ry
    obtain ⟨mB, J', _⟩ := ins_get I.hok hb'
    obtain ⟨od', J', _⟩ := J'.look
    exact rc_ne (tb := .ref Ca) I.kIn J hk hu J'.type (by simp [PySem.W.notFirst]) back
/-- a == b, a != b of an own instance and an instance of its class, or an int -/
def wOwn (c : Nat) (cw : CW) (neg : Bool) (wa wb : WE) : WE := fun sl rt k => wa sl rt fun x rt1 => wb sl rt1 fun y rt2 => match x, y with
  | .dat (.obj c1 d1), .dat (.obj c2 d2) => c1 = c ∧ c2 = c ∧ cw [x, y] [] (fun t _ => match t with
      | .dat (.bool b) => k (.dat (.bool (neg != b))) rt2
      | _ => False) fun _ _ => False
  | .dat (.obj c1 d1), .dat (.int i) => c1 = c ∧ cw [x, y] [] (fun t _ => match t with
      | .dat (.bool b) => k (.dat (.bool (neg != b))) rt2
      | _ => False) fun _ _ => False
  | _, _ => False
theorem e_own {c : Nat} {cw : CW} {neg : Bool} : ∀ σ H Q, tE K C U (wOwn c cw neg wa wb) σ H Q → tOp (rOwn (C.at_ c) (spW K C cw) neg) (tE K C U wa) (tE K C U wb) σ H Q := fun σ H Q ⟨sl, rt, ρ, fps, G, k, s, xf, w, q⟩ =>
  ⟨sl, rt, ρ, fps, G, _, s, xf, w, fun x rt1 fps1 G1 H1 v r1 n1 v1 w1 => ⟨sl, rt1, ρ, fps1, G1, _, s.step r1 n1 fun _ _ e => e, xf.later n1 (Pre.refl _), w1, fun y rt2 fps2 G2 H2 u r2 n2 v2 w2 => by
    have v1 := v1.up n2 fun _ _ e => e
    have n3 := n1.trans n2
    have main : ∀ d1 d2, x = .dat d1 → y = .dat d2 → (cw [x, y] [] (fun t _ => match t with
        | .dat (.bool b) => k (.dat (.bool (neg != b))) rt2
        | _ => False) fun _ _ => False) → spW K C cw [v, u] H2 (fun v H' => ∃ b, v = .bl b ∧ Q (.bl (neg != b)) H') fun _ _ _ => False := fun d1 d2 e1 e2 w => by
      subst e1 e2
      refine sp_use (k := fun t rt' => match t with
        | .dat (.bool b) => k (.dat (.bool (neg != b))) rt'
        | _ => False) (kx := fun _ _ => False) r2 (.cons v1 (.cons v2 .nil)) rfl rfl w (fun t rt' fps' fp G' H' v r' n' o' new hk => ?_) fun _ _ _ _ _ _ _ _ _ _ z => z.elim
      split at hk
      · rename_i b
        cases o'.tr with
        | dat h =>
          cases h
          exact ⟨b, rfl, q (.dat (.bool (neg != b))) rt' fps' G' H' _ r' (n3.trans n') (DR.bool _) hk⟩
      · exact hk.elim
    split at w2
    · obtain ⟨e1, e2, w2⟩ := w2
      subst e1
      have w3 := main _ _ rfl rfl w2
      cases v1 with
      | obj h n r =>
        cases v2 with
        | obj h' n' r' =>
          subst e2
          exact ⟨_, _, _, rfl, r2.sub _ _ h, .inr ⟨_, _, _, rfl, r2.sub _ _ h'⟩, w3⟩
    · obtain ⟨e1, w2⟩ := w2
      subst e1
      have w3 := main _ _ rfl rfl w2
      cases v1 with
      | obj h n r =>
        cases v2
        exact ⟨_, _, _, rfl, r2.sub _ _ h, .inl ⟨_, rfl⟩, w3⟩
    · exact w2.elim⟩⟩
theorem we_own {c : Nat} {cw : CW} {op : CmpOp} {neg : Bool} (ho : OpR X (compareOp op) (rOwn (C.at_ c) (spW K C cw) neg)) (ha : PE X a (tE K C U wa)) (hb : PE X b (tE K C U wb)) (hm : behindInMarks op b = false) : PE X (.Compare a [op] [b] pos) (tE K C U (wOwn c cw neg wa wb)) := pe_imp (pe_cmpR ho ha hb hm) e_own
theorem wt_own {c : Nat} {cw : CW} {op : CmpOp} {neg : Bool} (ho : OpR X (compareOp op) (rOwn (C.at_ c) (spW K C cw) neg)) (ha : PE X a (tE K C U wa)) (hb : PE X b (tE K C U wb)) (hm : behindInMarks op b = false) : PT X (.Compare a [op] [b] pos) (tT K C U (wB (wOwn c cw neg wa wb))) :=
  pt_imp (pt_cmpR ho ha hb hm) fun σ H Q h => e_own σ H _ (t_test σ H Q h)
end
end Wv
end

section
set_option Elab.async false
set_option linter.all false
set_option maxRecDepth 100000
set_option maxHeartbeats 4000000
namespace Wv
open PySem PySem.Spec PyProof.Rows L2 Evl
open PySem (Sem.wp)
theorem meets_enumerate_newT (l : Addr) (items : Array Value) (n : Nat) (dct : Option Addr) (sl : Array (Option Value)) :
    Meets (Builtin.«enumerate.__new__» ⟨[.type "enumerate", .ref l], []⟩) (fun _ R s => s.heap.get? l = some { cls := .type "tuple", dict := dct, data := .seq items n, slots := sl } ∧
      R (.ok (.ret (.ref (s.heap.push { cls := .type "tuple_iterator", data := .fields #[.ref l, .int 0 0] }).objs.size)))
        { s with heap := (s.heap.push { cls := .type "tuple_iterator", data := .fields #[.ref l, .int 0 0] }).push { cls := .type "enumerate", data := .fields #[.none, .bool false, .ref s.heap.objs.size, rawInt 0, .none, .none] } }) :=
  .of_wp fun prog w A R s h => by
    obtain ⟨hp, g, d, tk, os⟩ := s; obtain ⟨hl, h⟩ := h
    have hsub := sub_enumerate
    have hL : Heap.IsTuple (Shared.heap ⟨hp, g, d, tk, os⟩) l items := ⟨_, hl, rfl, n, rfl⟩
    wp_walk using AutoSeq1.wpAny_loadPart' hl
    refine wpAny_stack_any fun st => wpAny_pure ?_
    split
    · rename_i c _ _ _ _ _
      cases (c == Value.type "enumerate")
      · wp_walk using AutoSeq1.wpAny_loadPart' hl, wpAny_pyIter_tuple hL
        exact ⟨_, rfl, h⟩
      · wp_walk using AutoSeq1.wpAny_loadPart' hl, wpAny_pyIter_tuple hL
        exact ⟨_, rfl, h⟩
    · wp_walk using AutoSeq1.wpAny_loadPart' hl, wpAny_pyIter_tuple hL
      exact ⟨_, rfl, h⟩
theorem call_enumerate_tuple {prog : Program} {w : World} {A : Around} {E : Value → Shared → Prop} {s : Shared} {l : Addr} {items : Array Value} {Q : Value → Shared → Prop} (hL : s.heap.IsTuple l items)
    (h : ∀ h', IsEnum h' (s.heap.objs.size + 1) s.heap.objs.size 0 .none → h'.IsTupleIter s.heap.objs.size l 0 → h'.objs.size = s.heap.objs.size + 2 →
      (∀ b o, s.heap.get? b = some o → h'.get? b = some o) → Q (.ref (s.heap.objs.size + 1)) { s with heap := h' }) :
    wpAny (model prog w) A (call (.type "enumerate") [.ref l]) Q E s := by
  obtain ⟨⟨c, dct, dt, sl⟩, hl, hc, n, hd⟩ := hL
  replace hc : c = .type "tuple" := hc
  replace hd : dt = .seq items n := hd
  subst hc hd
  refine callType_new F.called_enumerate (by decide) (F.typeCall_enumerate_1 _) (F.newCall_enumerate_1 _) (fun obj => F.args_object_init_2 obj _) F.entry_enumerate_new
    (meets_enumerate_newT l items n dct sl) ⟨hl, ?_⟩
  have hz : (s.heap.push { cls := .type "tuple_iterator", data := .fields #[.ref l, .int 0 0] }).objs.size = s.heap.objs.size + 1 := Heap.size_push ..
  show _ ∧ _
  rw [hz]
  have he : IsEnum ((s.heap.push { cls := .type "tuple_iterator", data := .fields #[.ref l, .int 0 0] }).push
      { cls := .type "enumerate", data := .fields #[.none, .bool false, .ref s.heap.objs.size, rawInt 0, .none, .none] }) (s.heap.objs.size + 1) s.heap.objs.size 0 .none := by
    have := Heap.get?_push_size (s.heap.push { cls := .type "tuple_iterator", data := .fields #[.ref l, .int 0 0] })
      (o := { cls := .type "enumerate", data := .fields #[.none, .bool false, .ref s.heap.objs.size, rawInt 0, .none, .none] }) rfl
    rw [hz] at this; exact this
  refine ⟨⟨_, he, rfl⟩, h _ he ⟨_, Heap.get?_push_of_some _ (Heap.get?_push_size _ rfl), rfl, rfl⟩ (by rw [Heap.size_push, hz]) fun b o x => Heap.get?_push_of_some _ (Heap.get?_push_of_some _ x)⟩
/-! ### enumerate(tuple) -/
def ItTe (K : PySem.W.Frag) (a : Addr) : It :=
  ⟨fun i H => ∃ (xs : List V) (x : V), SqT K H a xs ∧ xs[i]? = some x, fun i H v H' => ∃ T x, v = .ref T ∧ H T = none ∧ H' = upd H T (.tup [.int (i : Nat), x]) ∧ ∀ xs, SqT K H a xs → xs[i]? = some x, fun i H => ∃ xs : List V, SqT K H a xs ∧ xs.length ≤ i⟩
theorem enum_apart {h : Heap} {e it a : Addr} {c : Int} {old : Value} {items : Array Value} (he : IsEnum h e it c old) (p : Heap.IsTuple h a items) : e ≠ a := fun z => by
  obtain ⟨o, ho, hc, _⟩ := p
  rw [← z, show h.get? e = some _ from he] at ho
  cases ho
  injection hc with y
  exact absurd y (by decide)
theorem iter_apart {h : Heap} {it a b : Addr} {i : Nat} {items : Array Value} (he : h.IsTupleIter it b i) (p : Heap.IsTuple h a items) : a ≠ it := fun z => by
  obtain ⟨o, ho, hc, _⟩ := p
  obtain ⟨o', ho', hc', _⟩ := he
  rw [z, ho'] at ho
  cases ho
  rw [hc] at hc'
  injection hc' with y
  exact absurd y (by decide)
theorem turn_enumT {P : Program} {w : World} {K : PySem.W.Frag} {elts : List Expr} {kk : Nat} {tpos : Pos} (a e it : Addr) :
    Turn P w K (.Tuple elts kk tpos) (ItTe K a) [e, it] e (fun i h => (∃ old, IsEnum h e it ((i : Nat) : Int) old) ∧ h.IsTupleIter it a i ∧ e ≠ it) where
  mem := by simp
  obj := fun i h st b hb => by
    obtain ⟨⟨old, he⟩, ⟨o, ho, hc, hd⟩, _⟩ := st
    have e' : b = e ∨ b = it := by simpa using hb
    rcases e' with z | z
    · rw [z]; exact ⟨_, he, fun v q => nomatch q⟩
    · rw [z]; exact ⟨o, ho, fun v q => by rw [hd] at q; cases q⟩
  keep := fun i h h' st k => let ⟨⟨old, he⟩, hi, hne⟩ := st; ⟨⟨old, k e (by simp) _ he⟩, hi.at fun o q => k it (by simp) o q, hne⟩
  item := by
    intro X hP hw hK hc i pins s σ H E I hf st hg
    subst hP hw hK
    obtain ⟨⟨old, he⟩, hit, hne⟩ := st
    obtain ⟨xs, x, hq, hx⟩ := hg
    obtain ⟨its, rv, p, hz⟩ := I.tuple hq
    obtain ⟨u, hu, ru⟩ := rv.get hx
    have pT : Heap.IsTuple s.heap a its.toArray := p
    have hel : e < s.heap.objs.size := Heap.lt_size he
    have hil : it < s.heap.objs.size := by obtain ⟨_, q, _⟩ := hit; exact Heap.lt_size q
    have ha := iter_apart hit pT
    have hea := enum_apart he pT
    have hlt : i < its.toArray.size := by
      have := (List.getElem?_eq_some_iff.mp hu).1
      simpa using this
    refine wpAny_pyNext_enum_itemD (Draws.tuple (A := X.A.in1) (I.ok.hd hc) it a ha its.toArray) he ⟨hit, pT⟩ hlt hne (by simp [hne, hea]) fun u2 h' tk hP ho hit2 hT hsz hk => ?_
    have hit' := hit2.1
    have eu : u2 = u := by
      have h1 : its.toArray[i]? = some u2 := hP
      have h2 : its.toArray[i]? = some u := by simpa using hu
      rw [h1] at h2
      exact Option.some.inj h2
    subst eu
    refine ⟨_, rfl, wpAny_letOwnedTupleGo_enum (s := { s with heap := h', toks := tk + 1 }) ho fun h'' he' sb => ?_⟩
    have hT2 : h''.get? s.heap.objs.size = some { cls := .type "tuple", data := .seq #[.int i tk, u2] } := (sb.2 _ (Nat.ne_of_gt hel)).trans hT
    have new : ObjOk X.prog X.w (upd H s.heap.objs.size (.tup [.int (i : Nat), x])) h'' s.heap.objs.size (.tup [.int (i : Nat), x]) :=
      ⟨by show 2 ≤ sizeLine; decide, [.int i tk, u2], .cons ⟨_, rfl⟩ (.cons ru .nil), ⟨_, hT2, rfl, _, rfl⟩⟩
    have I1 : Inv X pins σ (upd H s.heap.objs.size (.tup [.int (i : Nat), x])) { s with heap := h'', toks := tk + 1 } :=
      I.turnedNew (ch := [e, it]) (fun b ob hb q => (sb.2 b (fun z => hb (by simp [z]))).trans (hk b ob (fun z => hb (by simp [z])) (fun z => hb (by simp [z])) q)) hf (Nat.le_refl _) new
    refine ⟨.ref s.heap.objs.size, _, I1, rfl, ⟨_, x, rfl, I.hok.fresh (Nat.le_refl _), rfl, fun ys hy => by rw [I.tuple_inj hy hq]; exact hx⟩, ⟨⟨u2, ?_⟩, hit'.at fun o q => (sb.2 it (Ne.symm hne)).trans q, hne⟩, fun b hb => ?_⟩
    · have e1 : ((i + 1 : Nat) : Int) = (i : Int) + 1 := by omega
      rw [e1]; exact he'
    · have hb' : b < s.heap.objs.size := by
        have e' : b = e ∨ b = it := by simpa using hb
        rcases e' with z | z
        · rw [z]; exact hel
        · rw [z]; exact hil
      rw [upd_ne (Nat.ne_of_lt hb')]
      exact (hf b hb).1
  done := by
    intro X hP hw hK hc i pins s σ H E I hf st hg
    subst hP hw hK
    obtain ⟨⟨old, he⟩, hit, hne⟩ := st
    obtain ⟨xs, hq, hx⟩ := hg
    obtain ⟨its, rv, p, hz⟩ := I.tuple hq
    have hl := rv.length
    obtain ⟨f0, f1, f2, f3, f4, f5⟩ := hf it (by simp)
    have pT : Heap.IsTuple s.heap a its.toArray := p
    have he' := he
    have hT : s.TypeIs (.ref e) "enumerate" := ⟨_, he, rfl⟩
    have hd : X.A.handled = none := I.ok.hd hc
    unfold pyNext
    refine wpAny_bind (wpAny_attempt (wpAny_callSpecial?_slot (name := Str.ofString "__next__") hT F.slot_enumerate_next
      (wpAny_call_entry F.slot_enumerate_next hT F.entry_enumerate_next ?_ (F.args_enumerate_next_1 _))))
    show wpAny _ _ (field (.ref e) 2 >>= _) _ _ _
    refine wpAny_bind (wpAny_field he rfl (x := .ref it) rfl ?_)
    refine wpAny_bind (wpAny_nextOf_tuple_end hd hit pT (by simp; omega) fun h' x eb hx' => ?_)
    obtain ⟨o, ho, hcl⟩ := hx'
    refine wpAny_bind (wpAny_isInstance (T := "StopIteration") (b := true) ⟨o, ho, hcl⟩ isSubtype_stop ?_)
    exact wpAny_pure ⟨rfl, I.turned (t' := s.toks) (fun b o hb q => eb b o hb q) f0 f1 f3 f4 f5⟩
  self := fun A i s Q E st h => let ⟨⟨_, he⟩, _⟩ := st; wpAny_pyIter_enum he h
def iEnumT (K : PySem.W.Frag) (ta : TA) : TI := fun σ H R => ta σ H fun vs H1 => ∃ a xs, vs = [.ref a] ∧ SqT K H1 a xs ∧ R (ItTe K a) H1
theorem pi_enumT {X : Cx} {e : Expr} {ta : TA} {p pos tpos : Pos} {elts : List Expr} {kk : Nat} (hg : Gl X "enumerate") (hm : X.mg "enumerate" = none) (ha : PA X [e] ta) (hs : starEach [e] X.env = [(false, eval e X.env)] := by rfl) :
    PI X (.Tuple elts kk tpos) (.Call (.Name "enumerate" p) [e] [] pos) (iEnumT X.K ta) := by
  refine ⟨fun pins s σ H R I h => ?_⟩
  refine Call_ (ld_blt I hg hm boot_enumerate (PyProof.Rows.callWith_type1 (thn (ha.run pos pins s σ H _ I h) fun us s1 ⟨vs, H1, I1, r1, q1⟩ => ?_) hs rfl))
  obtain ⟨a, xs, ex, hq, q⟩ := q1
  subst ex
  cases r1 with
  | cons r rr =>
    cases rr
    cases r
    obtain ⟨its, rv, p', hz⟩ := I1.tuple hq
    refine call_enumerate_tuple p' fun h' he hit hsz hk => wpAny_pyIter_enum he ?_
    have I2 : Inv X pins σ H1 { s1 with heap := h' } := I1.kept (t' := s1.toks) hk
    refine ⟨s1.heap.objs.size + 1, [s1.heap.objs.size + 1, s1.heap.objs.size], _, _, H1, rfl, I2, turn_enumT a (s1.heap.objs.size + 1) s1.heap.objs.size, ⟨⟨.none, he⟩, hit, Nat.succ_ne_self _⟩, fun b hb => ?_, q⟩
    have e' : b = s1.heap.objs.size + 1 ∨ b = s1.heap.objs.size := by simpa using hb
    have hle : s1.heap.objs.size ≤ b := by
      rcases e' with z | z
      · rw [z]; exact Nat.le_add_right _ _
      · rw [z]; exact Nat.le_refl _
    exact I1.fpOk hle (I1.hok.fresh hle)
section
variable {K : PySem.W.Frag} {C : Cs} {U : UX} {a : Addr} {xs : List V}
theorem walk_enumT : Walk (ItTe K a) xs.length (fun H => SqT K H a xs) (YPair (fun i => some (.int (i : Nat))) (fun i => xs[i]?)) := by
  refine ⟨fun i _ hi q => ⟨xs, xs[i], q, by simp [hi]⟩, fun _ q => ⟨xs, q, Nat.le_refl _⟩, fun i H v H' _ q y => ?_⟩
  obtain ⟨T, x, h1, h2, h3, h4⟩ := y
  exact ⟨T, .int (i : Nat), x, h1, h2, h3, rfl, h4 xs q⟩
def wEnumT (w : WA) : WI := fun sl rt k => w sl rt fun xs rt1 => match xs with
  | [.dat (.tup ds)] => k (ds.zipIdx.map fun q => .tup [.int (q.2 : Nat), q.1]) rt1
  | _ => False
theorem i_enumT {w : WA} : ∀ σ H Q, tI K C U (wEnumT w) σ H Q → iEnumT K (tA K C U w) σ H Q := fun σ H Q ⟨sl, rt, ρ, fps, G, k, s, xf, w, q⟩ =>
  ⟨sl, rt, ρ, fps, G, _, s, xf, w, fun xs rt1 fps1 G1 H1 vs r1 n1 v1 w1 => by
    split at w1
    · rename_i ds
      cases v1 with
      | cons h r =>
        cases r
        cases h with
        | @tup a xs _ h2 r =>
          refine ⟨a, xs, rfl, ex_t r1.sub h2, q _ rt1 fps1 G1 H1 _ r1 n1 ⟨fun H => SqT K H a xs, YPair (fun i => some (.int (i : Nat))) (fun i => xs[i]?), ?_, fun H2 e2 => ex_t e2 h2, fun i d H2 v H3 hd _ y => ?_⟩ w1⟩
          · rw [List.length_map, List.length_zipIdx, ← r.len]
            exact walk_enumT
          · obtain ⟨T, x, y', rfl, hT, rfl, e1, e2⟩ := y
            cases e1
            rw [List.getElem?_map, List.getElem?_zipIdx] at hd
            cases z : ds[i]? with
            | none => rw [z] at hd; cases hd
            | some d0 =>
              rw [z] at hd
              cases hd
              obtain ⟨u, z1, z2⟩ := r.get z
              have e3 : some u = some y' := z1.symm.trans e2
              cases e3
              refine .inr ⟨T, _, _, hT, rfl, rfl, rfl, .cons ?_ (.cons z2 .nil)⟩
              show DR K C G1 (.int (i : Nat)) (.int ((0 + i : Nat) : Int))
              rw [Nat.zero_add]
              exact .int _
    · exact w1.elim⟩
end
end Wv
end

section
set_option Elab.async false
set_option linter.all false
set_option maxRecDepth 100000
set_option maxHeartbeats 4000000
namespace Wv
open PySem PySem.Spec PyProof.Rows L2 Evl
section
open PySem.SeqAt
variable {prog : Program} {w : World} {A : Around} {R : Result → Shared → Prop}
theorem tuple_eqB (l b : Addr) (items items2 : Array Value) (n n2 : Nat) (dd dd2 : Option Addr) (sl sl2 : Array (Option Value)) (I : Nat → Shared → Prop)
    (turn : ∀ i (h1 : i < items.size) (h2 : i < items2.size) s, I i s → wpAny (model prog w) A.in1 (eqBool items[i] items2[i]) (fun r s' => (r = true ∧ I (i + 1) s') ∨ (r = false ∧ R (.ok (.ret (.bool false))) s')) (fun e s' => R (.error e) s') s)
    (fin : ∀ s, I (min items.size items2.size) s → R (.ok (.ret (.bool (items.size == items2.size)))) s) {s : Shared} (hl1 : s.heap.get? l = some { cls := .type "tuple", dict := dd, data := .seq items n, slots := sl }) (hb1 : s.heap.get? b = some { cls := .type "tuple", dict := dd2, data := .seq items2 n2, slots := sl2 }) (h : I 0 s) :
    wpAny (model prog w) A.in1 (Builtin.«tuple.__eq__» ⟨[.ref l, .ref b], []⟩) (GQ.FinOf prog w A R) (fun e s' => R (.error e) s') s := by
  have f2 := AutoSeq1.sub_tuple_tuple
  have hZ : (items.toList.zip items2.toList).length = min items.size items2.size := by simp
  have h0 := h
  obtain ⟨hp, g, d, tk, os⟩ := s
  wp_walk using AutoSeq1.wpAny_loadPart' hl1, AutoSeq1.wpAny_loadPart' hb1, wpAny_forIn_list _ (fun rest b s' => b.1 = none ∧ ∃ i, rest = (items.toList.zip items2.toList).drop i ∧ i ≤ min items.size items2.size ∧ I i s') _
  case turn =>
    rintro ⟨y, x⟩ rest b s' ⟨hb', i, hz, hi, hI⟩
    have hlt : i < (items.toList.zip items2.toList).length := by
      rcases Nat.lt_or_ge i (items.toList.zip items2.toList).length with h' | h'
      · exact h'
      · rw [List.drop_of_length_le h'] at hz; cases hz
    have hm : i < min items.size items2.size := hZ ▸ hlt
    have h1 : i < items.size := Nat.lt_of_lt_of_le hm (Nat.min_le_left _ _)
    have h2 : i < items2.size := Nat.lt_of_lt_of_le hm (Nat.min_le_right _ _)
    rw [List.drop_eq_getElem_cons hlt] at hz
    injection hz with hyx hrest
    have hy : y = items[i] := by have := congrArg Prod.fst hyx; simpa using this
    have hx : x = items2[i] := by have := congrArg Prod.snd hyx; simpa using this
    subst hy hx
    refine wpAny_bind (wpAny_mono (turn i h1 h2 s' hI) (fun r s2 q2 => ?_) fun _ _ x => x)
    rcases q2 with ⟨hr, q2⟩ | ⟨hr, q2⟩
    · subst hr
      wp_walk
      exact ⟨rfl, i + 1, hrest, hm, q2⟩
    · subst hr
      wp_walk
      exact q2
  case fin =>
    rintro ⟨b1, b2⟩ s' ⟨hb', i, hz, hi, hI⟩
    simp only at hb'
    subst hb'
    have hge : min items.size items2.size ≤ i := by
      rcases Nat.lt_or_ge i (items.toList.zip items2.toList).length with h' | h'
      · rw [List.drop_eq_getElem_cons h'] at hz; cases hz
      · exact hZ ▸ h'
    have hi' : i = min items.size items2.size := by omega
    have hR := fin s' (hi' ▸ hI)
    wp_walk
    simpa [Builtin.Tuple.tupleCompareSizes] using hR
  case h =>
    exact ⟨rfl, 0, rfl, Nat.zero_le _, h0⟩
theorem tuple_neB (l b : Addr) (items items2 : Array Value) (n n2 : Nat) (dd dd2 : Option Addr) (sl sl2 : Array (Option Value)) (I : Nat → Shared → Prop)
    (turn : ∀ i (h1 : i < items.size) (h2 : i < items2.size) s, I i s → wpAny (model prog w) A.in1 (eqBool items[i] items2[i]) (fun r s' => (r = true ∧ I (i + 1) s') ∨ (r = false ∧ R (.ok (.ret (.bool true))) s')) (fun e s' => R (.error e) s') s)
    (fin : ∀ s, I (min items.size items2.size) s → R (.ok (.ret (.bool (items.size != items2.size)))) s) {s : Shared} (hl1 : s.heap.get? l = some { cls := .type "tuple", dict := dd, data := .seq items n, slots := sl }) (hb1 : s.heap.get? b = some { cls := .type "tuple", dict := dd2, data := .seq items2 n2, slots := sl2 }) (h : I 0 s) :
    wpAny (model prog w) A.in1 (Builtin.«tuple.__ne__» ⟨[.ref l, .ref b], []⟩) (GQ.FinOf prog w A R) (fun e s' => R (.error e) s') s := by
  have f2 := AutoSeq1.sub_tuple_tuple
  have hZ : (items.toList.zip items2.toList).length = min items.size items2.size := by simp
  have h0 := h
  obtain ⟨hp, g, d, tk, os⟩ := s
  wp_walk using AutoSeq1.wpAny_loadPart' hl1, AutoSeq1.wpAny_loadPart' hb1, wpAny_forIn_list _ (fun rest b s' => b.1 = none ∧ ∃ i, rest = (items.toList.zip items2.toList).drop i ∧ i ≤ min items.size items2.size ∧ I i s') _
  case turn =>
    rintro ⟨y, x⟩ rest b s' ⟨hb', i, hz, hi, hI⟩
    have hlt : i < (items.toList.zip items2.toList).length := by
      rcases Nat.lt_or_ge i (items.toList.zip items2.toList).length with h' | h'
      · exact h'
      · rw [List.drop_of_length_le h'] at hz; cases hz
    have hm : i < min items.size items2.size := hZ ▸ hlt
    have h1 : i < items.size := Nat.lt_of_lt_of_le hm (Nat.min_le_left _ _)
    have h2 : i < items2.size := Nat.lt_of_lt_of_le hm (Nat.min_le_right _ _)
    rw [List.drop_eq_getElem_cons hlt] at hz
    injection hz with hyx hrest
    have hy : y = items[i] := by have := congrArg Prod.fst hyx; simpa using this
    have hx : x = items2[i] := by have := congrArg Prod.snd hyx; simpa using this
    subst hy hx
    refine wpAny_bind (wpAny_mono (turn i h1 h2 s' hI) (fun r s2 q2 => ?_) fun _ _ x => x)
    rcases q2 with ⟨hr, q2⟩ | ⟨hr, q2⟩
    · subst hr
      wp_walk
      exact ⟨rfl, i + 1, hrest, hm, q2⟩
    · subst hr
      wp_walk
      exact q2
  case fin =>
    rintro ⟨b1, b2⟩ s' ⟨hb', i, hz, hi, hI⟩
    simp only at hb'
    subst hb'
    have hge : min items.size items2.size ≤ i := by
      rcases Nat.lt_or_ge i (items.toList.zip items2.toList).length with h' | h'
      · rw [List.drop_eq_getElem_cons h'] at hz; cases hz
      · exact hZ ▸ h'
    have hi' : i = min items.size items2.size := by omega
    have hR := fin s' (hi' ▸ hI)
    wp_walk
    simpa [Builtin.Tuple.tupleCompareSizes] using hR
  case h =>
    exact ⟨rfl, 0, rfl, Nat.zero_le _, h0⟩
end
section
variable {prog : Program} {w : World} {A : Around} {E : Value → Shared → Prop} {s : Shared}
theorem rc_tupB {l b : Addr} {items items2 : Array Value} {neg : Bool} {Q : Value → Shared → Prop} (hu : A.units < cLine) (I : Nat → Shared → Prop)
    (hl : s.heap.IsTuple l items) (hb : s.heap.IsTuple b items2)
    (turn : ∀ i (h1 : i < items.size) (h2 : i < items2.size) s, I i s → wpAny (model prog w) A.in1 (eqBool items[i] items2[i]) (fun r s' => (r = true ∧ I (i + 1) s') ∨ (r = false ∧ Q (.bool neg) s')) E s)
    (fin : ∀ s, I (min items.size items2.size) s → Q (.bool (neg != (items.size == items2.size))) s) (h : I 0 s) : wpAny (model prog w) A (richCompare (if neg then .NotEq else .Eq) (.ref l) (.ref b)) Q E s := by
  obtain ⟨⟨cls, dd, data, sl⟩, ho, hc, n, hd⟩ := id hl
  obtain ⟨⟨cls2, dd2, data2, sl2⟩, ho2, hc2, n2, hd2⟩ := id hb
  simp only at hc hd hc2 hd2
  subst hc hd hc2 hd2
  cases neg with
  | false =>
    refine wpAny_richCompare_same_room (op := .Eq) ⟨_, ho, rfl⟩ ⟨_, ho2, rfl⟩ F.slot_tuple_eq (GQ.call_here F.slot_tuple_eq ⟨_, ho, rfl⟩ F.entry_tuple_eq (F.args_tuple_eq_2 _ _) ?_) hu
    refine tuple_eqB (R := wants (fun v s' => v ≠ .notImplemented ∧ Q v s') E) l b items items2 n n2 dd dd2 sl sl2 I (fun i h1 h2 s q => wpAny_mono (turn i h1 h2 s q) (fun r s' q => ?_) fun _ _ x => x) (fun s' q => ⟨(fun x => nomatch x), by simpa using fin s' q⟩) ho ho2 h
    rcases q with q | ⟨q1, q2⟩
    · exact .inl q
    · exact .inr ⟨q1, (fun x => nomatch x), q2⟩
  | true =>
    refine wpAny_richCompare_same_room (op := .NotEq) ⟨_, ho, rfl⟩ ⟨_, ho2, rfl⟩ F.slot_tuple_ne (GQ.call_here F.slot_tuple_ne ⟨_, ho, rfl⟩ F.entry_tuple_ne (F.args_tuple_ne_2 _ _) ?_) hu
    refine tuple_neB (R := wants (fun v s' => v ≠ .notImplemented ∧ Q v s') E) l b items items2 n n2 dd dd2 sl sl2 I (fun i h1 h2 s q => wpAny_mono (turn i h1 h2 s q) (fun r s' q => ?_) fun _ _ x => x) (fun s' q => ⟨(fun x => nomatch x), by have z := fin s' q; simpa [bne] using z⟩) ho ho2 h
    rcases q with q | ⟨q1, q2⟩
    · exact .inl q
    · exact .inr ⟨q1, (fun x => nomatch x), q2⟩
end

/-! ### == of data with own instances in it -/
mutual
def D.deep : D → Nat
  | .tup ds => D.deeps ds + 1
  | .tpx ds => D.deeps ds + 1
  | _ => 0
def D.deeps : List D → Nat
  | [] => 0
  | d :: ds => max d.deep (D.deeps ds)
end
/-- ok c: the number of fields of a class whose own == compares them as a tuple of plain data -/
def noOk : Nat → Option Nat := fun _ => none
mutual
def eqD : (Nat → Option Nat) → D → D → Option Bool
  | ok, .tup ds, .tup es => eqDs ok ds es
  | ok, .tup ds, .tpx es => eqDs ok ds es
  | ok, .tpx ds, .tup es => eqDs ok ds es
  | ok, .tpx ds, .tpx es => eqDs ok ds es
  | ok, .obj c ds, .obj c' es => if c = c' ∧ ok c = some ds.length ∧ es.length = ds.length ∧ D.deeps ds ≤ 4 then eqDs noOk ds es else none
  | _, d, e => D.sc d e
def eqDs : (Nat → Option Nat) → List D → List D → Option Bool
  | _, [], [] => some true
  | _, [], _ :: _ => some false
  | _, _ :: _, [] => some false
  | ok, d :: ds, e :: es => match eqD ok d e with
    | some true => eqDs ok ds es
    | some false => some false
    | none => none
end
section
variable {C : Cs} {X : Cx} {CX : CXT} {k n : Nat} {ok : Nat → Option Nat}
/-- what a comparison leaves -/
def Lp (X : Cx) (pins : List (Addr × Obj)) (σ : L2.St) (G H : Hp) (s' : Shared) : Prop := ∃ G' H', Inv X pins σ H' s' ∧ Ex G' H' ∧ Nx [] G H G' H' []
def EqP (X : Cx) (C : Cs) (n : Nat) (d e : D) (b : Bool) : Prop :=
  ∀ (A : Around) (pins : List (Addr × Obj)) (s : Shared) (σ : L2.St) (G H : Hp) (x y : V) (u v : Value), Sub X n A → Inv X pins σ H s → Ex G H → RelV x u → RelV y v → DR X.K C G x d → DR X.K C G y e →
    wpAny (model X.prog X.w) A (eqBool u v) (fun r s' => r = b ∧ Lp X pins σ G H s') X.xe s
def RcP (X : Cx) (C : Cs) (n : Nat) (neg : Bool) (d e : D) (b : Bool) : Prop :=
  ∀ (A : Around) (pins : List (Addr × Obj)) (s : Shared) (σ : L2.St) (G H : Hp) (x y : V) (u v : Value), Sub X n A → Inv X pins σ H s → Ex G H → RelV x u → RelV y v → DR X.K C G x d → DR X.K C G y e →
    wpAny (model X.prog X.w) A (richCompare (if neg then .NotEq else .Eq) u v) (fun r s' => r = .bool (neg != b) ∧ Lp X pins σ G H s') X.xe s
/-- the class's own == says what eqDs says -/
structure OwnQ (X : Cx) (CX : CXT) (C : Cs) (n k c : Nat) : Prop where
  ex : ∃ f fd ps cw, FnOk X.prog X.w X.K X.mg X.base CX k f fd ps (spW X.K C cw) ∧ EqK X.K (C.at_ c) f ∧ Binds X.K fd ps [] ∧ ∀ ds es b, ds.length = n → es.length = n → D.deeps ds ≤ 4 → eqDs noOk ds es = some b → ∀ (kk : T → Roots → Prop) kx, kk (.dat (.bool b)) [] → cw [.dat (.obj c ds), .dat (.obj c es)] [] kk kx
theorem Lp.refl {pins : List (Addr × Obj)} {σ : L2.St} {G H : Hp} {s : Shared} (I : Inv X pins σ H s) (e : Ex G H) : Lp X pins σ G H s := ⟨G, H, I, e, Nx.refl _ _ _⟩
theorem same_true {pins : List (Addr × Obj)} {σ : L2.St} {G H : Hp} {s : Shared} (I : Inv X pins σ H s) (eg : Ex G H) :
    (∀ (d : D) (ok : Nat → Option Nat) (e : D) (v : V) (b : Bool), eqD ok d e = some b → DR X.K C G v d → DR X.K C G v e → b = true) := by
  have sc : ∀ {d e : D} {v : V} {b : Bool}, D.sc d e = some b → DR X.K C G v d → DR X.K C G v e → b = true := fun h h1 h2 => by
    have := (sc_ok h h1 h2).2
    simpa using this.symm
  have inj : ∀ {a : Addr} {xs ys : List V}, SqT X.K G a xs → SqT X.K G a ys → xs = ys := fun h h' => I.tuple_inj (ex_t eg h) (ex_t eg h')
  refine D.rec (motive_1 := fun d => ∀ (ok : Nat → Option Nat) (e : D) (v : V) (b : Bool), eqD ok d e = some b → DR X.K C G v d → DR X.K C G v e → b = true)
    (motive_2 := fun ds => ∀ (ok : Nat → Option Nat) (es : List D) (vs : List V) (b : Bool), eqDs ok ds es = some b → DRs X.K C G vs ds → DRs X.K C G vs es → b = true) ?_ ?_ ?_ ?_ ?_ ?_ ?_ ?_ ?_ ?_ ?_ ?_ ?_
  · intro ok e v b h h1 h2; exact sc (by simpa [eqD] using h) h1 h2
  · intro _ ok e v b h h1 h2; exact sc (by simpa [eqD] using h) h1 h2
  · intro _ ok e v b h h1 h2; exact sc (by simpa [eqD] using h) h1 h2
  · intro _ ok e v b h h1 h2; exact sc (by simpa [eqD] using h) h1 h2
  · intro _ _ ok e v b h h1 h2; exact sc (by simpa [eqD] using h) h1 h2
  · intro _ _ ok e v b h h1 h2; exact sc (by simpa [eqD] using h) h1 h2
  · intro ds ih ok e v b h h1 h2
    cases h1 with
    | tup a1 r1 =>
      cases e with
      | tup es =>
        cases h2 with
        | tup a2 r2 =>
          cases inj a1 a2
          exact ih ok es _ b (by simpa [eqD] using h) r1 r2
      | tpx es =>
        cases h2 with
        | tpx a2 _ r2 =>
          cases inj a1 (.inl (.inr ⟨_, a2⟩))
          exact ih ok es _ b (by simpa [eqD] using h) r1 r2
      | _ => simp [eqD, D.sc] at h
  · intro ds ih ok e v b h h1 h2
    cases h1 with
    | tpx a1 _ r1 =>
      cases e with
      | tup es =>
        cases h2 with
        | tup a2 r2 =>
          cases inj (.inl (.inr ⟨_, a1⟩)) a2
          exact ih ok es _ b (by simpa [eqD] using h) r1 r2
      | tpx es =>
        cases h2 with
        | tpx a2 _ r2 =>
          rw [a1] at a2
          cases a2
          exact ih ok es _ b (by simpa [eqD] using h) r1 r2
      | _ => simp [eqD, D.sc] at h
  · intro c ds ih ok e v b h h1 h2
    cases h1 with
    | obj a1 n1 r1 =>
      cases e with
      | obj c' es =>
        cases h2 with
        | obj a2 n2 r2 =>
          have h : (if c = c' ∧ ok c = some ds.length ∧ es.length = ds.length ∧ D.deeps ds ≤ 4 then eqDs noOk ds es else none) = some b := by simpa [eqD] using h
          split at h
          · have z := Option.some.inj (a1.symm.trans a2)
            injection z with z1 z2 z3
            subst z3
            exact ih noOk es _ b h r1 r2
          · cases h
      | _ => simp [eqD, D.sc] at h
  · intro _ ok e v b h h1 h2; exact sc (by simpa [eqD] using h) h1 h2
  · intro ok e v b h h1 h2; exact sc (by simpa [eqD] using h) h1 h2
  · intro ok es vs b h h1 h2
    cases h1
    cases h2
    simpa [eqDs] using h.symm
  · intro d ds ihd ihs ok es vs b h h1 h2
    cases h1 with
    | cons p1 r1 =>
      cases h2 with
      | cons p2 r2 =>
        rename_i e es
        have h : (match eqD ok d e with | some true => eqDs ok ds es | some false => some false | none => none) = some b := by simpa [eqDs] using h
        split at h
        · exact ihs ok es _ b h r1 r2
        · rename_i z
          exact absurd (ihd ok e _ _ z p1 p2) (by simp)
        · cases h
end
end Wv
end

section
set_option Elab.async false
set_option linter.all false
set_option maxRecDepth 100000
set_option maxHeartbeats 4000000
namespace Wv
open PySem PySem.Spec PyProof.Rows L2 Evl
section
variable {C : Cs} {X : Cx} {CX : CXT} {k n : Nat} {ok : Nat → Option Nat} {ds es : List D} {b : Bool}
theorem DRs.at {K : PySem.W.Frag} {G : Hp} {xs : List V} {i : Nat} {d : D} (r : DRs K C G xs ds) (h : ds[i]? = some d) : ∃ v, xs[i]? = some v ∧ DR K C G v d := r.get h
theorem rc_items (hit : ∀ (i : Nat) (d e : D) (b' : Bool), ds[i]? = some d → es[i]? = some e → eqD ok d e = some b' → EqP X C n d e b') (h : eqDs ok ds es = some b) {A : Around} {pins : List (Addr × Obj)} {s : Shared} {σ : L2.St} {G H : Hp} {a1 a2 : Addr} {xs ys : List V}
    (sb : Sub X (n + 1) A) (I : Inv X pins σ H s) (eg : Ex G H) (h1 : SqT X.K G a1 xs) (h2 : SqT X.K G a2 ys) (r1 : DRs X.K C G xs ds) (r2 : DRs X.K C G ys es) (neg : Bool) :
    wpAny (model X.prog X.w) A (richCompare (if neg then .NotEq else .Eq) (.ref a1) (.ref a2)) (fun r s' => r = .bool (neg != b) ∧ Lp X pins σ G H s') X.xe s := by
  obtain ⟨its, rv, e, z⟩ := I.tuple (ex_t eg h1)
  obtain ⟨its2, rv2, e2, z2⟩ := I.tuple (ex_t eg h2)
  have l1 : its.toArray.size = ds.length := by rw [List.size_toArray, ← rv.length, r1.len]
  have l2 : its2.toArray.size = es.length := by rw [List.size_toArray, ← rv2.length, r2.len]
  refine rc_tupB sb.room.units0 (fun i s' => Lp X pins σ G H s' ∧ eqDs ok (ds.drop i) (es.drop i) = some b) e e2 (fun i h1 h2 s' ⟨lp, hr⟩ => ?_) (fun s' ⟨lp, hr⟩ => ?_) ⟨.refl I eg, by simpa using h⟩
  · obtain ⟨G1, H1, I1, eg1, n1⟩ := lp
    have k1 : i < ds.length := by omega
    have k2 : i < es.length := by omega
    have d1 : ds[i]? = some ds[i] := List.getElem?_eq_getElem k1
    have d2 : es[i]? = some es[i] := List.getElem?_eq_getElem k2
    obtain ⟨v1, p1, q1⟩ := r1.get d1
    obtain ⟨v2, p2, q2⟩ := r2.get d2
    obtain ⟨u1, w1, t1⟩ := rv.get p1
    obtain ⟨u2, w2, t2⟩ := rv2.get p2
    have x1 : its.toArray[i] = u1 := by
      have := (List.getElem?_eq_some_iff.mp w1).2
      simpa using this
    have x2 : its2.toArray[i] = u2 := by
      have := (List.getElem?_eq_some_iff.mp w2).2
      simpa using this
    rw [x1, x2]
    rw [List.drop_eq_getElem_cons k1, List.drop_eq_getElem_cons k2] at hr
    simp only [eqDs] at hr
    cases hq : eqD ok ds[i] es[i] with
    | none => rw [hq] at hr; cases hr
    | some b' =>
      rw [hq] at hr
      refine wpAny_mono (hit i _ _ b' d1 d2 hq A.in1 pins s' σ G1 H1 v1 v2 u1 u2 sb.in1 I1 eg1 t1 t2 (DR.up n1.g _ _ q1) (DR.up n1.g _ _ q2)) (fun r s2 q => ?_) fun _ _ x => x
      obtain ⟨er, G2, H2, I2, eg2, n2⟩ := q
      have lp2 : Lp X pins σ G H s2 := ⟨G2, H2, I2, eg2, n1.trans n2⟩
      cases b' with
      | true => exact .inl ⟨er, lp2, hr⟩
      | false =>
        cases hr
        exact .inr ⟨er, by simp, lp2⟩
  · refine ⟨?_, lp⟩
    have : (its.toArray.size == its2.toArray.size) = b := by
      rw [l1, l2] at hr ⊢
      rcases Nat.lt_trichotomy ds.length es.length with c | c | c
      · have m : min ds.length es.length = ds.length := by omega
        rw [m, List.drop_length, List.drop_eq_getElem_cons c] at hr
        have : some false = some b := by simpa [eqDs] using hr
        cases this
        simp; omega
      · have m : min ds.length es.length = ds.length := by omega
        rw [m, List.drop_length, c, List.drop_length] at hr
        have : some true = some b := by simpa [eqDs] using hr
        cases this
        simp [c]
      · have m : min ds.length es.length = es.length := by omega
        rw [m, List.drop_length, List.drop_eq_getElem_cons c] at hr
        have : some false = some b := by simpa [eqDs] using hr
        cases this
        simp; omega
    rw [this]
theorem rc_own {c : Nat} (own : OwnQ X CX C n k c) (hx : Passes CX X fun _ _ _ => False) (hn1 : ds.length = n) (hn2 : es.length = n) (hn3 : D.deeps ds ≤ 4) (h : eqDs noOk ds es = some b) {A : Around} {pins : List (Addr × Obj)} {s : Shared} {σ : L2.St} {G H : Hp} {a1 a2 : Addr}
    (sb : Sub X k A) (I : Inv X pins σ H s) (eg : Ex G H) (r1 : DR X.K C G (.ref a1) (.obj c ds)) (r2 : DR X.K C G (.ref a2) (.obj c es)) :
    wpAny (model X.prog X.w) A (richCompare .Eq (.ref a1) (.ref a2)) (fun r s' => r = .bool b ∧ Lp X pins σ G H s') X.xe s := by
  obtain ⟨f, fd, ps, cw, F, hk, hb, hc⟩ := own.ex
  have p1 : ∃ dx fs, H a1 = some (.ins (C.at_ c) dx fs) := by
    cases r1 with
    | obj h n r => exact ⟨_, _, eg _ _ h⟩
  have p2 : ∃ dx fs, H a2 = some (.ins (C.at_ c) dx fs) := by
    cases r2 with
    | obj h n r => exact ⟨_, _, eg _ _ h⟩
  obtain ⟨dx, fs, ha⟩ := p1
  obtain ⟨dy, gs, hb'⟩ := p2
  obtain ⟨mA, J, _⟩ := ins_get I.hok ha
  obtain ⟨mB, J', _⟩ := ins_get I.hok hb'
  obtain ⟨od, J, _⟩ := J.look
  obtain ⟨od', J', _⟩ := J'.look
  obtain ⟨m, hF⟩ := I.fr
  have sp : spW X.K C cw [V.ref a1, V.ref a2] H (fun v H' => v = .bl b ∧ ∃ G', Ex G' H' ∧ Nx [] G H G' H' []) fun _ _ _ => False :=
    ⟨G, [], [], [.dat (.obj c ds), .dat (.obj c es)], [], fun t _ => t = .dat (.bool b), fun _ _ => False, ⟨eg, .nil, List.nodup_nil, fun _ z => nomatch z⟩, .cons r1 (.cons r2 .nil), hc ds es b hn1 hn2 hn3 h _ _ rfl, fun t rt' fps' fp G' H' v r' n' o' new hk => by
      subst hk
      cases o'.tr with
      | dat h =>
        cases h
        exact ⟨rfl, G', r'.sub, n'.less fun _ z => nomatch z⟩, fun _ _ _ _ _ _ _ _ _ _ z => z.elim⟩
  have r3 : Vals [V.ref a1, V.ref a2] [Value.ref a1, Value.ref a2] := .cons rfl (.cons rfl .nil)
  refine PySem.W.cmp_K (op := .Eq) (tb := .ref (C.at_ c)) sb.room.units0 hF I.ok.mod.kin J J'.type (by simp [PySem.W.notFirst]) hk.eq hk.fn (wpAny_mono (run_at sb F hb hx I r3 sp) (fun w s' hw => ?_) fun _ _ z => z)
  obtain ⟨z, H', I', rz, ez, G', eg', n'⟩ := hw
  subst ez
  cases rz
  exact ⟨rfl, G', H', I', eg', n'⟩
theorem sc_flat {x y : D} (h : D.sc x y = some b) : flatD x = true ∧ flatD y = true := by
  unfold D.sc at h
  split at h <;> first | exact ⟨rfl, rfl⟩ | cases h
theorem deep_mem : ∀ {ds : List D} {i : Nat} {d : D}, ds[i]? = some d → d.deep ≤ D.deeps ds
  | [], _, _, h => by simp at h
  | d :: ds, 0, _, h => by
    cases Option.some.inj h
    exact Nat.le_max_left _ _
  | d :: ds, i + 1, _, h => Nat.le_trans (deep_mem (i := i) (show ds[i]? = some _ from h)) (Nat.le_max_right _ _)
theorem eqP_all (own : ∀ c n, ok c = some n → OwnQ X CX C n k c) (hx : Passes CX X fun _ _ _ => False) : ∀ (m : Nat) (d e : D) (b : Bool), d.deep ≤ m → eqD ok d e = some b → EqP X C (m + k) d e b := by
  have scal : ∀ {m : Nat} {d e : D} {b : Bool}, D.sc d e = some b → EqP X C (m + k) d e b := fun h A pins s σ G H x y u v sb I eg rx ry r1 r2 => by
    obtain ⟨f1, f2⟩ := sc_flat h
    have q := eqAt_V (A := A) (s := s) rx ry (flatD_ok f1 r1) (flatD_ok f2 r2)
    rw [sc_eqV h r1 r2] at q
    exact q X.prog X.w X.xe _ ⟨rfl, .refl I eg⟩
  have tups : ∀ {m : Nat} {d e : D} {b : Bool} {ds es : List D}, (∀ (i : Nat) (d e : D) (b' : Bool), ds[i]? = some d → es[i]? = some e → eqD ok d e = some b' → EqP X C (m + k) d e b') → eqDs ok ds es = some b → eqD ok d e = some b →
      (∀ G v, DR X.K C G v d → ∃ a xs, v = .ref a ∧ SqT X.K G a xs ∧ DRs X.K C G xs ds) → (∀ G v, DR X.K C G v e → ∃ a xs, v = .ref a ∧ SqT X.K G a xs ∧ DRs X.K C G xs es) → EqP X C (m + 1 + k) d e b := fun {m d e b ds es} hit h hd k1 k2 A pins s σ G H x y u v sb I eg rx ry r1 r2 => by
    obtain ⟨a1, xs, rfl, s1, t1⟩ := k1 _ _ r1
    obtain ⟨a2, ys, rfl, s2, t2⟩ := k2 _ _ r2
    cases rx
    cases ry
    by_cases hab : a1 = a2
    · subst hab
      have := same_true I eg _ ok _ _ _ hd r1 r2
      subst this
      exact SeqAt.EqAt.same (A := A) (s := s) (.ref a1) X.prog X.w X.xe _ ⟨rfl, .refl I eg⟩
    · have sb2 : Sub X (m + k + 1) A := by
        have e : m + 1 + k = m + k + 1 := by omega
        rw [← e]; exact sb
      refine GQ.eqBool_refG hab (wpAny_mono (rc_items hit h sb2 I eg s1 s2 t1 t2 false) (fun r s' q => ?_) fun _ _ x => x)
      obtain ⟨er, lp⟩ := q
      exact ⟨b, by simpa using er, rfl, lp⟩
  have ex1 : ∀ (ds : List D) G v, DR X.K C G v (.tup ds) → ∃ a xs, v = .ref a ∧ SqT X.K G a xs ∧ DRs X.K C G xs ds := fun ds G v h => by
    cases h with
    | tup h r => exact ⟨_, _, rfl, h, r⟩
  have ex2 : ∀ (ds : List D) G v, DR X.K C G v (.tpx ds) → ∃ a xs, v = .ref a ∧ SqT X.K G a xs ∧ DRs X.K C G xs ds := fun ds G v h => by
    cases h with
    | tpx h _ r => exact ⟨_, _, rfl, .inl (.inr ⟨_, h⟩), r⟩
  have objs : ∀ {m c : Nat} {ds es : List D} {b : Bool}, ok c = some ds.length → es.length = ds.length → D.deeps ds ≤ 4 → eqDs noOk ds es = some b → eqD ok (.obj c ds) (.obj c es) = some b → EqP X C (m + k) (.obj c ds) (.obj c es) b := fun {m c ds es b} hc hl h4 h hd A pins s σ G H x y u v sb I eg rx ry r1 r2 => by
    obtain ⟨a1, e1⟩ : ∃ a, x = .ref a := by cases r1 with | obj h n r => exact ⟨_, rfl⟩
    obtain ⟨a2, e2⟩ : ∃ a, y = .ref a := by cases r2 with | obj h n r => exact ⟨_, rfl⟩
    subst e1 e2
    cases rx
    cases ry
    by_cases hab : a1 = a2
    · subst hab
      have := same_true I eg _ ok _ _ _ hd r1 r2
      subst this
      exact SeqAt.EqAt.same (A := A) (s := s) (.ref a1) X.prog X.w X.xe _ ⟨rfl, .refl I eg⟩
    · refine GQ.eqBool_refG hab (wpAny_mono (rc_own (own c _ hc) hx rfl hl h4 h (sb.mono (by omega)) I eg r1 r2) (fun r s' q => ?_) fun _ _ x => x)
      obtain ⟨er, lp⟩ := q
      exact ⟨b, er, rfl, lp⟩
  intro m
  induction m with
  | zero =>
    intro d e b hm h
    cases d with
    | tup ds => exact absurd hm (by simp [D.deep])
    | tpx ds => exact absurd hm (by simp [D.deep])
    | obj c ds =>
      cases e with
      | obj c' es =>
        have h' : (if c = c' ∧ ok c = some ds.length ∧ es.length = ds.length ∧ D.deeps ds ≤ 4 then eqDs noOk ds es else none) = some b := by simpa [eqD] using h
        split at h'
        · rename_i z
          obtain ⟨z1, z2, z3, z4⟩ := z
          subst z1
          exact objs z2 z3 z4 h' h
        · cases h'
      | _ => simp [eqD, D.sc] at h
    | _ => exact scal (by simpa [eqD] using h)
  | succ m ih =>
    intro d e b hm h
    have hit : ∀ ds es : List D, D.deeps ds ≤ m → ∀ (i : Nat) (d e : D) (b' : Bool), ds[i]? = some d → es[i]? = some e → eqD ok d e = some b' → EqP X C (m + k) d e b' := fun ds es hd i d e b' h1 h2 h3 => ih d e b' (Nat.le_trans (deep_mem h1) hd) h3
    cases d with
    | tup ds =>
      have hd : D.deeps ds ≤ m := by simpa [D.deep] using hm
      cases e with
      | tup es => exact tups (hit ds es hd) (by simpa [eqD] using h) h (ex1 ds) (ex1 es)
      | tpx es => exact tups (hit ds es hd) (by simpa [eqD] using h) h (ex1 ds) (ex2 es)
      | _ => simp [eqD, D.sc] at h
    | tpx ds =>
      have hd : D.deeps ds ≤ m := by simpa [D.deep] using hm
      cases e with
      | tup es => exact tups (hit ds es hd) (by simpa [eqD] using h) h (ex2 ds) (ex1 es)
      | tpx es => exact tups (hit ds es hd) (by simpa [eqD] using h) h (ex2 ds) (ex2 es)
      | _ => simp [eqD, D.sc] at h
    | obj c ds =>
      cases e with
      | obj c' es =>
        have h' : (if c = c' ∧ ok c = some ds.length ∧ es.length = ds.length ∧ D.deeps ds ≤ 4 then eqDs noOk ds es else none) = some b := by simpa [eqD] using h
        split at h'
        · rename_i z
          obtain ⟨z1, z2, z3, z4⟩ := z
          subst z1
          exact objs z2 z3 z4 h' h
        · cases h'
      | _ => simp [eqD, D.sc] at h
    | _ => exact scal (by simpa [eqD] using h)
def rEqO (K : PySem.W.Frag) (C : Cs) (ok : Nat → Option Nat) (m : Nat) (neg : Bool) : R2 := fun x y H Q => ∃ G ds es b a1 a2 xs ys, x = .ref a1 ∧ y = .ref a2 ∧ Ex G H ∧ SqT K G a1 xs ∧ SqT K G a2 ys ∧ DRs K C G xs ds ∧ DRs K C G ys es ∧ D.deeps ds ≤ m ∧ eqDs ok ds es = some b ∧
  ∀ G' H', Ex G' H' → Nx [] G H G' H' [] → Q (.bl (neg != b)) H'
theorem op_eqO {m : Nat} (neg : Bool) (own : ∀ c n, ok c = some n → OwnQ X CX C n k c) (hx : Passes CX X fun _ _ _ => False) (hr : Room (m + k + 1) X.A) : OpR X (compareOp (if neg then .NotEq else .Eq)) (rEqO X.K C ok m neg) := by
  intro pins s σ H x y v u Q I rx ry ⟨G, ds, es, b, a1, a2, xs, ys, e1, e2, eg, s1, s2, t1, t2, hd, h, q⟩
  subst e1 e2
  cases rx
  cases ry
  have go := rc_items (A := X.A) (fun i d e b' h1 h2 h3 => eqP_all own hx m d e b' (Nat.le_trans (deep_mem h1) hd) h3) h ⟨hr, rfl⟩ I eg s1 s2 t1 t2 neg
  have fin : wpAny (model X.prog X.w) X.A (richCompare (if neg then .NotEq else .Eq) (.ref a1) (.ref a2)) (EP X pins σ Q) X.xe s := wpAny_mono go (fun r s' hq => by
    obtain ⟨er, G', H', I', eg', n'⟩ := hq
    subst er
    exact ⟨.bl (neg != b), H', I', rfl, q G' H' eg' n'⟩) fun _ _ z => z
  cases neg with
  | false => exact fin
  | true => exact fin
def tupD : Val → Option (List D)
  | .dat (.tup ds) => some ds
  | .dat (.tpx ds) => some ds
  | _ => none
theorem tupD_ok {K : PySem.W.Frag} {G H : Hp} {ρ : List Addr} {x : Val} {v : V} (h : tupD x = some ds) (r : VR K C G H ρ x v) : ∃ a xs, v = .ref a ∧ SqT K G a xs ∧ DRs K C G xs ds := by
  unfold tupD at h
  split at h
  · cases h
    cases r with
    | tup h r => exact ⟨_, _, rfl, h, r⟩
  · cases h
    cases r with
    | tpx h _ r => exact ⟨_, _, rfl, .inl (.inr ⟨_, h⟩), r⟩
  · cases h
/-- a == b, a != b of tuples with own instances in them -/
def wEqO (ok : Nat → Option Nat) (m : Nat) (neg : Bool) (wa wb : WE) : WE := fun sl rt k => wa sl rt fun x rt1 => wb sl rt1 fun y rt2 => match tupD x with
  | some ds => match tupD y with
    | some es => D.deeps ds ≤ m ∧ ∃ b, eqDs ok ds es = some b ∧ k (.dat (.bool (neg != b))) rt2
    | none => False
  | none => False
variable {K : PySem.W.Frag} {U : UX} {wa wb : WE} {e1 e2 : Expr} {pos : Pos}
theorem RSt.free {rt : Roots} {ρ : List Addr} {fps : List (List Addr)} {G H G' H' : Hp} (r : RSt K C rt ρ fps G H) (eg : Ex G' H') (n : Nx [] G H G' H' []) : ∃ fps', RSt K C rt ρ fps' G' H' ∧ Nx fps.flatten G H G' H' fps'.flatten := by
  obtain ⟨bs, fpsc, b1, b2, b3, b4⟩ := borrowed (xs := []) (vs := []) (ts := []) r .nil rfl rfl
  obtain ⟨l1, l2⟩ := b1.root.lens
  have e1 : bs = [] := List.length_eq_zero_iff.mp l1
  have e2 : fpsc = [] := List.length_eq_zero_iff.mp l2
  subst e1 e2
  obtain ⟨fps', z1, z2, _⟩ := b4 [] [] G' H' ⟨eg, .nil, List.nodup_nil, fun _ z => nomatch z⟩ n
  exact ⟨fps', z1, z2⟩
theorem e_eqO {m : Nat} {neg : Bool} : ∀ σ H Q, tE K C U (wEqO ok m neg wa wb) σ H Q → tOp (rEqO K C ok m neg) (tE K C U wa) (tE K C U wb) σ H Q := fun σ H Q ⟨sl, rt, ρ, fps, G, k, s, xf, w, q⟩ =>
  ⟨sl, rt, ρ, fps, G, _, s, xf, w, fun x rt1 fps1 G1 H1 v r1 n1 v1 w1 => ⟨sl, rt1, ρ, fps1, G1, _, s.step r1 n1 fun _ _ e => e, xf.later n1 (Pre.refl _), w1, fun y rt2 fps2 G2 H2 u r2 n2 v2 w2 => by
    have v1 := v1.up n2 fun _ _ e => e
    split at w2
    · rename_i ds h1
      split at w2
      · rename_i es h2
        obtain ⟨hd, b, hb, w2⟩ := w2
        obtain ⟨a1, xs, rfl, s1, t1⟩ := tupD_ok h1 v1
        obtain ⟨a2, ys, rfl, s2, t2⟩ := tupD_ok h2 v2
        refine ⟨G2, ds, es, b, a1, a2, xs, ys, rfl, rfl, r2.sub, s1, s2, t1, t2, hd, hb, fun G' H' eg n => ?_⟩
        obtain ⟨fps', r3, n3⟩ := r2.free eg n
        exact q (.dat (.bool (neg != b))) rt2 fps' G' H' _ r3 ((n1.trans n2).trans n3) (DR.bool _) w2
      · exact w2.elim
    · exact w2.elim⟩⟩
theorem we_eqO {m : Nat} {neg : Bool} {op : CmpOp} (ho : OpR X (compareOp op) (rEqO K C ok m neg)) (ha : PE X e1 (tE K C U wa)) (hb : PE X e2 (tE K C U wb)) (hm : behindInMarks op e2 = false) : PE X (.Compare e1 [op] [e2] pos) (tE K C U (wEqO ok m neg wa wb)) := pe_imp (pe_cmpR ho ha hb hm) e_eqO
theorem wt_eqO {m : Nat} {neg : Bool} {op : CmpOp} (ho : OpR X (compareOp op) (rEqO K C ok m neg)) (ha : PE X e1 (tE K C U wa)) (hb : PE X e2 (tE K C U wb)) (hm : behindInMarks op e2 = false) : PT X (.Compare e1 [op] [e2] pos) (tT K C U (wB (wEqO ok m neg wa wb))) :=
  pt_imp (pt_cmpR ho ha hb hm) fun σ H Q h => e_eqO σ H _ (t_test σ H Q h)
end
end Wv
end

section
set_option Elab.async false
set_option linter.all false
set_option maxRecDepth 100000
set_option maxHeartbeats 4000000
namespace Wv
open PySem PySem.Spec PyProof.Rows L2 Evl
section
variable {K : PySem.W.Frag} {C : Cs} {U : UX} {X : Cx} {CX : CXT} {k n : Nat} {ds es : List D} {b : Bool} {G H : Hp} {f : Addr} {fd : FuncData} {ps : List Str} {cw : CW}
/-! ### in a list of data of any depth -/
def rInL (K : PySem.W.Frag) : R2 := fun x y H Q => ∃ d ds, Dp K H x d ∧ Dp K H y (.list ds) ∧ SeqAt.shaped d = true ∧ d.depth ≤ 32 ∧ SeqAt.shaped (.list ds) = true ∧ Q (.bl (ds.any fun z => PyData.eqv z d)) H
theorem op_inL (hu : X.A.units + 64 < cLine) : OpR X (compareOp .In) (rInL X.K) := by
  intro pins s σ H x y v u Q I rx ry h
  obtain ⟨d, ds, hd, he, sd, dep, se, q⟩ := h
  obtain ⟨as, r1⟩ := Dp.reads I d x v hd rx
  obtain ⟨bs, r2⟩ := Dp.reads I (.list ds) y u he ry
  exact SeqAt.in_list_reads r2 r1 (SeqAt.canLay_of_shaped se) (SeqAt.canLay_of_shaped sd) (by omega) ⟨.bl _, H, I, rfl, q⟩
def sInL : Sem2 := fun x y rt k => match x with
  | .dat d => match listOf y rt with
    | some ds => ∃ px ps, d.py = some px ∧ D.pys ds = some ps ∧ SeqAt.shaped px = true ∧ px.depth ≤ 32 ∧ SeqAt.shaped (.list ps) = true ∧ k (.bool (ps.any fun z => PyData.eqv z px))
    | none => False
  | _ => False
theorem s_inL : S2 K C sInL (rInL K) := fun rt ρ fps G H x y v u s a b k Q w q => by
  unfold sInL at w
  split at w
  · split at w
    · rename_i ds e
      obtain ⟨px, ps, h1, h2, h3, h5, h4, w⟩ := w
      obtain ⟨p, xs, rfl, z1, z2⟩ := s.listOf e b
      exact ⟨px, ps, DR.py s.sub _ _ _ a h1, .lst z1 (DRs.py s.sub _ _ _ z2 h2), h3, h5, h4, q _ _ w (.bool _)⟩
    · exact w.elim
  · exact w.elim
/-- one class whose own == compares n fields -/
def ok1 (c0 n0 : Nat) : Nat → Option Nat := fun c => if c = c0 then some n0 else none
theorem own1 {c0 n0 : Nat} (F : FnOk X.prog X.w X.K X.mg X.base CX k f fd ps (spW X.K C cw)) (hk : EqK X.K (C.at_ c0) f) (hb : Binds X.K fd ps [])
    (hs : ∀ ds es b, ds.length = n0 → es.length = n0 → D.deeps ds ≤ 4 → eqDs noOk ds es = some b → ∀ (kk : T → Roots → Prop) kx, kk (.dat (.bool b)) [] → cw [.dat (.obj c0 ds), .dat (.obj c0 es)] [] kk kx) : ∀ c n, ok1 c0 n0 c = some n → OwnQ X CX C n k c := fun c n h => by
  unfold ok1 at h
  split at h
  · rename_i e
    cases h
    subst e
    exact ⟨f, fd, ps, cw, F, hk, hb, hs⟩
  · cases h
theorem own0 : ∀ c n, noOk c = some n → OwnQ X CX C n 0 c := fun _ _ h => nomatch h
/-! ### and, or whose second part may change what is owned -/
variable {ta tb : WT} {wa wb : WE} {ea eb : Expr} {rest : List Expr} {pos : Pos}
def wAndD (ta tb : WT) : WT := fun sl rt k => ta sl rt fun a rt1 => (a = true → tb sl rt1 k) ∧ (a = false → k false rt1)
def wOrD (ta tb : WT) : WT := fun sl rt k => ta sl rt fun a rt1 => (a = false → tb sl rt1 k) ∧ (a = true → k true rt1)
theorem t_andD : ∀ σ H Q, tT K C U (wAndD ta tb) σ H Q → tAnd (tT K C U ta) (tT K C U tb) σ H Q := fun σ H Q ⟨sl, rt, ρ, fps, G, k, s, xf, w, q⟩ =>
  ⟨sl, rt, ρ, fps, G, _, s, xf, w, fun a rt1 fps1 G1 H1 r1 n1 w1 => by
    cases a with
    | true => exact ⟨sl, rt1, ρ, fps1, G1, k, s.step r1 n1 fun _ _ e => e, xf.later n1 (Pre.refl _), w1.1 rfl, fun b' rt2 fps2 G2 H2 r2 n2 hk => q b' rt2 fps2 G2 H2 r2 (n1.trans n2) hk⟩
    | false => exact q false rt1 fps1 G1 H1 r1 n1 (w1.2 rfl)⟩
theorem t_orD : ∀ σ H Q, tT K C U (wOrD ta tb) σ H Q → tOr (tT K C U ta) (tT K C U tb) σ H Q := fun σ H Q ⟨sl, rt, ρ, fps, G, k, s, xf, w, q⟩ =>
  ⟨sl, rt, ρ, fps, G, _, s, xf, w, fun a rt1 fps1 G1 H1 r1 n1 w1 => by
    cases a with
    | false => exact ⟨sl, rt1, ρ, fps1, G1, k, s.step r1 n1 fun _ _ e => e, xf.later n1 (Pre.refl _), w1.1 rfl, fun b' rt2 fps2 G2 H2 r2 n2 hk => q b' rt2 fps2 G2 H2 r2 (n1.trans n2) hk⟩
    | true => exact q true rt1 fps1 G1 H1 r1 n1 (w1.2 rfl)⟩
theorem ww_andD (ha : PT X ea (tT K C U ta)) (hb : PW X (.BoolOp .And (eb :: rest) pos) (tT K C U tb)) : PW X (.BoolOp .And (ea :: eb :: rest) pos) (tT K C U (wAndD ta tb)) := pw_imp (pw_and ha hb) t_andD
theorem ww_orD (ha : PT X ea (tT K C U ta)) (hb : PW X (.BoolOp .Or (eb :: rest) pos) (tT K C U tb)) : PW X (.BoolOp .Or (ea :: eb :: rest) pos) (tT K C U (wOrD ta tb)) := pw_imp (pw_or ha hb) t_orD
def wAndE (wa wb : WE) : WE := fun sl rt k => wa sl rt fun x rt1 => match x with
  | .dat (.bool a) => (a = true → wb sl rt1 k) ∧ (a = false → k (.dat (.bool false)) rt1)
  | _ => False
def wOrE (wa wb : WE) : WE := fun sl rt k => wa sl rt fun x rt1 => match x with
  | .dat (.bool a) => (a = false → wb sl rt1 k) ∧ (a = true → k (.dat (.bool true)) rt1)
  | _ => False
theorem e_andE : ∀ σ H Q, tE K C U (wAndE wa wb) σ H Q → tAndV (tE K C U wa) (tE K C U wb) σ H Q := fun σ H Q ⟨sl, rt, ρ, fps, G, k, s, xf, w, q⟩ =>
  ⟨sl, rt, ρ, fps, G, _, s, xf, w, fun x rt1 fps1 G1 H1 v r1 n1 v1 w1 => by
    split at w1
    · rename_i a
      cases v1
      refine ⟨a, rfl, ?_⟩
      cases a with
      | true => exact ⟨sl, rt1, ρ, fps1, G1, k, s.step r1 n1 fun _ _ e => e, xf.later n1 (Pre.refl _), w1.1 rfl, fun y rt2 fps2 G2 H2 u r2 n2 v2 hk => q y rt2 fps2 G2 H2 u r2 (n1.trans n2) v2 hk⟩
      | false => exact q (.dat (.bool false)) rt1 fps1 G1 H1 _ r1 n1 (DR.bool _) (w1.2 rfl)
    · exact w1.elim⟩
theorem e_orE : ∀ σ H Q, tE K C U (wOrE wa wb) σ H Q → tOrV (tE K C U wa) (tE K C U wb) σ H Q := fun σ H Q ⟨sl, rt, ρ, fps, G, k, s, xf, w, q⟩ =>
  ⟨sl, rt, ρ, fps, G, _, s, xf, w, fun x rt1 fps1 G1 H1 v r1 n1 v1 w1 => by
    split at w1
    · rename_i a
      cases v1
      refine ⟨a, rfl, ?_⟩
      cases a with
      | false => exact ⟨sl, rt1, ρ, fps1, G1, k, s.step r1 n1 fun _ _ e => e, xf.later n1 (Pre.refl _), w1.1 rfl, fun y rt2 fps2 G2 H2 u r2 n2 v2 hk => q y rt2 fps2 G2 H2 u r2 (n1.trans n2) v2 hk⟩
      | true => exact q (.dat (.bool true)) rt1 fps1 G1 H1 _ r1 n1 (DR.bool _) (w1.2 rfl)
    · exact w1.elim⟩
theorem we_andE (ha : PE X ea (tE K C U wa)) (hb : PE X (.BoolOp .And (eb :: rest) pos) (tE K C U wb)) : PE X (.BoolOp .And (ea :: eb :: rest) pos) (tE K C U (wAndE wa wb)) := pe_imp (pe_and ha hb) e_andE
theorem we_orE (ha : PE X ea (tE K C U wa)) (hb : PE X (.BoolOp .Or (eb :: rest) pos) (tE K C U wb)) : PE X (.BoolOp .Or (ea :: eb :: rest) pos) (tE K C U (wOrE wa wb)) := pe_imp (pe_or ha hb) e_orE
end
end Wv
end

section
set_option Elab.async false
set_option linter.all false
set_option maxRecDepth 100000
set_option maxHeartbeats 4000000
namespace K30
open PySem PySem.Spec PyProof.Rows L2 Evl Wv
def topS (i : Nat) : Stmt := PySem.Challenge.pw_merestone_k30_configurations.main.body.getD i (.Pass ⟨0, 0, 0, 0⟩)
structure DefAt (K : PySem.W.Frag) (mg : Str → Option Value) (x : Str) (st : Stmt) (f : Addr) (fd : FuncData) (ps : List Str) : Prop where
  F : Fun K x x st f fd
  g : mg x = some (.ref f)
  b : Binds K fd ps []
structure MethAt (K : PySem.W.Frag) (x q : Str) (st : Stmt) (f : Addr) (fd : FuncData) (ps : List Str) : Prop where
  F : Fun K x q st f fd
  b : Binds K fd ps []
def fld_image : Nat → Option Nat := fun c => match c with
  | 0 => some 0
  | _ => none
def fld_pages : Nat → Option Nat := fun c => match c with
  | 0 => some 1
  | _ => none
def fld_start : Nat → Option Nat := fun c => match c with
  | 0 => some 2
  | _ => none
def fld_partitions : Nat → Option Nat := fun c => match c with
  | 1 => some 0
  | _ => none
def fld_frames : Nat → Option Nat := fun c => match c with
  | 1 => some 1
  | _ => none
def fld_channels : Nat → Option Nat := fun c => match c with
  | 1 => some 2
  | _ => none
def fld_shares : Nat → Option Nat := fun c => match c with
  | 1 => some 3
  | _ => none
def fld_devices : Nat → Option Nat := fun c => match c with
  | 1 => some 4
  | _ => none
def fld_flows : Nat → Option Nat := fun c => match c with
  | 1 => some 5
  | _ => none
abbrev sLawDraw : Stmt := topS 18
abbrev NLawDraw : List Str := ["state", "script", "size", "cell", "mixed", "digit"]
abbrev PLawDraw : List Str := ["state", "script", "size"]
theorem scLawDraw : FnScope NLawDraw PLawDraw (defScope sLawDraw) := ⟨rfl, rfl, rfl, by decide +kernel, rfl, by decide +kernel, by decide +kernel⟩
def wLawDraw : WS :=
(wCut (wIf (wB (wBin (sEq false) (wIdx (wVar 0) (wC (.int 1))) (wC (.int 0))))
(wSeq (wAsg 3 (wC (.int 0)))
(wCut (wIf (wB (wBin sGt (wCB fLen (wCons (wVar 1) wNil)) (wC (.int 0))))
(wAsg 3 (wIdx (wVar 1) (wMod (wIdx (wVar 0) (wC (.int 0))) (wCB fLen (wCons (wVar 1) wNil)))))
wNext)
(wCut (wIf (wB (wBin sLt (wVar 3) (wC (.int 0))))
(wAsg 3 (wSub (wC (.int 1)) (wMul (wC (.int 2)) (wVar 3))))
wNext)
(wSeq (wAsg 4 (wMod (wCB fInt (wCons (wMul (wAdd (wAdd (wVar 3) (wMul (wIdx (wVar 0) (wC (.int 0))) (wC (.int 7919)))) (wC (.int 1))) (wC (.int 48271))) wNil)) (wC (.int 2147483647))))
(wSeq (wSetI (wMod (wCB fInt (wCons (wAdd (wMul (wVar 4) (wC (.int 69621))) (wMul (wIdx (wVar 0) (wC (.int 0))) (wC (.int 104729)))) wNil)) (wC (.int 4294967291))) (wVar 0) (wC (.int 1)))
(wCut (wIf (wAndT (wB (wBin sGe (wVar 3) (wPow (wC (.int 10)) (wC (.int 18))))) (wB (wBin sLt (wIdx (wVar 0) (wC (.int 0))) (wCB fLen (wCons (wVar 1) wNil)))))
(wSetI (wVar 3) (wVar 0) (wC (.int 1)))
wNext)
(wSetI (wAdd (wIdx (wVar 0) (wC (.int 0))) (wC (.int 1))) (wVar 0) (wC (.int 0)))))))))
wNext)
(wSeq (wAsg 5 (wMod (wCB fInt (wCons (wIdx (wVar 0) (wC (.int 1))) wNil)) (wVar 2)))
(wSeq (wSetI (wDiv (wIdx (wVar 0) (wC (.int 1))) (wVar 2)) (wVar 0) (wC (.int 1)))
(wRet (wVar 5)))))
def cLawDraw : CW := cwOf 3 3 wLawDraw

abbrev sLawWord : Stmt := topS 19
abbrev NLawWord : List Str := ["op", "a", "b", "c", "names"]
abbrev PLawWord : List Str := ["op", "a", "b", "c"]
theorem scLawWord : FnScope NLawWord PLawWord (defScope sLawWord) := ⟨rfl, rfl, rfl, by decide +kernel, rfl, by decide +kernel, by decide +kernel⟩
def wLawWord : WS :=
(wSeq (wAsg 4 (wFrz (wLst (wCons (wC (.str "halt")) (wCons (wC (.str "set")) (wCons (wC (.str "copy")) (wCons (wC (.str "add")) (wCons (wC (.str "sub")) (wCons (wC (.str "mul")) (wCons (wC (.str "and")) (wCons (wC (.str "or")) (wCons (wC (.str "xor")) (wCons (wC (.str "shl")) (wCons (wC (.str "shr")) (wCons (wC (.str "addi")) (wCons (wC (.str "load")) (wCons (wC (.str "store")) (wCons (wC (.str "jump")) (wCons (wC (.str "jal")) (wCons (wC (.str "beq")) (wCons (wC (.str "bne")) (wCons (wC (.str "blt")) (wCons (wC (.str "call")) wNil)))))))))))))))))))))))
(wRet (wAdd (wAdd (wAdd (wShl (wIxL (wVar 4) (wCons (wVar 0) wNil)) (wC (.int 10))) (wShl (wVar 1) (wC (.int 7)))) (wShl (wVar 2) (wC (.int 4)))) (wVar 3))))
def cLawWord : CW := cwOf 4 1 wLawWord

abbrev sLawLine : Stmt := topS 20
abbrev NLawLine : List Str := ["state", "script", "seen", "pick", "a", "b", "c", "op", "place", "channel", "call"]
abbrev PLawLine : List Str := ["state", "script", "seen"]
theorem scLawLine : FnScope NLawLine PLawLine (defScope sLawLine) := ⟨rfl, rfl, rfl, by decide +kernel, rfl, by decide +kernel, by decide +kernel⟩
def wLawLine : WS :=
(wSeq (wAsg 3 (wFrz (wCall cLawDraw (wCons (wVar 0) (wCons (wVar 1) (wCons (wC (.int 20)) wNil))))))
(wSeq (wAsg 4 (wFrz (wCall cLawDraw (wCons (wVar 0) (wCons (wVar 1) (wCons (wC (.int 6)) wNil))))))
(wSeq (wAsg 5 (wFrz (wCall cLawDraw (wCons (wVar 0) (wCons (wVar 1) (wCons (wC (.int 6)) wNil))))))
(wSeq (wAsg 6 (wFrz (wCall cLawDraw (wCons (wVar 0) (wCons (wVar 1) (wCons (wC (.int 6)) wNil))))))
(wSeq (wIf (wB (wBin sLt (wVar 3) (wC (.int 4))))
(wSeq (wAsg 7 (wIdx (wFrz (wLst (wCons (wC (.str "add")) (wCons (wC (.str "sub")) (wCons (wC (.str "mul")) (wCons (wC (.str "xor")) (wCons (wC (.str "and")) (wCons (wC (.str "or")) (wCons (wC (.str "copy")) wNil))))))))) (wFrz (wCall cLawDraw (wCons (wVar 0) (wCons (wVar 1) (wCons (wC (.int 7)) wNil)))))))
(wRetO (wLst (wCons (wFrz (wCall cLawWord (wCons (wVar 7) (wCons (wVar 4) (wCons (wVar 5) (wCons (wMul (wVar 6) (wCB fInt (wCons (wBin (sEq true) (wVar 7) (wC (.str "copy"))) wNil))) wNil)))))) wNil))))
wNext)
(wSeq (wIf (wB (wBin sLt (wVar 3) (wC (.int 6))))
(wRetO (wLst (wCons (wFrz (wCall cLawWord (wCons (wC (.str "addi")) (wCons (wVar 4) (wCons (wVar 4) (wCons (wFrz (wCall cLawDraw (wCons (wVar 0) (wCons (wVar 1) (wCons (wC (.int 16)) wNil))))) wNil)))))) wNil)))
wNext)
(wSeq (wIf (wB (wBin sLt (wVar 3) (wC (.int 8))))
(wRetO (wLst (wCons (wFrz (wCall cLawWord (wCons (wC (.str "set")) (wCons (wVar 4) (wCons (wC (.int 0)) (wCons (wC (.int 0)) wNil)))))) (wCons (wFrz (wCall cLawDraw (wCons (wVar 0) (wCons (wVar 1) (wCons (wC (.int 300)) wNil))))) wNil))))
wNext)
(wSeq (wIf (wB (wBin sLt (wVar 3) (wC (.int 11))))
(wSeq (wAsg 8 (wAdd (wMul (wC (.int 16)) (wFrz (wCall cLawDraw (wCons (wVar 0) (wCons (wVar 1) (wCons (wAdd (wVar 2) (wC (.int 1))) wNil)))))) (wFrz (wCall cLawDraw (wCons (wVar 0) (wCons (wVar 1) (wCons (wC (.int 16)) wNil)))))))
(wSeq (wAsg 7 (wIdx (wFrz (wLst (wCons (wC (.str "load")) (wCons (wC (.str "store")) wNil)))) (wFrz (wCall cLawDraw (wCons (wVar 0) (wCons (wVar 1) (wCons (wC (.int 2)) wNil)))))))
(wRetO (wLst (wCons (wFrz (wCall cLawWord (wCons (wC (.str "set")) (wCons (wC (.int 6)) (wCons (wC (.int 0)) (wCons (wC (.int 0)) wNil)))))) (wCons (wVar 8) (wCons (wFrz (wCall cLawWord (wCons (wVar 7) (wCons (wVar 4) (wCons (wC (.int 6)) (wCons (wC (.int 0)) wNil)))))) wNil)))))))
wNext)
(wSeq (wIf (wB (wBin sLt (wVar 3) (wC (.int 15))))
(wSeq (wAsg 9 (wFrz (wCall cLawDraw (wCons (wVar 0) (wCons (wVar 1) (wCons (wC (.int 4)) wNil))))))
(wSeq (wAsg 10 (wIdx (wFrz (wLst (wCons (wC (.int 1)) (wCons (wC (.int 1)) (wCons (wC (.int 2)) (wCons (wC (.int 2)) (wCons (wC (.int 3)) (wCons (wC (.int 0)) wNil)))))))) (wFrz (wCall cLawDraw (wCons (wVar 0) (wCons (wVar 1) (wCons (wC (.int 6)) wNil)))))))
(wRetO (wLst (wCons (wFrz (wCall cLawWord (wCons (wC (.str "set")) (wCons (wC (.int 0)) (wCons (wC (.int 0)) (wCons (wC (.int 0)) wNil)))))) (wCons (wVar 9) (wCons (wFrz (wCall cLawWord (wCons (wC (.str "call")) (wCons (wC (.int 0)) (wCons (wC (.int 0)) (wCons (wVar 10) wNil)))))) wNil)))))))
wNext)
(wSeq (wIf (wB (wBin sLt (wVar 3) (wC (.int 17))))
(wSeq (wAsg 7 (wIdx (wFrz (wLst (wCons (wC (.str "beq")) (wCons (wC (.str "bne")) (wCons (wC (.str "blt")) wNil))))) (wFrz (wCall cLawDraw (wCons (wVar 0) (wCons (wVar 1) (wCons (wC (.int 3)) wNil)))))))
(wRetO (wLst (wCons (wFrz (wCall cLawWord (wCons (wVar 7) (wCons (wVar 4) (wCons (wVar 5) (wCons (wFrz (wCall cLawDraw (wCons (wVar 0) (wCons (wVar 1) (wCons (wC (.int 16)) wNil))))) wNil)))))) wNil))))
wNext)
(wSeq (wIf (wAndD (wB (wBin (sEq false) (wVar 3) (wC (.int 17)))) (wB (wBin (sEq false) (wFrz (wCall cLawDraw (wCons (wVar 0) (wCons (wVar 1) (wCons (wC (.int 4)) wNil))))) (wC (.int 0)))))
(wRetO (wLst (wCons (wIdx (wFrz (wLst (wCons (wFrz (wCall cLawWord (wCons (wC (.str "halt")) (wCons (wC (.int 0)) (wCons (wC (.int 0)) (wCons (wC (.int 0)) wNil)))))) (wCons (wC (.int 65535)) (wCons (wFrz (wCall cLawWord (wCons (wC (.str "call")) (wCons (wC (.int 0)) (wCons (wC (.int 0)) (wCons (wC (.int 9)) wNil)))))) (wCons (wFrz (wCall cLawDraw (wCons (wVar 0) (wCons (wVar 1) (wCons (wC (.int 65536)) wNil))))) wNil)))))) (wFrz (wCall cLawDraw (wCons (wVar 0) (wCons (wVar 1) (wCons (wC (.int 4)) wNil)))))) wNil)))
wNext)
(wSeq (wIf (wB (wBin (sEq false) (wVar 3) (wC (.int 18))))
(wRetO (wLst (wCons (wFrz (wCall cLawWord (wCons (wC (.str "set")) (wCons (wC (.int 7)) (wCons (wC (.int 0)) (wCons (wC (.int 0)) wNil)))))) (wCons (wC (.int 0)) (wCons (wFrz (wCall cLawWord (wCons (wC (.str "jump")) (wCons (wC (.int 7)) (wCons (wC (.int 0)) (wCons (wC (.int 0)) wNil)))))) wNil)))))
wNext)
(wRetO (wLst (wCons (wFrz (wCall cLawWord (wCons (wC (.str "copy")) (wCons (wC (.int 1)) (wCons (wVar 4) (wCons (wC (.int 0)) wNil)))))) wNil)))))))))))))))
def cLawLine : CW := cwOf 3 8 wLawLine

abbrev sLawImage : Stmt := topS 21
abbrev NLawImage : List Str := ["state", "script", "pages", "seen", "words", "k", "line"]
abbrev PLawImage : List Str := ["state", "script", "pages", "seen"]
theorem scLawImage : FnScope NLawImage PLawImage (defScope sLawImage) := ⟨rfl, rfl, rfl, by decide +kernel, rfl, by decide +kernel, by decide +kernel⟩
def wLawImage : WS :=
(wSeq (wAsg 4 (wFrz (wLst wNil)))
(wCut (wFor (wRng1 (wCons (wAdd (wC (.int 3)) (wFrz (wCall cLawDraw (wCons (wVar 0) (wCons (wVar 1) (wCons (wC (.int 12)) wNil)))))) wNil)) (tgName 5)
(wSeq (wAsg 6 (wFrz (wCall cLawLine (wCons (wVar 0) (wCons (wVar 1) (wCons (wVar 3) wNil))))))
(wIf (wB (wBin sLe (wAdd (wCB fLen (wCons (wVar 4) wNil)) (wCB fLen (wCons (wVar 6) wNil))) (wSub (wMul (wC (.int 16)) (wVar 2)) (wC (.int 3)))))
(wAsg 4 (wFrz (wCatL (wVar 4) (wVar 6))))
wNext)))
(wRetO (wCatL (wVar 4) (wFrz (wLst (wCons (wFrz (wCall cLawWord (wCons (wC (.str "set")) (wCons (wC (.int 7)) (wCons (wC (.int 0)) (wCons (wC (.int 0)) wNil)))))) (wCons (wC (.int 0)) (wCons (wFrz (wCall cLawWord (wCons (wC (.str "jump")) (wCons (wC (.int 7)) (wCons (wC (.int 0)) (wCons (wC (.int 0)) wNil)))))) wNil)))))))))
def cLawImage : CW := cwOf 4 3 wLawImage

abbrev sLawParts : Stmt := topS 22
abbrev NLawParts : List Str := ["state", "script", "count", "flows", "p", "q", "channels", "shares", "k", "source", "target", "devices", "frames"]
abbrev PLawParts : List Str := ["state", "script"]
theorem scLawParts : FnScope NLawParts PLawParts (defScope sLawParts) := ⟨rfl, rfl, rfl, by decide +kernel, rfl, by decide +kernel, by decide +kernel⟩
def wLawParts : WS :=
(wSeq (wAsg 2 (wAdd (wC (.int 2)) (wFrz (wCall cLawDraw (wCons (wVar 0) (wCons (wVar 1) (wCons (wC (.int 3)) wNil)))))))
(wSeq (wNew 3 (wLst wNil))
(wCut (wFor (wRng1 (wCons (wVar 2) wNil)) (tgName 4)
(wFor (wRng1 (wCons (wVar 2) wNil)) (tgName 5)
(wIf (wAndD (wB (wBin (sEq true) (wVar 4) (wVar 5))) (wB (wBin (sEq false) (wFrz (wCall cLawDraw (wCons (wVar 0) (wCons (wVar 1) (wCons (wC (.int 3)) wNil))))) (wC (.int 0)))))
(wApp (wVar 3) (wLift (wTupX (wCons (wVar 4) (wCons (wVar 5) wNil)))))
wNext)))
(wSeq (wNew 6 (wLst wNil))
(wSeq (wNew 7 (wLst wNil))
(wCut (wFor (wRng1 (wCons (wFrz (wCall cLawDraw (wCons (wVar 0) (wCons (wVar 1) (wCons (wC (.int 4)) wNil))))) wNil)) (tgName 8)
(wIf (wB (wBin sGt (wCB fLen (wCons (wVar 3) wNil)) (wC (.int 0))))
(wSeq (wAsgT (tgTup [9, 10]) (wIdx (wVar 3) (wFrz (wCall cLawDraw (wCons (wVar 0) (wCons (wVar 1) (wCons (wCB fLen (wCons (wVar 3) wNil)) wNil)))))))
(wApp (wVar 6) (wLift (wTup (wCons (wVar 9) (wCons (wVar 10) (wCons (wAdd (wC (.int 1)) (wFrz (wCall cLawDraw (wCons (wVar 0) (wCons (wVar 1) (wCons (wC (.int 3)) wNil)))))) (wCons (wAndE (wBin sInL (wTup (wCons (wVar 10) (wCons (wVar 9) wNil))) (wVar 3)) (wBin (sEq false) (wFrz (wCall cLawDraw (wCons (wVar 0) (wCons (wVar 1) (wCons (wC (.int 2)) wNil))))) (wC (.int 1)))) wNil))))))))
wNext))
(wCut (wFor (wRng1 (wCons (wFrz (wCall cLawDraw (wCons (wVar 0) (wCons (wVar 1) (wCons (wC (.int 3)) wNil))))) wNil)) (tgName 8)
(wIf (wB (wBin sGt (wCB fLen (wCons (wVar 3) wNil)) (wC (.int 0))))
(wApp (wVar 7) (wLift (wIdx (wVar 3) (wFrz (wCall cLawDraw (wCons (wVar 0) (wCons (wVar 1) (wCons (wCB fLen (wCons (wVar 3) wNil)) wNil))))))))
wNext))
(wSeq (wAsg 11 (wFrz (wLc (wRng1 (wCons (wFrz (wCall cLawDraw (wCons (wVar 0) (wCons (wVar 1) (wCons (wC (.int 3)) wNil))))) wNil)) (tgName 8) [8] wYes (wCall cLawDraw (wCons (wVar 0) (wCons (wVar 1) (wCons (wVar 2) wNil)))))))
(wSeq (wNew 12 (wLst wNil))
(wCut (wFor (wRng1 (wCons (wAdd (wC (.int 1)) (wFrz (wCall cLawDraw (wCons (wVar 0) (wCons (wVar 1) (wCons (wC (.int 4)) wNil)))))) wNil)) (tgName 8)
(wApp (wVar 12) (wLift (wTup (wCons (wIdx (wFrz (wLst (wCons (wC .non) (wCons (wFrz (wCall cLawDraw (wCons (wVar 0) (wCons (wVar 1) (wCons (wVar 2) wNil))))) wNil)))) (wCB fInt (wCons (wBin sGt (wFrz (wCall cLawDraw (wCons (wVar 0) (wCons (wVar 1) (wCons (wC (.int 6)) wNil))))) (wC (.int 0))) wNil))) (wCons (wAdd (wC (.int 128)) (wFrz (wCall cLawDraw (wCons (wVar 0) (wCons (wVar 1) (wCons (wC (.int 160)) wNil)))))) wNil))))))
(wRetO (wLst (wCons (wVar 2) (wCons (wFz (wVar 3)) (wCons (wFz (wVar 6)) (wCons (wFz (wVar 7)) (wCons (wVar 11) (wCons (wFz (wVar 12)) wNil))))))))))))))))))
def cLawParts : CW := cwOf 2 11 wLawParts

abbrev sPartitionInit : Stmt := inClass (topS 8) 0
abbrev NPartitionInit : List Str := ["self", "image", "pages", "start"]
abbrev PPartitionInit : List Str := ["self", "image", "pages", "start"]
theorem scPartitionInit : FnScope NPartitionInit PPartitionInit (defScope sPartitionInit) := ⟨rfl, rfl, rfl, by decide +kernel, rfl, by decide +kernel, by decide +kernel⟩
def wPartitionInit : WS :=
(wSeq (wSetF fld_image (wLift (wTupOf (wCons (wVar 1) wNil))) (wVar 0))
(wSeq (wSetF fld_pages (wLift (wVar 2)) (wVar 0))
(wSetF fld_start (wLift (wVar 3)) (wVar 0))))
def cPartitionInit : CW := cwOf 4 0 wPartitionInit

abbrev sPartitionFields : Stmt := inClass (topS 8) 1
abbrev NPartitionFields : List Str := ["self"]
abbrev PPartitionFields : List Str := ["self"]
theorem scPartitionFields : FnScope NPartitionFields PPartitionFields (defScope sPartitionFields) := ⟨rfl, rfl, rfl, by decide +kernel, rfl, by decide +kernel, by decide +kernel⟩
def wPartitionFields : WS :=
(wRet (wTup (wCons (wFld fld_image (wVar 0)) (wCons (wFld fld_pages (wVar 0)) (wCons (wFld fld_start (wVar 0)) wNil)))))
def cPartitionFields : CW := cwOf 1 0 wPartitionFields

abbrev sPartitionEq : Stmt := inClass (topS 8) 2
abbrev NPartitionEq : List Str := ["self", "other"]
abbrev PPartitionEq : List Str := ["self", "other"]
theorem scPartitionEq : FnScope NPartitionEq PPartitionEq (defScope sPartitionEq) := ⟨rfl, rfl, rfl, by decide +kernel, rfl, by decide +kernel, by decide +kernel⟩
def wPartitionEq : WS :=
(wRet (wAndV (wIsC 0 (wVar 1)) (wEqO noOk 4 false (wFrz (wMeth 0 cPartitionFields (wVar 0) wNil)) (wFrz (wMeth 0 cPartitionFields (wVar 1) wNil)))))
def cPartitionEq : CW := cwOf 2 0 wPartitionEq
theorem spec_P_eq : ∀ ds es b, ds.length = 3 → es.length = 3 → D.deeps ds ≤ 4 → eqDs noOk ds es = some b → ∀ (kk : T → Roots → Prop) kx, kk (.dat (.bool b)) [] → cPartitionEq [.dat (.obj 0 ds), .dat (.obj 0 es)] [] kk kx := by
  intro ds es b h1 h2 hd h kk kx hk
  match ds, es, h1, h2 with
  | [d1, d2, d3], [e1, e2, e3], _, _ =>
    unfold cPartitionEq cwOf
    refine ⟨rfl, ?_⟩
    unfold wPartitionEq
    refine ⟨rfl, b, fun _ => ⟨rfl, rfl, ?_⟩, ?_⟩
    · refine ⟨rfl, ⟨by show 3 ≤ 1000; decide, rfl, rfl, ?_⟩⟩
      refine ⟨rfl, ⟨by show 3 ≤ 1000; decide, ?_⟩⟩
      exact ⟨hd, b, h, by cases b <;> rfl, rfl⟩
    · cases b <;> exact hk

abbrev sConfigInit : Stmt := inClass (topS 9) 0
abbrev NConfigInit : List Str := ["self", "partitions", "frames", "channels", "shares", "devices", "flows"]
abbrev PConfigInit : List Str := ["self", "partitions", "frames", "channels", "shares", "devices", "flows"]
theorem scConfigInit : FnScope NConfigInit PConfigInit (defScope sConfigInit) := ⟨rfl, rfl, rfl, by decide +kernel, rfl, by decide +kernel, by decide +kernel⟩
def wConfigInit : WS :=
(wSeq (wSetF fld_partitions (wLift (wTupOf (wCons (wVar 1) wNil))) (wVar 0))
(wSeq (wSetF fld_frames (wLift (wTupOf (wCons (wVar 2) wNil))) (wVar 0))
(wSeq (wSetF fld_channels (wLift (wTupOf (wCons (wVar 3) wNil))) (wVar 0))
(wSeq (wSetF fld_shares (wLift (wTupOf (wCons (wVar 4) wNil))) (wVar 0))
(wSeq (wSetF fld_devices (wLift (wTupOf (wCons (wVar 5) wNil))) (wVar 0))
(wSetF fld_flows (wLift (wTupOf (wCons (wVar 6) wNil))) (wVar 0)))))))
def cConfigInit : CW := cwOf 7 0 wConfigInit

abbrev sConfigFields : Stmt := inClass (topS 9) 1
abbrev NConfigFields : List Str := ["self"]
abbrev PConfigFields : List Str := ["self"]
theorem scConfigFields : FnScope NConfigFields PConfigFields (defScope sConfigFields) := ⟨rfl, rfl, rfl, by decide +kernel, rfl, by decide +kernel, by decide +kernel⟩
def wConfigFields : WS :=
(wRet (wTup (wCons (wFld fld_partitions (wVar 0)) (wCons (wFld fld_frames (wVar 0)) (wCons (wFld fld_channels (wVar 0)) (wCons (wFld fld_shares (wVar 0)) (wCons (wFld fld_devices (wVar 0)) (wCons (wFld fld_flows (wVar 0)) wNil))))))))
def cConfigFields : CW := cwOf 1 0 wConfigFields

abbrev sConfigEq : Stmt := inClass (topS 9) 2
abbrev NConfigEq : List Str := ["self", "other"]
abbrev PConfigEq : List Str := ["self", "other"]
theorem scConfigEq : FnScope NConfigEq PConfigEq (defScope sConfigEq) := ⟨rfl, rfl, rfl, by decide +kernel, rfl, by decide +kernel, by decide +kernel⟩
def wConfigEq : WS :=
(wRet (wAndV (wIsC 1 (wVar 1)) (wEqO (ok1 0 3) 4 false (wFrz (wMeth 1 cConfigFields (wVar 0) wNil)) (wFrz (wMeth 1 cConfigFields (wVar 1) wNil)))))
def cConfigEq : CW := cwOf 2 0 wConfigEq

abbrev sLawPartition : Stmt := topS 23
abbrev NLawPartition : List Str := ["state", "script", "parts", "p", "pages", "seen", "one"]
abbrev PLawPartition : List Str := ["state", "script", "parts", "p"]
theorem scLawPartition : FnScope NLawPartition PLawPartition (defScope sLawPartition) := ⟨rfl, rfl, rfl, by decide +kernel, rfl, by decide +kernel, by decide +kernel⟩
def wLawPartition : WS :=
(wSeq (wAsg 4 (wAdd (wC (.int 1)) (wFrz (wCall cLawDraw (wCons (wVar 0) (wCons (wVar 1) (wCons (wC (.int 3)) wNil)))))))
(wSeq (wAsg 5 (wAdd (wAdd (wVar 4) (wCB fLen (wCons (wFrz (wLc (wItL (wIdx (wVar 2) (wC (.int 3)))) (tgName 6) [6] (wB (wBin (sIn false) (wVar 3) (wVar 6))) (wLift (wVar 6)))) wNil))) (wCB fLen (wCons (wFrz (wLc (wItL (wIdx (wVar 2) (wC (.int 4)))) (tgName 6) [6] (wB (wBin (sEq false) (wVar 6) (wVar 3))) (wLift (wVar 6)))) wNil))))
(wRetO (wMake 0 cPartitionInit (wCons (wFrz (wCall cLawImage (wCons (wVar 0) (wCons (wVar 1) (wCons (wVar 4) (wCons (wVar 5) wNil)))))) (wCons (wVar 4) (wCons (wC (.int 0)) wNil)))))))
def cLawPartition : CW := cwOf 4 3 wLawPartition

abbrev sLawConfig : Stmt := topS 24
abbrev NLawConfig : List Str := ["state", "script", "parts", "partitions", "p"]
abbrev PLawConfig : List Str := ["state", "script"]
theorem scLawConfig : FnScope NLawConfig PLawConfig (defScope sLawConfig) := ⟨rfl, rfl, rfl, by decide +kernel, rfl, by decide +kernel, by decide +kernel⟩
def wLawConfig : WS :=
(wSeq (wAsg 2 (wFrz (wCall cLawParts (wCons (wVar 0) (wCons (wVar 1) wNil)))))
(wSeq (wAsg 3 (wFrz (wLc (wRng1 (wCons (wIdx (wVar 2) (wC (.int 0))) wNil)) (tgName 4) [4] wYes (wCall cLawPartition (wCons (wVar 0) (wCons (wVar 1) (wCons (wVar 2) (wCons (wVar 4) wNil))))))))
(wRetO (wMake 1 cConfigInit (wCons (wVar 3) (wCons (wIdx (wVar 2) (wC (.int 5))) (wCons (wIdx (wVar 2) (wC (.int 2))) (wCons (wIdx (wVar 2) (wC (.int 3))) (wCons (wIdx (wVar 2) (wC (.int 4))) (wCons (wIdx (wVar 2) (wC (.int 1))) wNil))))))))))
def cLawConfig : CW := cwOf 2 3 wLawConfig

abbrev sShareRights : Stmt := topS 10
abbrev NShareRights : List Str := ["share", "p", "writer", "reader"]
abbrev PShareRights : List Str := ["share", "p"]
theorem scShareRights : FnScope NShareRights PShareRights (defScope sShareRights) := ⟨rfl, rfl, rfl, by decide +kernel, rfl, by decide +kernel, by decide +kernel⟩
def wShareRights : WS :=
(wSeq (wAsgT (tgTup [2, 3]) (wVar 0))
(wSeq (wIf (wB (wBin (sEq false) (wVar 1) (wVar 2)))
(wRet (wAdd (wC (.int 1)) (wC (.int 2))))
wNext)
(wSeq (wIf (wB (wBin (sEq false) (wVar 1) (wVar 3)))
(wRet (wC (.int 1)))
wNext)
(wRet (wC (.int 0))))))
def cShareRights : CW := cwOf 2 2 wShareRights

abbrev sPageMap : Stmt := topS 11
abbrev NPageMap : List Str := ["config", "p", "found", "index", "share", "rights", "owner"]
abbrev PPageMap : List Str := ["config", "p"]
theorem scPageMap : FnScope NPageMap PPageMap (defScope sPageMap) := ⟨rfl, rfl, rfl, by decide +kernel, rfl, by decide +kernel, by decide +kernel⟩
def wPageMap : WS :=
(wSeq (wNew 2 (wLc (wRng1 (wCons (wFld fld_pages (wIdx (wFld fld_partitions (wVar 0)) (wVar 1))) wNil)) (tgName 3) [3] wYes (wLift (wTup (wCons (wC (.str "own")) (wCons (wVar 3) (wCons (wAdd (wAdd (wC (.int 1)) (wC (.int 2))) (wC (.int 4))) wNil)))))))
(wCut (wFor (wEnumT (wCons (wFld fld_shares (wVar 0)) wNil)) (tgTup [3, 4])
(wSeq (wAsg 5 (wFrz (wCall cShareRights (wCons (wVar 4) (wCons (wVar 1) wNil)))))
(wIf (wB (wBin sGt (wVar 5) (wC (.int 0))))
(wApp (wVar 2) (wLift (wTup (wCons (wC (.str "share")) (wCons (wVar 3) (wCons (wVar 5) wNil))))))
wNext)))
(wCut (wFor (wEnumT (wCons (wFld fld_devices (wVar 0)) wNil)) (tgTup [3, 6])
(wIf (wB (wBin (sEq false) (wVar 6) (wVar 1)))
(wApp (wVar 2) (wLift (wTup (wCons (wC (.str "device")) (wCons (wVar 3) (wCons (wC (.int 1)) wNil))))))
wNext))
(wRet (wVar 2)))))
def cPageMap : CW := cwOf 2 5 wPageMap

abbrev sTicksOf : Stmt := topS 12
abbrev NTicksOf : List Str := ["frames", "_", "ticks"]
abbrev PTicksOf : List Str := ["frames"]
theorem scTicksOf : FnScope NTicksOf PTicksOf (defScope sTicksOf) := ⟨rfl, rfl, rfl, by decide +kernel, rfl, by decide +kernel, by decide +kernel⟩
def wTicksOf : WS :=
(wRet (wCB fSum (wCons (wFrz (wLc (wItT (wVar 0)) (tgTup [1, 2]) [1, 2] wYes (wLift (wAdd (wC (.int 256)) (wVar 2))))) wNil)))
def cTicksOf : CW := cwOf 1 2 wTicksOf

abbrev sRoundLength : Stmt := topS 13
abbrev NRoundLength : List Str := ["config"]
abbrev PRoundLength : List Str := ["config"]
theorem scRoundLength : FnScope NRoundLength PRoundLength (defScope sRoundLength) := ⟨rfl, rfl, rfl, by decide +kernel, rfl, by decide +kernel, by decide +kernel⟩
def wRoundLength : WS :=
(wRetO (wCall cTicksOf (wCons (wFld fld_frames (wVar 0)) wNil)))
def cRoundLength : CW := cwOf 1 0 wRoundLength

abbrev sFrameStart : Stmt := topS 14
abbrev NFrameStart : List Str := ["config", "number", "rounds", "index"]
abbrev PFrameStart : List Str := ["config", "number"]
theorem scFrameStart : FnScope NFrameStart PFrameStart (defScope sFrameStart) := ⟨rfl, rfl, rfl, by decide +kernel, rfl, by decide +kernel, by decide +kernel⟩
def wFrameStart : WS :=
(wSeq (wAsgT (tgTup [2, 3]) (wDivmod (wCons (wVar 1) (wCons (wCB fLen (wCons (wFld fld_frames (wVar 0)) wNil)) wNil))))
(wRet (wAdd (wAdd (wMul (wVar 2) (wFrz (wCall cRoundLength (wCons (wVar 0) wNil)))) (wFrz (wCall cTicksOf (wCons (wSlT (wFld fld_frames (wVar 0)) wNo (wPart (wVar 3))) wNil)))) (wC (.int 256)))))
def cFrameStart : CW := cwOf 2 2 wFrameStart

abbrev sMayFlow : Stmt := topS 15
abbrev NMayFlow : List Str := ["config", "source", "target"]
abbrev PMayFlow : List Str := ["config", "source", "target"]
theorem scMayFlow : FnScope NMayFlow PMayFlow (defScope sMayFlow) := ⟨rfl, rfl, rfl, by decide +kernel, rfl, by decide +kernel, by decide +kernel⟩
def wMayFlow : WS :=
(wRet (wOrV (wBin (sEq false) (wVar 1) (wVar 2)) (wBin sInT (wTup (wCons (wVar 1) (wCons (wVar 2) wNil))) (wFld fld_flows (wVar 0)))))
def cMayFlow : CW := cwOf 3 0 wMayFlow

abbrev sSourcesOf : Stmt := topS 16
abbrev NSourcesOf : List Str := ["config", "target", "found", "at", "source"]
abbrev PSourcesOf : List Str := ["config", "target"]
theorem scSourcesOf : FnScope NSourcesOf PSourcesOf (defScope sSourcesOf) := ⟨rfl, rfl, rfl, by decide +kernel, rfl, by decide +kernel, by decide +kernel⟩
def wSourcesOf : WS :=
(wSeq (wNew 2 (wLst (wCons (wVar 1) wNil)))
(wSeq (wAsg 3 (wC (.int 0)))
(wCut (wWhile (wB (wBin sLt (wVar 3) (wCB fLen (wCons (wVar 2) wNil))))
(wCut (wFor (wRng1 (wCons (wCB fLen (wCons (wFld fld_partitions (wVar 0)) wNil)) wNil)) (tgName 4)
(wIf (wAndT (wB (wBin (sIn true) (wVar 4) (wVar 2))) (wB (wFrz (wCall cMayFlow (wCons (wVar 0) (wCons (wVar 4) (wCons (wIdx (wVar 2) (wVar 3)) wNil)))))))
(wApp (wVar 2) (wLift (wVar 4)))
wNext))
(wAug 3 (fun i j => i + j) (wC (.int 1)))))
(wRetO (wSorted (wCons (wVar 2) wNil))))))
def cSourcesOf : CW := cwOf 2 3 wSourcesOf

abbrev sLawPages : Stmt := topS 26
abbrev NLawPages : List Str := ["config", "p", "found", "k"]
abbrev PLawPages : List Str := ["config", "p"]
theorem scLawPages : FnScope NLawPages PLawPages (defScope sLawPages) := ⟨rfl, rfl, rfl, by decide +kernel, rfl, by decide +kernel, by decide +kernel⟩
def wLawPages : WS :=
(wSeq (wNew 2 (wLst wNil))
(wCut (wFor (wRng1 (wCons (wFld fld_pages (wIdx (wFld fld_partitions (wVar 0)) (wVar 1))) wNil)) (tgName 3)
(wApp (wVar 2) (wLift (wTup (wCons (wC (.str "own")) (wCons (wVar 3) (wCons (wC (.int 7)) wNil)))))))
(wCut (wFor (wRng1 (wCons (wCB fLen (wCons (wFld fld_shares (wVar 0)) wNil)) wNil)) (tgName 3)
(wIf (wB (wBin (sIn false) (wVar 1) (wIdx (wFld fld_shares (wVar 0)) (wVar 3))))
(wApp (wVar 2) (wLift (wTup (wCons (wC (.str "share")) (wCons (wVar 3) (wCons (wIdx (wFrz (wLst (wCons (wC (.int 3)) (wCons (wC (.int 1)) wNil)))) (wIxT (wIdx (wFld fld_shares (wVar 0)) (wVar 3)) (wCons (wVar 1) wNil))) wNil))))))
wNext))
(wCut (wFor (wRng1 (wCons (wCB fLen (wCons (wFld fld_devices (wVar 0)) wNil)) wNil)) (tgName 3)
(wIf (wB (wBin (sEq false) (wIdx (wFld fld_devices (wVar 0)) (wVar 3)) (wVar 1)))
(wApp (wVar 2) (wLift (wTup (wCons (wC (.str "device")) (wCons (wVar 3) (wCons (wC (.int 1)) wNil))))))
wNext))
(wRet (wVar 2))))))
def cLawPages : CW := cwOf 2 2 wLawPages

abbrev sLawReach : Stmt := topS 27
abbrev NLawReach : List Str := ["config", "target", "found", "p", "k", "source", "other"]
abbrev PLawReach : List Str := ["config", "target"]
theorem scLawReach : FnScope NLawReach PLawReach (defScope sLawReach) := ⟨rfl, rfl, rfl, by decide +kernel, rfl, by decide +kernel, by decide +kernel⟩
def wLawReach : WS :=
(wSeq (wNew 2 (wLc (wRng1 (wCons (wCB fLen (wCons (wFld fld_partitions (wVar 0)) wNil)) wNil)) (tgName 3) [3] wYes (wLift (wBin (sEq false) (wVar 3) (wVar 1)))))
(wCut (wFor (wRng1 (wCons (wCB fLen (wCons (wFld fld_partitions (wVar 0)) wNil)) wNil)) (tgName 4)
(wFor (wItT (wFld fld_flows (wVar 0))) (tgTup [5, 6])
(wIf (wB (wIdx (wVar 2) (wVar 6)))
(wSetI (wC (.bool true)) (wVar 2) (wVar 5))
wNext)))
(wRetO (wLc (wRng1 (wCons (wCB fLen (wCons (wVar 2) wNil)) wNil)) (tgName 3) [3] (wB (wIdx (wVar 2) (wVar 3))) (wLift (wVar 3))))))
def cLawReach : CW := cwOf 2 5 wLawReach

abbrev sLaw : Stmt := topS 28
abbrev NLaw : List Str := ["script", "state", "config", "tick", "number", "far", "p", "q", "one", "lists", "part", "again", "other"]
abbrev PLaw : List Str := ["script"]
theorem scLaw : FnScope NLaw PLaw (defScope sLaw) := ⟨rfl, rfl, rfl, by decide +kernel, rfl, by decide +kernel, by decide +kernel⟩
def wLaw : WS :=
(wSeq (wNew 1 (wLst (wCons (wC (.int 0)) (wCons (wC (.int 0)) wNil))))
(wSeq (wAsg 2 (wFrz (wCall cLawConfig (wCons (wVar 1) (wCons (wVar 0) wNil)))))
(wSeq (wIf (wB (wBin (sEq true) (wFrz (wLst (wCons (wC (.int 16)) (wCons (wC (.int 8)) (wCons (wC (.int 256)) (wCons (wC (.int 96)) wNil)))))) (wFrz (wLst (wCons (wC (.int 16)) (wCons (wC (.int 8)) (wCons (wC (.int 256)) (wCons (wC (.int 96)) wNil))))))))
(wRet (wC (.bool false)))
wNext)
(wSeq (wAsg 3 (wC (.int 0)))
(wCut (wFor (wRng1 (wCons (wMul (wC (.int 3)) (wCB fLen (wCons (wFld fld_frames (wVar 2)) wNil))) wNil)) (tgName 4)
(wSeq (wIf (wB (wBin (sEq true) (wFrz (wCall cFrameStart (wCons (wVar 2) (wCons (wVar 4) wNil)))) (wAdd (wVar 3) (wC (.int 256)))))
(wRet (wC (.bool false)))
wNext)
(wSeq (wAsg 3 (wAdd (wAdd (wVar 3) (wC (.int 256))) (wIdx (wIdx (wFld fld_frames (wVar 2)) (wMod (wCB fInt (wCons (wVar 4) wNil)) (wCB fLen (wCons (wFld fld_frames (wVar 2)) wNil)))) (wC (.int 1)))))
(wIf (wAndT (wB (wBin (sEq false) (wAdd (wVar 4) (wC (.int 1))) (wCB fLen (wCons (wFld fld_frames (wVar 2)) wNil)))) (wB (wBin (sEq true) (wFrz (wCall cRoundLength (wCons (wVar 2) wNil))) (wVar 3))))
(wRet (wC (.bool false)))
wNext))))
(wSeq (wAsg 5 (wFrz (wCall cLawDraw (wCons (wVar 1) (wCons (wVar 0) (wCons (wC (.int 100000)) wNil))))))
(wSeq (wIf (wB (wBin (sEq true) (wFrz (wCall cFrameStart (wCons (wVar 2) (wCons (wAdd (wVar 5) (wCB fLen (wCons (wFld fld_frames (wVar 2)) wNil))) wNil)))) (wAdd (wFrz (wCall cFrameStart (wCons (wVar 2) (wCons (wVar 5) wNil)))) (wFrz (wCall cRoundLength (wCons (wVar 2) wNil))))))
(wRet (wC (.bool false)))
wNext)
(wCut (wFor (wRng1 (wCons (wCB fLen (wCons (wFld fld_partitions (wVar 2)) wNil)) wNil)) (tgName 6)
(wSeq (wIf (wOrT (wB (wBin (sEq true) (wFrz (wCall cPageMap (wCons (wVar 2) (wCons (wVar 6) wNil)))) (wFrz (wCall cLawPages (wCons (wVar 2) (wCons (wVar 6) wNil)))))) (wB (wBin (sEq true) (wFrz (wCall cSourcesOf (wCons (wVar 2) (wCons (wVar 6) wNil)))) (wFrz (wCall cLawReach (wCons (wVar 2) (wCons (wVar 6) wNil)))))))
(wRet (wC (.bool false)))
wNext)
(wFor (wRng1 (wCons (wCB fLen (wCons (wFld fld_partitions (wVar 2)) wNil)) wNil)) (tgName 7)
(wIf (wB (wBin (sEq true) (wFrz (wCall cMayFlow (wCons (wVar 2) (wCons (wVar 6) (wCons (wVar 7) wNil))))) (wOrV (wBin (sEq false) (wVar 6) (wVar 7)) (wBin sInT (wTupX (wCons (wVar 6) (wCons (wVar 7) wNil))) (wFld fld_flows (wVar 2))))))
(wRet (wC (.bool false)))
wNext))))
(wSeq (wAsg 8 (wIdx (wFld fld_partitions (wVar 2)) (wC (.int 0))))
(wSeq (wNew 9 (wLc (wItT (wFrz (wMeth 1 cConfigFields (wVar 2) wNil))) (tgName 10) [10] wYes (wListOf (wCons (wVar 10) wNil))))
(wSeq (wAsg 11 (wFrz (wMake 1 cConfigInit (wCons (wIdx (wVar 9) (wC (.int 0))) (wCons (wIdx (wVar 9) (wC (.int 1))) (wCons (wIdx (wVar 9) (wC (.int 2))) (wCons (wIdx (wVar 9) (wC (.int 3))) (wCons (wIdx (wVar 9) (wC (.int 4))) (wCons (wIdx (wVar 9) (wC (.int 5))) wNil)))))))))
(wSeq (wIf (wOrT (wB (wOwn 1 cConfigEq true (wVar 11) (wVar 2))) (wOrT (wB (wEqO (ok1 0 3) 4 true (wFrz (wMeth 1 cConfigFields (wVar 11) wNil)) (wFrz (wMeth 1 cConfigFields (wVar 2) wNil)))) (wOrT (wB (wOwn 1 cConfigEq false (wVar 2) (wC (.int 5)))) (wB (wOwn 0 cPartitionEq false (wVar 8) (wC (.int 5)))))))
(wRet (wC (.bool false)))
wNext)
(wSeq (wIf (wOrT (wB (wOwn 0 cPartitionEq true (wVar 8) (wFrz (wMake 0 cPartitionInit (wCons (wFrz (wListOf (wCons (wFld fld_image (wVar 8)) wNil))) (wCons (wFld fld_pages (wVar 8)) (wCons (wFld fld_start (wVar 8)) wNil))))))) (wB (wEqO (ok1 0 3) 4 true (wFrz (wMeth 0 cPartitionFields (wVar 8) wNil)) (wTup (wCons (wFld fld_image (wVar 8)) (wCons (wFld fld_pages (wVar 8)) (wCons (wFld fld_start (wVar 8)) wNil)))))))
(wRet (wC (.bool false)))
wNext)
(wSeq (wApp (wIdx (wVar 9) (wFrz (wCall cLawDraw (wCons (wVar 1) (wCons (wVar 0) (wCons (wC (.int 6)) wNil)))))) (wLift (wTup (wCons (wC (.int 0)) (wCons (wC (.int 1)) wNil)))))
(wSeq (wAsg 12 (wFrz (wMake 1 cConfigInit (wCons (wIdx (wVar 9) (wC (.int 0))) (wCons (wIdx (wVar 9) (wC (.int 1))) (wCons (wIdx (wVar 9) (wC (.int 2))) (wCons (wIdx (wVar 9) (wC (.int 3))) (wCons (wIdx (wVar 9) (wC (.int 4))) (wCons (wIdx (wVar 9) (wC (.int 5))) wNil)))))))))
(wRet (wAndV (wOwn 1 cConfigEq true (wVar 12) (wVar 2)) (wAndV (wOwn 0 cPartitionEq true (wVar 8) (wFrz (wMake 0 cPartitionInit (wCons (wCatT (wFld fld_image (wVar 8)) (wTup (wCons (wC (.int 1)) wNil))) (wCons (wFld fld_pages (wVar 8)) (wCons (wFld fld_start (wVar 8)) wNil)))))) (wOwn 0 cPartitionEq true (wVar 8) (wFrz (wMake 0 cPartitionInit (wCons (wFld fld_image (wVar 8)) (wCons (wAdd (wFld fld_pages (wVar 8)) (wC (.int 1))) (wCons (wFld fld_start (wVar 8)) wNil))))))))))))))))))))))))
def cLaw : CW := cwOf 1 12 wLaw

structure Tx (K : PySem.W.Frag) (mg : Str → Option Value) where
  cPartition : Addr
  gPartition : mg "Partition" = some (.ref cPartition)
  clPartition : Cls K cPartition
  cConfig : Addr
  gConfig : mg "Config" = some (.ref cConfig)
  clConfig : Cls K cConfig
  aLawDraw : Addr
  fdLawDraw : FuncData
  dLawDraw : DefAt K mg "_law_draw" sLawDraw aLawDraw fdLawDraw PLawDraw
  aLawWord : Addr
  fdLawWord : FuncData
  dLawWord : DefAt K mg "_law_word" sLawWord aLawWord fdLawWord PLawWord
  aLawLine : Addr
  fdLawLine : FuncData
  dLawLine : DefAt K mg "_law_line" sLawLine aLawLine fdLawLine PLawLine
  aLawImage : Addr
  fdLawImage : FuncData
  dLawImage : DefAt K mg "_law_image" sLawImage aLawImage fdLawImage PLawImage
  aLawParts : Addr
  fdLawParts : FuncData
  dLawParts : DefAt K mg "_law_parts" sLawParts aLawParts fdLawParts PLawParts
  aPartitionInit : Addr
  fdPartitionInit : FuncData
  mPartitionInit : MethAt K "__init__" "Partition.__init__" sPartitionInit aPartitionInit fdPartitionInit PPartitionInit
  mkPartition : Mk K cPartition aPartitionInit
  aPartitionFields : Addr
  fdPartitionFields : FuncData
  mPartitionFields : MethAt K "fields" "Partition.fields" sPartitionFields aPartitionFields fdPartitionFields PPartitionFields
  hPartitionFields : Meth K cPartition "fields" aPartitionFields
  aPartitionEq : Addr
  fdPartitionEq : FuncData
  mPartitionEq : MethAt K "__eq__" "Partition.__eq__" sPartitionEq aPartitionEq fdPartitionEq PPartitionEq
  eqPartition : EqK K cPartition aPartitionEq
  aConfigInit : Addr
  fdConfigInit : FuncData
  mConfigInit : MethAt K "__init__" "Config.__init__" sConfigInit aConfigInit fdConfigInit PConfigInit
  mkConfig : Mk K cConfig aConfigInit
  aConfigFields : Addr
  fdConfigFields : FuncData
  mConfigFields : MethAt K "fields" "Config.fields" sConfigFields aConfigFields fdConfigFields PConfigFields
  hConfigFields : Meth K cConfig "fields" aConfigFields
  aConfigEq : Addr
  fdConfigEq : FuncData
  mConfigEq : MethAt K "__eq__" "Config.__eq__" sConfigEq aConfigEq fdConfigEq PConfigEq
  eqConfig : EqK K cConfig aConfigEq
  aLawPartition : Addr
  fdLawPartition : FuncData
  dLawPartition : DefAt K mg "_law_partition" sLawPartition aLawPartition fdLawPartition PLawPartition
  aLawConfig : Addr
  fdLawConfig : FuncData
  dLawConfig : DefAt K mg "_law_config" sLawConfig aLawConfig fdLawConfig PLawConfig
  aShareRights : Addr
  fdShareRights : FuncData
  dShareRights : DefAt K mg "share_rights" sShareRights aShareRights fdShareRights PShareRights
  aPageMap : Addr
  fdPageMap : FuncData
  dPageMap : DefAt K mg "page_map" sPageMap aPageMap fdPageMap PPageMap
  aTicksOf : Addr
  fdTicksOf : FuncData
  dTicksOf : DefAt K mg "ticks_of" sTicksOf aTicksOf fdTicksOf PTicksOf
  aRoundLength : Addr
  fdRoundLength : FuncData
  dRoundLength : DefAt K mg "round_length" sRoundLength aRoundLength fdRoundLength PRoundLength
  aFrameStart : Addr
  fdFrameStart : FuncData
  dFrameStart : DefAt K mg "frame_start" sFrameStart aFrameStart fdFrameStart PFrameStart
  aMayFlow : Addr
  fdMayFlow : FuncData
  dMayFlow : DefAt K mg "may_flow" sMayFlow aMayFlow fdMayFlow PMayFlow
  aSourcesOf : Addr
  fdSourcesOf : FuncData
  dSourcesOf : DefAt K mg "sources_of" sSourcesOf aSourcesOf fdSourcesOf PSourcesOf
  aLawPages : Addr
  fdLawPages : FuncData
  dLawPages : DefAt K mg "_law_pages" sLawPages aLawPages fdLawPages PLawPages
  aLawReach : Addr
  fdLawReach : FuncData
  dLawReach : DefAt K mg "_law_reach" sLawReach aLawReach fdLawReach PLawReach
  aLaw : Addr
  fdLaw : FuncData
  dLaw : DefAt K mg "law" sLaw aLaw fdLaw PLaw
  nPartition_image : NoAttr K cPartition "image"
  nPartition_pages : NoAttr K cPartition "pages"
  nPartition_start : NoAttr K cPartition "start"
  nConfig_partitions : NoAttr K cConfig "partitions"
  nConfig_frames : NoAttr K cConfig "frames"
  nConfig_channels : NoAttr K cConfig "channels"
  nConfig_shares : NoAttr K cConfig "shares"
  nConfig_devices : NoAttr K cConfig "devices"
  nConfig_flows : NoAttr K cConfig "flows"
  isPartition : IsK K cPartition
  isConfig : IsK K cConfig
  b_len : mg "len" = none
  b_int : mg "int" = none
  b_range : mg "range" = none
  b_sum : mg "sum" = none
  b_tuple : mg "tuple" = none
  b_divmod : mg "divmod" = none
  b_list : mg "list" = none
  b_isinstance : mg "isinstance" = none
  b_sorted : mg "sorted" = none
  b_enumerate : mg "enumerate" = none
  gPAGE : ∃ t, mg "PAGE" = some (.int 16 t)
  gVIRTUAL : ∃ t, mg "VIRTUAL" = some (.int 8 t)
  gGAP : ∃ t, mg "GAP" = some (.int 256 t)
  gCALL : ∃ t, mg "CALL" = some (.int 96 t)
  gREAD : ∃ t, mg "READ" = some (.int 1 t)
  gWRITE : ∃ t, mg "WRITE" = some (.int 2 t)
  gEXECUTE : ∃ t, mg "EXECUTE" = some (.int 4 t)
def lys : List (List Str) := [["image", "pages", "start"], ["partitions", "frames", "channels", "shares", "devices", "flows"]]
def Tx.cs {K : PySem.W.Frag} {mg : Str → Option Value} (T : Tx K mg) : Cs := ⟨fun c => ([T.cPartition, T.cConfig] : List Addr).getD c 0, fun c => lys.getD c []⟩
theorem Tx.fk_image {K : PySem.W.Frag} {mg : Str → Option Value} (T : Tx K mg) : FOk K T.cs fld_image "image" := fun c i h => by
  unfold fld_image at h
  split at h
  · cases h
    exact ⟨T.clPartition, T.nPartition_image, rfl, show (lys.getD 0 []).Nodup by decide +kernel⟩
  · cases h
theorem Tx.fk_pages {K : PySem.W.Frag} {mg : Str → Option Value} (T : Tx K mg) : FOk K T.cs fld_pages "pages" := fun c i h => by
  unfold fld_pages at h
  split at h
  · cases h
    exact ⟨T.clPartition, T.nPartition_pages, rfl, show (lys.getD 0 []).Nodup by decide +kernel⟩
  · cases h
theorem Tx.fk_start {K : PySem.W.Frag} {mg : Str → Option Value} (T : Tx K mg) : FOk K T.cs fld_start "start" := fun c i h => by
  unfold fld_start at h
  split at h
  · cases h
    exact ⟨T.clPartition, T.nPartition_start, rfl, show (lys.getD 0 []).Nodup by decide +kernel⟩
  · cases h
theorem Tx.fk_partitions {K : PySem.W.Frag} {mg : Str → Option Value} (T : Tx K mg) : FOk K T.cs fld_partitions "partitions" := fun c i h => by
  unfold fld_partitions at h
  split at h
  · cases h
    exact ⟨T.clConfig, T.nConfig_partitions, rfl, show (lys.getD 1 []).Nodup by decide +kernel⟩
  · cases h
theorem Tx.fk_frames {K : PySem.W.Frag} {mg : Str → Option Value} (T : Tx K mg) : FOk K T.cs fld_frames "frames" := fun c i h => by
  unfold fld_frames at h
  split at h
  · cases h
    exact ⟨T.clConfig, T.nConfig_frames, rfl, show (lys.getD 1 []).Nodup by decide +kernel⟩
  · cases h
theorem Tx.fk_channels {K : PySem.W.Frag} {mg : Str → Option Value} (T : Tx K mg) : FOk K T.cs fld_channels "channels" := fun c i h => by
  unfold fld_channels at h
  split at h
  · cases h
    exact ⟨T.clConfig, T.nConfig_channels, rfl, show (lys.getD 1 []).Nodup by decide +kernel⟩
  · cases h
theorem Tx.fk_shares {K : PySem.W.Frag} {mg : Str → Option Value} (T : Tx K mg) : FOk K T.cs fld_shares "shares" := fun c i h => by
  unfold fld_shares at h
  split at h
  · cases h
    exact ⟨T.clConfig, T.nConfig_shares, rfl, show (lys.getD 1 []).Nodup by decide +kernel⟩
  · cases h
theorem Tx.fk_devices {K : PySem.W.Frag} {mg : Str → Option Value} (T : Tx K mg) : FOk K T.cs fld_devices "devices" := fun c i h => by
  unfold fld_devices at h
  split at h
  · cases h
    exact ⟨T.clConfig, T.nConfig_devices, rfl, show (lys.getD 1 []).Nodup by decide +kernel⟩
  · cases h
theorem Tx.fk_flows {K : PySem.W.Frag} {mg : Str → Option Value} (T : Tx K mg) : FOk K T.cs fld_flows "flows" := fun c i h => by
  unfold fld_flows at h
  split at h
  · cases h
    exact ⟨T.clConfig, T.nConfig_flows, rfl, show (lys.getD 1 []).Nodup by decide +kernel⟩
  · cases h
section
variable {P : Program} {w : World} {K : PySem.W.Frag} {mg : Str → Option Value} {base : Heap}
theorem ok_LawDraw (T : Tx K mg) : FnOk P w K mg base (L2N.CX P w) 1 T.aLawDraw T.fdLawDraw PLawDraw (spW K T.cs cLawDraw) := ok_W T.dLawDraw.F scLawDraw rfl fun cdv A outer s H E hr tk => by
  unfold wLawDraw
  exact (wss_cut (ws_if (wt_cmp (op_eqA hr.units) s_eq (we_idx (we_var (pv 0)) we_int (fun _ _ => rfl)) we_int (nomark _)) (wss_cons (ws_asg (ps_set (i := 3) scLawDraw.nd rfl (Or.inl rfl) we_int))
(wss_cut (ws_if (wt_cmp op_gt s_gt (pe_imp (pe_callB call_len (by rfl) T.b_len PySem.boot_len (wa_cons (we_var (pv 1)) wa_nil)) (e_cb sa_len)) we_int (nomark _)) (wss_one (ws_asg (ps_set (i := 3) scLawDraw.nd rfl (Or.inl rfl) (we_idx (we_var (pv 1)) (we_mod (we_idx (we_var (pv 0)) we_int (fun _ _ => rfl)) (pe_imp (pe_callB call_len (by rfl) T.b_len PySem.boot_len (wa_cons (we_var (pv 1)) wa_nil)) (e_cb sa_len))) (fun _ _ => rfl))))) wss_nil)
(wss_cut (ws_if (wt_cmp op_lt s_lt (we_var (pv 3)) we_int (nomark _)) (wss_one (ws_asg (ps_set (i := 3) scLawDraw.nd rfl (Or.inl rfl) (we_sub we_int (we_mul we_int (we_var (pv 3))))))) wss_nil)
(wss_cons (ws_asg (ps_set (i := 4) scLawDraw.nd rfl (Or.inl rfl) (we_mod (pe_imp (pe_callTy call_int1 (by rfl) T.b_int (by decide +kernel) (wa_cons (we_mul (we_add (we_add (we_var (pv 3)) (we_mul (we_idx (we_var (pv 0)) we_int (fun _ _ => rfl)) we_int)) we_int) we_int) wa_nil)) (e_cb sa_int)) we_int)))
(wss_cons (ws_setI (ps_asg (we_mod (pe_imp (pe_callTy call_int1 (by rfl) T.b_int (by decide +kernel) (wa_cons (we_add (we_mul (we_var (pv 4)) we_int) (we_mul (we_idx (we_var (pv 0)) we_int (fun _ _ => rfl)) we_int)) wa_nil)) (e_cb sa_int)) we_int) (pg_sub (we_var (pv 0)) we_int set_list)))
(wss_cut (ws_if (ww_and (wt_cmp op_ge s_ge (we_var (pv 3)) (we_pow we_int we_int) (nomark _)) (pw_and1 (wt_cmp op_lt s_lt (we_idx (we_var (pv 0)) we_int (fun _ _ => rfl)) (pe_imp (pe_callB call_len (by rfl) T.b_len PySem.boot_len (wa_cons (we_var (pv 1)) wa_nil)) (e_cb sa_len)) (nomark _)))).pt (wss_one (ws_setI (ps_asg (we_var (pv 3)) (pg_sub (we_var (pv 0)) we_int set_list)))) wss_nil)
(wss_one (ws_setI (ps_asg (we_add (we_idx (we_var (pv 0)) we_int (fun _ _ => rfl)) we_int) (pg_sub (we_var (pv 0)) we_int set_list)))))))))) wss_nil)
(wss_cons (ws_asg (ps_set (i := 5) scLawDraw.nd rfl (Or.inl rfl) (we_mod (pe_imp (pe_callTy call_int1 (by rfl) T.b_int (by decide +kernel) (wa_cons (we_idx (we_var (pv 0)) we_int (fun _ _ => rfl)) wa_nil)) (e_cb sa_int)) (we_var (pv 2)))))
(wss_cons (ws_setI (ps_asg (we_fdiv (we_idx (we_var (pv 0)) we_int (fun _ _ => rfl)) (we_var (pv 2))) (pg_sub (we_var (pv 0)) we_int set_list)))
(wss_one (ws_ret (we_var (pv 5)))))))

theorem ok_LawWord (T : Tx K mg) : FnOk P w K mg base (L2N.CX P w) 1 T.aLawWord T.fdLawWord PLawWord (spW K T.cs cLawWord) := ok_W T.dLawWord.F scLawWord rfl fun cdv A outer s H E hr tk => by
  unfold wLawWord
  exact (wss_cons (ws_asg (ps_set (i := 4) scLawWord.nd rfl (Or.inl rfl) (we_frz (wo_lst (wa_cons we_str (wa_cons we_str (wa_cons we_str (wa_cons we_str (wa_cons we_str (wa_cons we_str (wa_cons we_str (wa_cons we_str (wa_cons we_str (wa_cons we_str (wa_cons we_str (wa_cons we_str (wa_cons we_str (wa_cons we_str (wa_cons we_str (wa_cons we_str (wa_cons we_str (wa_cons we_str (wa_cons we_str (wa_cons we_str wa_nil))))))))))))))))))))))))
(wss_one (ws_ret (we_add (we_add (we_add (we_shl (we_ixL (pe_bm PySem.F.plainAttrs_list PySem.F.slot_list_index PySem.F.type_list_index mt_index (we_var (pv 4)) (wa_cons (we_var (pv 0)) wa_nil))) we_int) (we_shl (we_var (pv 1)) we_int)) (we_shl (we_var (pv 2)) we_int)) (we_var (pv 3))))))

theorem ok_LawLine (T : Tx K mg) : FnOk P w K mg base (L2N.CX P w) 2 T.aLawLine T.fdLawLine PLawLine (spW K T.cs cLawLine) := ok_W T.dLawLine.F scLawLine rfl fun cdv A outer s H E hr tk => by
  unfold wLawLine
  exact (wss_cons (ws_asg (ps_set (i := 3) scLawLine.nd rfl (Or.inl rfl) (we_frz (wo_call (pe_callS (ok_LawDraw T) (hr.mono (by decide)) (by rfl) T.dLawDraw.g T.dLawDraw.F.kp T.dLawDraw.b (fun σ => L2N.passAt tk σ) (wa_cons (we_var (pv 0)) (wa_cons (we_var (pv 1)) (wa_cons we_int wa_nil))))))))
(wss_cons (ws_asg (ps_set (i := 4) scLawLine.nd rfl (Or.inl rfl) (we_frz (wo_call (pe_callS (ok_LawDraw T) (hr.mono (by decide)) (by rfl) T.dLawDraw.g T.dLawDraw.F.kp T.dLawDraw.b (fun σ => L2N.passAt tk σ) (wa_cons (we_var (pv 0)) (wa_cons (we_var (pv 1)) (wa_cons we_int wa_nil))))))))
(wss_cons (ws_asg (ps_set (i := 5) scLawLine.nd rfl (Or.inl rfl) (we_frz (wo_call (pe_callS (ok_LawDraw T) (hr.mono (by decide)) (by rfl) T.dLawDraw.g T.dLawDraw.F.kp T.dLawDraw.b (fun σ => L2N.passAt tk σ) (wa_cons (we_var (pv 0)) (wa_cons (we_var (pv 1)) (wa_cons we_int wa_nil))))))))
(wss_cons (ws_asg (ps_set (i := 6) scLawLine.nd rfl (Or.inl rfl) (we_frz (wo_call (pe_callS (ok_LawDraw T) (hr.mono (by decide)) (by rfl) T.dLawDraw.g T.dLawDraw.F.kp T.dLawDraw.b (fun σ => L2N.passAt tk σ) (wa_cons (we_var (pv 0)) (wa_cons (we_var (pv 1)) (wa_cons we_int wa_nil))))))))
(wss_cons (ws_if (wt_cmp op_lt s_lt (we_var (pv 3)) we_int (nomark _)) (wss_cons (ws_asg (ps_set (i := 7) scLawLine.nd rfl (Or.inl rfl) (we_idx (we_frz (wo_lst (wa_cons we_str (wa_cons we_str (wa_cons we_str (wa_cons we_str (wa_cons we_str (wa_cons we_str (wa_cons we_str wa_nil))))))))) (we_frz (wo_call (pe_callS (ok_LawDraw T) (hr.mono (by decide)) (by rfl) T.dLawDraw.g T.dLawDraw.F.kp T.dLawDraw.b (fun σ => L2N.passAt tk σ) (wa_cons (we_var (pv 0)) (wa_cons (we_var (pv 1)) (wa_cons we_int wa_nil)))))) (fun _ _ => rfl))))
(wss_one (ws_retO (wo_lst (wa_cons (we_frz (wo_call (pe_callS (ok_LawWord T) (hr.mono (by decide)) (by rfl) T.dLawWord.g T.dLawWord.F.kp T.dLawWord.b (fun σ => L2N.passAt tk σ) (wa_cons (we_var (pv 7)) (wa_cons (we_var (pv 4)) (wa_cons (we_var (pv 5)) (wa_cons (we_mul (we_var (pv 6)) (pe_imp (pe_callTy call_int1 (by rfl) T.b_int (by decide +kernel) (wa_cons (we_cmp (op_neA hr.units) s_ne (we_var (pv 7)) we_str (nomark _)) wa_nil)) (e_cb sa_int))) wa_nil))))))) wa_nil))))) wss_nil)
(wss_cons (ws_if (wt_cmp op_lt s_lt (we_var (pv 3)) we_int (nomark _)) (wss_one (ws_retO (wo_lst (wa_cons (we_frz (wo_call (pe_callS (ok_LawWord T) (hr.mono (by decide)) (by rfl) T.dLawWord.g T.dLawWord.F.kp T.dLawWord.b (fun σ => L2N.passAt tk σ) (wa_cons we_str (wa_cons (we_var (pv 4)) (wa_cons (we_var (pv 4)) (wa_cons (we_frz (wo_call (pe_callS (ok_LawDraw T) (hr.mono (by decide)) (by rfl) T.dLawDraw.g T.dLawDraw.F.kp T.dLawDraw.b (fun σ => L2N.passAt tk σ) (wa_cons (we_var (pv 0)) (wa_cons (we_var (pv 1)) (wa_cons we_int wa_nil)))))) wa_nil))))))) wa_nil)))) wss_nil)
(wss_cons (ws_if (wt_cmp op_lt s_lt (we_var (pv 3)) we_int (nomark _)) (wss_one (ws_retO (wo_lst (wa_cons (we_frz (wo_call (pe_callS (ok_LawWord T) (hr.mono (by decide)) (by rfl) T.dLawWord.g T.dLawWord.F.kp T.dLawWord.b (fun σ => L2N.passAt tk σ) (wa_cons we_str (wa_cons (we_var (pv 4)) (wa_cons we_int (wa_cons we_int wa_nil))))))) (wa_cons (we_frz (wo_call (pe_callS (ok_LawDraw T) (hr.mono (by decide)) (by rfl) T.dLawDraw.g T.dLawDraw.F.kp T.dLawDraw.b (fun σ => L2N.passAt tk σ) (wa_cons (we_var (pv 0)) (wa_cons (we_var (pv 1)) (wa_cons we_int wa_nil)))))) wa_nil))))) wss_nil)
(wss_cons (ws_if (wt_cmp op_lt s_lt (we_var (pv 3)) we_int (nomark _)) (wss_cons (ws_asg (ps_set (i := 8) scLawLine.nd rfl (Or.inl rfl) (we_add (we_mul we_int (we_frz (wo_call (pe_callS (ok_LawDraw T) (hr.mono (by decide)) (by rfl) T.dLawDraw.g T.dLawDraw.F.kp T.dLawDraw.b (fun σ => L2N.passAt tk σ) (wa_cons (we_var (pv 0)) (wa_cons (we_var (pv 1)) (wa_cons (we_add (we_var (pv 2)) we_int) wa_nil))))))) (we_frz (wo_call (pe_callS (ok_LawDraw T) (hr.mono (by decide)) (by rfl) T.dLawDraw.g T.dLawDraw.F.kp T.dLawDraw.b (fun σ => L2N.passAt tk σ) (wa_cons (we_var (pv 0)) (wa_cons (we_var (pv 1)) (wa_cons we_int wa_nil)))))))))
(wss_cons (ws_asg (ps_set (i := 7) scLawLine.nd rfl (Or.inl rfl) (we_idx (we_frz (wo_lst (wa_cons we_str (wa_cons we_str wa_nil)))) (we_frz (wo_call (pe_callS (ok_LawDraw T) (hr.mono (by decide)) (by rfl) T.dLawDraw.g T.dLawDraw.F.kp T.dLawDraw.b (fun σ => L2N.passAt tk σ) (wa_cons (we_var (pv 0)) (wa_cons (we_var (pv 1)) (wa_cons we_int wa_nil)))))) (fun _ _ => rfl))))
(wss_one (ws_retO (wo_lst (wa_cons (we_frz (wo_call (pe_callS (ok_LawWord T) (hr.mono (by decide)) (by rfl) T.dLawWord.g T.dLawWord.F.kp T.dLawWord.b (fun σ => L2N.passAt tk σ) (wa_cons we_str (wa_cons we_int (wa_cons we_int (wa_cons we_int wa_nil))))))) (wa_cons (we_var (pv 8)) (wa_cons (we_frz (wo_call (pe_callS (ok_LawWord T) (hr.mono (by decide)) (by rfl) T.dLawWord.g T.dLawWord.F.kp T.dLawWord.b (fun σ => L2N.passAt tk σ) (wa_cons (we_var (pv 7)) (wa_cons (we_var (pv 4)) (wa_cons we_int (wa_cons we_int wa_nil))))))) wa_nil)))))))) wss_nil)
(wss_cons (ws_if (wt_cmp op_lt s_lt (we_var (pv 3)) we_int (nomark _)) (wss_cons (ws_asg (ps_set (i := 9) scLawLine.nd rfl (Or.inl rfl) (we_frz (wo_call (pe_callS (ok_LawDraw T) (hr.mono (by decide)) (by rfl) T.dLawDraw.g T.dLawDraw.F.kp T.dLawDraw.b (fun σ => L2N.passAt tk σ) (wa_cons (we_var (pv 0)) (wa_cons (we_var (pv 1)) (wa_cons we_int wa_nil))))))))
(wss_cons (ws_asg (ps_set (i := 10) scLawLine.nd rfl (Or.inl rfl) (we_idx (we_frz (wo_lst (wa_cons we_int (wa_cons we_int (wa_cons we_int (wa_cons we_int (wa_cons we_int (wa_cons we_int wa_nil)))))))) (we_frz (wo_call (pe_callS (ok_LawDraw T) (hr.mono (by decide)) (by rfl) T.dLawDraw.g T.dLawDraw.F.kp T.dLawDraw.b (fun σ => L2N.passAt tk σ) (wa_cons (we_var (pv 0)) (wa_cons (we_var (pv 1)) (wa_cons we_int wa_nil)))))) (fun _ _ => rfl))))
(wss_one (ws_retO (wo_lst (wa_cons (we_frz (wo_call (pe_callS (ok_LawWord T) (hr.mono (by decide)) (by rfl) T.dLawWord.g T.dLawWord.F.kp T.dLawWord.b (fun σ => L2N.passAt tk σ) (wa_cons we_str (wa_cons we_int (wa_cons we_int (wa_cons we_int wa_nil))))))) (wa_cons (we_var (pv 9)) (wa_cons (we_frz (wo_call (pe_callS (ok_LawWord T) (hr.mono (by decide)) (by rfl) T.dLawWord.g T.dLawWord.F.kp T.dLawWord.b (fun σ => L2N.passAt tk σ) (wa_cons we_str (wa_cons we_int (wa_cons we_int (wa_cons (we_var (pv 10)) wa_nil))))))) wa_nil)))))))) wss_nil)
(wss_cons (ws_if (wt_cmp op_lt s_lt (we_var (pv 3)) we_int (nomark _)) (wss_cons (ws_asg (ps_set (i := 7) scLawLine.nd rfl (Or.inl rfl) (we_idx (we_frz (wo_lst (wa_cons we_str (wa_cons we_str (wa_cons we_str wa_nil))))) (we_frz (wo_call (pe_callS (ok_LawDraw T) (hr.mono (by decide)) (by rfl) T.dLawDraw.g T.dLawDraw.F.kp T.dLawDraw.b (fun σ => L2N.passAt tk σ) (wa_cons (we_var (pv 0)) (wa_cons (we_var (pv 1)) (wa_cons we_int wa_nil)))))) (fun _ _ => rfl))))
(wss_one (ws_retO (wo_lst (wa_cons (we_frz (wo_call (pe_callS (ok_LawWord T) (hr.mono (by decide)) (by rfl) T.dLawWord.g T.dLawWord.F.kp T.dLawWord.b (fun σ => L2N.passAt tk σ) (wa_cons (we_var (pv 7)) (wa_cons (we_var (pv 4)) (wa_cons (we_var (pv 5)) (wa_cons (we_frz (wo_call (pe_callS (ok_LawDraw T) (hr.mono (by decide)) (by rfl) T.dLawDraw.g T.dLawDraw.F.kp T.dLawDraw.b (fun σ => L2N.passAt tk σ) (wa_cons (we_var (pv 0)) (wa_cons (we_var (pv 1)) (wa_cons we_int wa_nil)))))) wa_nil))))))) wa_nil))))) wss_nil)
(wss_cons (ws_if (ww_andD (wt_cmp (op_eqA hr.units) s_eq (we_var (pv 3)) we_int (nomark _)) (pw_and1 (wt_cmp (op_eqA hr.units) s_eq (we_frz (wo_call (pe_callS (ok_LawDraw T) (hr.mono (by decide)) (by rfl) T.dLawDraw.g T.dLawDraw.F.kp T.dLawDraw.b (fun σ => L2N.passAt tk σ) (wa_cons (we_var (pv 0)) (wa_cons (we_var (pv 1)) (wa_cons we_int wa_nil)))))) we_int (nomark _)))).pt (wss_one (ws_retO (wo_lst (wa_cons (we_idx (we_frz (wo_lst (wa_cons (we_frz (wo_call (pe_callS (ok_LawWord T) (hr.mono (by decide)) (by rfl) T.dLawWord.g T.dLawWord.F.kp T.dLawWord.b (fun σ => L2N.passAt tk σ) (wa_cons we_str (wa_cons we_int (wa_cons we_int (wa_cons we_int wa_nil))))))) (wa_cons we_int (wa_cons (we_frz (wo_call (pe_callS (ok_LawWord T) (hr.mono (by decide)) (by rfl) T.dLawWord.g T.dLawWord.F.kp T.dLawWord.b (fun σ => L2N.passAt tk σ) (wa_cons we_str (wa_cons we_int (wa_cons we_int (wa_cons we_int wa_nil))))))) (wa_cons (we_frz (wo_call (pe_callS (ok_LawDraw T) (hr.mono (by decide)) (by rfl) T.dLawDraw.g T.dLawDraw.F.kp T.dLawDraw.b (fun σ => L2N.passAt tk σ) (wa_cons (we_var (pv 0)) (wa_cons (we_var (pv 1)) (wa_cons we_int wa_nil)))))) wa_nil)))))) (we_frz (wo_call (pe_callS (ok_LawDraw T) (hr.mono (by decide)) (by rfl) T.dLawDraw.g T.dLawDraw.F.kp T.dLawDraw.b (fun σ => L2N.passAt tk σ) (wa_cons (we_var (pv 0)) (wa_cons (we_var (pv 1)) (wa_cons we_int wa_nil)))))) (fun _ _ => rfl)) wa_nil)))) wss_nil)
(wss_cons (ws_if (wt_cmp (op_eqA hr.units) s_eq (we_var (pv 3)) we_int (nomark _)) (wss_one (ws_retO (wo_lst (wa_cons (we_frz (wo_call (pe_callS (ok_LawWord T) (hr.mono (by decide)) (by rfl) T.dLawWord.g T.dLawWord.F.kp T.dLawWord.b (fun σ => L2N.passAt tk σ) (wa_cons we_str (wa_cons we_int (wa_cons we_int (wa_cons we_int wa_nil))))))) (wa_cons we_int (wa_cons (we_frz (wo_call (pe_callS (ok_LawWord T) (hr.mono (by decide)) (by rfl) T.dLawWord.g T.dLawWord.F.kp T.dLawWord.b (fun σ => L2N.passAt tk σ) (wa_cons we_str (wa_cons we_int (wa_cons we_int (wa_cons we_int wa_nil))))))) wa_nil)))))) wss_nil)
(wss_one (ws_retO (wo_lst (wa_cons (we_frz (wo_call (pe_callS (ok_LawWord T) (hr.mono (by decide)) (by rfl) T.dLawWord.g T.dLawWord.F.kp T.dLawWord.b (fun σ => L2N.passAt tk σ) (wa_cons we_str (wa_cons we_int (wa_cons (we_var (pv 4)) (wa_cons we_int wa_nil))))))) wa_nil))))))))))))))))

theorem ok_LawImage (T : Tx K mg) : FnOk P w K mg base (L2N.CX P w) 3 T.aLawImage T.fdLawImage PLawImage (spW K T.cs cLawImage) := ok_W T.dLawImage.F scLawImage rfl fun cdv A outer s H E hr tk => by
  unfold wLawImage
  exact (wss_cons (ws_asg (ps_set (i := 4) scLawImage.nd rfl (Or.inl rfl) (we_frz (wo_lst wa_nil))))
(wss_cut (ws_for tg_name (ps_for PassesOwn.leaving rfl (wi_rng1 (pi_range1 (by rfl) T.b_range (wa_cons (we_add we_int (we_frz (wo_call (pe_callS (ok_LawDraw T) (hr.mono (by decide)) (by rfl) T.dLawDraw.g T.dLawDraw.F.kp T.dLawDraw.b (fun σ => L2N.passAt tk σ) (wa_cons (we_var (pv 0)) (wa_cons (we_var (pv 1)) (wa_cons we_int wa_nil))))))) wa_nil))) (pg_name (i := 5) scLawImage.nd rfl (Or.inl rfl)) (wss_cons (ws_asg (ps_set (i := 6) scLawImage.nd rfl (Or.inl rfl) (we_frz (wo_call (pe_callS (ok_LawLine T) (hr.mono (by decide)) (by rfl) T.dLawLine.g T.dLawLine.F.kp T.dLawLine.b (fun σ => L2N.passAt tk σ) (wa_cons (we_var (pv 0)) (wa_cons (we_var (pv 1)) (wa_cons (we_var (pv 3)) wa_nil))))))))
(wss_one (ws_if (wt_cmp op_le s_le (we_add (pe_imp (pe_callB call_len (by rfl) T.b_len PySem.boot_len (wa_cons (we_var (pv 4)) wa_nil)) (e_cb sa_len)) (pe_imp (pe_callB call_len (by rfl) T.b_len PySem.boot_len (wa_cons (we_var (pv 6)) wa_nil)) (e_cb sa_len))) (we_sub (we_mul we_int (we_var (pv 2))) we_int) (nomark _)) (wss_one (ws_asg (ps_set (i := 4) scLawImage.nd rfl (Or.inl rfl) (we_frz (wo_catL (we_var (pv 4)) (we_var (pv 6))))))) wss_nil)))))
(wss_one (ws_retO (wo_catL (we_var (pv 4)) (we_frz (wo_lst (wa_cons (we_frz (wo_call (pe_callS (ok_LawWord T) (hr.mono (by decide)) (by rfl) T.dLawWord.g T.dLawWord.F.kp T.dLawWord.b (fun σ => L2N.passAt tk σ) (wa_cons we_str (wa_cons we_int (wa_cons we_int (wa_cons we_int wa_nil))))))) (wa_cons we_int (wa_cons (we_frz (wo_call (pe_callS (ok_LawWord T) (hr.mono (by decide)) (by rfl) T.dLawWord.g T.dLawWord.F.kp T.dLawWord.b (fun σ => L2N.passAt tk σ) (wa_cons we_str (wa_cons we_int (wa_cons we_int (wa_cons we_int wa_nil))))))) wa_nil))))))))))

theorem ok_LawParts (T : Tx K mg) : FnOk P w K mg base (L2N.CX P w) 2 T.aLawParts T.fdLawParts PLawParts (spW K T.cs cLawParts) := ok_W T.dLawParts.F scLawParts rfl fun cdv A outer s H E hr tk => by
  unfold wLawParts
  exact (wss_cons (ws_asg (ps_set (i := 2) scLawParts.nd rfl (Or.inr rfl) (we_add we_int (we_frz (wo_call (pe_callS (ok_LawDraw T) (hr.mono (by decide)) (by rfl) T.dLawDraw.g T.dLawDraw.F.kp T.dLawDraw.b (fun σ => L2N.passAt tk σ) (wa_cons (we_var (pv 0)) (wa_cons (we_var (pv 1)) (wa_cons we_int wa_nil)))))))))
(wss_cons (ws_new (ps_set (i := 3) scLawParts.nd rfl (Or.inl rfl) (wo_lst wa_nil)))
(wss_cut (ws_for tg_name (ps_for PassesOwn.leaving rfl (wi_rng1 (pi_range1 (by rfl) T.b_range (wa_cons (we_var (pv 2)) wa_nil))) (pg_name (i := 4) scLawParts.nd rfl (Or.inl rfl)) (wss_one (ws_for tg_name (ps_for PassesOwn.leaving rfl (wi_rng1 (pi_range1 (by rfl) T.b_range (wa_cons (we_var (pv 2)) wa_nil))) (pg_name (i := 5) scLawParts.nd rfl (Or.inl rfl)) (wss_one (ws_if (ww_andD (wt_cmp (op_neA hr.units) s_ne (we_var (pv 4)) (we_var (pv 5)) (nomark _)) (pw_and1 (wt_cmp (op_eqA hr.units) s_eq (we_frz (wo_call (pe_callS (ok_LawDraw T) (hr.mono (by decide)) (by rfl) T.dLawDraw.g T.dLawDraw.F.kp T.dLawDraw.b (fun σ => L2N.passAt tk σ) (wa_cons (we_var (pv 0)) (wa_cons (we_var (pv 1)) (wa_cons we_int wa_nil)))))) we_int (nomark _)))).pt (wss_one (ws_app (ps_expr (pe_bm PySem.F.plainAttrs_list PySem.F.slot_list_append PySem.F.type_list_append mt_append (we_var (pv 3)) (pa_cons (wo_lift (we_tupX (wa_cons (we_var (pv 4)) (wa_cons (we_var (pv 5)) wa_nil)))) pa_nil))))) wss_nil)))))))
(wss_cons (ws_new (ps_set (i := 6) scLawParts.nd rfl (Or.inl rfl) (wo_lst wa_nil)))
(wss_cons (ws_new (ps_set (i := 7) scLawParts.nd rfl (Or.inl rfl) (wo_lst wa_nil)))
(wss_cut (ws_for tg_name (ps_for PassesOwn.leaving rfl (wi_rng1 (pi_range1 (by rfl) T.b_range (wa_cons (we_frz (wo_call (pe_callS (ok_LawDraw T) (hr.mono (by decide)) (by rfl) T.dLawDraw.g T.dLawDraw.F.kp T.dLawDraw.b (fun σ => L2N.passAt tk σ) (wa_cons (we_var (pv 0)) (wa_cons (we_var (pv 1)) (wa_cons we_int wa_nil)))))) wa_nil))) (pg_name (i := 8) scLawParts.nd rfl (Or.inl rfl)) (wss_one (ws_if (wt_cmp op_gt s_gt (pe_imp (pe_callB call_len (by rfl) T.b_len PySem.boot_len (wa_cons (we_var (pv 3)) wa_nil)) (e_cb sa_len)) we_int (nomark _)) (wss_cons (ws_asgT (tg_tup (js := [9, 10]) rfl) (ps_asg (we_idx (we_var (pv 3)) (we_frz (wo_call (pe_callS (ok_LawDraw T) (hr.mono (by decide)) (by rfl) T.dLawDraw.g T.dLawDraw.F.kp T.dLawDraw.b (fun σ => L2N.passAt tk σ) (wa_cons (we_var (pv 0)) (wa_cons (we_var (pv 1)) (wa_cons (pe_imp (pe_callB call_len (by rfl) T.b_len PySem.boot_len (wa_cons (we_var (pv 3)) wa_nil)) (e_cb sa_len)) wa_nil)))))) (fun _ _ => rfl)) (pg_tup rfl (pgs_cons (pg_name (i := 9) scLawParts.nd rfl (Or.inl rfl)) (pgs_cons (pg_name (i := 10) scLawParts.nd rfl (Or.inl rfl)) pgs_nil)))))
(wss_one (ws_app (ps_expr (pe_bm PySem.F.plainAttrs_list PySem.F.slot_list_append PySem.F.type_list_append mt_append (we_var (pv 6)) (pa_cons (wo_lift (we_tup (wa_cons (we_var (pv 9)) (wa_cons (we_var (pv 10)) (wa_cons (we_add we_int (we_frz (wo_call (pe_callS (ok_LawDraw T) (hr.mono (by decide)) (by rfl) T.dLawDraw.g T.dLawDraw.F.kp T.dLawDraw.b (fun σ => L2N.passAt tk σ) (wa_cons (we_var (pv 0)) (wa_cons (we_var (pv 1)) (wa_cons we_int wa_nil))))))) (wa_cons (we_andE (we_cmp (op_inL hr.units) s_inL (we_tup (wa_cons (we_var (pv 10)) (wa_cons (we_var (pv 9)) wa_nil))) (we_var (pv 3)) rfl) (pe_one (we_cmp (op_eqA hr.units) s_eq (we_frz (wo_call (pe_callS (ok_LawDraw T) (hr.mono (by decide)) (by rfl) T.dLawDraw.g T.dLawDraw.F.kp T.dLawDraw.b (fun σ => L2N.passAt tk σ) (wa_cons (we_var (pv 0)) (wa_cons (we_var (pv 1)) (wa_cons we_int wa_nil)))))) we_int (nomark _)))) wa_nil)))))) pa_nil)))))) wss_nil))))
(wss_cut (ws_for tg_name (ps_for PassesOwn.leaving rfl (wi_rng1 (pi_range1 (by rfl) T.b_range (wa_cons (we_frz (wo_call (pe_callS (ok_LawDraw T) (hr.mono (by decide)) (by rfl) T.dLawDraw.g T.dLawDraw.F.kp T.dLawDraw.b (fun σ => L2N.passAt tk σ) (wa_cons (we_var (pv 0)) (wa_cons (we_var (pv 1)) (wa_cons we_int wa_nil)))))) wa_nil))) (pg_name (i := 8) scLawParts.nd rfl (Or.inl rfl)) (wss_one (ws_if (wt_cmp op_gt s_gt (pe_imp (pe_callB call_len (by rfl) T.b_len PySem.boot_len (wa_cons (we_var (pv 3)) wa_nil)) (e_cb sa_len)) we_int (nomark _)) (wss_one (ws_app (ps_expr (pe_bm PySem.F.plainAttrs_list PySem.F.slot_list_append PySem.F.type_list_append mt_append (we_var (pv 7)) (pa_cons (wo_lift (we_idx (we_var (pv 3)) (we_frz (wo_call (pe_callS (ok_LawDraw T) (hr.mono (by decide)) (by rfl) T.dLawDraw.g T.dLawDraw.F.kp T.dLawDraw.b (fun σ => L2N.passAt tk σ) (wa_cons (we_var (pv 0)) (wa_cons (we_var (pv 1)) (wa_cons (pe_imp (pe_callB call_len (by rfl) T.b_len PySem.boot_len (wa_cons (we_var (pv 3)) wa_nil)) (e_cb sa_len)) wa_nil)))))) (fun _ _ => rfl))) pa_nil))))) wss_nil))))
(wss_cons (s_setLcF tg_name (tgw_name (by decide)) (ps_setLc (i := 11) (own := [("k", 8)]) rfl scLawParts.nd rfl rfl (sw_true rfl rfl rfl (by decide +kernel)) (wi_rng1 (pi_range1 (by rfl) T.b_range (wa_cons (we_frz (wo_call (pe_callS (ok_LawDraw T) (hr.mono (by decide)) (by rfl) T.dLawDraw.g T.dLawDraw.F.kp T.dLawDraw.b (fun σ => L2N.passAt tk σ) (wa_cons (we_var (pv 0)) (wa_cons (we_var (pv 1)) (wa_cons we_int wa_nil)))))) wa_nil))) (blkOk_by (own := [("k", 8)]) (N := NLawParts) (sc := defScope sLawParts) (by decide +kernel)) (fun _ _ _ _ _ => (pg_name (i := 8) scLawParts.nd rfl (Or.inl rfl))) (fun _ _ _ _ _ => wts_nil) (fun _ _ _ _ _ => (wo_call (pe_callS (ok_LawDraw T) (hr.mono (by decide)) (by rfl) T.dLawDraw.g T.dLawDraw.F.kp T.dLawDraw.b (fun σ => L2N.passAt takesNo σ) (wa_cons (we_var (pv 0)) (wa_cons (we_var (pv 1)) (wa_cons (we_var (pv 2)) wa_nil))))))))
(wss_cons (ws_new (ps_set (i := 12) scLawParts.nd rfl (Or.inl rfl) (wo_lst wa_nil)))
(wss_cut (ws_for tg_name (ps_for PassesOwn.leaving rfl (wi_rng1 (pi_range1 (by rfl) T.b_range (wa_cons (we_add we_int (we_frz (wo_call (pe_callS (ok_LawDraw T) (hr.mono (by decide)) (by rfl) T.dLawDraw.g T.dLawDraw.F.kp T.dLawDraw.b (fun σ => L2N.passAt tk σ) (wa_cons (we_var (pv 0)) (wa_cons (we_var (pv 1)) (wa_cons we_int wa_nil))))))) wa_nil))) (pg_name (i := 8) scLawParts.nd rfl (Or.inl rfl)) (wss_one (ws_app (ps_expr (pe_bm PySem.F.plainAttrs_list PySem.F.slot_list_append PySem.F.type_list_append mt_append (we_var (pv 12)) (pa_cons (wo_lift (we_tup (wa_cons (we_idx (we_frz (wo_lst (wa_cons we_non (wa_cons (we_frz (wo_call (pe_callS (ok_LawDraw T) (hr.mono (by decide)) (by rfl) T.dLawDraw.g T.dLawDraw.F.kp T.dLawDraw.b (fun σ => L2N.passAt tk σ) (wa_cons (we_var (pv 0)) (wa_cons (we_var (pv 1)) (wa_cons (we_var (pv 2)) wa_nil)))))) wa_nil)))) (pe_imp (pe_callTy call_int1 (by rfl) T.b_int (by decide +kernel) (wa_cons (we_cmp op_gt s_gt (we_frz (wo_call (pe_callS (ok_LawDraw T) (hr.mono (by decide)) (by rfl) T.dLawDraw.g T.dLawDraw.F.kp T.dLawDraw.b (fun σ => L2N.passAt tk σ) (wa_cons (we_var (pv 0)) (wa_cons (we_var (pv 1)) (wa_cons we_int wa_nil)))))) we_int (nomark _)) wa_nil)) (e_cb sa_int)) (fun _ _ => rfl)) (wa_cons (we_add we_int (we_frz (wo_call (pe_callS (ok_LawDraw T) (hr.mono (by decide)) (by rfl) T.dLawDraw.g T.dLawDraw.F.kp T.dLawDraw.b (fun σ => L2N.passAt tk σ) (wa_cons (we_var (pv 0)) (wa_cons (we_var (pv 1)) (wa_cons we_int wa_nil))))))) wa_nil)))) pa_nil)))))))
(wss_one (ws_retO (wo_lst (wa_cons (we_var (pv 2)) (wa_cons (we_fz (we_var (pv 3))) (wa_cons (we_fz (we_var (pv 6))) (wa_cons (we_fz (we_var (pv 7))) (wa_cons (we_var (pv 11)) (wa_cons (we_fz (we_var (pv 12))) wa_nil)))))))))))))))))))

theorem ok_PartitionInit (T : Tx K mg) : FnOk P w K mg base (L2N.CX P w) 1 T.aPartitionInit T.fdPartitionInit PPartitionInit (spW K T.cs cPartitionInit) := ok_W T.mPartitionInit.F scPartitionInit rfl fun cdv A outer s H E hr tk => by
  unfold wPartitionInit
  exact (wss_cons (ws_setF T.fk_image (we_var (pv 0)) (wo_lift (pe_imp (pe_callTy call_tuple_of (by rfl) T.b_tuple (by decide +kernel) (wa_cons (we_var (pv 1)) wa_nil)) (e_tupOf))) rfl)
(wss_cons (ws_setF T.fk_pages (we_var (pv 0)) (wo_lift (we_var (pv 2))) rfl)
(wss_one (ws_setF T.fk_start (we_var (pv 0)) (wo_lift (we_var (pv 3))) rfl))))

theorem ok_PartitionFields (T : Tx K mg) : FnOk P w K mg base (L2N.CX P w) 1 T.aPartitionFields T.fdPartitionFields PPartitionFields (spW K T.cs cPartitionFields) := ok_W T.mPartitionFields.F scPartitionFields rfl fun cdv A outer s H E hr tk => by
  unfold wPartitionFields
  exact (wss_one (ws_ret (we_tup (wa_cons (we_fld T.fk_image (we_var (pv 0)) rfl) (wa_cons (we_fld T.fk_pages (we_var (pv 0)) rfl) (wa_cons (we_fld T.fk_start (we_var (pv 0)) rfl) wa_nil))))))

theorem ok_PartitionEq (T : Tx K mg) : FnOk P w K mg base (L2N.CX P w) 10 T.aPartitionEq T.fdPartitionEq PPartitionEq (spW K T.cs cPartitionEq) := ok_W T.mPartitionEq.F scPartitionEq rfl fun cdv A outer s H E hr tk => by
  unfold wPartitionEq
  exact (wss_one (ws_ret (we_andV (we_isC T.isPartition (pe_callB (id := "isinstance") call_isi (by rfl) T.b_isinstance (by decide +kernel) (pa_cons (we_var (pv 1)) (pa_cons (pe_glob (v := .ref T.cPartition) (by rfl) T.gPartition rfl) pa_nil)))) (pe_one (we_eqO (op_eqO false own0 (noPassW (P := P) (w := w)) (hr.mono (by decide))) (we_frz (wo_meth0 (show ¬ _ ∈ lys.getD 0 [] from by decide +kernel) (pe_methX0 (we_var (pv 0)) T.clPartition T.hPartitionFields (ok_PartitionFields T) (hr.mono (by decide)) T.mPartitionFields.b (fun σ => L2N.passAt tk σ)))) (we_frz (wo_meth0 (show ¬ _ ∈ lys.getD 0 [] from by decide +kernel) (pe_methX0 (we_var (pv 1)) T.clPartition T.hPartitionFields (ok_PartitionFields T) (hr.mono (by decide)) T.mPartitionFields.b (fun σ => L2N.passAt tk σ)))) (nomark _))))))
theorem ownP (T : Tx K mg) {X : Cx} (h1 : X.prog = P := by rfl) (h2 : X.w = w := by rfl) (h3 : X.K = K := by rfl) (h4 : X.mg = mg := by rfl) (h5 : X.base = base := by rfl) : ∀ c n, ok1 0 3 c = some n → OwnQ X (L2N.CX P w) T.cs n 10 c := by
  subst h1 h2 h3 h4 h5
  exact own1 (ok_PartitionEq T) T.eqPartition T.mPartitionEq.b spec_P_eq

theorem ok_ConfigInit (T : Tx K mg) : FnOk P w K mg base (L2N.CX P w) 1 T.aConfigInit T.fdConfigInit PConfigInit (spW K T.cs cConfigInit) := ok_W T.mConfigInit.F scConfigInit rfl fun cdv A outer s H E hr tk => by
  unfold wConfigInit
  exact (wss_cons (ws_setF T.fk_partitions (we_var (pv 0)) (wo_lift (pe_imp (pe_callTy call_tuple_of (by rfl) T.b_tuple (by decide +kernel) (wa_cons (we_var (pv 1)) wa_nil)) (e_tupOf))) rfl)
(wss_cons (ws_setF T.fk_frames (we_var (pv 0)) (wo_lift (pe_imp (pe_callTy call_tuple_of (by rfl) T.b_tuple (by decide +kernel) (wa_cons (we_var (pv 2)) wa_nil)) (e_tupOf))) rfl)
(wss_cons (ws_setF T.fk_channels (we_var (pv 0)) (wo_lift (pe_imp (pe_callTy call_tuple_of (by rfl) T.b_tuple (by decide +kernel) (wa_cons (we_var (pv 3)) wa_nil)) (e_tupOf))) rfl)
(wss_cons (ws_setF T.fk_shares (we_var (pv 0)) (wo_lift (pe_imp (pe_callTy call_tuple_of (by rfl) T.b_tuple (by decide +kernel) (wa_cons (we_var (pv 4)) wa_nil)) (e_tupOf))) rfl)
(wss_cons (ws_setF T.fk_devices (we_var (pv 0)) (wo_lift (pe_imp (pe_callTy call_tuple_of (by rfl) T.b_tuple (by decide +kernel) (wa_cons (we_var (pv 5)) wa_nil)) (e_tupOf))) rfl)
(wss_one (ws_setF T.fk_flows (we_var (pv 0)) (wo_lift (pe_imp (pe_callTy call_tuple_of (by rfl) T.b_tuple (by decide +kernel) (wa_cons (we_var (pv 6)) wa_nil)) (e_tupOf))) rfl)))))))

theorem ok_ConfigFields (T : Tx K mg) : FnOk P w K mg base (L2N.CX P w) 1 T.aConfigFields T.fdConfigFields PConfigFields (spW K T.cs cConfigFields) := ok_W T.mConfigFields.F scConfigFields rfl fun cdv A outer s H E hr tk => by
  unfold wConfigFields
  exact (wss_one (ws_ret (we_tup (wa_cons (we_fld T.fk_partitions (we_var (pv 0)) rfl) (wa_cons (we_fld T.fk_frames (we_var (pv 0)) rfl) (wa_cons (we_fld T.fk_channels (we_var (pv 0)) rfl) (wa_cons (we_fld T.fk_shares (we_var (pv 0)) rfl) (wa_cons (we_fld T.fk_devices (we_var (pv 0)) rfl) (wa_cons (we_fld T.fk_flows (we_var (pv 0)) rfl) wa_nil)))))))))

theorem ok_ConfigEq (T : Tx K mg) : FnOk P w K mg base (L2N.CX P w) 18 T.aConfigEq T.fdConfigEq PConfigEq (spW K T.cs cConfigEq) := ok_W T.mConfigEq.F scConfigEq rfl fun cdv A outer s H E hr tk => by
  unfold wConfigEq
  exact (wss_one (ws_ret (we_andV (we_isC T.isConfig (pe_callB (id := "isinstance") call_isi (by rfl) T.b_isinstance (by decide +kernel) (pa_cons (we_var (pv 1)) (pa_cons (pe_glob (v := .ref T.cConfig) (by rfl) T.gConfig rfl) pa_nil)))) (pe_one (we_eqO (op_eqO false (ownP T) (noPassW (P := P) (w := w)) (hr.mono (by decide))) (we_frz (wo_meth0 (show ¬ _ ∈ lys.getD 1 [] from by decide +kernel) (pe_methX0 (we_var (pv 0)) T.clConfig T.hConfigFields (ok_ConfigFields T) (hr.mono (by decide)) T.mConfigFields.b (fun σ => L2N.passAt tk σ)))) (we_frz (wo_meth0 (show ¬ _ ∈ lys.getD 1 [] from by decide +kernel) (pe_methX0 (we_var (pv 1)) T.clConfig T.hConfigFields (ok_ConfigFields T) (hr.mono (by decide)) T.mConfigFields.b (fun σ => L2N.passAt tk σ)))) (nomark _))))))

theorem ok_LawPartition (T : Tx K mg) : FnOk P w K mg base (L2N.CX P w) 4 T.aLawPartition T.fdLawPartition PLawPartition (spW K T.cs cLawPartition) := ok_W T.dLawPartition.F scLawPartition rfl fun cdv A outer s H E hr tk => by
  unfold wLawPartition
  exact (wss_cons (ws_asg (ps_set (i := 4) scLawPartition.nd rfl (Or.inl rfl) (we_add we_int (we_frz (wo_call (pe_callS (ok_LawDraw T) (hr.mono (by decide)) (by rfl) T.dLawDraw.g T.dLawDraw.F.kp T.dLawDraw.b (fun σ => L2N.passAt tk σ) (wa_cons (we_var (pv 0)) (wa_cons (we_var (pv 1)) (wa_cons we_int wa_nil)))))))))
(wss_cons (ws_asg (ps_set (i := 5) scLawPartition.nd rfl (Or.inl rfl) (we_add (we_add (we_var (pv 4)) (pe_imp (pe_callB call_len (by rfl) T.b_len PySem.boot_len (wa_cons (we_frz (wo_lc tg_name (tgw_name (by decide)) (pe_lc (own := [("one", 6)]) rfl scLawPartition.nd (wi_list (we_idx (we_var (pv 2)) we_int (fun _ _ => rfl))) (blkOk_by (own := [("one", 6)]) (N := NLawPartition) (sc := defScope sLawPartition) (by decide +kernel)) (fun _ _ _ _ _ => (pg_name (i := 6) scLawPartition.nd rfl (Or.inl rfl))) (fun _ _ _ _ _ => pts_one (wt_cmp op_in_seq s_in (we_var (pv 3)) (we_var (pv 6)) rfl)) (fun _ _ _ _ _ => (wo_lift (we_var (pv 6))))))) wa_nil)) (e_cb sa_len))) (pe_imp (pe_callB call_len (by rfl) T.b_len PySem.boot_len (wa_cons (we_frz (wo_lc tg_name (tgw_name (by decide)) (pe_lc (own := [("one", 6)]) rfl scLawPartition.nd (wi_list (we_idx (we_var (pv 2)) we_int (fun _ _ => rfl))) (blkOk_by (own := [("one", 6)]) (N := NLawPartition) (sc := defScope sLawPartition) (by decide +kernel)) (fun _ _ _ _ _ => (pg_name (i := 6) scLawPartition.nd rfl (Or.inl rfl))) (fun _ _ _ _ _ => pts_one (wt_cmp (op_eqA hr.units) s_eq (we_var (pv 6)) (we_var (pv 3)) (nomark _))) (fun _ _ _ _ _ => (wo_lift (we_var (pv 6))))))) wa_nil)) (e_cb sa_len)))))
(wss_one (ws_retO (wo_make (pe_make T.mkPartition (ok_PartitionInit T) (hr.mono (by decide)) (by rfl) T.gPartition T.mPartitionInit.b .nil noPassW (wa_cons (we_frz (wo_call (pe_callS (ok_LawImage T) (hr.mono (by decide)) (by rfl) T.dLawImage.g T.dLawImage.F.kp T.dLawImage.b (fun σ => L2N.passAt tk σ) (wa_cons (we_var (pv 0)) (wa_cons (we_var (pv 1)) (wa_cons (we_var (pv 4)) (wa_cons (we_var (pv 5)) wa_nil))))))) (wa_cons (we_var (pv 4)) (wa_cons we_int wa_nil)))))))))

theorem ok_LawConfig (T : Tx K mg) : FnOk P w K mg base (L2N.CX P w) 5 T.aLawConfig T.fdLawConfig PLawConfig (spW K T.cs cLawConfig) := ok_W T.dLawConfig.F scLawConfig rfl fun cdv A outer s H E hr tk => by
  unfold wLawConfig
  exact (wss_cons (ws_asg (ps_set (i := 2) scLawConfig.nd rfl (Or.inr rfl) (we_frz (wo_call (pe_callS (ok_LawParts T) (hr.mono (by decide)) (by rfl) T.dLawParts.g T.dLawParts.F.kp T.dLawParts.b (fun σ => L2N.passAt tk σ) (wa_cons (we_var (pv 0)) (wa_cons (we_var (pv 1)) wa_nil)))))))
(wss_cons (s_setLcF tg_name (tgw_name (by decide)) (ps_setLc (i := 3) (own := [("p", 4)]) rfl scLawConfig.nd rfl rfl (sw_true rfl rfl rfl (by decide +kernel)) (wi_rng1 (pi_range1 (by rfl) T.b_range (wa_cons (we_idx (we_var (pv 2)) we_int (fun _ _ => rfl)) wa_nil))) (blkOk_by (own := [("p", 4)]) (N := NLawConfig) (sc := defScope sLawConfig) (by decide +kernel)) (fun _ _ _ _ _ => (pg_name (i := 4) scLawConfig.nd rfl (Or.inl rfl))) (fun _ _ _ _ _ => wts_nil) (fun _ _ _ _ _ => (wo_call (pe_callS (ok_LawPartition T) (hr.mono (by decide)) (by rfl) T.dLawPartition.g T.dLawPartition.F.kp T.dLawPartition.b (fun σ => L2N.passAt takesNo σ) (wa_cons (we_var (pv 0)) (wa_cons (we_var (pv 1)) (wa_cons (we_var (pv 2)) (wa_cons (we_var (pv 4)) wa_nil)))))))))
(wss_one (ws_retO (wo_make (pe_make T.mkConfig (ok_ConfigInit T) (hr.mono (by decide)) (by rfl) T.gConfig T.mConfigInit.b .nil noPassW (wa_cons (we_var (pv 3)) (wa_cons (we_idx (we_var (pv 2)) we_int (fun _ _ => rfl)) (wa_cons (we_idx (we_var (pv 2)) we_int (fun _ _ => rfl)) (wa_cons (we_idx (we_var (pv 2)) we_int (fun _ _ => rfl)) (wa_cons (we_idx (we_var (pv 2)) we_int (fun _ _ => rfl)) (wa_cons (we_idx (we_var (pv 2)) we_int (fun _ _ => rfl)) wa_nil))))))))))))

theorem ok_ShareRights (T : Tx K mg) : FnOk P w K mg base (L2N.CX P w) 1 T.aShareRights T.fdShareRights PShareRights (spW K T.cs cShareRights) := ok_W T.dShareRights.F scShareRights rfl fun cdv A outer s H E hr tk => by
  unfold wShareRights
  exact (wss_cons (ws_asgT (tg_tup (js := [2, 3]) rfl) (ps_asg (we_var (pv 0)) (pg_tup rfl (pgs_cons (pg_name (i := 2) scShareRights.nd rfl (Or.inl rfl)) (pgs_cons (pg_name (i := 3) scShareRights.nd rfl (Or.inl rfl)) pgs_nil)))))
(wss_cons (ws_if (wt_cmp (op_eqA hr.units) s_eq (we_var (pv 1)) (we_var (pv 2)) (nomark _)) (wss_one (ws_ret (we_add (we_c (pe_glob (v := .int 1) (by rfl) T.gREAD.choose_spec ⟨_, rfl⟩) fun _ => .int _) (we_c (pe_glob (v := .int 2) (by rfl) T.gWRITE.choose_spec ⟨_, rfl⟩) fun _ => .int _)))) wss_nil)
(wss_cons (ws_if (wt_cmp (op_eqA hr.units) s_eq (we_var (pv 1)) (we_var (pv 3)) (nomark _)) (wss_one (ws_ret (we_c (pe_glob (v := .int 1) (by rfl) T.gREAD.choose_spec ⟨_, rfl⟩) fun _ => .int _))) wss_nil)
(wss_one (ws_ret we_int)))))

theorem ok_PageMap (T : Tx K mg) : FnOk P w K mg base (L2N.CX P w) 2 T.aPageMap T.fdPageMap PPageMap (spW K T.cs cPageMap) := ok_W T.dPageMap.F scPageMap rfl fun cdv A outer s H E hr tk => by
  unfold wPageMap
  exact (wss_cons (s_setLc tg_name (tgw_name (by decide)) (ps_setLc (i := 2) (own := [("index", 3)]) rfl scPageMap.nd rfl rfl (sw_true rfl rfl rfl (by decide +kernel)) (wi_rng1 (pi_range1 (by rfl) T.b_range (wa_cons (we_fld T.fk_pages (we_idx (we_fld T.fk_partitions (we_var (pv 0)) rfl) (we_var (pv 1)) (fun _ _ => rfl)) rfl) wa_nil))) (blkOk_by (own := [("index", 3)]) (N := NPageMap) (sc := defScope sPageMap) (by decide +kernel)) (fun _ _ _ _ _ => (pg_name (i := 3) scPageMap.nd rfl (Or.inl rfl))) (fun _ _ _ _ _ => wts_nil) (fun _ _ _ _ _ => (wo_lift (we_tup (wa_cons we_str (wa_cons (we_var (pv 3)) (wa_cons (we_add (we_add (we_c (pe_glob (v := .int 1) (by rfl) T.gREAD.choose_spec ⟨_, rfl⟩) fun _ => .int _) (we_c (pe_glob (v := .int 2) (by rfl) T.gWRITE.choose_spec ⟨_, rfl⟩) fun _ => .int _)) (we_c (pe_glob (v := .int 4) (by rfl) T.gEXECUTE.choose_spec ⟨_, rfl⟩) fun _ => .int _)) wa_nil))))))))
(wss_cut (ws_for (tg_tup (js := [3, 4]) rfl) (ps_for PassesOwn.leaving rfl (pi_imp (pi_enumT (by rfl) T.b_enumerate (wa_cons (we_fld T.fk_shares (we_var (pv 0)) rfl) wa_nil)) i_enumT) (pg_tup rfl (pgs_cons (pg_name (i := 3) scPageMap.nd rfl (Or.inl rfl)) (pgs_cons (pg_name (i := 4) scPageMap.nd rfl (Or.inl rfl)) pgs_nil))) (wss_cons (ws_asg (ps_set (i := 5) scPageMap.nd rfl (Or.inl rfl) (we_frz (wo_call (pe_callS (ok_ShareRights T) (hr.mono (by decide)) (by rfl) T.dShareRights.g T.dShareRights.F.kp T.dShareRights.b (fun σ => L2N.passAt tk σ) (wa_cons (we_var (pv 4)) (wa_cons (we_var (pv 1)) wa_nil)))))))
(wss_one (ws_if (wt_cmp op_gt s_gt (we_var (pv 5)) we_int (nomark _)) (wss_one (ws_app (ps_expr (pe_bm PySem.F.plainAttrs_list PySem.F.slot_list_append PySem.F.type_list_append mt_append (we_var (pv 2)) (pa_cons (wo_lift (we_tup (wa_cons we_str (wa_cons (we_var (pv 3)) (wa_cons (we_var (pv 5)) wa_nil))))) pa_nil))))) wss_nil)))))
(wss_cut (ws_for (tg_tup (js := [3, 6]) rfl) (ps_for PassesOwn.leaving rfl (pi_imp (pi_enumT (by rfl) T.b_enumerate (wa_cons (we_fld T.fk_devices (we_var (pv 0)) rfl) wa_nil)) i_enumT) (pg_tup rfl (pgs_cons (pg_name (i := 3) scPageMap.nd rfl (Or.inl rfl)) (pgs_cons (pg_name (i := 6) scPageMap.nd rfl (Or.inl rfl)) pgs_nil))) (wss_one (ws_if (wt_cmp (op_eqA hr.units) s_eq (we_var (pv 6)) (we_var (pv 1)) (nomark _)) (wss_one (ws_app (ps_expr (pe_bm PySem.F.plainAttrs_list PySem.F.slot_list_append PySem.F.type_list_append mt_append (we_var (pv 2)) (pa_cons (wo_lift (we_tup (wa_cons we_str (wa_cons (we_var (pv 3)) (wa_cons (we_c (pe_glob (v := .int 1) (by rfl) T.gREAD.choose_spec ⟨_, rfl⟩) fun _ => .int _) wa_nil))))) pa_nil))))) wss_nil))))
(wss_one (ws_ret (we_var (pv 2)))))))

theorem ok_TicksOf (T : Tx K mg) : FnOk P w K mg base (L2N.CX P w) 1 T.aTicksOf T.fdTicksOf PTicksOf (spW K T.cs cTicksOf) := ok_W T.dTicksOf.F scTicksOf rfl fun cdv A outer s H E hr tk => by
  unfold wTicksOf
  exact (wss_one (ws_ret (pe_imp (pe_callB (id := "sum") (cr_sum rfl) (by rfl) T.b_sum (by decide +kernel) (wa_cons (we_frz (wo_lc (tg_tup (js := [1, 2]) rfl) (tgw_tup (by decide)) (pe_lc (own := [("_", 1), ("ticks", 2)]) rfl scTicksOf.nd (wi_tup (we_var (pv 0))) (blkOk_by (own := [("_", 1), ("ticks", 2)]) (N := NTicksOf) (sc := defScope sTicksOf) (by decide +kernel)) (fun _ _ _ _ _ => (pg_tup rfl (pgs_cons (pg_name (i := 1) scTicksOf.nd rfl (Or.inl rfl)) (pgs_cons (pg_name (i := 2) scTicksOf.nd rfl (Or.inl rfl)) pgs_nil)))) (fun _ _ _ _ _ => wts_nil) (fun _ _ _ _ _ => (wo_lift (we_add (we_c (pe_glob (v := .int 256) (by rfl) T.gGAP.choose_spec ⟨_, rfl⟩) fun _ => .int _) (we_var (pv 2)))))))) wa_nil)) (e_cb sa_sum))))

theorem ok_RoundLength (T : Tx K mg) : FnOk P w K mg base (L2N.CX P w) 2 T.aRoundLength T.fdRoundLength PRoundLength (spW K T.cs cRoundLength) := ok_W T.dRoundLength.F scRoundLength rfl fun cdv A outer s H E hr tk => by
  unfold wRoundLength
  exact (wss_one (ws_retO (wo_call (pe_callS (ok_TicksOf T) (hr.mono (by decide)) (by rfl) T.dTicksOf.g T.dTicksOf.F.kp T.dTicksOf.b (fun σ => L2N.passAt tk σ) (wa_cons (we_fld T.fk_frames (we_var (pv 0)) rfl) wa_nil)))))

theorem ok_FrameStart (T : Tx K mg) : FnOk P w K mg base (L2N.CX P w) 3 T.aFrameStart T.fdFrameStart PFrameStart (spW K T.cs cFrameStart) := ok_W T.dFrameStart.F scFrameStart rfl fun cdv A outer s H E hr tk => by
  unfold wFrameStart
  exact (wss_cons (ws_asgT (tg_tup (js := [2, 3]) rfl) (ps_asg (pe_imp (pe_callB call_divmod (by rfl) T.b_divmod PyProof.Rows.boot_divmod (wa_cons (we_var (pv 1)) (wa_cons (pe_imp (pe_callB call_len (by rfl) T.b_len PySem.boot_len (wa_cons (we_fld T.fk_frames (we_var (pv 0)) rfl) wa_nil)) (e_cb sa_len)) wa_nil))) (e_divmod)) (pg_tup rfl (pgs_cons (pg_name (i := 2) scFrameStart.nd rfl (Or.inl rfl)) (pgs_cons (pg_name (i := 3) scFrameStart.nd rfl (Or.inl rfl)) pgs_nil)))))
(wss_one (ws_ret (we_add (we_add (we_mul (we_var (pv 2)) (we_frz (wo_call (pe_callS (ok_RoundLength T) (hr.mono (by decide)) (by rfl) T.dRoundLength.g T.dRoundLength.F.kp T.dRoundLength.b (fun σ => L2N.passAt tk σ) (wa_cons (we_var (pv 0)) wa_nil))))) (we_frz (wo_call (pe_callS (ok_TicksOf T) (hr.mono (by decide)) (by rfl) T.dTicksOf.g T.dTicksOf.F.kp T.dTicksOf.b (fun σ => L2N.passAt tk σ) (wa_cons (we_slT (we_fld T.fk_frames (we_var (pv 0)) rfl) wp_none (wp_some (we_var (pv 3)))) wa_nil))))) (we_c (pe_glob (v := .int 256) (by rfl) T.gGAP.choose_spec ⟨_, rfl⟩) fun _ => .int _)))))

theorem ok_MayFlow (T : Tx K mg) : FnOk P w K mg base (L2N.CX P w) 1 T.aMayFlow T.fdMayFlow PMayFlow (spW K T.cs cMayFlow) := ok_W T.dMayFlow.F scMayFlow rfl fun cdv A outer s H E hr tk => by
  unfold wMayFlow
  exact (wss_one (ws_ret (we_orV (we_cmp (op_eqA hr.units) s_eq (we_var (pv 1)) (we_var (pv 2)) (nomark _)) (pe_one (we_cmp (op_inT hr.units) s_inT (we_tup (wa_cons (we_var (pv 1)) (wa_cons (we_var (pv 2)) wa_nil))) (we_fld T.fk_flows (we_var (pv 0)) rfl) rfl)))))

theorem ok_SourcesOf (T : Tx K mg) : FnOk P w K mg base (L2N.CX P w) 2 T.aSourcesOf T.fdSourcesOf PSourcesOf (spW K T.cs cSourcesOf) := ok_W T.dSourcesOf.F scSourcesOf rfl fun cdv A outer s H E hr tk => by
  unfold wSourcesOf
  exact (wss_cons (ws_new (ps_set (i := 2) scSourcesOf.nd rfl (Or.inl rfl) (wo_lst (wa_cons (we_var (pv 1)) wa_nil))))
(wss_cons (ws_asg (ps_set (i := 3) scSourcesOf.nd rfl (Or.inl rfl) we_int))
(wss_cut (ws_while PassesOwn.leaving (wt_cmp op_lt s_lt (we_var (pv 3)) (pe_imp (pe_callB call_len (by rfl) T.b_len PySem.boot_len (wa_cons (we_var (pv 2)) wa_nil)) (e_cb sa_len)) (nomark _)) (wss_cut (ws_for tg_name (ps_for PassesOwn.leaving rfl (wi_rng1 (pi_range1 (by rfl) T.b_range (wa_cons (pe_imp (pe_callB call_len (by rfl) T.b_len PySem.boot_len (wa_cons (we_fld T.fk_partitions (we_var (pv 0)) rfl) wa_nil)) (e_cb sa_len)) wa_nil))) (pg_name (i := 4) scSourcesOf.nd rfl (Or.inl rfl)) (wss_one (ws_if (ww_and (wt_cmp op_notIn_seq s_in (we_var (pv 4)) (we_var (pv 2)) rfl) (pw_and1 (wt_val (we_frz (wo_call (pe_callS (ok_MayFlow T) (hr.mono (by decide)) (by rfl) T.dMayFlow.g T.dMayFlow.F.kp T.dMayFlow.b (fun σ => L2N.passAt tk σ) (wa_cons (we_var (pv 0)) (wa_cons (we_var (pv 4)) (wa_cons (we_idx (we_var (pv 2)) (we_var (pv 3)) (fun _ _ => rfl)) wa_nil))))))))).pt (wss_one (ws_app (ps_expr (pe_bm PySem.F.plainAttrs_list PySem.F.slot_list_append PySem.F.type_list_append mt_append (we_var (pv 2)) (pa_cons (wo_lift (we_var (pv 4))) pa_nil))))) wss_nil))))
(wss_one (ws_aug (ps_aug (i := 3) scSourcesOf.nd rfl (Or.inl rfl) we_int ip_add)))))
(wss_one (ws_retO (pe_imp (pe_callB (id := "sorted") cr_sorted (by rfl) T.b_sorted (by decide +kernel) (wa_cons (we_var (pv 2)) wa_nil)) o_sorted))))))

theorem ok_LawPages (T : Tx K mg) : FnOk P w K mg base (L2N.CX P w) 1 T.aLawPages T.fdLawPages PLawPages (spW K T.cs cLawPages) := ok_W T.dLawPages.F scLawPages rfl fun cdv A outer s H E hr tk => by
  unfold wLawPages
  exact (wss_cons (ws_new (ps_set (i := 2) scLawPages.nd rfl (Or.inl rfl) (wo_lst wa_nil)))
(wss_cut (ws_for tg_name (ps_for PassesOwn.leaving rfl (wi_rng1 (pi_range1 (by rfl) T.b_range (wa_cons (we_fld T.fk_pages (we_idx (we_fld T.fk_partitions (we_var (pv 0)) rfl) (we_var (pv 1)) (fun _ _ => rfl)) rfl) wa_nil))) (pg_name (i := 3) scLawPages.nd rfl (Or.inl rfl)) (wss_one (ws_app (ps_expr (pe_bm PySem.F.plainAttrs_list PySem.F.slot_list_append PySem.F.type_list_append mt_append (we_var (pv 2)) (pa_cons (wo_lift (we_tup (wa_cons we_str (wa_cons (we_var (pv 3)) (wa_cons we_int wa_nil))))) pa_nil)))))))
(wss_cut (ws_for tg_name (ps_for PassesOwn.leaving rfl (wi_rng1 (pi_range1 (by rfl) T.b_range (wa_cons (pe_imp (pe_callB call_len (by rfl) T.b_len PySem.boot_len (wa_cons (we_fld T.fk_shares (we_var (pv 0)) rfl) wa_nil)) (e_cb sa_len)) wa_nil))) (pg_name (i := 3) scLawPages.nd rfl (Or.inl rfl)) (wss_one (ws_if (wt_cmp op_in_seq s_in (we_var (pv 1)) (we_idx (we_fld T.fk_shares (we_var (pv 0)) rfl) (we_var (pv 3)) (fun _ _ => rfl)) rfl) (wss_one (ws_app (ps_expr (pe_bm PySem.F.plainAttrs_list PySem.F.slot_list_append PySem.F.type_list_append mt_append (we_var (pv 2)) (pa_cons (wo_lift (we_tup (wa_cons we_str (wa_cons (we_var (pv 3)) (wa_cons (we_idx (we_frz (wo_lst (wa_cons we_int (wa_cons we_int wa_nil)))) (we_ixT (pe_bmT rfl PySem.F.plainAttrs_tuple PySem.F.slot_tuple_index PySem.F.type_tuple_index mt_indexT (we_idx (we_fld T.fk_shares (we_var (pv 0)) rfl) (we_var (pv 3)) (fun _ _ => rfl)) (wa_cons (we_var (pv 1)) wa_nil))) (fun _ _ => rfl)) wa_nil))))) pa_nil))))) wss_nil))))
(wss_cut (ws_for tg_name (ps_for PassesOwn.leaving rfl (wi_rng1 (pi_range1 (by rfl) T.b_range (wa_cons (pe_imp (pe_callB call_len (by rfl) T.b_len PySem.boot_len (wa_cons (we_fld T.fk_devices (we_var (pv 0)) rfl) wa_nil)) (e_cb sa_len)) wa_nil))) (pg_name (i := 3) scLawPages.nd rfl (Or.inl rfl)) (wss_one (ws_if (wt_cmp (op_eqA hr.units) s_eq (we_idx (we_fld T.fk_devices (we_var (pv 0)) rfl) (we_var (pv 3)) (fun _ _ => rfl)) (we_var (pv 1)) (nomark _)) (wss_one (ws_app (ps_expr (pe_bm PySem.F.plainAttrs_list PySem.F.slot_list_append PySem.F.type_list_append mt_append (we_var (pv 2)) (pa_cons (wo_lift (we_tup (wa_cons we_str (wa_cons (we_var (pv 3)) (wa_cons we_int wa_nil))))) pa_nil))))) wss_nil))))
(wss_one (ws_ret (we_var (pv 2))))))))

theorem ok_LawReach (T : Tx K mg) : FnOk P w K mg base (L2N.CX P w) 1 T.aLawReach T.fdLawReach PLawReach (spW K T.cs cLawReach) := ok_W T.dLawReach.F scLawReach rfl fun cdv A outer s H E hr tk => by
  unfold wLawReach
  exact (wss_cons (ws_new (ps_set (i := 2) scLawReach.nd rfl (Or.inr rfl) (wo_lc tg_name (tgw_name (by decide)) (pe_lc (own := [("p", 3)]) rfl scLawReach.nd (wi_rng1 (pi_range1 (by rfl) T.b_range (wa_cons (pe_imp (pe_callB call_len (by rfl) T.b_len PySem.boot_len (wa_cons (we_fld T.fk_partitions (we_var (pv 0)) rfl) wa_nil)) (e_cb sa_len)) wa_nil))) (blkOk_by (own := [("p", 3)]) (N := NLawReach) (sc := defScope sLawReach) (by decide +kernel)) (fun _ _ _ _ _ => (pg_name (i := 3) scLawReach.nd rfl (Or.inl rfl))) (fun _ _ _ _ _ => wts_nil) (fun _ _ _ _ _ => (wo_lift (we_cmp (op_eqA hr.units) s_eq (we_var (pv 3)) (we_var (pv 1)) (nomark _))))))))
(wss_cut (ws_for tg_name (ps_for PassesOwn.leaving rfl (wi_rng1 (pi_range1 (by rfl) T.b_range (wa_cons (pe_imp (pe_callB call_len (by rfl) T.b_len PySem.boot_len (wa_cons (we_fld T.fk_partitions (we_var (pv 0)) rfl) wa_nil)) (e_cb sa_len)) wa_nil))) (pg_name (i := 4) scLawReach.nd rfl (Or.inl rfl)) (wss_one (ws_for (tg_tup (js := [5, 6]) rfl) (ps_for PassesOwn.leaving rfl (wi_tup (we_fld T.fk_flows (we_var (pv 0)) rfl)) (pg_tup rfl (pgs_cons (pg_name (i := 5) scLawReach.nd rfl (Or.inl rfl)) (pgs_cons (pg_name (i := 6) scLawReach.nd rfl (Or.inl rfl)) pgs_nil))) (wss_one (ws_if (wt_val (we_idx (we_var (pv 2)) (we_var (pv 6)) (fun _ _ => rfl))) (wss_one (ws_setI (ps_asg we_bl (pg_sub (we_var (pv 2)) (we_var (pv 5)) set_list)))) wss_nil)))))))
(wss_one (ws_retO (wo_lc tg_name (tgw_name (by decide)) (pe_lc (own := [("p", 3)]) rfl scLawReach.nd (wi_rng1 (pi_range1 (by rfl) T.b_range (wa_cons (pe_imp (pe_callB call_len (by rfl) T.b_len PySem.boot_len (wa_cons (we_var (pv 2)) wa_nil)) (e_cb sa_len)) wa_nil))) (blkOk_by (own := [("p", 3)]) (N := NLawReach) (sc := defScope sLawReach) (by decide +kernel)) (fun _ _ _ _ _ => (pg_name (i := 3) scLawReach.nd rfl (Or.inl rfl))) (fun _ _ _ _ _ => pts_one (wt_val (we_idx (we_var (pv 2)) (we_var (pv 3)) (fun _ _ => rfl)))) (fun _ _ _ _ _ => (wo_lift (we_var (pv 3))))))))))

theorem ok_law (T : Tx K mg) : FnOk P w K mg base CX0 26 T.aLaw T.fdLaw PLaw (fun vs H Q _ => spW K T.cs cLaw vs H Q fun _ _ _ => False) := ok_W0 T.dLaw.F scLaw rfl fun cdv A outer s H E hr tk => by
  unfold wLaw
  exact (wss_cons (ws_new (ps_set (i := 1) scLaw.nd rfl (Or.inl rfl) (wo_lst (wa_cons we_int (wa_cons we_int wa_nil)))))
(wss_cons (ws_asg (ps_set (i := 2) scLaw.nd rfl (Or.inl rfl) (we_frz (wo_call (pe_callS (ok_LawConfig T) (hr.mono (by decide)) (by rfl) T.dLawConfig.g T.dLawConfig.F.kp T.dLawConfig.b (fun σ => L2N.passAt takesNo σ) (wa_cons (we_var (pv 1)) (wa_cons (we_var (pv 0)) wa_nil)))))))
(wss_cons (ws_if (wt_cmp (op_neA hr.units) s_ne (we_frz (wo_lst (wa_cons (we_c (pe_glob (v := .int 16) (by rfl) T.gPAGE.choose_spec ⟨_, rfl⟩) fun _ => .int _) (wa_cons (we_c (pe_glob (v := .int 8) (by rfl) T.gVIRTUAL.choose_spec ⟨_, rfl⟩) fun _ => .int _) (wa_cons (we_c (pe_glob (v := .int 256) (by rfl) T.gGAP.choose_spec ⟨_, rfl⟩) fun _ => .int _) (wa_cons (we_c (pe_glob (v := .int 96) (by rfl) T.gCALL.choose_spec ⟨_, rfl⟩) fun _ => .int _) wa_nil)))))) (we_frz (wo_lst (wa_cons we_int (wa_cons we_int (wa_cons we_int (wa_cons we_int wa_nil)))))) (nomark _)) (wss_one (ws_ret we_bl)) wss_nil)
(wss_cons (ws_asg (ps_set (i := 3) scLaw.nd rfl (Or.inl rfl) we_int))
(wss_cut (ws_for tg_name (ps_for PassesOwn.never rfl (wi_rng1 (pi_range1 (by rfl) T.b_range (wa_cons (we_mul we_int (pe_imp (pe_callB call_len (by rfl) T.b_len PySem.boot_len (wa_cons (we_fld T.fk_frames (we_var (pv 2)) rfl) wa_nil)) (e_cb sa_len))) wa_nil))) (pg_name (i := 4) scLaw.nd rfl (Or.inl rfl)) (wss_cons (ws_if (wt_cmp (op_neA hr.units) s_ne (we_frz (wo_call (pe_callS (ok_FrameStart T) (hr.mono (by decide)) (by rfl) T.dFrameStart.g T.dFrameStart.F.kp T.dFrameStart.b (fun σ => L2N.passAt takesNo σ) (wa_cons (we_var (pv 2)) (wa_cons (we_var (pv 4)) wa_nil))))) (we_add (we_var (pv 3)) we_int) (nomark _)) (wss_one (ws_ret we_bl)) wss_nil)
(wss_cons (ws_asg (ps_set (i := 3) scLaw.nd rfl (Or.inl rfl) (we_add (we_add (we_var (pv 3)) we_int) (we_idx (we_idx (we_fld T.fk_frames (we_var (pv 2)) rfl) (we_mod (pe_imp (pe_callTy call_int1 (by rfl) T.b_int (by decide +kernel) (wa_cons (we_var (pv 4)) wa_nil)) (e_cb sa_int)) (pe_imp (pe_callB call_len (by rfl) T.b_len PySem.boot_len (wa_cons (we_fld T.fk_frames (we_var (pv 2)) rfl) wa_nil)) (e_cb sa_len))) (fun _ _ => rfl)) we_int (fun _ _ => rfl)))))
(wss_one (ws_if (ww_and (wt_cmp (op_eqA hr.units) s_eq (we_add (we_var (pv 4)) we_int) (pe_imp (pe_callB call_len (by rfl) T.b_len PySem.boot_len (wa_cons (we_fld T.fk_frames (we_var (pv 2)) rfl) wa_nil)) (e_cb sa_len)) (nomark _)) (pw_and1 (wt_cmp (op_neA hr.units) s_ne (we_frz (wo_call (pe_callS (ok_RoundLength T) (hr.mono (by decide)) (by rfl) T.dRoundLength.g T.dRoundLength.F.kp T.dRoundLength.b (fun σ => L2N.passAt takesNo σ) (wa_cons (we_var (pv 2)) wa_nil)))) (we_var (pv 3)) (nomark _)))).pt (wss_one (ws_ret we_bl)) wss_nil))))))
(wss_cons (ws_asg (ps_set (i := 5) scLaw.nd rfl (Or.inl rfl) (we_frz (wo_call (pe_callS (ok_LawDraw T) (hr.mono (by decide)) (by rfl) T.dLawDraw.g T.dLawDraw.F.kp T.dLawDraw.b (fun σ => L2N.passAt takesNo σ) (wa_cons (we_var (pv 1)) (wa_cons (we_var (pv 0)) (wa_cons we_int wa_nil))))))))
(wss_cons (ws_if (wt_cmp (op_neA hr.units) s_ne (we_frz (wo_call (pe_callS (ok_FrameStart T) (hr.mono (by decide)) (by rfl) T.dFrameStart.g T.dFrameStart.F.kp T.dFrameStart.b (fun σ => L2N.passAt takesNo σ) (wa_cons (we_var (pv 2)) (wa_cons (we_add (we_var (pv 5)) (pe_imp (pe_callB call_len (by rfl) T.b_len PySem.boot_len (wa_cons (we_fld T.fk_frames (we_var (pv 2)) rfl) wa_nil)) (e_cb sa_len))) wa_nil))))) (we_add (we_frz (wo_call (pe_callS (ok_FrameStart T) (hr.mono (by decide)) (by rfl) T.dFrameStart.g T.dFrameStart.F.kp T.dFrameStart.b (fun σ => L2N.passAt takesNo σ) (wa_cons (we_var (pv 2)) (wa_cons (we_var (pv 5)) wa_nil))))) (we_frz (wo_call (pe_callS (ok_RoundLength T) (hr.mono (by decide)) (by rfl) T.dRoundLength.g T.dRoundLength.F.kp T.dRoundLength.b (fun σ => L2N.passAt takesNo σ) (wa_cons (we_var (pv 2)) wa_nil))))) (nomark _)) (wss_one (ws_ret we_bl)) wss_nil)
(wss_cut (ws_for tg_name (ps_for PassesOwn.never rfl (wi_rng1 (pi_range1 (by rfl) T.b_range (wa_cons (pe_imp (pe_callB call_len (by rfl) T.b_len PySem.boot_len (wa_cons (we_fld T.fk_partitions (we_var (pv 2)) rfl) wa_nil)) (e_cb sa_len)) wa_nil))) (pg_name (i := 6) scLaw.nd rfl (Or.inl rfl)) (wss_cons (ws_if (ww_or (wt_cmp (op_neA hr.units) s_ne (we_frz (wo_call (pe_callS (ok_PageMap T) (hr.mono (by decide)) (by rfl) T.dPageMap.g T.dPageMap.F.kp T.dPageMap.b (fun σ => L2N.passAt takesNo σ) (wa_cons (we_var (pv 2)) (wa_cons (we_var (pv 6)) wa_nil))))) (we_frz (wo_call (pe_callS (ok_LawPages T) (hr.mono (by decide)) (by rfl) T.dLawPages.g T.dLawPages.F.kp T.dLawPages.b (fun σ => L2N.passAt takesNo σ) (wa_cons (we_var (pv 2)) (wa_cons (we_var (pv 6)) wa_nil))))) (nomark _)) (pw_or1 (wt_cmp (op_neA hr.units) s_ne (we_frz (wo_call (pe_callS (ok_SourcesOf T) (hr.mono (by decide)) (by rfl) T.dSourcesOf.g T.dSourcesOf.F.kp T.dSourcesOf.b (fun σ => L2N.passAt takesNo σ) (wa_cons (we_var (pv 2)) (wa_cons (we_var (pv 6)) wa_nil))))) (we_frz (wo_call (pe_callS (ok_LawReach T) (hr.mono (by decide)) (by rfl) T.dLawReach.g T.dLawReach.F.kp T.dLawReach.b (fun σ => L2N.passAt takesNo σ) (wa_cons (we_var (pv 2)) (wa_cons (we_var (pv 6)) wa_nil))))) (nomark _)))).pt (wss_one (ws_ret we_bl)) wss_nil)
(wss_one (ws_for tg_name (ps_for PassesOwn.never rfl (wi_rng1 (pi_range1 (by rfl) T.b_range (wa_cons (pe_imp (pe_callB call_len (by rfl) T.b_len PySem.boot_len (wa_cons (we_fld T.fk_partitions (we_var (pv 2)) rfl) wa_nil)) (e_cb sa_len)) wa_nil))) (pg_name (i := 7) scLaw.nd rfl (Or.inl rfl)) (wss_one (ws_if (wt_cmp (op_neA hr.units) s_ne (we_frz (wo_call (pe_callS (ok_MayFlow T) (hr.mono (by decide)) (by rfl) T.dMayFlow.g T.dMayFlow.F.kp T.dMayFlow.b (fun σ => L2N.passAt takesNo σ) (wa_cons (we_var (pv 2)) (wa_cons (we_var (pv 6)) (wa_cons (we_var (pv 7)) wa_nil)))))) (we_orV (we_cmp (op_eqA hr.units) s_eq (we_var (pv 6)) (we_var (pv 7)) (nomark _)) (pe_one (we_cmp (op_inT hr.units) s_inT (we_tupX (wa_cons (we_var (pv 6)) (wa_cons (we_var (pv 7)) wa_nil))) (we_fld T.fk_flows (we_var (pv 2)) rfl) rfl))) (nomark _)) (wss_one (ws_ret we_bl)) wss_nil))))))))
(wss_cons (ws_asg (ps_set (i := 8) scLaw.nd rfl (Or.inl rfl) (we_idx (we_fld T.fk_partitions (we_var (pv 2)) rfl) we_int (fun _ _ => rfl))))
(wss_cons (s_setLc tg_name (tgw_name (by decide)) (ps_setLc (i := 9) (own := [("part", 10)]) rfl scLaw.nd rfl rfl (sw_true rfl rfl rfl (by decide +kernel)) (wi_tup (we_frz (wo_meth0 (show ¬ _ ∈ lys.getD 1 [] from by decide +kernel) (pe_methX0 (we_var (pv 2)) T.clConfig T.hConfigFields (ok_ConfigFields T) (hr.mono (by decide)) T.mConfigFields.b (fun σ => L2N.passAt takesNo σ))))) (blkOk_by (own := [("part", 10)]) (N := NLaw) (sc := defScope sLaw) (by decide +kernel)) (fun _ _ _ _ _ => (pg_name (i := 10) scLaw.nd rfl (Or.inl rfl))) (fun _ _ _ _ _ => wts_nil) (fun _ _ _ _ _ => (pe_imp (pe_callTy call_list_of (by rfl) T.b_list (by decide +kernel) (wa_cons (we_var (pv 10)) wa_nil)) o_listOf))))
(wss_cons (ws_asg (ps_set (i := 11) scLaw.nd rfl (Or.inl rfl) (we_frz (wo_make (pe_make T.mkConfig (ok_ConfigInit T) (hr.mono (by decide)) (by rfl) T.gConfig T.mConfigInit.b .nil noPassW (wa_cons (we_idx (we_var (pv 9)) we_int (fun _ _ => rfl)) (wa_cons (we_idx (we_var (pv 9)) we_int (fun _ _ => rfl)) (wa_cons (we_idx (we_var (pv 9)) we_int (fun _ _ => rfl)) (wa_cons (we_idx (we_var (pv 9)) we_int (fun _ _ => rfl)) (wa_cons (we_idx (we_var (pv 9)) we_int (fun _ _ => rfl)) (wa_cons (we_idx (we_var (pv 9)) we_int (fun _ _ => rfl)) wa_nil)))))))))))
(wss_cons (ws_if (ww_or (wt_own (c := 1) (op_ownNe (ok_ConfigEq T) (hr.mono (by decide)) T.eqConfig T.mConfigEq.b noPassW) (we_var (pv 11)) (we_var (pv 2)) (nomark _)) (ww_or (wt_eqO (op_eqO true (ownP T) (noPassW (P := P) (w := w)) (hr.mono (by decide))) (we_frz (wo_meth0 (show ¬ _ ∈ lys.getD 1 [] from by decide +kernel) (pe_methX0 (we_var (pv 11)) T.clConfig T.hConfigFields (ok_ConfigFields T) (hr.mono (by decide)) T.mConfigFields.b (fun σ => L2N.passAt takesNo σ)))) (we_frz (wo_meth0 (show ¬ _ ∈ lys.getD 1 [] from by decide +kernel) (pe_methX0 (we_var (pv 2)) T.clConfig T.hConfigFields (ok_ConfigFields T) (hr.mono (by decide)) T.mConfigFields.b (fun σ => L2N.passAt takesNo σ)))) (nomark _)) (ww_or (wt_own (c := 1) (op_ownEq (ok_ConfigEq T) (hr.mono (by decide)) T.eqConfig T.mConfigEq.b noPassW) (we_var (pv 2)) we_int (nomark _)) (pw_or1 (wt_own (c := 0) (op_ownEq (ok_PartitionEq T) (hr.mono (by decide)) T.eqPartition T.mPartitionEq.b noPassW) (we_var (pv 8)) we_int (nomark _)))))).pt (wss_one (ws_ret we_bl)) wss_nil)
(wss_cons (ws_if (ww_or (wt_own (c := 0) (op_ownNe (ok_PartitionEq T) (hr.mono (by decide)) T.eqPartition T.mPartitionEq.b noPassW) (we_var (pv 8)) (we_frz (wo_make (pe_make T.mkPartition (ok_PartitionInit T) (hr.mono (by decide)) (by rfl) T.gPartition T.mPartitionInit.b .nil noPassW (wa_cons (we_frz (pe_imp (pe_callTy call_list_of (by rfl) T.b_list (by decide +kernel) (wa_cons (we_fld T.fk_image (we_var (pv 8)) rfl) wa_nil)) o_listOf)) (wa_cons (we_fld T.fk_pages (we_var (pv 8)) rfl) (wa_cons (we_fld T.fk_start (we_var (pv 8)) rfl) wa_nil)))))) (nomark _)) (pw_or1 (wt_eqO (op_eqO true (ownP T) (noPassW (P := P) (w := w)) (hr.mono (by decide))) (we_frz (wo_meth0 (show ¬ _ ∈ lys.getD 0 [] from by decide +kernel) (pe_methX0 (we_var (pv 8)) T.clPartition T.hPartitionFields (ok_PartitionFields T) (hr.mono (by decide)) T.mPartitionFields.b (fun σ => L2N.passAt takesNo σ)))) (we_tup (wa_cons (we_fld T.fk_image (we_var (pv 8)) rfl) (wa_cons (we_fld T.fk_pages (we_var (pv 8)) rfl) (wa_cons (we_fld T.fk_start (we_var (pv 8)) rfl) wa_nil)))) (nomark _)))).pt (wss_one (ws_ret we_bl)) wss_nil)
(wss_cons (ws_app (ps_expr (pe_bm PySem.F.plainAttrs_list PySem.F.slot_list_append PySem.F.type_list_append mt_append (we_idx (we_var (pv 9)) (we_frz (wo_call (pe_callS (ok_LawDraw T) (hr.mono (by decide)) (by rfl) T.dLawDraw.g T.dLawDraw.F.kp T.dLawDraw.b (fun σ => L2N.passAt takesNo σ) (wa_cons (we_var (pv 1)) (wa_cons (we_var (pv 0)) (wa_cons we_int wa_nil)))))) (fun _ _ => rfl)) (pa_cons (wo_lift (we_tup (wa_cons we_int (wa_cons we_int wa_nil)))) pa_nil))))
(wss_cons (ws_asg (ps_set (i := 12) scLaw.nd rfl (Or.inl rfl) (we_frz (wo_make (pe_make T.mkConfig (ok_ConfigInit T) (hr.mono (by decide)) (by rfl) T.gConfig T.mConfigInit.b .nil noPassW (wa_cons (we_idx (we_var (pv 9)) we_int (fun _ _ => rfl)) (wa_cons (we_idx (we_var (pv 9)) we_int (fun _ _ => rfl)) (wa_cons (we_idx (we_var (pv 9)) we_int (fun _ _ => rfl)) (wa_cons (we_idx (we_var (pv 9)) we_int (fun _ _ => rfl)) (wa_cons (we_idx (we_var (pv 9)) we_int (fun _ _ => rfl)) (wa_cons (we_idx (we_var (pv 9)) we_int (fun _ _ => rfl)) wa_nil)))))))))))
(wss_one (ws_ret (we_andV (we_own (c := 1) (op_ownNe (ok_ConfigEq T) (hr.mono (by decide)) T.eqConfig T.mConfigEq.b noPassW) (we_var (pv 12)) (we_var (pv 2)) (nomark _)) (we_andV (we_own (c := 0) (op_ownNe (ok_PartitionEq T) (hr.mono (by decide)) T.eqPartition T.mPartitionEq.b noPassW) (we_var (pv 8)) (we_frz (wo_make (pe_make T.mkPartition (ok_PartitionInit T) (hr.mono (by decide)) (by rfl) T.gPartition T.mPartitionInit.b .nil noPassW (wa_cons (we_catT (we_fld T.fk_image (we_var (pv 8)) rfl) (we_tup (wa_cons we_int wa_nil))) (wa_cons (we_fld T.fk_pages (we_var (pv 8)) rfl) (wa_cons (we_fld T.fk_start (we_var (pv 8)) rfl) wa_nil)))))) (nomark _)) (pe_one (we_own (c := 0) (op_ownNe (ok_PartitionEq T) (hr.mono (by decide)) T.eqPartition T.mPartitionEq.b noPassW) (we_var (pv 8)) (we_frz (wo_make (pe_make T.mkPartition (ok_PartitionInit T) (hr.mono (by decide)) (by rfl) T.gPartition T.mPartitionInit.b .nil noPassW (wa_cons (we_fld T.fk_image (we_var (pv 8)) rfl) (wa_cons (we_add (we_fld T.fk_pages (we_var (pv 8)) rfl) we_int) (wa_cons (we_fld T.fk_start (we_var (pv 8)) rfl) wa_nil)))))) (nomark _))))))))))))))))))))))
end
end K30
end

section
set_option linter.all false
set_option maxRecDepth 100000
set_option pp.deepTerms false
namespace K30
open PySem L2 Evl Wv
def dints (l : List Int) : List D := l.map D.int
/-- the draws' state -/
abbrev dst2 (i j : Int) : T := .lst [.dat (.int i), .dat (.int j)]
theorem dints_at {cs : List Int} {n : Int} (h : 0 < (cs.length : Int)) : ∃ c, atI (dints cs) (n % ((dints cs).length : Int)) = some (D.int c) := by
  unfold atI dints
  rw [List.length_map]
  have h0 : 0 ≤ n % (cs.length : Int) := Int.emod_nonneg _ (by omega)
  have h1 : n % (cs.length : Int) < cs.length := Int.emod_lt_of_pos _ (by omega)
  have e : ixN cs.length (n % (cs.length : Int)) = some (n % (cs.length : Int)).toNat := by
    unfold ixN
    rw [if_pos h0, if_pos h1]
  rw [e]
  have hl : (n % (cs.length : Int)).toNat < cs.length := by omega
  exact ⟨cs[(n % (cs.length : Int)).toNat], by simp [List.getElem?_eq_getElem hl]⟩
theorem spec_draw (i j : Int) (cs : List Int) (n : Int) (hn : 0 < n) (hb : n < 1000000) (k : T → Roots → Prop) (kx : Exn → Roots → Prop) (hk : ∀ d i' j', 0 ≤ d → d < n → k (.dat (.int d)) [dst2 i' j']) : cLawDraw [.ref 0 [], .dat (.ro (dints cs)), .dat (.int n)] [dst2 i j] k kx := by
  unfold cLawDraw cwOf
  refine ⟨rfl, ?_⟩
  unfold wLawDraw
  refine ⟨fun sl rt => ∃ i j x y, sl = [some (.ref 0 []), some (.dat (.ro (dints cs))), some (.dat (.int n)), x, y, none] ∧ rt = [dst2 i j], ?_, ?_⟩
  · refine ⟨1, .dat (.int j), rfl, rfl, ?_⟩
    refine ⟨fun hj => ?_, fun hj => ⟨i, j, none, none, rfl, rfl⟩⟩
    refine ⟨fun sl rt => ∃ c : Int, sl = [some (.ref 0 []), some (.dat (.ro (dints cs))), some (.dat (.int n)), some (.dat (.int c)), none, none] ∧ rt = [dst2 i j], ?_, ?_⟩
    · refine ⟨fun h => ?_, fun h => ⟨0, rfl, rfl⟩⟩
      have h : 0 < (cs.length : Int) := by
        have : (0 : Int) < ((dints cs).length : Int) := of_decide_eq_true h
        simpa [dints] using this
      refine ⟨0, .dat (.int i), rfl, rfl, ?_⟩
      have h2 : (0 : Int) < ((dints cs).length : Int) := by simpa [dints] using h
      obtain ⟨c, hc⟩ := dints_at (n := i) h
      exact ⟨h2, .int c, hc, c, rfl, rfl⟩
    · rintro _ _ ⟨c, rfl, rfl⟩
      refine ⟨fun sl rt => ∃ c : Int, sl = [some (.ref 0 []), some (.dat (.ro (dints cs))), some (.dat (.int n)), some (.dat (.int c)), none, none] ∧ rt = [dst2 i j], ?_, ?_⟩
      · refine ⟨fun h => ?_, fun h => ⟨c, rfl, rfl⟩⟩
        exact ⟨Or.inl (by decide), 1 - 2 * c, rfl, rfl⟩
      · rintro _ _ ⟨c, rfl, rfl⟩
        refine ⟨0, .dat (.int i), rfl, rfl, Or.inr (by decide), Or.inr (by decide), (by show (0 : Int) < 2147483647; decide), Or.inr (by decide), ?_⟩
        refine ⟨0, .dat (.int i), rfl, rfl, Or.inr (by decide), (by show (0 : Int) < 4294967291; decide), 1, .dat (.int j), rfl, rfl, rfl, ?_⟩
        refine ⟨fun sl rt => ∃ i j x y, sl = [some (.ref 0 []), some (.dat (.ro (dints cs))), some (.dat (.int n)), x, y, none] ∧ rt = [dst2 i j], ?_, ?_⟩
        · refine ⟨⟨by decide, by decide, by decide⟩, decide (i < ((dints cs).length : Int)), fun _ => ⟨0, .dat (.int i), rfl, rfl, rfl, rfl⟩, fun h => ?_, fun h => ?_⟩
          · exact ⟨1, _, rfl, rfl, rfl, i, c, _, _, rfl, rfl⟩
          · exact ⟨i, _, _, _, rfl, rfl⟩
        · rintro _ _ ⟨i, j, x, y, rfl, rfl⟩
          exact ⟨0, .dat (.int i), rfl, rfl, 0, .dat (.int i), rfl, rfl, rfl, i + 1, j, x, y, rfl, rfl⟩
  · rintro _ _ ⟨i, j, x, y, rfl, rfl⟩
    refine ⟨1, .dat (.int j), rfl, rfl, hn, 1, .dat (.int j), rfl, rfl, ⟨hn, by omega⟩, 1, .dat (.int j), rfl, rfl, rfl, ?_⟩
    exact hk _ _ _ (Int.emod_nonneg _ (by omega)) (Int.emod_lt_of_pos _ hn)
end K30
end

section
set_option linter.all false
set_option maxRecDepth 100000
set_option pp.deepTerms false
namespace K30
open PySem L2 Evl Wv
/-! helpers -/
theorem atI_mem {α : Type} {xs : List α} {d : Int} (h0 : 0 ≤ d) (h1 : d < xs.length) : ∃ x ∈ xs, atI xs d = some x := by
  unfold atI ixN
  rw [if_pos h0, if_pos h1]
  have hl : d.toNat < xs.length := by omega
  exact ⟨xs[d.toNat], List.getElem_mem hl, by simp [List.getElem?_eq_getElem hl]⟩
theorem first_str : ∀ {ss : List Str} {x : Str}, x ∈ ss → ∃ j, j < ss.length ∧ firstAt (ss.map D.str) (.str x) j
  | s :: ss, x, h => by
    by_cases e : s = x
    · exact ⟨0, by simp, ⟨.str s, rfl, by simp [D.sc, e]⟩, fun m z hm => absurd hm (Nat.not_lt_zero _)⟩
    · have h : x ∈ ss := by
        rcases List.mem_cons.mp h with z | z
        · exact absurd z.symm e
        · exact z
      obtain ⟨j, hj, ⟨z, z1, z2⟩, hm⟩ := first_str h
      refine ⟨j + 1, by simpa using hj, ⟨z, z1, z2⟩, fun m y hm' hy => ?_⟩
      cases m with
      | zero =>
        cases hy
        simp [D.sc, e]
      | succ m => exact hm m y (by omega) hy
abbrev opsL : List Str := ["halt", "set", "copy", "add", "sub", "mul", "and", "or", "xor", "shl", "shr", "addi", "load", "store", "jump", "jal", "beq", "bne", "blt", "call"]
theorem spec_word (op : Str) (a b c : Int) (hop : op ∈ opsL) (ha : a.natAbs < 2 ^ 64) (hb : b.natAbs < 2 ^ 64) (k : T → Roots → Prop) (kx : Exn → Roots → Prop) (hk : ∀ i, k (.dat (.int i)) []) : cLawWord [.dat (.str op), .dat (.int a), .dat (.int b), .dat (.int c)] [] k kx := by
  unfold cLawWord cwOf
  refine ⟨rfl, ?_⟩
  unfold wLawWord
  obtain ⟨j, hj, hf⟩ := first_str hop
  have hj : j < 20 := hj
  refine ⟨by show 20 ≤ 1000; decide, rfl, rfl, j, hf, ⟨by decide, by decide, ?_⟩, ⟨by decide, by decide, ha⟩, ⟨by decide, by decide, hb⟩, hk _⟩
  have : (2:Nat) ^ 64 = 18446744073709551616 := by decide
  rw [this]
  omega
end K30
end

section
set_option linter.all false
set_option maxRecDepth 100000
set_option pp.deepTerms false
namespace K30
open PySem L2 Evl Wv
abbrev lints (l : List Int) : List T := l.map fun i => .dat (.int i)
theorem small {d n : Int} (h0 : 0 ≤ d) (h1 : d < n) (hn : n < 1000000 := by decide) : d.natAbs < 2 ^ 64 := by
  have : (2:Nat) ^ 64 = 18446744073709551616 := by decide
  rw [this]
  omega
theorem spec_line (i j : Int) (cs : List Int) (seen : Int) (hs : 0 ≤ seen) (hs2 : seen < 1000) (k : T → Roots → Prop) (kx : Exn → Roots → Prop) (hk : ∀ (l : List Int) i' j', l.length ≤ 3 → k (.lst (lints l)) [dst2 i' j']) : cLawLine [.ref 0 [], .dat (.ro (dints cs)), .dat (.int seen)] [dst2 i j] k kx := by
  unfold cLawLine cwOf
  refine ⟨rfl, ?_⟩
  unfold wLawLine
  refine ⟨rfl, spec_draw _ _ cs 20 (by decide) (by decide) _ _ fun pick i j p0 p1 => ?_⟩
  refine ⟨rfl, spec_draw _ _ cs 6 (by decide) (by decide) _ _ fun a i j a0 a1 => ?_⟩
  refine ⟨rfl, spec_draw _ _ cs 6 (by decide) (by decide) _ _ fun b i j b0 b1 => ?_⟩
  refine ⟨rfl, spec_draw _ _ cs 6 (by decide) (by decide) _ _ fun c i j c0 c1 => ?_⟩
  have sa := small a0 a1
  have sb := small b0 b1
  refine ⟨fun h => ?_, fun _ => ?_⟩
  · refine ⟨by show 7 ≤ 1000; decide, ⟨rfl, spec_draw _ _ cs 7 (by decide) (by decide) _ _ fun d i j d0 d1 => ?_⟩⟩
    obtain ⟨x, hx, e⟩ := atI_mem (xs := [D.str "add", .str "sub", .str "mul", .str "xor", .str "and", .str "or", .str "copy"]) d0 d1
    have : ∃ op : Str, x = .str op ∧ op ∈ opsL := by
      simp only [List.mem_cons, List.not_mem_nil, or_false] at hx
      rcases hx with z | z | z | z | z | z | z <;> exact ⟨_, z, by decide +kernel⟩
    obtain ⟨op, rfl, hop⟩ := this
    exact ⟨.str op, e, Or.inl ⟨by omega, by omega⟩, rfl, spec_word op a b _ hop sa sb _ _ fun w => ⟨by show 1 ≤ 1000; decide, hk [w] _ _ (by simp)⟩⟩
  refine ⟨fun h => ?_, fun _ => ?_⟩
  · exact ⟨rfl, spec_draw _ _ cs 16 (by decide) (by decide) _ _ fun d i j d0 d1 => ⟨rfl, spec_word "addi" a a d (by decide +kernel) sa sa _ _ fun w => ⟨by show 1 ≤ 1000; decide, hk [w] _ _ (by simp)⟩⟩⟩
  refine ⟨fun h => ?_, fun _ => ?_⟩
  · exact ⟨rfl, spec_word "set" a 0 0 (by decide +kernel) sa (by decide) _ _ fun w => ⟨rfl, spec_draw _ _ cs 300 (by decide) (by decide) _ _ fun d i j d0 d1 => ⟨by show 2 ≤ 1000; decide, hk [w, d] _ _ (by simp)⟩⟩⟩
  refine ⟨fun h => ?_, fun _ => ?_⟩
  · refine ⟨rfl, spec_draw _ _ cs (seen + 1) (by omega) (by omega) _ _ fun d i j d0 d1 => ⟨Or.inl ⟨by decide, by decide⟩, rfl, spec_draw _ _ cs 16 (by decide) (by decide) _ _ fun e i j e0 e1 => ?_⟩⟩
    refine ⟨by show 2 ≤ 1000; decide, ⟨rfl, spec_draw _ _ cs 2 (by decide) (by decide) _ _ fun d i j d0 d1 => ?_⟩⟩
    obtain ⟨x, hx, e⟩ := atI_mem (xs := [D.str "load", .str "store"]) d0 d1
    have : ∃ op : Str, x = .str op ∧ op ∈ opsL := by
      simp only [List.mem_cons, List.not_mem_nil, or_false] at hx
      rcases hx with z | z <;> exact ⟨_, z, by decide +kernel⟩
    obtain ⟨op, rfl, hop⟩ := this
    exact ⟨.str op, e, rfl, spec_word "set" 6 0 0 (by decide +kernel) (by decide) (by decide) _ _ fun w => ⟨rfl, spec_word op a 6 0 hop sa (by decide) _ _ fun w2 => ⟨by show 3 ≤ 1000; decide, hk [w, _, w2] _ _ (by simp)⟩⟩⟩
  refine ⟨fun h => ?_, fun _ => ?_⟩
  · refine ⟨rfl, spec_draw _ _ cs 4 (by decide) (by decide) _ _ fun ch i j c0 c1 => ?_⟩
    refine ⟨by show 6 ≤ 1000; decide, ⟨rfl, spec_draw _ _ cs 6 (by decide) (by decide) _ _ fun d i j d0 d1 => ?_⟩⟩
    obtain ⟨x, hx, e⟩ := atI_mem (xs := [D.int 1, .int 1, .int 2, .int 2, .int 3, .int 0]) d0 d1
    have : ∃ v : Int, x = .int v := by
      simp only [List.mem_cons, List.not_mem_nil, or_false] at hx
      rcases hx with z | z | z | z | z | z <;> exact ⟨_, z⟩
    obtain ⟨v, rfl⟩ := this
    exact ⟨.int v, e, rfl, spec_word "set" 0 0 0 (by decide +kernel) (by decide) (by decide) _ _ fun w => ⟨rfl, spec_word "call" 0 0 v (by decide +kernel) (by decide) (by decide) _ _ fun w2 => ⟨by show 3 ≤ 1000; decide, hk [w, ch, w2] _ _ (by simp)⟩⟩⟩
  refine ⟨fun h => ?_, fun _ => ?_⟩
  · refine ⟨by show 3 ≤ 1000; decide, ⟨rfl, spec_draw _ _ cs 3 (by decide) (by decide) _ _ fun d i j d0 d1 => ?_⟩⟩
    obtain ⟨x, hx, e⟩ := atI_mem (xs := [D.str "beq", .str "bne", .str "blt"]) d0 d1
    have : ∃ op : Str, x = .str op ∧ op ∈ opsL := by
      simp only [List.mem_cons, List.not_mem_nil, or_false] at hx
      rcases hx with z | z | z <;> exact ⟨_, z, by decide +kernel⟩
    obtain ⟨op, rfl, hop⟩ := this
    exact ⟨.str op, e, rfl, spec_draw _ _ cs 16 (by decide) (by decide) _ _ fun d i j d0 d1 => ⟨rfl, spec_word op a b d hop sa sb _ _ fun w => ⟨by show 1 ≤ 1000; decide, hk [w] _ _ (by simp)⟩⟩⟩
  refine ⟨fun _ => ⟨rfl, spec_draw _ _ cs 4 (by decide) (by decide) _ _ fun d i j d0 d1 => ⟨fun _ => ?_, fun _ => ?_⟩⟩, fun _ => ⟨fun z => (nomatch z), fun _ => ?_⟩⟩
  · refine ⟨rfl, spec_word "halt" 0 0 0 (by decide +kernel) (by decide) (by decide) _ _ fun w => ⟨rfl, spec_word "call" 0 0 9 (by decide +kernel) (by decide) (by decide) _ _ fun w2 => ⟨rfl, spec_draw _ _ cs 65536 (by decide) (by decide) _ _ fun d i j d0 d1 => ?_⟩⟩⟩
    refine ⟨by show 4 ≤ 1000; decide, rfl, spec_draw _ _ cs 4 (by decide) (by decide) _ _ fun q i j q0 q1 => ?_⟩
    obtain ⟨x, hx, e⟩ := atI_mem (xs := [D.int w, .int 65535, .int w2, .int d]) q0 q1
    have : ∃ v : Int, x = .int v := by
      simp only [List.mem_cons, List.not_mem_nil, or_false] at hx
      rcases hx with z | z | z | z <;> exact ⟨_, z⟩
    obtain ⟨v, rfl⟩ := this
    exact ⟨.int v, e, by show 1 ≤ 1000; decide, hk [v] _ _ (by simp)⟩
  all_goals
    refine ⟨fun _ => ?_, fun _ => ?_⟩
    · exact ⟨rfl, spec_word "set" 7 0 0 (by decide +kernel) (by decide) (by decide) _ _ fun w => ⟨rfl, spec_word "jump" 7 0 0 (by decide +kernel) (by decide) (by decide) _ _ fun w2 => ⟨by show 3 ≤ 1000; decide, hk [w, 0, w2] _ _ (by simp)⟩⟩⟩
    · exact ⟨rfl, spec_word "copy" 1 a 0 (by decide +kernel) (by decide) sa _ _ fun w => ⟨by show 1 ≤ 1000; decide, hk [w] _ _ (by simp)⟩⟩
end K30
end

section
set_option linter.all false
set_option maxRecDepth 100000
set_option pp.deepTerms false
namespace K30
open PySem L2 Evl Wv
theorem toDs_dat : ∀ (ds : List D), T.toDs (ds.map .dat) = ds
  | [] => rfl
  | d :: ds => by
    show d :: T.toDs (ds.map .dat) = _
    rw [toDs_dat ds]
theorem toD_dats (ds : List D) : (T.lst (ds.map .dat)).toD = .lst ds := by
  show D.lst (T.toDs _) = _
  rw [toDs_dat]
theorem lints_dints (l : List Int) : lints l = (dints l).map .dat := by simp [dints]
theorem toD_lints (l : List Int) : (T.lst (lints l)).toD = .lst (dints l) := by rw [lints_dints, toD_dats]
theorem dints_len (l : List Int) : (dints l).length = l.length := by simp [dints]
theorem spec_image (i j : Int) (cs : List Int) (pages seen : Int) (hp : 0 < pages) (hp2 : pages < 4) (hs : 0 ≤ seen) (hs2 : seen < 1000) (k : T → Roots → Prop) (kx : Exn → Roots → Prop) (hk : ∀ (l : List Int) i' j', (l.length : Int) ≤ 16 * pages → k (.lst (lints l)) [dst2 i' j']) :
    cLawImage [.ref 0 [], .dat (.ro (dints cs)), .dat (.int pages), .dat (.int seen)] [dst2 i j] k kx := by
  unfold cLawImage cwOf
  refine ⟨rfl, ?_⟩
  unfold wLawImage
  refine ⟨by show 0 ≤ 1000; decide, fun sl rt => ∃ (l : List Int) (i j : Int) (x y : Option Val), sl = [some (.ref 0 []), some (.dat (.ro (dints cs))), some (.dat (.int pages)), some (.dat (.int seen)), some (.dat (.lst (dints l))), x, y] ∧ (l.length : Int) ≤ 16 * pages - 3 ∧ rt = [dst2 i j], ?_, ?_⟩
  · refine ⟨rfl, spec_draw _ _ cs 12 (by decide) (by decide) _ _ fun d i j d0 d1 => ⟨by omega, by omega, ?_⟩⟩
    refine ⟨fun _ sl rt => ∃ (l : List Int) (i j : Int) (x y : Option Val), sl = [some (.ref 0 []), some (.dat (.ro (dints cs))), some (.dat (.int pages)), some (.dat (.int seen)), some (.dat (.lst (dints l))), x, y] ∧ (l.length : Int) ≤ 16 * pages - 3 ∧ rt = [dst2 i j], ⟨[], i, j, none, none, rfl, by simp; omega, rfl⟩, ?_, fun _ _ h => h⟩
    rintro m dd _ _ _ ⟨l, i, j, x, y, rfl, hl, rfl⟩
    refine ⟨rfl, spec_line _ _ cs seen hs hs2 _ _ fun l2 i j hl2 => ?_⟩
    simp only [toD_lints]
    refine ⟨Or.inl ⟨by decide, by decide⟩, fun h => ?_, fun _ => .inl ⟨l, i, j, _, _, rfl, hl, rfl⟩⟩
    have h : ((dints l).length : Int) + ((dints l2).length : Int) ≤ 16 * pages - 3 := of_decide_eq_true h
    rw [dints_len, dints_len] at h
    refine ⟨by rw [dints_len, dints_len]; omega, .inl ⟨l ++ l2, i, j, some (.dat dd), some (.dat (.lst (dints l2))), ?_, by simp; omega, rfl⟩⟩
    rw [toD_dats]
    simp [dints]
  · rintro _ _ ⟨l, i, j, x, y, rfl, hl, rfl⟩
    refine ⟨rfl, spec_word "set" 7 0 0 (by decide +kernel) (by decide) (by decide) _ _ fun w => ⟨rfl, spec_word "jump" 7 0 0 (by decide +kernel) (by decide) (by decide) _ _ fun w2 => ⟨by show 3 ≤ 1000; decide, ?_⟩⟩⟩
    refine ⟨by rw [dints_len]; show l.length + 3 ≤ 40000; omega, ?_⟩
    have e : T.lst ((dints l ++ [D.int w, .int 0, .int w2]).map .dat) = .lst (lints (l ++ [w, 0, w2])) := by simp [dints]
    exact cast (congrArg (fun t => k t [dst2 i j]) e.symm) (hk (l ++ [w, 0, w2]) i j (by simp; omega))
end K30
end

section
set_option linter.all false
set_option maxRecDepth 100000
set_option pp.deepTerms false
namespace K30
open PySem L2 Evl Wv
/-! the configuration as data -/
abbrev Pair := Int × Int
abbrev Fr := Option Int × Int
def prD (f : Pair) : D := .tpx [.int f.1, .int f.2]
def frD (f : Fr) : D := .tup [match f.1 with | some i => .int i | none => .non, .int f.2]
/-- a partition: its image, the number of its pages -/
def paD (p : List Int × Int) : D := .obj 0 [.tup (dints p.1), .int p.2, .int 0]
structure Cfg where
  ps : List (List Int × Int)
  fr : List Fr
  ch : List D
  sh : List Pair
  dv : List Int
  fl : List Pair
def Cfg.D (c : Cfg) : D := .obj 1 [.tup (c.ps.map paD), .tup (c.fr.map frD), .tup c.ch, .tup (c.sh.map prD), .tup (dints c.dv), .tup (c.fl.map prD)]
def rights (s : Pair) (p : Int) : Int := if p = s.1 then 3 else if p = s.2 then 1 else 0
theorem spec_rights (s : Pair) (p : Int) (k : T → Roots → Prop) (kx : Exn → Roots → Prop) (hk : k (.dat (.int (rights s p))) []) : cShareRights [.dat (prD s), .dat (.int p)] [] k kx := by
  unfold cShareRights cwOf
  refine ⟨rfl, ?_⟩
  unfold wShareRights
  unfold rights at hk
  refine ⟨rfl, fun h => ?_, fun h => ?_⟩
  · have h : p = s.1 := of_decide_eq_true h
    rw [if_pos h] at hk
    exact hk
  · have h : ¬ p = s.1 := of_decide_eq_false h
    rw [if_neg h] at hk
    refine ⟨fun h => ?_, fun h => ?_⟩
    · have h : p = s.2 := of_decide_eq_true h
      rw [if_pos h] at hk
      exact hk
    · have h : ¬ p = s.2 := of_decide_eq_false h
      rw [if_neg h] at hk
      exact hk
def ticks (fr : List Fr) : Int := (fr.map fun f => 256 + f.2).sum
theorem dats_dat : ∀ (ds : List D), dats (ds.map T.dat) = some ds
  | [] => rfl
  | d :: ds => by
    simp [dats, dats_dat ds]
theorem spec_ticks (fr : List Fr) (hl : fr.length < 1000) (k : T → Roots → Prop) (kx : Exn → Roots → Prop) (hk : k (.dat (.int (ticks fr))) []) : cTicksOf [.dat (.tup (fr.map frD))] [] k kx := by
  unfold cTicksOf cwOf
  refine ⟨rfl, ?_⟩
  unfold wTicksOf
  refine ⟨fun i acc rt => acc = lints ((fr.take i).map fun f => 256 + f.2) ∧ rt = [], ⟨rfl, rfl⟩, ?_, ?_⟩
  · rintro i d _ _ hd ⟨rfl, rfl⟩
    rw [List.getElem?_map] at hd
    obtain ⟨f, hf, rfl⟩ := Option.map_eq_some_iff.mp hd
    obtain ⟨hi, hfe⟩ := List.getElem?_eq_some_iff.mp hf
    refine ⟨by simp; omega, rfl, fun _ => ⟨?_, rfl⟩, fun h => (nomatch h)⟩
    rw [List.take_succ, hf]
    simp
  · rintro _ _ ⟨rfl, rfl⟩
    rw [List.length_map, List.take_length]
    show ∃ ns : List Int, listOf (.dat (T.lst (lints _)).toD) [] = some (ns.map .int) ∧ _
    rw [toD_lints]
    exact ⟨fr.map fun (f : Fr) => 256 + f.2, rfl, hk⟩
theorem spec_round (c : Cfg) (hl : c.fr.length < 1000) (k : T → Roots → Prop) (kx : Exn → Roots → Prop) (hk : k (.dat (.int (ticks c.fr))) []) : cRoundLength [.dat c.D] [] k kx := by
  unfold cRoundLength cwOf
  refine ⟨rfl, ?_⟩
  unfold wRoundLength
  exact ⟨rfl, spec_ticks c.fr hl _ _ hk⟩
theorem cut_map {α : Type} (g : α → D) (l : List α) (n : Nat) (h : n ≤ l.length) : cutD (l.map g) none (some (n : Int)) = (l.take n).map g := by
  unfold cutD
  rw [HT.sIx_none, HT.sIx_nat, List.length_map, Nat.min_eq_left h]
  simp [List.map_take]
/-- the tick at which a frame begins -/
def start (c : Cfg) (n : Int) : Int := n / (c.fr.length : Int) * ticks c.fr + ticks (c.fr.take (n % (c.fr.length : Int)).toNat) + 256
theorem spec_start (c : Cfg) (n : Int) (h0 : 0 < c.fr.length) (hl : c.fr.length < 1000) (hn0 : 0 ≤ n) (hn : n < 1000000000) (k : T → Roots → Prop) (kx : Exn → Roots → Prop) (hk : k (.dat (.int (start c n))) []) : cFrameStart [.dat c.D, .dat (.int n)] [] k kx := by
  unfold cFrameStart cwOf
  refine ⟨rfl, ?_⟩
  unfold wFrameStart
  have hlen : ((c.fr.map frD).length : Int) = c.fr.length := by simp
  have q0 : 0 ≤ n / (c.fr.length : Int) := Int.ediv_nonneg hn0 (by omega)
  have q1 : n / (c.fr.length : Int) ≤ n := Int.ediv_le_self _ hn0
  have r0 : 0 ≤ n % (c.fr.length : Int) := Int.emod_nonneg _ (by omega)
  have r1 : n % (c.fr.length : Int) < c.fr.length := Int.emod_lt_of_pos _ (by omega)
  refine ⟨⟨by rw [hlen]; omega, by rw [hlen]; omega⟩, rfl, rfl, spec_round c hl _ _ ?_⟩
  refine ⟨Or.inl ⟨by rw [hlen]; omega, by rw [hlen]; omega⟩, rfl, ?_⟩
  have e : ((c.fr.take (n % (c.fr.length : Int)).toNat).map frD) = cutD (c.fr.map frD) none (some (n % ((c.fr.map frD).length : Int))) := by
    rw [hlen, ← cut_map frD c.fr _ (by omega), Int.toNat_of_nonneg r0]
  have go := fun k kx h => spec_ticks (c.fr.take (n % (c.fr.length : Int)).toNat) (by rw [List.length_take]; omega) k kx h
  rw [e] at go
  refine go _ _ ?_
  have hk2 : k (.dat (.int (n / ((c.fr.map frD).length : Int) * ticks c.fr + ticks (c.fr.take (n % (c.fr.length : Int)).toNat) + 256))) [] := by
    rw [hlen]
    exact hk
  exact hk2
/-! python's view of pairs -/
def prP (f : Pair) : PyData := .tuple [.int f.1, .int f.2]
theorem pys_pr : ∀ (l : List Pair), D.pys (l.map prD) = some (l.map prP)
  | [] => rfl
  | f :: l => by
    have := pys_pr l
    simp only [List.map_cons, D.pys, this]
    rfl
theorem lay_pr : ∀ (l : List Pair), PyData.canLayAll0 (l.map prP) = true
  | [] => rfl
  | f :: l => by
    simp only [List.map_cons, PyData.canLayAll0, lay_pr l, Bool.and_true]
    rfl
theorem deep_pr : ∀ (l : List Pair), PyData.depthAll (l.map prP) ≤ 3
  | [] => by show 0 ≤ 3; decide
  | f :: l => by
    have := deep_pr l
    simp only [List.map_cons, PyData.depthAll]
    refine Nat.max_le.mpr ⟨?_, this⟩
    simp [prP, PyData.depth, PyData.depthAll]
theorem shaped_pr (l : List Pair) : SeqAt.shaped (.tuple (l.map prP)) = true := by
  unfold SeqAt.shaped
  rw [Bool.and_eq_true]
  refine ⟨lay_pr l, decide_eq_true ?_⟩
  have := deep_pr l
  simp only [PyData.depth]
  omega
theorem any_pr (s t : Int) : ∀ (l : List Pair), ((l.map prP).any fun z => PyData.eqv z (.tuple [.int s, .int t])) = decide ((s, t) ∈ l)
  | [] => by simp
  | f :: l => by
    have := any_pr s t l
    simp only [List.map_cons, List.any_cons, this]
    obtain ⟨a, b⟩ := f
    simp only [prP, PyData.eqv, PyData.eqvAll, Bool.and_true]
    rw [Bool.eq_iff_iff]
    simp only [Bool.or_eq_true, Bool.and_eq_true, beq_iff_eq, decide_eq_true_eq, Prod.mk.injEq, List.mem_cons]
    constructor
    · rintro (⟨h1, h2⟩ | h)
      · exact .inl ⟨h1.symm, h2.symm⟩
      · exact .inr h
    · rintro (⟨h1, h2⟩ | h)
      · exact .inl ⟨h1.symm, h2.symm⟩
      · exact .inr h
theorem spec_may (c : Cfg) (s t : Int) (k : T → Roots → Prop) (kx : Exn → Roots → Prop) (hk : k (.dat (.bool (decide (s = t) || decide ((s, t) ∈ c.fl)))) []) : cMayFlow [.dat c.D, .dat (.int s), .dat (.int t)] [] k kx := by
  unfold cMayFlow cwOf
  refine ⟨rfl, ?_⟩
  unfold wMayFlow
  refine ⟨decide ((s, t) ∈ c.fl), fun _ => ⟨by show 2 ≤ 1000; decide, ?_⟩, hk⟩
  refine ⟨.tuple [.int s, .int t], c.fl.map prP, rfl, pys_pr c.fl, by rfl, (by show 1 ≤ 32; decide), shaped_pr c.fl, ?_, rfl⟩
  rw [any_pr]
end K30
end

section
set_option linter.all false
set_option maxRecDepth 100000
set_option pp.deepTerms false
namespace K30
open PySem L2 Evl Wv
/-! the pages that a partition sees -/
def ownD (k : Nat) : D := .tup [.str "own", .int (k : Nat), .int 7]
def shareD (p : Int) (q : Pair × Nat) : Option D := if rights q.1 p > 0 then some (.tup [.str "share", .int (q.2 : Nat), .int (rights q.1 p)]) else none
def deviceD (p : Int) (q : Int × Nat) : Option D := if q.1 = p then some (.tup [.str "device", .int (q.2 : Nat), .int 1]) else none
def fm {α : Type} (f : α × Nat → Option D) (l : List α) (i : Nat) : List D := (l.zipIdx.take i).filterMap f
theorem fm_succ {α : Type} {f : α × Nat → Option D} {l : List α} {i : Nat} {s : α} (h : l[i]? = some s) : fm f l (i + 1) = fm f l i ++ (f (s, i)).toList := by
  unfold fm
  rw [List.take_succ, List.filterMap_append, List.getElem?_zipIdx, h]
  cases hq : f (s, i) <;> simp [hq]
def own (n : Int) : List D := (List.range n.toNat).map ownD
def pagesL (c : Cfg) (p n : Int) : List D := own n ++ fm (shareD p) c.sh c.sh.length ++ fm (deviceD p) c.dv c.dv.length
theorem idx_at {α : Type} {l : List α} {i : Nat} {x : α} (h : l[i]? = some x) : atI l (i : Int) = some x := by
  obtain ⟨hl, e⟩ := List.getElem?_eq_some_iff.mp h
  unfold atI ixN
  rw [if_pos (by omega), if_pos (by omega)]
  simpa using h
theorem fm_len {α : Type} (f : α × Nat → Option D) (l : List α) (i : Nat) : (fm f l i).length ≤ l.length := by
  unfold fm
  refine Nat.le_trans (List.length_filterMap_le _ _) ?_
  rw [List.length_take, List.length_zipIdx]
  omega
theorem spec_pagemap (c : Cfg) (p : Nat) (im : List Int) (n : Int) (hp : c.ps[p]? = some (im, n)) (hn0 : 0 ≤ n) (hn : n < 10) (hsh : c.sh.length < 100) (hdv : c.dv.length < 100) (k : T → Roots → Prop) (kx : Exn → Roots → Prop)
    (hk : k (.lst ((pagesL c p n).map .dat)) []) : cPageMap [.dat c.D, .dat (.int (p : Nat))] [] k kx := by
  unfold cPageMap cwOf
  refine ⟨rfl, ?_⟩
  unfold wPageMap
  have hat : atI (c.ps.map paD) (p : Int) = some (paD (im, n)) := idx_at (by rw [List.getElem?_map, hp]; rfl)
  refine ⟨paD (im, n), hat, ?_⟩
  refine ⟨by omega, by omega, fun i acc rt => acc = ((List.range i).map ownD).map .dat ∧ rt = [], ⟨rfl, rfl⟩, ?_, ?_⟩
  · rintro i d _ _ hd ⟨rfl, rfl⟩
    rw [List.getElem?_map] at hd
    obtain ⟨m, hm, rfl⟩ := Option.map_eq_some_iff.mp hd
    obtain ⟨hi, rfl⟩ := List.getElem?_eq_some_iff.mp hm
    have hi' : i < n.toNat := by simpa using hi
    refine ⟨by simp; omega, fun _ => ⟨by show 3 ≤ 1000; decide, ?_, rfl⟩, fun h => (nomatch h)⟩
    rw [List.range_succ, List.map_append, List.map_append]
    simp [ownD]
  · rintro _ _ ⟨rfl, rfl⟩
    rw [List.length_map, List.length_range]
    have hol : (own n).length = n.toNat := by simp [own]
    refine ⟨fun sl rt => ∃ x3 x4 x5 : Option Val, sl = [some (.dat c.D), some (.dat (.int (p : Nat))), some (.ref 0 []), x3, x4, x5, none] ∧ rt = [.lst ((own n ++ fm (shareD p) c.sh c.sh.length).map .dat)], ?_, ?_⟩
    · refine ⟨fun i sl rt => ∃ x3 x4 x5 : Option Val, sl = [some (.dat c.D), some (.dat (.int (p : Nat))), some (.ref 0 []), x3, x4, x5, none] ∧ rt = [.lst ((own n ++ fm (shareD p) c.sh i).map .dat)], ⟨none, none, none, rfl, by simp [fm, own]⟩, ?_, ?_⟩
      · rintro i d _ _ hd ⟨x3, x4, x5, rfl, rfl⟩
        rw [List.getElem?_map, List.getElem?_zipIdx, List.getElem?_map] at hd
        obtain ⟨⟨s', i'⟩, hs, rfl⟩ := Option.map_eq_some_iff.mp hd
        cases hq : c.sh[i]? with
        | none => rw [hq] at hs; cases hs
        | some s =>
          rw [hq] at hs
          have e : (prD s, 0 + i) = (s', i') := Option.some.inj hs
          rw [Nat.zero_add] at e
          cases e
          have hsucc := fm_succ (f := shareD p) hq
          refine ⟨rfl, rfl, spec_rights s p _ _ ⟨fun h => ?_, fun h => ?_⟩⟩
          · have h : rights s p > 0 := of_decide_eq_true h
            refine ⟨by show 3 ≤ 1000; decide, ?_, .inl ⟨_, _, _, rfl, ?_⟩⟩
            · have := fm_len (shareD p) c.sh i
              simp only [List.length_map, List.length_append, hol]
              omega
            · have e : (shareD p (s, i)).toList = [.tup [.str "share", .int (i : Nat), .int (rights s p)]] := by simp [shareD, h]
              rw [hsucc, e, ← List.append_assoc, List.map_append (l₁ := own n ++ fm (shareD p) c.sh i)]
              rfl
          · have h : ¬ rights s p > 0 := of_decide_eq_false h
            refine .inl ⟨_, _, _, rfl, ?_⟩
            have e : (shareD p (s, i)).toList = [] := by simp [shareD, h]
            rw [hsucc, e, List.append_nil]
            rfl
      · rintro _ _ ⟨x3, x4, x5, rfl, rfl⟩
        exact ⟨x3, x4, x5, rfl, by simp⟩
    · rintro _ _ ⟨x3, x4, x5, rfl, rfl⟩
      have hfl := fm_len (shareD p) c.sh c.sh.length
      refine ⟨fun sl rt => ∃ x3 x4 x5 x6 : Option Val, sl = [some (.dat c.D), some (.dat (.int (p : Nat))), some (.ref 0 []), x3, x4, x5, x6] ∧ rt = [.lst ((pagesL c p n).map .dat)], ?_, ?_⟩
      · refine ⟨fun i sl rt => ∃ x3 x4 x5 x6 : Option Val, sl = [some (.dat c.D), some (.dat (.int (p : Nat))), some (.ref 0 []), x3, x4, x5, x6] ∧ rt = [.lst ((own n ++ fm (shareD p) c.sh c.sh.length ++ fm (deviceD p) c.dv i).map .dat)], ⟨x3, x4, x5, none, rfl, by simp [fm]⟩, ?_, ?_⟩
        · rintro i d _ _ hd ⟨x3, x4, x5, x6, rfl, rfl⟩
          unfold dints at hd
          rw [List.getElem?_map, List.getElem?_zipIdx, List.getElem?_map] at hd
          obtain ⟨⟨s', i'⟩, hs, rfl⟩ := Option.map_eq_some_iff.mp hd
          cases hq : c.dv[i]? with
          | none => rw [hq] at hs; cases hs
          | some s =>
            rw [hq] at hs
            have e : (D.int s, 0 + i) = (s', i') := Option.some.inj hs
            rw [Nat.zero_add] at e
            cases e
            have hsucc := fm_succ (f := deviceD p) hq
            refine ⟨rfl, fun h => ?_, fun h => ?_⟩
            · have h : s = (p : Int) := of_decide_eq_true h
              refine ⟨by show 3 ≤ 1000; decide, ?_, .inl ⟨_, _, _, _, rfl, ?_⟩⟩
              · have := fm_len (deviceD p) c.dv i
                simp only [List.length_map, List.length_append, hol]
                omega
              · have e : (deviceD p (s, i)).toList = [.tup [.str "device", .int (i : Nat), .int 1]] := by simp [deviceD, h]
                rw [hsucc, e, ← List.append_assoc, List.map_append (l₁ := own n ++ fm (shareD p) c.sh c.sh.length ++ fm (deviceD p) c.dv i)]
                rfl
            · have h : ¬ s = (p : Int) := of_decide_eq_false h
              refine .inl ⟨_, _, _, _, rfl, ?_⟩
              have e : (deviceD p (s, i)).toList = [] := by simp [deviceD, h]
              rw [hsucc, e, List.append_nil]
        · rintro _ _ ⟨x3, x4, x5, x6, rfl, rfl⟩
          exact ⟨x3, x4, x5, x6, rfl, by simp [pagesL, dints]⟩
      · rintro _ _ ⟨x3, x4, x5, x6, rfl, rfl⟩
        exact ⟨Nat.le_refl _, hk⟩
end K30
end

section
set_option linter.all false
set_option maxRecDepth 100000
set_option pp.deepTerms false
namespace K30
open PySem L2 Evl Wv
theorem in_pair (s : Pair) (p : Int) : inV (.int p) [.int s.1, .int s.2] = decide (p = s.1 ∨ p = s.2) := by
  show (eqV (.int s.1) (.int p) || (eqV (.int s.2) (.int p) || false)) = _
  show ((s.1 == p) || ((s.2 == p) || false)) = _
  rw [Bool.eq_iff_iff]
  simp only [Bool.or_eq_true, beq_iff_eq, decide_eq_true_eq, Bool.false_eq_true, or_false]
  constructor
  · rintro (h | h)
    · exact .inl h.symm
    · exact .inr h.symm
  · rintro (h | h)
    · exact .inl h.symm
    · exact .inr h.symm
theorem spec_lawpages (c : Cfg) (p : Nat) (im : List Int) (n : Int) (hp : c.ps[p]? = some (im, n)) (hn0 : 0 ≤ n) (hn : n < 10) (hsh : c.sh.length < 100) (hdv : c.dv.length < 100) (k : T → Roots → Prop) (kx : Exn → Roots → Prop)
    (hk : k (.lst ((pagesL c p n).map .dat)) []) : cLawPages [.dat c.D, .dat (.int (p : Nat))] [] k kx := by
  unfold cLawPages cwOf
  refine ⟨rfl, ?_⟩
  unfold wLawPages
  have hat : atI (c.ps.map paD) (p : Int) = some (paD (im, n)) := idx_at (by rw [List.getElem?_map, hp]; rfl)
  have hol : (own n).length = n.toNat := by simp [own]
  refine ⟨by show 0 ≤ 1000; decide, fun sl rt => ∃ x3 : Option Val, sl = [some (.dat c.D), some (.dat (.int (p : Nat))), some (.ref 0 []), x3] ∧ rt = [.lst ((own n).map .dat)], ?_, ?_⟩
  · refine ⟨paD (im, n), hat, by omega, by omega, ?_⟩
    refine ⟨fun i sl rt => ∃ x3 : Option Val, sl = [some (.dat c.D), some (.dat (.int (p : Nat))), some (.ref 0 []), x3] ∧ rt = [.lst (((List.range i).map ownD).map .dat)], ⟨none, rfl, rfl⟩, ?_, ?_⟩
    · rintro i d _ _ hd ⟨x3, rfl, rfl⟩
      rw [List.getElem?_map] at hd
      obtain ⟨m, hm, rfl⟩ := Option.map_eq_some_iff.mp hd
      obtain ⟨hi, rfl⟩ := List.getElem?_eq_some_iff.mp hm
      have hi' : i < n.toNat := by simpa using hi
      refine ⟨by show 3 ≤ 1000; decide, by simp; omega, .inl ⟨_, rfl, ?_⟩⟩
      rw [List.range_succ, List.map_append (l₁ := List.range i), List.map_append (l₁ := (List.range i).map ownD)]
      simp [ownD]
      rfl
    · rintro _ _ ⟨x3, rfl, rfl⟩
      exact ⟨x3, rfl, by simp [own]⟩
  · rintro _ _ ⟨x3, rfl, rfl⟩
    have hsl : ((c.sh.map prD).length : Int).toNat = c.sh.length := by simp
    refine ⟨fun sl rt => ∃ x3 : Option Val, sl = [some (.dat c.D), some (.dat (.int (p : Nat))), some (.ref 0 []), x3] ∧ rt = [.lst ((own n ++ fm (shareD p) c.sh c.sh.length).map .dat)], ?_, ?_⟩
    · refine ⟨by simp <;> omega, by simp <;> omega, fun i sl rt => ∃ x3 : Option Val, sl = [some (.dat c.D), some (.dat (.int (p : Nat))), some (.ref 0 []), x3] ∧ rt = [.lst ((own n ++ fm (shareD p) c.sh i).map .dat)], ⟨x3, rfl, by simp [fm, own]⟩, ?_, ?_⟩
      · rintro i d _ _ hd ⟨x3, rfl, rfl⟩
        rw [hsl, List.getElem?_map] at hd
        obtain ⟨m, hm, rfl⟩ := Option.map_eq_some_iff.mp hd
        obtain ⟨hi, rfl⟩ := List.getElem?_eq_some_iff.mp hm
        have hi' : i < c.sh.length := by simpa using hi
        have hq : c.sh[i]? = some c.sh[i] := List.getElem?_eq_getElem hi'
        have hsucc := fm_succ (f := shareD p) hq
        generalize c.sh[i] = s at hq hsucc
        have hat2 : atI (c.sh.map prD) (((List.range c.sh.length)[i] : Nat) : Int) = some (prD s) := by
          rw [List.getElem_range]
          exact idx_at (by simp [hq])
        have hfl := fm_len (shareD p) c.sh i
        refine ⟨prD s, hat2, rfl, rfl, fun h => ?_, fun h => ?_⟩
        · have h : inV (.int p) [.int s.1, .int s.2] = true := h
          rw [in_pair] at h
          have h := of_decide_eq_true h
          have fin : ∀ v : Int, v = rights s p → v > 0 → Fg 1 (fun sl rt => ∃ x3 : Option Val, sl = [some (.dat c.D), some (.dat (.int (p : Nat))), some (.ref 0 []), x3] ∧ rt = [.lst ((own n ++ fm (shareD p) c.sh (i + 1)).map .dat)])
              [some (.dat c.D), some (.dat (.int (p : Nat))), some (.ref 0 []), some (.dat (.int (((List.range c.sh.length)[i] : Nat) : Int)))] [.lst ((own n ++ fm (shareD p) c.sh i).map .dat ++ [.dat (.tup [.str "share", .int (((List.range c.sh.length)[i] : Nat) : Int), .int v])])] := fun v hv hv0 => by
            refine .inl ⟨_, rfl, ?_⟩
            have e : (shareD p (s, i)).toList = [.tup [.str "share", .int (i : Nat), .int (rights s p)]] := by simp [shareD, ← hv, hv0]
            rw [hsucc, e, ← List.append_assoc, List.map_append (l₁ := own n ++ fm (shareD p) c.sh i), hv, List.getElem_range]
            rfl
          by_cases h1 : (p : Int) = s.1
          · refine ⟨by show 2 ≤ 1000; decide, prD s, hat2, rfl, rfl, 0, ⟨⟨.int s.1, rfl, by simp [D.sc, h1]⟩, fun m z hm => absurd hm (Nat.not_lt_zero _)⟩, .int 3, rfl, by show 3 ≤ 1000; decide, ?_, fin 3 (by simp [rights, h1]) (by decide)⟩
            simp only [List.length_map, List.length_append, hol]
            omega
          · have h2 : (p : Int) = s.2 := h.resolve_left h1
            refine ⟨by show 2 ≤ 1000; decide, prD s, hat2, rfl, rfl, 1, ⟨⟨.int s.2, rfl, by simp [D.sc, h2]⟩, fun m z hm hz => ?_⟩, .int 1, rfl, by show 3 ≤ 1000; decide, ?_, fin 1 (by unfold rights; rw [if_neg h1, if_pos h2]) (by decide)⟩
            · have hm0 : m = 0 := by omega
              subst hm0
              have hz : some (D.int s.1) = some z := hz
              cases hz
              simp [D.sc, Ne.symm h1]
            · simp only [List.length_map, List.length_append, hol]
              omega
        · have h : inV (.int p) [.int s.1, .int s.2] = false := h
          rw [in_pair] at h
          have h := of_decide_eq_false h
          have h1 : ¬ (p : Int) = s.1 := fun z => h (.inl z)
          have h2 : ¬ (p : Int) = s.2 := fun z => h (.inr z)
          refine .inl ⟨_, rfl, ?_⟩
          have e : (shareD p (s, i)).toList = [] := by simp [shareD, rights, h1, h2]
          rw [hsucc, e, List.append_nil]
      · rintro _ _ ⟨x3, rfl, rfl⟩
        exact ⟨x3, rfl, by simp⟩
    · rintro _ _ ⟨x3, rfl, rfl⟩
      have hfl := fm_len (shareD p) c.sh c.sh.length
      have hdl : ((dints c.dv).length : Int).toNat = c.dv.length := by simp [dints]
      refine ⟨fun sl rt => ∃ x3 : Option Val, sl = [some (.dat c.D), some (.dat (.int (p : Nat))), some (.ref 0 []), x3] ∧ rt = [.lst ((pagesL c p n).map .dat)], ?_, ?_⟩
      · refine ⟨by simp [dints] <;> omega, by simp <;> omega, fun i sl rt => ∃ x3 : Option Val, sl = [some (.dat c.D), some (.dat (.int (p : Nat))), some (.ref 0 []), x3] ∧ rt = [.lst ((own n ++ fm (shareD p) c.sh c.sh.length ++ fm (deviceD p) c.dv i).map .dat)], ⟨x3, rfl, by simp [fm]⟩, ?_, ?_⟩
        · rintro i d _ _ hd ⟨x3, rfl, rfl⟩
          rw [hdl, List.getElem?_map] at hd
          obtain ⟨m, hm, rfl⟩ := Option.map_eq_some_iff.mp hd
          obtain ⟨hi, rfl⟩ := List.getElem?_eq_some_iff.mp hm
          have hi' : i < c.dv.length := by simpa using hi
          have hq : c.dv[i]? = some c.dv[i] := List.getElem?_eq_getElem hi'
          have hsucc := fm_succ (f := deviceD p) hq
          generalize c.dv[i] = s at hq hsucc
          have hat2 : atI (dints c.dv) (((List.range c.dv.length)[i] : Nat) : Int) = some (.int s) := by
            rw [List.getElem_range]
            exact idx_at (by simp [dints, hq])
          have hfd := fm_len (deviceD p) c.dv i
          refine ⟨.int s, hat2, fun h => ?_, fun h => ?_⟩
          · have h : s = (p : Int) := of_decide_eq_true h
            refine ⟨by show 3 ≤ 1000; decide, ?_, .inl ⟨_, rfl, ?_⟩⟩
            · simp only [List.length_map, List.length_append, hol]
              omega
            · have e : (deviceD p (s, i)).toList = [.tup [.str "device", .int (i : Nat), .int 1]] := by simp [deviceD, h]
              rw [hsucc, e, ← List.append_assoc, List.map_append (l₁ := own n ++ fm (shareD p) c.sh c.sh.length ++ fm (deviceD p) c.dv i), List.getElem_range]
              rfl
          · have h : ¬ s = (p : Int) := of_decide_eq_false h
            refine .inl ⟨_, rfl, ?_⟩
            have e : (deviceD p (s, i)).toList = [] := by simp [deviceD, h]
            rw [hsucc, e, List.append_nil]
        · rintro _ _ ⟨x3, rfl, rfl⟩
          exact ⟨x3, rfl, by simp [pagesL, dints]⟩
      · rintro _ _ ⟨x3, rfl, rfl⟩
        exact ⟨Nat.le_refl _, hk⟩
end K30
end

section
set_option linter.all false
set_option maxRecDepth 100000
set_option pp.deepTerms false
namespace K30
open PySem L2 Evl Wv
abbrev bools (l : List Bool) : List T := l.map fun b => .dat (.bool b)
def relax1 (b : List Bool) (f : Pair) : List Bool := if b[f.2.toNat]? = some true then b.set f.1.toNat true else b
def relax (b : List Bool) (fl : List Pair) : List Bool := fl.foldl relax1 b
def rounds (fl : List Pair) (b : List Bool) : Nat → List Bool
  | 0 => b
  | m + 1 => relax (rounds fl b m) fl
theorem relax1_len (b : List Bool) (f : Pair) : (relax1 b f).length = b.length := by
  unfold relax1
  split <;> simp
theorem relax_len : ∀ (fl : List Pair) (b : List Bool), (relax b fl).length = b.length
  | [], _ => rfl
  | f :: fl, b => by
    show (relax (relax1 b f) fl).length = _
    rw [relax_len fl, relax1_len]
theorem rounds_len (fl : List Pair) (b : List Bool) : ∀ m, (rounds fl b m).length = b.length
  | 0 => rfl
  | m + 1 => by
    show (relax _ fl).length = _
    rw [relax_len, rounds_len fl b m]
theorem relax_succ {fl : List Pair} {b : List Bool} {i : Nat} {f : Pair} (h : fl[i]? = some f) : relax b (fl.take (i + 1)) = relax1 (relax b (fl.take i)) f := by
  unfold relax
  rw [List.take_succ, h, List.foldl_append]
  rfl
def FlOk (n : Nat) (fl : List Pair) : Prop := ∀ f ∈ fl, 0 ≤ f.1 ∧ f.1 < n ∧ 0 ≤ f.2 ∧ f.2 < n
def init (n : Nat) (t : Int) : List Bool := (List.range n).map fun (p : Nat) => decide ((p : Int) = t)
def reachL (c : Cfg) (t : Int) : List Nat := (List.range c.ps.length).filter fun p => (rounds c.fl (init c.ps.length t) c.ps.length)[p]?.getD false
theorem ixN_nat {n : Nat} {i : Int} (h0 : 0 ≤ i) (h1 : i < n) : ixN n i = some i.toNat := by
  unfold ixN
  rw [if_pos h0, if_pos h1]
theorem spec_lawreach (c : Cfg) (t : Int) (hn : c.ps.length < 100) (hf : FlOk c.ps.length c.fl) (k : T → Roots → Prop) (kx : Exn → Roots → Prop)
    (hk : k (.lst ((reachL c t).map fun p => .dat (.int (p : Nat)))) []) : cLawReach [.dat c.D, .dat (.int t)] [] k kx := by
  unfold cLawReach cwOf
  refine ⟨rfl, ?_⟩
  unfold wLawReach
  have hpl : ((c.ps.map paD).length : Int).toNat = c.ps.length := by simp
  have hil : (init c.ps.length t).length = c.ps.length := by simp [init]
  refine ⟨by simp <;> omega, by simp <;> omega, fun i acc rt => acc = bools ((init c.ps.length t).take i) ∧ rt = [], ⟨by simp, rfl⟩, ?_, ?_⟩
  · rintro i d _ _ hd ⟨rfl, rfl⟩
    rw [hpl, List.getElem?_map] at hd
    obtain ⟨m, hm, rfl⟩ := Option.map_eq_some_iff.mp hd
    obtain ⟨hi, rfl⟩ := List.getElem?_eq_some_iff.mp hm
    have hi' : i < c.ps.length := by simpa using hi
    refine ⟨by simp; omega, fun _ => ⟨?_, rfl⟩, fun h => (nomatch h)⟩
    rw [List.take_succ]
    simp [init, hi', List.getElem?_eq_getElem]
  · rintro _ _ ⟨rfl, rfl⟩
    rw [List.length_map, hpl, List.length_range]
    rw [show (init c.ps.length t).take c.ps.length = init c.ps.length t from List.take_of_length_le (Nat.le_of_eq hil)]
    refine ⟨fun sl rt => ∃ x3 x4 x5 x6 : Option Val, sl = [some (.dat c.D), some (.dat (.int t)), some (.ref 0 []), x3, x4, x5, x6] ∧ rt = [.lst (bools (rounds c.fl (init c.ps.length t) c.ps.length))], ?_, ?_⟩
    · refine ⟨by simp <;> omega, by simp <;> omega, fun m sl rt => ∃ x3 x4 x5 x6 : Option Val, sl = [some (.dat c.D), some (.dat (.int t)), some (.ref 0 []), x3, x4, x5, x6] ∧ rt = [.lst (bools (rounds c.fl (init c.ps.length t) m))], ⟨none, none, none, none, rfl, rfl⟩, ?_, ?_⟩
      · rintro m d _ _ _ ⟨x3, x4, x5, x6, rfl, rfl⟩
        generalize hb0 : rounds c.fl (init c.ps.length t) m = b0
        have hbl : b0.length = c.ps.length := by rw [← hb0, rounds_len, hil]
        refine ⟨fun i sl rt => ∃ x3 x4 x5 x6 : Option Val, sl = [some (.dat c.D), some (.dat (.int t)), some (.ref 0 []), x3, x4, x5, x6] ∧ rt = [.lst (bools (relax b0 (c.fl.take i)))], ⟨x3, some (.dat d), x5, x6, rfl, rfl⟩, ?_, ?_⟩
        · rintro i d _ _ hd ⟨x3, x4, x5, x6, rfl, rfl⟩
          rw [List.getElem?_map] at hd
          obtain ⟨f, hq, rfl⟩ := Option.map_eq_some_iff.mp hd
          have hfo := hf f (List.mem_of_getElem? hq)
          have hs := relax_succ (b := b0) hq
          generalize hb1 : relax b0 (c.fl.take i) = b1 at hs
          have hl1 : b1.length = c.ps.length := by rw [← hb1, relax_len, hbl]
          have l2 : f.2.toNat < b1.length := by omega
          refine ⟨rfl, f.2.toNat, .dat (.bool b1[f.2.toNat]), ?_, ?_, fun h => ?_, fun h => ?_⟩
          · rw [List.length_map, ixN_nat hfo.2.2.1 (by omega)]
          · simp [l2]
          · have h : b1[f.2.toNat] = true := h
            have l1 : f.1.toNat < b1.length := by omega
            refine ⟨f.1.toNat, .dat (.bool b1[f.1.toNat]), ?_, by simp [l1], rfl, .inl ⟨x3, x4, _, _, rfl, ?_⟩⟩
            · rw [List.length_map, ixN_nat hfo.1 (by omega)]
            · rw [hs]
              have e : relax1 b1 f = b1.set f.1.toNat true := by
                unfold relax1
                rw [if_pos (by rw [List.getElem?_eq_getElem l2, h])]
              rw [e]
              show [T.lst ((bools b1).set f.1.toNat (.dat (.bool true)))] = _
              simp [List.map_set]
          · have h : b1[f.2.toNat] = false := h
            refine .inl ⟨x3, x4, _, _, rfl, ?_⟩
            rw [hs]
            have e : relax1 b1 f = b1 := by
              unfold relax1
              rw [if_neg (by rw [List.getElem?_eq_getElem l2, h]; simp)]
            rw [e]
        · rintro _ _ ⟨x3, x4, x5, x6, rfl, rfl⟩
          refine .inl ⟨x3, x4, x5, x6, rfl, ?_⟩
          rw [List.length_map, List.take_length, ← hb0]
          rfl
      · rintro _ _ ⟨x3, x4, x5, x6, rfl, rfl⟩
        exact ⟨x3, x4, x5, x6, rfl, by simp⟩
    · rintro _ _ ⟨x3, x4, x5, x6, rfl, rfl⟩
      generalize hB : rounds c.fl (init c.ps.length t) c.ps.length = B at *
      have hBl : B.length = c.ps.length := by rw [← hB, rounds_len, hil]
      have hbt : (((bools B).length : Int)).toNat = c.ps.length := by simp [hBl]
      refine ⟨by simp [hBl] <;> omega, by simp <;> omega, fun i acc rt => acc = ((List.range i).filter fun p => B[p]?.getD false).map (fun p => .dat (.int (p : Nat))) ∧ rt = [.lst (bools B)], ⟨rfl, rfl⟩, ?_, ?_⟩
      · rintro i d _ _ hd ⟨rfl, rfl⟩
        rw [hbt, List.getElem?_map] at hd
        obtain ⟨m, hm, rfl⟩ := Option.map_eq_some_iff.mp hd
        obtain ⟨hi, rfl⟩ := List.getElem?_eq_some_iff.mp hm
        have hi' : i < c.ps.length := by simpa using hi
        have lB : i < B.length := by omega
        have hfl : ((List.range i).filter fun p => B[p]?.getD false).length ≤ i := by
          have := List.length_filter_le (fun p => B[p]?.getD false) (List.range i)
          simpa using this
        refine ⟨by rw [List.length_map]; omega, i, .dat (.bool B[i]), ?_, by simp [lB], fun h => ?_, fun h => ?_⟩
        · rw [List.length_map, List.getElem_range, ixN_nat (by omega) (by omega)]
          simp
        · have h : B[i] = true := h
          refine ⟨?_, rfl⟩
          rw [List.range_succ, List.filter_append, List.map_append]
          simp [List.getElem?_eq_getElem lB, h]
        · have h : B[i] = false := h
          refine ⟨?_, rfl⟩
          rw [List.range_succ, List.filter_append, List.map_append]
          simp [List.getElem?_eq_getElem lB, h]
      · rintro _ _ ⟨rfl, rfl⟩
        rw [List.length_map, hbt, List.length_range]
        unfold reachL at hk
        rw [hB] at hk
        exact hk
end K30
end

section
set_option linter.all false
set_option maxRecDepth 100000
set_option pp.deepTerms false
namespace K30
open PySem L2 Evl Wv
inductive Reach (fl : List Pair) (t : Int) : Int → Prop
  | here : Reach fl t t
  | step {p q : Int} (h : (p, q) ∈ fl) (r : Reach fl t q) : Reach fl t p
theorem seq_ints (l : List Int) : seqOf (.ref 0 []) [.lst (lints l)] = some (dints l) := by
  show (match tat [T.lst (lints l)] 0 [] with | some (.lst ts) => dats ts | _ => none) = _
  rw [lints_dints]
  show dats ((dints l).map .dat) = _
  exact dats_dat _
theorem flat_ints : ∀ (l : List Int), (dints l).all D.flat = true
  | [] => rfl
  | i :: l => flat_ints l
theorem in_ints (s : Int) : ∀ (l : List Int), inV (.int s) ((dints l).map D.v) = decide (s ∈ l)
  | [] => by simp [inV, dints]
  | i :: l => by
    have := in_ints s l
    show ((i == s) || inV (.int s) ((dints l).map D.v)) = _
    rw [this, Bool.eq_iff_iff]
    simp only [Bool.or_eq_true, beq_iff_eq, decide_eq_true_eq, List.mem_cons]
    exact or_congr_left eq_comm
theorem sin_step (l : List Int) (s : Int) (k : D → Prop) (h : k (.bool (!decide (s ∈ l)))) : sIn true (.dat (.int s)) (.ref 0 []) [.lst (lints l)] k := by
  unfold sIn
  rw [seq_ints]
  refine ⟨rfl, flat_ints l, ?_⟩
  show k (.bool (!inV (.int s) ((dints l).map D.v)))
  rw [in_ints]
  exact h
theorem test_in {sl : Slots} {ex : Exn → Slots → Roots → Prop} {l : List Int} {s : Int} {kk : Bool → Roots → Prop} (h4 : sl[4]? = some (some (.dat (.int s)))) (h2 : sl[2]? = some (some (.ref 0 []))) (h : kk (!decide (s ∈ l)) [.lst (lints l)]) :
    wB (wBin (sIn true) (wVar 4) (wVar 2)) ⟨sl, ex⟩ [.lst (lints l)] kk := by
  unfold wB wBin wVar
  simp only [h4, h2]
  exact sin_step l s _ h
theorem list_ints (l : List Int) : listOf (.ref 0 []) [.lst (lints l)] = some (dints l) := seq_ints l
theorem intsD_dints : ∀ (l : List Int), intsD (dints l) = some l
  | [] => rfl
  | i :: l => by
    show (intsD (dints l)).map (i :: ·) = _
    rw [intsD_dints l]
    rfl
theorem sorted_step {sl : Slots} {ex : Exn → Slots → Roots → Prop} {l : List Int} {kk : T → Roots → Prop} (h2 : sl[2]? = some (some (.ref 0 []))) (hl : l.length < 64) (h : ∀ ns' : List Int, ns'.Perm l → ns'.Pairwise (· ≤ ·) → kk (.lst (lints ns')) [.lst (lints l)]) :
    wSorted (wCons (wVar 2) wNil) ⟨sl, ex⟩ [.lst (lints l)] kk := by
  unfold wSorted wCons wNil wVar
  simp only [h2]
  show (match listOf (.ref 0 []) [.lst (lints l)] with | some ds => _ | none => False)
  rw [list_ints]
  exact ⟨l, intsD_dints l, hl, h⟩
theorem nodup_le : ∀ {n : Nat} {l : List Int}, l.Nodup → (∀ p ∈ l, 0 ≤ p ∧ p < (n : Int)) → l.length ≤ n
  | 0, l, nd, h => by
    cases l with
    | nil => simp
    | cons a l =>
      have := h a List.mem_cons_self
      omega
  | n + 1, l, nd, h => by
    have nd2 : (l.erase (n : Int)).Nodup := nd.erase _
    have h2 : ∀ p ∈ l.erase (n : Int), 0 ≤ p ∧ p < (n : Int) := fun p hp => by
      have z := (List.Nodup.mem_erase_iff nd).mp hp
      have y := h p z.2
      have x := z.1
      omega
    have := nodup_le nd2 h2
    have e := List.length_erase (a := (n : Int)) (l := l)
    split at e <;> omega
/-- what sources_of finds -/
structure Found (c : Cfg) (t : Int) (l : List Int) : Prop where
  nd : l.Nodup
  ok : ∀ p ∈ l, 0 ≤ p ∧ p < c.ps.length
  re : ∀ p ∈ l, Reach c.fl t p
  me : t ∈ l
theorem spec_sources (c : Cfg) (t : Int) (hn : c.ps.length < 60) (h0 : 0 ≤ t) (h1 : t < c.ps.length) (hf : FlOk c.ps.length c.fl) (k : T → Roots → Prop) (kx : Exn → Roots → Prop)
    (hk : ∀ l ns' : List Int, Found c t l → (∀ p q, q ∈ l → (p, q) ∈ c.fl → p ∈ l) → ns'.Perm l → ns'.Pairwise (· ≤ ·) → k (.lst (lints ns')) []) : cSourcesOf [.dat c.D, .dat (.int t)] [] k kx := by
  unfold cSourcesOf cwOf
  refine ⟨rfl, ?_⟩
  unfold wSourcesOf
  have hpl : ((c.ps.map paD).length : Int).toNat = c.ps.length := by simp
  refine ⟨by show 1 ≤ 1000; decide, fun sl rt => ∃ (l : List Int) (a : Nat) (x4 : Option Val), sl = [some (.dat c.D), some (.dat (.int t)), some (.ref 0 []), some (.dat (.int (a : Nat))), x4] ∧ rt = [.lst (lints l)] ∧ Found c t l ∧ ∀ p q, q ∈ l → (p, q) ∈ c.fl → p ∈ l, ?_, ?_⟩
  · refine ⟨fun m sl rt => ∃ (l : List Int) (a : Nat) (x4 : Option Val), sl = [some (.dat c.D), some (.dat (.int t)), some (.ref 0 []), some (.dat (.int (a : Nat))), x4] ∧ rt = [.lst (lints l)] ∧ Found c t l ∧ a ≤ l.length ∧ (∀ i x p, i < a → l[i]? = some x → (p, x) ∈ c.fl → p ∈ l) ∧ m = c.ps.length - a,
      ⟨c.ps.length, [t], 0, none, rfl, rfl, ⟨by simp, by simp [h0, h1], by intro p hp; rw [List.mem_singleton.mp hp]; exact .here, by simp⟩, by simp, fun i x p hi => absurd hi (Nat.not_lt_zero _), rfl⟩, ?_⟩
    rintro m _ _ ⟨l, a, x4, rfl, rfl, hF, ha, hcl, hm⟩
    have hlen := nodup_le hF.nd hF.ok
    refine ⟨fun h => ?_, fun h => ?_⟩
    · have hal : a < l.length := by
        have h : ((a : Nat) : Int) < ((lints l).length : Int) := of_decide_eq_true h
        simp at h
        omega
      refine ⟨fun sl rt => ∃ (l2 : List Int) (x4 : Option Val), sl = [some (.dat c.D), some (.dat (.int t)), some (.ref 0 []), some (.dat (.int (a : Nat))), x4] ∧ rt = [.lst (lints l2)] ∧ Found c t l2 ∧ l <+: l2 ∧ ∀ p : Int, 0 ≤ p → p < c.ps.length → (p, l[a]) ∈ c.fl → p ∈ l2, ?_, ?_⟩
      · refine ⟨by simp <;> omega, by simp <;> omega, fun i sl rt => ∃ (l2 : List Int) (x4 : Option Val), sl = [some (.dat c.D), some (.dat (.int t)), some (.ref 0 []), some (.dat (.int (a : Nat))), x4] ∧ rt = [.lst (lints l2)] ∧ Found c t l2 ∧ l <+: l2 ∧ ∀ p : Int, 0 ≤ p → p < i → (p, l[a]) ∈ c.fl → p ∈ l2,
          ⟨l, x4, rfl, rfl, hF, List.prefix_refl l, fun p p0 p1 => by omega⟩, ?_, ?_⟩
        · rintro i d _ _ hd ⟨l2, x4, rfl, rfl, hF2, hpre, hcl2⟩
          rw [hpl, List.getElem?_map] at hd
          obtain ⟨m, hm, rfl⟩ := Option.map_eq_some_iff.mp hd
          obtain ⟨hi, rfl⟩ := List.getElem?_eq_some_iff.mp hm
          have hi' : i < c.ps.length := by simpa using hi
          rw [List.getElem_range]
          have hlen2 := nodup_le hF2.nd hF2.ok
          have hat : l2[a]? = some l[a] := by
            obtain ⟨r, rfl⟩ := hpre
            rw [List.getElem?_append_left hal]
            simp [hal]
          have hal2 : a < l2.length := (List.getElem?_eq_some_iff.mp hat).1
          unfold tgName wIf wAndT
          refine test_in (s := i) (l := l2) rfl rfl ?_
          refine ⟨decide ((i : Int) = l[a]) || decide (((i : Int), l[a]) ∈ c.fl), fun _ => ?_, fun h => ?_, fun h => ?_⟩
          · refine ⟨a, .dat (.int l[a]), ?_, by simp [hat], rfl, spec_may c i l[a] _ _ ⟨rfl, rfl⟩⟩
            rw [List.length_map, ixN_nat (by omega) (by omega)]
            simp
          · have h : (!decide ((i : Int) ∈ l2) && (decide ((i : Int) = l[a]) || decide (((i : Int), l[a]) ∈ c.fl))) = true := h
            simp only [Bool.and_eq_true, Bool.not_eq_true', decide_eq_false_iff_not, Bool.or_eq_true, decide_eq_true_eq] at h
            obtain ⟨hni, hor⟩ := h
            have hma : l[a] ∈ l2 := List.mem_of_getElem? hat
            have hre : Reach c.fl t (i : Int) := by
              rcases hor with z | z
              · rw [z]; exact hF2.re _ hma
              · exact .step z (hF2.re _ hma)
            refine ⟨by simp; omega, .inl ⟨l2 ++ [(i : Int)], _, rfl, ?_, ⟨?_, ?_, ?_, ?_⟩, ?_, ?_⟩⟩
            · show [T.lst (lints l2 ++ [T.dat (D.int (i : Int))])] = [T.lst (lints (l2 ++ [(i : Int)]))]
              simp
            · rw [List.nodup_append]
              refine ⟨hF2.nd, by simp, fun x hx y hy e => ?_⟩
              rw [List.mem_singleton.mp hy] at e
              exact hni (by rw [← e]; exact hx)
            · intro p hp
              rcases List.mem_append.mp hp with z | z
              · exact hF2.ok p z
              · rw [List.mem_singleton.mp z]; omega
            · intro p hp
              rcases List.mem_append.mp hp with z | z
              · exact hF2.re p z
              · rw [List.mem_singleton.mp z]; exact hre
            · exact List.mem_append.mpr (.inl hF2.me)
            · exact hpre.trans (List.prefix_append _ _)
            · intro p p0 p1 hp
              by_cases e : p = (i : Int)
              · subst e; simp
              · exact List.mem_append.mpr (.inl (hcl2 p p0 (by omega) hp))
          · have h : (!decide ((i : Int) ∈ l2) && (decide ((i : Int) = l[a]) || decide (((i : Int), l[a]) ∈ c.fl))) = false := h
            refine .inl ⟨l2, _, rfl, rfl, hF2, hpre, fun p p0 p1 hp => ?_⟩
            by_cases e : p = (i : Int)
            · subst e
              by_cases hin : (i : Int) ∈ l2
              · exact hin
              · simp [hin, hp] at h
            · exact hcl2 p p0 (by omega) hp
        · rintro _ _ ⟨l2, x4, rfl, rfl, hF2, hpre, hcl2⟩
          rw [List.length_map, hpl, List.length_range] at hcl2
          exact ⟨l2, x4, rfl, rfl, hF2, hpre, hcl2⟩
      · rintro _ _ ⟨l2, x4, rfl, rfl, hF2, hpre, hcl2⟩
        have hlen2 := nodup_le hF2.nd hF2.ok
        have hll : l.length ≤ l2.length := hpre.length_le
        refine .inl ⟨c.ps.length - (a + 1), by omega, l2, a + 1, x4, by simp, rfl, hF2, by omega, fun i x p hi hx hp => ?_, rfl⟩
        have hx2 : l[i]? = some x := by
          obtain ⟨r, rfl⟩ := hpre
          rw [List.getElem?_append_left (by omega)] at hx
          exact hx
        by_cases e : i = a
        · subst e
          have z : l[i] = x := (List.getElem?_eq_some_iff.mp hx2).2
          have b := hf _ hp
          exact hcl2 p b.1 b.2.1 (by rw [z]; exact hp)
        · exact hpre.subset (hcl i x p (by omega) hx2 hp)
    · have hal : ¬ a < l.length := by
        have h : ¬ ((a : Nat) : Int) < ((lints l).length : Int) := of_decide_eq_false h
        simp at h
        omega
      refine ⟨l, a, x4, rfl, rfl, hF, fun p q hq hp => ?_⟩
      obtain ⟨i, hi⟩ := List.getElem?_of_mem hq
      exact hcl i q p (by have := (List.getElem?_eq_some_iff.mp hi).1; omega) hi hp
  · rintro _ _ ⟨l, a, x4, rfl, rfl, hF, hcl⟩
    have hlen := nodup_le hF.nd hF.ok
    unfold wRetO
    exact sorted_step rfl (by omega) fun ns' h1 h2 => hk l ns' hF hcl h1 h2
end K30
end

section
set_option linter.all false
set_option maxRecDepth 100000
set_option pp.deepTerms false
namespace K30
open PySem L2 Evl Wv
def ct (b : List Bool) : Nat := b.countP id
theorem relax1_ct (b : List Bool) (f : Pair) : relax1 b f = b ∨ ct (relax1 b f) = ct b + 1 := by
  unfold relax1
  split
  · by_cases hl : f.1.toNat < b.length
    · cases hb : b[f.1.toNat] with
      | true =>
        refine .inl ?_
        refine List.ext_getElem (by simp) fun j h1 h2 => ?_
        rw [List.getElem_set]
        split
        · rename_i e
          subst e
          exact hb.symm
        · rfl
      | false =>
        refine .inr ?_
        unfold ct
        rw [List.countP_set hl]
        simp [hb]
    · exact .inl (List.set_eq_of_length_le (by omega))
  · exact .inl rfl
theorem relax_ct : ∀ (fl : List Pair) (b : List Bool), ct b ≤ ct (relax b fl) ∧ (ct (relax b fl) = ct b → relax b fl = b ∧ ∀ f ∈ fl, relax1 b f = b)
  | [], b => ⟨Nat.le_refl _, fun _ => ⟨rfl, fun _ h => nomatch h⟩⟩
  | f :: fl, b => by
    obtain ⟨h1, h2⟩ := relax_ct fl (relax1 b f)
    show ct b ≤ ct (relax (relax1 b f) fl) ∧ (ct (relax (relax1 b f) fl) = ct b → relax (relax1 b f) fl = b ∧ _)
    rcases relax1_ct b f with z | z
    · rw [z] at h1 h2 ⊢
      refine ⟨h1, fun e => ?_⟩
      obtain ⟨k1, k2⟩ := h2 e
      refine ⟨k1, fun g hg => ?_⟩
      rcases List.mem_cons.mp hg with y | y
      · rw [y]; exact z
      · exact k2 g y
    · refine ⟨by omega, fun e => ?_⟩
      omega
def Closed (fl : List Pair) (b : List Bool) : Prop := ∀ f ∈ fl, relax1 b f = b
theorem closed_relax : ∀ {fl : List Pair} {b : List Bool}, Closed fl b → relax b fl = b
  | [], _, _ => rfl
  | f :: fl, b, h => by
    show relax (relax1 b f) fl = b
    rw [h f List.mem_cons_self]
    exact closed_relax fun g hg => h g (List.mem_cons_of_mem _ hg)
theorem rounds_grow (fl : List Pair) (b : List Bool) (h : 1 ≤ ct b) : ∀ m, Closed fl (rounds fl b m) ∨ m + 1 ≤ ct (rounds fl b m)
  | 0 => .inr h
  | m + 1 => by
    show Closed fl (relax (rounds fl b m) fl) ∨ m + 2 ≤ ct (relax (rounds fl b m) fl)
    rcases rounds_grow fl b h m with z | z
    · rw [closed_relax z]
      exact .inl z
    · obtain ⟨h1, h2⟩ := relax_ct fl (rounds fl b m)
      by_cases e : ct (relax (rounds fl b m) fl) = ct (rounds fl b m)
      · obtain ⟨k1, k2⟩ := h2 e
        rw [k1]
        exact .inl k2
      · exact .inr (by omega)
theorem relax1_sound {fl : List Pair} {t : Int} {b : List Bool} {f : Pair} {n : Nat} (hf : FlOk n fl) (hm : f ∈ fl) (h : ∀ p : Nat, b[p]? = some true → Reach fl t p) : ∀ p : Nat, (relax1 b f)[p]? = some true → Reach fl t p := fun p hp => by
  unfold relax1 at hp
  split at hp
  · rename_i hq
    rw [List.getElem?_set] at hp
    split at hp
    · rename_i e
      have b0 := hf f hm
      have r := h _ hq
      rw [Int.toNat_of_nonneg b0.2.2.1] at r
      have : (p : Int) = f.1 := by omega
      rw [this]
      exact .step (q := f.2) hm r
    · exact h p hp
  · exact h p hp
theorem relax_sound {fl : List Pair} {t : Int} {n : Nat} (hf : FlOk n fl) : ∀ (gl : List Pair) (b : List Bool), (∀ f ∈ gl, f ∈ fl) → (∀ p : Nat, b[p]? = some true → Reach fl t p) → ∀ p : Nat, (relax b gl)[p]? = some true → Reach fl t p
  | [], _, _, h => h
  | f :: gl, b, hs, h => relax_sound hf gl (relax1 b f) (fun g hg => hs g (List.mem_cons_of_mem _ hg)) (relax1_sound hf (hs f List.mem_cons_self) h)
theorem rounds_sound {fl : List Pair} {t : Int} {n : Nat} (hf : FlOk n fl) {b : List Bool} (h : ∀ p : Nat, b[p]? = some true → Reach fl t p) : ∀ m (p : Nat), (rounds fl b m)[p]? = some true → Reach fl t p
  | 0 => h
  | m + 1 => relax_sound hf fl _ (fun _ z => z) (rounds_sound hf h m)
theorem relax1_mono {b : List Bool} {f : Pair} {p : Nat} (h : b[p]? = some true) : (relax1 b f)[p]? = some true := by
  unfold relax1
  split
  · rw [List.getElem?_set]
    split
    · rename_i e
      subst e
      rw [if_pos (List.getElem?_eq_some_iff.mp h).1]
    · exact h
  · exact h
theorem relax_mono {p : Nat} : ∀ (fl : List Pair) {b : List Bool}, b[p]? = some true → (relax b fl)[p]? = some true
  | [], _, h => h
  | f :: fl, _, h => relax_mono fl (relax1_mono h)
theorem rounds_mono {fl : List Pair} {b : List Bool} {p : Nat} (h : b[p]? = some true) : ∀ m, (rounds fl b m)[p]? = some true
  | 0 => h
  | m + 1 => relax_mono fl (rounds_mono h m)
theorem init_at (n : Nat) (t : Int) (p : Nat) : (init n t)[p]? = some true ↔ p < n ∧ (p : Int) = t := by
  unfold init
  rw [List.getElem?_map]
  by_cases h : p < n
  · simp [h]
  · simp [h]
theorem rounds_reach {fl : List Pair} {t : Int} {n : Nat} (hf : FlOk n fl) (h0 : 0 ≤ t) (h1 : t < n) (p : Nat) (hp : p < n) : (rounds fl (init n t) n)[p]? = some true ↔ Reach fl t p := by
  refine ⟨rounds_sound hf (fun q hq => ?_) n p, fun r => ?_⟩
  · obtain ⟨_, e⟩ := (init_at n t q).mp hq
    rw [e]; exact .here
  · have hti : (init n t)[t.toNat]? = some true := (init_at n t _).mpr ⟨by omega, by omega⟩
    have hc1 : 1 ≤ ct (init n t) := by
      unfold ct
      exact List.countP_pos_iff.mpr ⟨true, List.mem_of_getElem? hti, rfl⟩
    have hcl : Closed fl (rounds fl (init n t) n) := by
      rcases rounds_grow fl (init n t) hc1 n with z | z
      · exact z
      · have := List.countP_le_length (p := id) (l := rounds fl (init n t) n)
        rw [rounds_len] at this
        have e : (init n t).length = n := by simp [init]
        unfold ct at z
        omega
    have hlen : (rounds fl (init n t) n).length = n := by rw [rounds_len]; simp [init]
    have htr := rounds_mono (fl := fl) hti n
    have main : ∀ x : Int, Reach fl t x → (rounds fl (init n t) n)[x.toNat]? = some true := fun x r => by
      induction r with
      | here => exact htr
      | @step p q hpq _ ih =>
        have z := hcl _ hpq
        have b0 := hf _ hpq
        unfold relax1 at z
        rw [if_pos ih] at z
        rw [← z, List.getElem?_set_self (by rw [hlen]; have := b0.1; have := b0.2.1; omega)]
    simpa using main p r
/-- both ways find the same -/
theorem found_same (c : Cfg) (t : Int) (h0 : 0 ≤ t) (h1 : t < c.ps.length) (hf : FlOk c.ps.length c.fl) (l ns : List Int) (hF : Found c t l) (hcl : ∀ p q, q ∈ l → (p, q) ∈ c.fl → p ∈ l) (hp : ns.Perm l) (hs : ns.Pairwise (· ≤ ·)) : ns = (reachL c t).map fun (p : Nat) => (p : Int) := by
  have mem : ∀ x : Int, x ∈ l ↔ x ∈ (reachL c t).map fun (p : Nat) => (p : Int) := fun x => by
    have cl : ∀ y : Int, Reach c.fl t y → y ∈ l := fun y r => by
      induction r with
      | here => exact hF.me
      | step hpq _ ih => exact hcl _ _ ih hpq
    rw [List.mem_map]
    constructor
    · intro hx
      obtain ⟨x0, x1⟩ := hF.ok x hx
      refine ⟨x.toNat, ?_, by omega⟩
      unfold reachL
      rw [List.mem_filter, List.mem_range]
      refine ⟨by omega, ?_⟩
      rw [(rounds_reach hf h0 h1 x.toNat (by omega)).mpr (by rw [Int.toNat_of_nonneg x0]; exact hF.re x hx)]
      rfl
    · rintro ⟨p, hp, rfl⟩
      unfold reachL at hp
      rw [List.mem_filter, List.mem_range] at hp
      refine cl _ ((rounds_reach hf h0 h1 p hp.1).mp ?_)
      cases z : (rounds c.fl (init c.ps.length t) c.ps.length)[p]? with
      | none => rw [z] at hp; simp at hp
      | some b => rw [z] at hp; simpa using hp.2
  have nd2 : ((reachL c t).map fun (p : Nat) => (p : Int)).Pairwise (· < ·) := by
    rw [List.pairwise_map]
    refine List.Pairwise.imp ?_ (List.Pairwise.filter _ List.pairwise_lt_range)
    intro a b h
    exact Int.ofNat_lt.mpr h
  have nds : ns.Nodup := hp.nodup_iff.mpr hF.nd
  have str : ns.Pairwise (· < ·) := by
    have := List.Pairwise.and hs nds
    exact this.imp fun {a b} h => by have := h.1; have := h.2; omega
  refine List.Perm.eq_of_pairwise (le := fun a b => a < b) (fun a b _ _ h1 h2 => by omega) str nd2 ?_
  refine (List.perm_ext_iff_of_nodup nds (nd2.imp fun {a b} h => by omega)).mpr fun x => ?_
  rw [hp.mem_iff]
  exact mem x
end K30
end

section
set_option linter.all false
set_option maxRecDepth 100000
set_option pp.deepTerms false
namespace K30
open PySem L2 Evl Wv
abbrev dT (ds : List D) : T := .lst (ds.map .dat)
def ChD (d : D) : Prop := ∃ (s t r : Int) (b : Bool), d = .tup [.int s, .int t, .int r, .bool b]
theorem shaped_prL (l : List Pair) : SeqAt.shaped (.list (l.map prP)) = true := by
  unfold SeqAt.shaped
  rw [Bool.and_eq_true]
  refine ⟨lay_pr l, decide_eq_true ?_⟩
  have := deep_pr l
  simp only [PyData.depth]
  omega
theorem flows_in {sl : Slots} {ex : Exn → Slots → Roots → Prop} {fl : List Pair} {s t : Int} {A B C : T} {kk : Val → Roots → Prop} (h9 : sl[9]? = some (some (.dat (.int s)))) (h10 : sl[10]? = some (some (.dat (.int t)))) (h3 : sl[3]? = some (some (.ref 1 []))) (h : kk (.dat (.bool (decide ((t, s) ∈ fl)))) [A, dT (fl.map prD), B, C]) :
    wBin sInL (wTup (wCons (wVar 10) (wCons (wVar 9) wNil))) (wVar 3) ⟨sl, ex⟩ [A, dT (fl.map prD), B, C] kk := by
  unfold wBin wTup wCons wNil wVar
  simp only [h9, h10, h3]
  refine ⟨by show 2 ≤ 1000; decide, ?_⟩
  show sInL (.dat (.tup [.int t, .int s])) (.ref 1 []) [A, dT (fl.map prD), B, C] _
  unfold sInL
  have e : listOf (.ref 1 []) [A, dT (fl.map prD), B, C] = some (fl.map prD) := dats_dat _
  rw [e]
  exact ⟨.tuple [.int t, .int s], fl.map prP, rfl, pys_pr fl, rfl, by show 1 ≤ 32; decide, shaped_prL fl, by rw [any_pr]; exact h⟩
theorem flows_and {sl : Slots} {ex : Exn → Slots → Roots → Prop} {fl : List Pair} {s t : Int} {A B C : T} {kk : Val → Roots → Prop} {w2 : WE} (h9 : sl[9]? = some (some (.dat (.int s)))) (h10 : sl[10]? = some (some (.dat (.int t)))) (h3 : sl[3]? = some (some (.ref 1 [])))
    (ht : w2 ⟨sl, ex⟩ [A, dT (fl.map prD), B, C] kk) (hf : kk (.dat (.bool false)) [A, dT (fl.map prD), B, C]) :
    wAndE (wBin sInL (wTup (wCons (wVar 10) (wCons (wVar 9) wNil))) (wVar 3)) w2 ⟨sl, ex⟩ [A, dT (fl.map prD), B, C] kk := by
  unfold wAndE
  exact flows_in (s := s) (t := t) h9 h10 h3 ⟨fun _ => ht, fun _ => hf⟩
theorem wcons_intro {w : WE} {r : WA} {sl : Cxt} {rt : Roots} {k : List Val → Roots → Prop} (h : w sl rt fun x rt1 => r sl rt1 fun xs rt2 => k (x :: xs) rt2) : wCons w r sl rt k := h
theorem pick_at {fl : List Pair} {d : Int} (h0 : 0 ≤ d) (h1 : d < ((fl.map prD).map T.dat).length) : ∃ f ∈ fl, ixN ((fl.map prD).map T.dat).length d = some d.toNat ∧ ((fl.map prD).map T.dat)[d.toNat]? = some (.dat (prD f)) := by
  simp only [List.length_map] at h1
  have hl : d.toNat < fl.length := by omega
  refine ⟨fl[d.toNat], List.getElem_mem hl, ?_, by simp [hl]⟩
  rw [List.length_map, List.length_map, ixN_nat h0 h1]
theorem spec_parts (i j : Int) (cs : List Int) (k : T → Roots → Prop) (kx : Exn → Roots → Prop)
    (hk : ∀ (n : Nat) (fl : List Pair) (ch : List D) (sh : List Pair) (dv : List Int) (fr : List Fr) i' j', 2 ≤ n → n ≤ 4 → FlOk n fl → fl.length ≤ 16 → (∀ d ∈ ch, ChD d) → ch.length ≤ 4 → (∀ s ∈ sh, s ∈ fl) → sh.length ≤ 4 → (∀ x ∈ dv, 0 ≤ x ∧ x < n) → dv.length ≤ 4 → 1 ≤ fr.length → fr.length ≤ 4 →
      k (dT [.int (n : Nat), .lst (fl.map prD), .lst ch, .lst (sh.map prD), .lst (dints dv), .lst (fr.map frD)]) [dst2 i' j']) : cLawParts [.ref 0 [], .dat (.ro (dints cs))] [dst2 i j] k kx := by
  unfold cLawParts cwOf
  refine ⟨rfl, ?_⟩
  unfold wLawParts
  refine ⟨rfl, spec_draw _ _ cs 3 (by decide) (by decide) _ _ fun d i j d0 d1 => ?_⟩
  obtain ⟨n, hn⟩ : ∃ n : Nat, (n : Int) = 2 + d := ⟨(2 + d).toNat, by omega⟩
  have hn2 : 2 ≤ n := by omega
  have hn4 : n ≤ 4 := by omega
  refine ⟨by show 0 ≤ 1000; decide, fun sl rt => ∃ (fl : List Pair) (i j : Int) (x4 x5 : Option Val), sl = [some (.ref 0 []), some (.dat (.ro (dints cs))), some (.dat (.int (2 + d))), some (.ref 1 []), x4, x5, none, none, none, none, none, none, none] ∧ rt = [dst2 i j, dT (fl.map prD)] ∧ FlOk n fl ∧ fl.length ≤ 16, ?_, ?_⟩
  · refine ⟨by omega, by omega, fun m sl rt => ∃ (fl : List Pair) (i j : Int) (x4 x5 : Option Val), sl = [some (.ref 0 []), some (.dat (.ro (dints cs))), some (.dat (.int (2 + d))), some (.ref 1 []), x4, x5, none, none, none, none, none, none, none] ∧ rt = [dst2 i j, dT (fl.map prD)] ∧ FlOk n fl ∧ fl.length ≤ n * m, ⟨[], i, j, none, none, rfl, rfl, fun _ z => (nomatch z), by simp⟩, ?_, ?_⟩
    · rintro m d _ _ hd ⟨fl, i, j, x4, x5, rfl, rfl, hF, hl⟩
      rw [List.getElem?_map] at hd
      obtain ⟨_, hm, rfl⟩ := Option.map_eq_some_iff.mp hd
      obtain ⟨hi, rfl⟩ := List.getElem?_eq_some_iff.mp hm
      have hm' : m < n := by simp at hi; omega
      rw [List.getElem_range]
      refine ⟨by omega, by omega, fun q sl rt => ∃ (fl : List Pair) (i j : Int) (x5 : Option Val), sl = [some (.ref 0 []), some (.dat (.ro (dints cs))), some (.dat (.int (2 + d))), some (.ref 1 []), some (.dat (.int (m : Nat))), x5, none, none, none, none, none, none, none] ∧ rt = [dst2 i j, dT (fl.map prD)] ∧ FlOk n fl ∧ fl.length ≤ n * m + q, ⟨fl, i, j, x5, rfl, rfl, hF, by omega⟩, ?_, ?_⟩
      · rintro q d _ _ hd ⟨fl, i, j, x5, rfl, rfl, hF, hl⟩
        rw [List.getElem?_map] at hd
        obtain ⟨_, hm2, rfl⟩ := Option.map_eq_some_iff.mp hd
        obtain ⟨hi2, rfl⟩ := List.getElem?_eq_some_iff.mp hm2
        have hq' : q < n := by simp at hi2; omega
        rw [List.getElem_range]
        refine ⟨fun h => ⟨rfl, spec_draw _ _ cs 3 (by decide) (by decide) _ _ fun e i j e0 e1 => ⟨fun h => ?_, fun h => ?_⟩⟩, fun h => ⟨fun z => (nomatch z), fun _ => ?_⟩⟩
        · have hnm : n * m ≤ 12 := Nat.le_trans (Nat.mul_le_mul hn4 (show m ≤ 3 by omega)) (by decide)
          refine ⟨by show 2 ≤ 1000; decide, by simp; omega, .inl ⟨fl ++ [((m : Int), (q : Int))], i, j, _, rfl, ?_, ?_, by simp; omega⟩⟩
          · show [dst2 i j, .lst ((fl.map prD).map T.dat ++ [.dat (.tpx [.int (m : Int), .int (q : Int)])])] = _
            simp [prD]
          · intro f hf
            rcases List.mem_append.mp hf with z | z
            · exact hF f z
            · rw [List.mem_singleton.mp z]
              exact ⟨by show (0 : Int) ≤ (m : Int); omega, by show (m : Int) < n; omega, by show (0 : Int) ≤ (q : Int); omega, by show (q : Int) < n; omega⟩
        · exact .inl ⟨fl, i, j, _, rfl, rfl, hF, by omega⟩
        · exact .inl ⟨fl, i, j, _, rfl, rfl, hF, by omega⟩
      · rintro _ _ ⟨fl, i, j, x5, rfl, rfl, hF, hl⟩
        refine .inl ⟨fl, i, j, _, x5, rfl, rfl, hF, ?_⟩
        have e : (2 + d).toNat = n := by omega
        simp only [List.length_map, List.length_range, e] at hl
        rw [Nat.mul_succ]
        exact hl
    · rintro _ _ ⟨fl, i, j, x4, x5, rfl, rfl, hF, hl⟩
      refine ⟨fl, i, j, x4, x5, rfl, rfl, hF, Nat.le_trans hl ?_⟩
      have e : (2 + d).toNat = n := by omega
      simp only [List.length_map, List.length_range, e]
      exact Nat.mul_le_mul hn4 hn4
  · rintro _ _ ⟨fl, i, j, x4, x5, rfl, rfl, hF, hl⟩
    have hfl : ((fl.map prD).map T.dat).length = fl.length := by simp
    refine ⟨by show 0 ≤ 1000; decide, by show 0 ≤ 1000; decide, fun sl rt => ∃ (ch : List D) (i j : Int) (x8 x9 x10 : Option Val), sl = [some (.ref 0 []), some (.dat (.ro (dints cs))), some (.dat (.int (2 + d))), some (.ref 1 []), x4, x5, some (.ref 2 []), some (.ref 3 []), x8, x9, x10, none, none] ∧ rt = [dst2 i j, dT (fl.map prD), dT ch, dT []] ∧ (∀ d ∈ ch, ChD d) ∧ ch.length ≤ 4, ?_, ?_⟩
    · refine ⟨rfl, spec_draw _ _ cs 4 (by decide) (by decide) _ _ fun u i j u0 u1 => ⟨by omega, by omega, ?_⟩⟩
      refine ⟨fun m sl rt => ∃ (ch : List D) (i j : Int) (x8 x9 x10 : Option Val), sl = [some (.ref 0 []), some (.dat (.ro (dints cs))), some (.dat (.int (2 + d))), some (.ref 1 []), x4, x5, some (.ref 2 []), some (.ref 3 []), x8, x9, x10, none, none] ∧ rt = [dst2 i j, dT (fl.map prD), dT ch, dT []] ∧ (∀ d ∈ ch, ChD d) ∧ ch.length ≤ m,
        ⟨[], i, j, none, none, none, rfl, rfl, fun _ z => (nomatch z), by simp⟩, ?_, ?_⟩
      · rintro m dd _ _ hd ⟨ch, i, j, x8, x9, x10, rfl, rfl, hC, hcl⟩
        have hm4 : m < 4 := by
          have := (List.getElem?_eq_some_iff.mp hd).1
          simp at this
          omega
        refine ⟨fun h => ?_, fun h => .inl ⟨ch, i, j, _, x9, x10, rfl, rfl, hC, by omega⟩⟩
        have h : (0 : Int) < (((fl.map prD).map T.dat).length : Int) := of_decide_eq_true h
        refine ⟨rfl, spec_draw _ _ cs _ h (by rw [hfl]; omega) _ _ fun q i j q0 q1 => ?_⟩
        obtain ⟨f, hf, e1, e2⟩ := pick_at q0 q1
        refine ⟨_, _, e1, e2, rfl, ?_⟩
        refine ⟨rfl, spec_draw _ _ cs 3 (by decide) (by decide) _ _ fun r i j r0 r1 => ?_⟩
        have fin : ∀ (b : Bool) (i j : Int), 4 ≤ 1000 ∧ ch.length < 40000 ∧ Fg 4 (fun sl rt => ∃ (ch : List D) (i j : Int) (x8 x9 x10 : Option Val), sl = [some (.ref 0 []), some (.dat (.ro (dints cs))), some (.dat (.int (2 + d))), some (.ref 1 []), x4, x5, some (.ref 2 []), some (.ref 3 []), x8, x9, x10, none, none] ∧ rt = [dst2 i j, dT (fl.map prD), dT ch, dT []] ∧ (∀ d ∈ ch, ChD d) ∧ ch.length ≤ m + 1)
            [some (.ref 0 []), some (.dat (.ro (dints cs))), some (.dat (.int (2 + d))), some (.ref 1 []), x4, x5, some (.ref 2 []), some (.ref 3 []), some (.dat dd), some (.dat (.int f.1)), some (.dat (.int f.2)), none, none] [dst2 i j, dT (fl.map prD), .lst (ch.map .dat ++ [.dat (.tup [.int f.1, .int f.2, .int (1 + r), .bool b])]), dT []] := fun b i j => by
          refine ⟨by decide, by omega, .inl ⟨ch ++ [.tup [.int f.1, .int f.2, .int (1 + r), .bool b]], i, j, _, _, _, rfl, by simp, fun d hd => ?_, by simp; omega⟩⟩
          rcases List.mem_append.mp hd with z | z
          · exact hC d z
          · rw [List.mem_singleton.mp z]
            exact ⟨_, _, _, _, rfl⟩
        have hlen : (ch.map T.dat).length = ch.length := by simp
        simp only [sAdd, T.toD]
        refine wcons_intro ?_
        refine flows_and (s := f.1) (t := f.2) (fl := fl) rfl rfl rfl ?_ ?_
        · refine ⟨rfl, spec_draw _ _ cs 2 (by decide) (by decide) _ _ fun g i j g0 g1 => ?_⟩
          obtain ⟨k1, k2, k3⟩ := fin (decide (g = 1)) i j
          exact ⟨k1, by rw [hlen]; exact k2, k3⟩
        · obtain ⟨k1, k2, k3⟩ := fin false i j
          exact ⟨k1, by rw [hlen]; exact k2, k3⟩
      · rintro _ _ ⟨ch, i, j, x8, x9, x10, rfl, rfl, hC, hcl⟩
        refine ⟨ch, i, j, x8, x9, x10, rfl, rfl, hC, Nat.le_trans hcl ?_⟩
        simp
        omega
    · rintro _ _ ⟨ch, i, j, x8, x9, x10, rfl, rfl, hC, hcl⟩
      refine ⟨fun sl rt => ∃ (sh : List Pair) (i j : Int) (x8 : Option Val), sl = [some (.ref 0 []), some (.dat (.ro (dints cs))), some (.dat (.int (2 + d))), some (.ref 1 []), x4, x5, some (.ref 2 []), some (.ref 3 []), x8, x9, x10, none, none] ∧ rt = [dst2 i j, dT (fl.map prD), dT ch, dT (sh.map prD)] ∧ (∀ s ∈ sh, s ∈ fl) ∧ sh.length ≤ 4, ?_, ?_⟩
      · refine ⟨rfl, spec_draw _ _ cs 3 (by decide) (by decide) _ _ fun u i j u0 u1 => ⟨by omega, by omega, ?_⟩⟩
        refine ⟨fun m sl rt => ∃ (sh : List Pair) (i j : Int) (x8 : Option Val), sl = [some (.ref 0 []), some (.dat (.ro (dints cs))), some (.dat (.int (2 + d))), some (.ref 1 []), x4, x5, some (.ref 2 []), some (.ref 3 []), x8, x9, x10, none, none] ∧ rt = [dst2 i j, dT (fl.map prD), dT ch, dT (sh.map prD)] ∧ (∀ s ∈ sh, s ∈ fl) ∧ sh.length ≤ m,
          ⟨[], i, j, x8, rfl, rfl, fun _ z => (nomatch z), by simp⟩, ?_, ?_⟩
        · rintro m dd _ _ hd ⟨sh, i, j, x8, rfl, rfl, hS, hsl⟩
          have hm4 : m < 4 := by
            have := (List.getElem?_eq_some_iff.mp hd).1
            simp at this
            omega
          refine ⟨fun h => ?_, fun h => .inl ⟨sh, i, j, _, rfl, rfl, hS, by omega⟩⟩
          have h : (0 : Int) < (((fl.map prD).map T.dat).length : Int) := of_decide_eq_true h
          refine ⟨rfl, spec_draw _ _ cs _ h (by rw [hfl]; omega) _ _ fun q i j q0 q1 => ?_⟩
          obtain ⟨f, hf, e1, e2⟩ := pick_at q0 q1
          refine ⟨_, _, e1, e2, by simp; omega, .inl ⟨sh ++ [f], i, j, _, rfl, ?_, ?_, by simp; omega⟩⟩
          · show [dst2 i j, dT (fl.map prD), dT ch, .lst ((sh.map prD).map T.dat ++ [.dat (prD f)])] = _
            simp
          · intro s hs
            rcases List.mem_append.mp hs with z | z
            · exact hS s z
            · rw [List.mem_singleton.mp z]; exact hf
        · rintro _ _ ⟨sh, i, j, x8, rfl, rfl, hS, hsl⟩
          refine ⟨sh, i, j, x8, rfl, rfl, hS, Nat.le_trans hsl ?_⟩
          simp
          omega
      · rintro _ _ ⟨sh, i, j, x8, rfl, rfl, hS, hsl⟩
        have hne : ∀ y : Int, ((2 + d : Int) = n) := fun _ => hn.symm
        refine ⟨rfl, spec_draw _ _ cs 3 (by decide) (by decide) _ _ fun u i j u0 u1 => ⟨by omega, by omega, fun m acc rt => ∃ (dv : List Int) (i j : Int), acc = lints dv ∧ rt = [dst2 i j, dT (fl.map prD), dT ch, dT (sh.map prD)] ∧ (∀ x ∈ dv, 0 ≤ x ∧ x < n) ∧ dv.length = m, ⟨[], i, j, rfl, rfl, fun _ z => (nomatch z), rfl⟩, ?_, ?_⟩⟩
        · rintro m dd _ _ hd ⟨dv, i, j, rfl, rfl, hD, hdl⟩
          have hm4 : m < 4 := by
            have := (List.getElem?_eq_some_iff.mp hd).1
            simp at this
            omega
          refine ⟨by simp; omega, fun _ => ⟨rfl, spec_draw _ _ cs (2 + d) (by omega) (by omega) _ _ fun x i j y0 y1 => ⟨dv ++ [x], i, j, by simp, rfl, fun z hz => ?_, by simp [hdl]⟩⟩, fun h => (nomatch h)⟩
          rcases List.mem_append.mp hz with y | y
          · exact hD z y
          · rw [List.mem_singleton.mp y]; omega
        · rintro _ _ ⟨dv, i, j, rfl, rfl, hD, hdl⟩
          have hdv4 : dv.length ≤ 4 := by
            rw [hdl]
            simp
            omega
          rw [toD_lints]
          refine ⟨by show 0 ≤ 1000; decide, fun sl rt => ∃ (fr : List Fr) (i j : Int) (x8 : Option Val), sl = [some (.ref 0 []), some (.dat (.ro (dints cs))), some (.dat (.int (2 + d))), some (.ref 1 []), x4, x5, some (.ref 2 []), some (.ref 3 []), x8, x9, x10, some (.dat (.lst (dints dv))), some (.ref 4 [])] ∧ rt = [dst2 i j, dT (fl.map prD), dT ch, dT (sh.map prD), dT (fr.map frD)] ∧ 1 ≤ fr.length ∧ fr.length ≤ 4, ?_, ?_⟩
          · refine ⟨rfl, spec_draw _ _ cs 4 (by decide) (by decide) _ _ fun u i j u0 u1 => ⟨by omega, by omega, ?_⟩⟩
            refine ⟨fun m sl rt => ∃ (fr : List Fr) (i j : Int) (x8 : Option Val), sl = [some (.ref 0 []), some (.dat (.ro (dints cs))), some (.dat (.int (2 + d))), some (.ref 1 []), x4, x5, some (.ref 2 []), some (.ref 3 []), x8, x9, x10, some (.dat (.lst (dints dv))), some (.ref 4 [])] ∧ rt = [dst2 i j, dT (fl.map prD), dT ch, dT (sh.map prD), dT (fr.map frD)] ∧ fr.length = m,
              ⟨[], i, j, x8, rfl, rfl, rfl⟩, ?_, ?_⟩
            · rintro m dd _ _ hd ⟨fr, i, j, x8, rfl, rfl, hfr⟩
              have hm4 : m < 4 := by
                have := (List.getElem?_eq_some_iff.mp hd).1
                simp at this
                omega
              refine ⟨rfl, spec_draw _ _ cs (2 + d) (by omega) (by omega) _ _ fun y i j y0 y1 => ⟨by show 2 ≤ 1000; decide, rfl, spec_draw _ _ cs 6 (by decide) (by decide) _ _ fun z i j z0 z1 => ?_⟩⟩
              have e : atI [D.non, .int y] (if decide (0 < z) = true then 1 else 0) = some (match (if decide (0 < z) = true then some y else none) with | some i => D.int i | none => .non) := by
                cases decide (0 < z) <;> rfl
              refine ⟨_, e, rfl, spec_draw _ _ cs 160 (by decide) (by decide) _ _ fun w i j w0 w1 => ⟨by show 2 ≤ 1000; decide, by simp; omega, .inl ⟨fr ++ [(if decide (0 < z) = true then some y else none, 128 + w)], i, j, _, rfl, ?_, by simp [hfr]⟩⟩⟩
              show [dst2 i j, dT (fl.map prD), dT ch, dT (sh.map prD), .lst ((fr.map frD).map T.dat ++ [.dat (frD (if decide (0 < z) = true then some y else none, 128 + w))])] = _
              simp
            · rintro _ _ ⟨fr, i, j, x8, rfl, rfl, hfr⟩
              simp only [List.length_map, List.length_range] at hfr
              exact ⟨fr, i, j, x8, rfl, rfl, by omega, by omega⟩
          · rintro _ _ ⟨fr, i, j, x8, rfl, rfl, hf1, hf4⟩
            refine ⟨by show 6 ≤ 1000; decide, ?_⟩
            show k (.lst [.dat (.int (2 + d)), .dat (dT (fl.map prD)).toD, .dat (dT ch).toD, .dat (dT (sh.map prD)).toD, .dat (.lst (dints dv)), .dat (dT (fr.map frD)).toD]) [dst2 i j]
            rw [toD_dats, toD_dats, toD_dats, toD_dats, ← hn]
            exact hk n fl ch sh dv fr i j hn2 hn4 hF hl hC hcl hS hsl hD hdv4 hf1 hf4
end K30
end

section
set_option linter.all false
set_option maxRecDepth 100000
set_option pp.deepTerms false
namespace K30
open PySem L2 Evl Wv
theorem spec_pinit (d : D) (ds : List D) (hd : ∀ rt, seqOf (.dat d) rt = some ds) (n s : D) (k : T → Roots → Prop) (kx : Exn → Roots → Prop) (hk : k (.dat .non) [.obj 0 [.dat (.tup ds), .dat n, .dat s]]) :
    cPartitionInit [.ref 0 [], .dat d, .dat n, .dat s] [.obj 0 []] k kx := by
  unfold cPartitionInit cwOf
  refine ⟨rfl, ?_⟩
  unfold wPartitionInit
  unfold wSeq wSetF wLift wTupOf wCons wNil wVar
  simp only [List.map, List.replicate, List.append_nil, List.getElem?_cons_zero, List.getElem?_cons_succ, hd]
  refine ⟨by show 0 < 900; decide, .inl ⟨rfl, ?_⟩⟩
  refine ⟨by show 1 < 900; decide, .inl ⟨rfl, ?_⟩⟩
  refine ⟨by show 2 < 900; decide, .inl ⟨rfl, hk⟩⟩
theorem lc_len {it : List D} {I : Nat → List T → Roots → Prop} : True := trivial
theorem spec_partition (i j : Int) (cs : List Int) (n fl ch : D) (sh : List Pair) (dv : List Int) (fr : D) (p : Nat) (hs : sh.length ≤ 4) (hd : dv.length ≤ 4) (k : T → Roots → Prop) (kx : Exn → Roots → Prop)
    (hk : ∀ (im : List Int) (pg : Int) i' j', 1 ≤ pg → pg ≤ 3 → im.length ≤ 48 → k (.obj 0 [.dat (.tup (dints im)), .dat (.int pg), .dat (.int 0)]) [dst2 i' j']) :
    cLawPartition [.ref 0 [], .dat (.ro (dints cs)), .dat (.lst [n, fl, ch, .lst (sh.map prD), .lst (dints dv), fr]), .dat (.int (p : Nat))] [dst2 i j] k kx := by
  unfold cLawPartition cwOf
  refine ⟨rfl, ?_⟩
  unfold wLawPartition
  refine ⟨rfl, spec_draw _ _ cs 3 (by decide) (by decide) _ _ fun d i j d0 d1 => ?_⟩
  refine ⟨_, rfl, fun i' acc rt => ∃ ds : List D, acc = ds.map .dat ∧ ds.length ≤ i' ∧ rt = [dst2 i j], ⟨[], rfl, by simp, rfl⟩, ?_, ?_⟩
  · rintro m dd _ _ hdd ⟨ds, rfl, hl, rfl⟩
    have hm : m < 4 := by
      have := (List.getElem?_eq_some_iff.mp hdd).1
      simp at this
      omega
    rw [List.getElem?_map] at hdd
    obtain ⟨s, hs', rfl⟩ := Option.map_eq_some_iff.mp hdd
    refine ⟨by simp; omega, rfl, rfl, fun _ => ⟨ds ++ [prD s], by simp, by simp; omega, rfl⟩, fun _ => ⟨ds, rfl, by omega, rfl⟩⟩
  · rintro _ _ ⟨ds, rfl, hl, rfl⟩
    simp only [toD_dats]
    have hl : ds.length ≤ 4 := by
      simp at hl
      omega
    refine ⟨_, rfl, fun i' acc rt => ∃ ds : List D, acc = ds.map .dat ∧ ds.length ≤ i' ∧ rt = [dst2 i j], ⟨[], rfl, by simp, rfl⟩, ?_, ?_⟩
    · rintro m dd _ _ hdd ⟨ds, rfl, hl, rfl⟩
      have hm : m < 4 := by
        have := (List.getElem?_eq_some_iff.mp hdd).1
        simp [dints] at this
        omega
      unfold dints at hdd
      rw [List.getElem?_map] at hdd
      obtain ⟨s, hs', rfl⟩ := Option.map_eq_some_iff.mp hdd
      refine ⟨by simp; omega, fun _ => ⟨ds ++ [.int s], by simp, by simp; omega, rfl⟩, fun _ => ⟨ds, rfl, by omega, rfl⟩⟩
    · rintro _ _ ⟨ds2, rfl, hl2, rfl⟩
      simp only [toD_dats]
      have hl2 : ds2.length ≤ 4 := by
        simp [dints] at hl2
        omega
      refine ⟨rfl, spec_image _ _ cs (1 + d) (1 + d + (ds.length : Int) + (ds2.length : Int)) (by omega) (by omega) (by omega) (by omega) _ _ fun im i j him => ?_⟩
      simp only [toD_lints]
      refine ⟨rfl, spec_pinit (.lst (dints im)) (dints im) (fun _ => rfl) (.int (1 + d)) (.int 0) _ _ ?_⟩
      exact ⟨rfl, hk im (1 + d) i j (by omega) (by omega) (by omega)⟩
end K30
end

section
set_option linter.all false
set_option maxRecDepth 100000
set_option pp.deepTerms false
namespace K30
open PySem L2 Evl Wv
def ArgOk (R : Roots) (x : Val) (ds : List D) : Prop := ∀ (o : T) (sl : Slots) (ex : Exn → Slots → Roots → Prop) (i : Nat) (kk : Val → Roots → Prop), sl[i]? = some (some x) → kk (.dat (.tup ds)) (o :: R) → wTupOf (wCons (wVar i) wNil) ⟨sl, ex⟩ (o :: R) kk
theorem arg_dat {R : Roots} {d : D} {ds : List D} (h : ∀ rt, seqOf (.dat d) rt = some ds) : ArgOk R (.dat d) ds := fun o sl ex i kk hi hk => by
  unfold wTupOf wCons wVar wNil
  simp only [hi, h]
  exact hk
theorem arg_ref {tss : List T} {m : Nat} {ds : List D} (h : tss[m]? = some (dT ds)) : ArgOk [.lst tss] (.ref 1 [m]) ds := fun o sl ex i kk hi hk => by
  unfold wTupOf wCons wVar wNil
  simp only [hi]
  have e : tat [o, .lst tss] 1 [m] = some (dT ds) := by
    show (tss[m]?).bind (T.at []) = _
    rw [h]
    rfl
  rw [e]
  show (match seqOf (.ref 1 [m]) [o, .lst tss] with | some ds => kk (.dat (.tup ds)) [o, .lst tss] | none => False)
  have e2 : seqOf (.ref 1 [m]) [o, .lst tss] = some ds := by
    show (match tat [o, .lst tss] 1 [m] with | some (.lst ts) => dats ts | _ => none) = _
    rw [e]
    exact dats_dat _
  rw [e2]
  exact hk
theorem spec_cinit (R : Roots) {x1 x2 x3 x4 x5 x6 : Val} {d1 d2 d3 d4 d5 d6 : List D} (a1 : ArgOk R x1 d1) (a2 : ArgOk R x2 d2) (a3 : ArgOk R x3 d3) (a4 : ArgOk R x4 d4) (a5 : ArgOk R x5 d5) (a6 : ArgOk R x6 d6) (k : T → Roots → Prop) (kx : Exn → Roots → Prop)
    (hk : k (.dat .non) (List.take (R.length + 1) (.obj 1 [.dat (.tup d1), .dat (.tup d2), .dat (.tup d3), .dat (.tup d4), .dat (.tup d5), .dat (.tup d6)] :: R))) : cConfigInit [.ref 0 [], x1, x2, x3, x4, x5, x6] (.obj 1 [] :: R) k kx := by
  unfold cConfigInit cwOf
  refine ⟨rfl, ?_⟩
  unfold wConfigInit
  unfold wSeq wSetF wLift
  refine a1 _ _ _ 1 _ rfl ?_
  refine ⟨by show 0 < 900; decide, .inl ⟨rfl, ?_⟩⟩
  simp only [List.modify_zero_cons, T.put, List.nil_append, List.cons_append, List.map, List.replicate, List.append_nil]
  refine a2 (.obj 1 [.dat (.tup d1)]) [some (.ref 0 []), some x1, some x2, some x3, some x4, some x5, some x6] _ 2 _ rfl ?_
  refine ⟨by show 1 < 900; decide, .inl ⟨rfl, ?_⟩⟩
  simp only [List.modify_zero_cons, T.put, List.nil_append, List.cons_append, List.map, List.replicate, List.append_nil]
  refine a3 (.obj 1 [.dat (.tup d1), .dat (.tup d2)]) [some (.ref 0 []), some x1, some x2, some x3, some x4, some x5, some x6] _ 3 _ rfl ?_
  refine ⟨by show 2 < 900; decide, .inl ⟨rfl, ?_⟩⟩
  simp only [List.modify_zero_cons, T.put, List.nil_append, List.cons_append, List.map, List.replicate, List.append_nil]
  refine a4 (.obj 1 [.dat (.tup d1), .dat (.tup d2), .dat (.tup d3)]) [some (.ref 0 []), some x1, some x2, some x3, some x4, some x5, some x6] _ 4 _ rfl ?_
  refine ⟨by show 3 < 900; decide, .inl ⟨rfl, ?_⟩⟩
  simp only [List.modify_zero_cons, T.put, List.nil_append, List.cons_append, List.map, List.replicate, List.append_nil]
  refine a5 (.obj 1 [.dat (.tup d1), .dat (.tup d2), .dat (.tup d3), .dat (.tup d4)]) [some (.ref 0 []), some x1, some x2, some x3, some x4, some x5, some x6] _ 5 _ rfl ?_
  refine ⟨by show 4 < 900; decide, .inl ⟨rfl, ?_⟩⟩
  simp only [List.modify_zero_cons, T.put, List.nil_append, List.cons_append, List.map, List.replicate, List.append_nil]
  refine a6 (.obj 1 [.dat (.tup d1), .dat (.tup d2), .dat (.tup d3), .dat (.tup d4), .dat (.tup d5)]) [some (.ref 0 []), some x1, some x2, some x3, some x4, some x5, some x6] _ 6 _ rfl ?_
  exact ⟨by show 5 < 900; decide, .inl ⟨rfl, hk⟩⟩
def paT (p : List Int × Int) : T := .obj 0 [.dat (.tup (dints p.1)), .dat (.int p.2), .dat (.int 0)]
theorem toDs_pa : ∀ (ps : List (List Int × Int)), T.toDs (ps.map paT) = ps.map paD
  | [] => rfl
  | p :: ps => by
    show paD p :: T.toDs (ps.map paT) = _
    rw [toDs_pa ps]
    rfl
theorem toD_pa (ps : List (List Int × Int)) : (T.lst (ps.map paT)).toD = .lst (ps.map paD) := by
  show D.lst (T.toDs _) = _
  rw [toDs_pa]
/-- what the generator promises -/
structure Cfg.Ok (c : Cfg) : Prop where
  n2 : 2 ≤ c.ps.length
  n4 : c.ps.length ≤ 4
  pg : ∀ p ∈ c.ps, 1 ≤ p.2 ∧ p.2 ≤ 3 ∧ p.1.length ≤ 48
  fl : FlOk c.ps.length c.fl
  fl16 : c.fl.length ≤ 16
  ch : ∀ d ∈ c.ch, ChD d
  ch4 : c.ch.length ≤ 4
  sh : ∀ s ∈ c.sh, s ∈ c.fl
  sh4 : c.sh.length ≤ 4
  dv : ∀ x ∈ c.dv, 0 ≤ x ∧ x < c.ps.length
  dv4 : c.dv.length ≤ 4
  fr1 : 1 ≤ c.fr.length
  fr4 : c.fr.length ≤ 4
def Cfg.T (c : Cfg) : Wv.T := .obj 1 [.dat (.tup (c.ps.map paD)), .dat (.tup (c.fr.map frD)), .dat (.tup c.ch), .dat (.tup (c.sh.map prD)), .dat (.tup (dints c.dv)), .dat (.tup (c.fl.map prD))]
theorem Cfg.toD (c : Cfg) : c.T.toD = c.D := rfl
theorem spec_config (i j : Int) (cs : List Int) (k : T → Roots → Prop) (kx : Exn → Roots → Prop) (hk : ∀ (c : Cfg) i' j', c.Ok → k c.T [dst2 i' j']) : cLawConfig [.ref 0 [], .dat (.ro (dints cs))] [dst2 i j] k kx := by
  unfold cLawConfig cwOf
  refine ⟨rfl, ?_⟩
  unfold wLawConfig
  refine ⟨rfl, spec_parts _ _ cs _ _ fun n fl ch sh dv fr i j hn2 hn4 hF hfl hC hc4 hS hs4 hD hd4 hf1 hf4 => ?_⟩
  simp only [toD_dats]
  refine ⟨.int (n : Nat), rfl, by omega, by omega, fun m acc rt => ∃ (ps : List (List Int × Int)) (i j : Int), acc = ps.map paT ∧ rt = [dst2 i j] ∧ ps.length = m ∧ ∀ p ∈ ps, 1 ≤ p.2 ∧ p.2 ≤ 3 ∧ p.1.length ≤ 48, ⟨[], i, j, rfl, rfl, rfl, fun _ z => (nomatch z)⟩, ?_, ?_⟩
  · rintro m dd _ _ hdd ⟨ps, i, j, rfl, rfl, hl, hP⟩
    rw [List.getElem?_map] at hdd
    obtain ⟨q, hq, rfl⟩ := Option.map_eq_some_iff.mp hdd
    have hm : m < 5 := by
      have := (List.getElem?_eq_some_iff.mp hq).1
      simp at this
      omega
    refine ⟨by simp; omega, fun _ => ⟨rfl, spec_partition _ _ cs (.int (n : Nat)) (.lst (fl.map prD)) (.lst ch) sh dv (.lst (fr.map frD)) q hs4 hd4 _ _ fun im pg i j g1 g3 gl => ⟨ps ++ [(im, pg)], i, j, by simp [paT], rfl, by simp [hl], fun p hp => ?_⟩⟩, fun h => (nomatch h)⟩
    rcases List.mem_append.mp hp with z | z
    · exact hP p z
    · rw [List.mem_singleton.mp z]; exact ⟨g1, g3, gl⟩
  · rintro _ _ ⟨ps, i, j, rfl, rfl, hl, hP⟩
    simp only [List.length_map, List.length_range, Int.toNat_natCast] at hl
    simp only [toD_pa]
    refine ⟨_, rfl, _, rfl, _, rfl, _, rfl, _, rfl, rfl, spec_cinit [] (arg_dat fun _ => rfl) (arg_dat fun _ => rfl) (arg_dat fun _ => rfl) (arg_dat fun _ => rfl) (arg_dat fun _ => rfl) (arg_dat fun _ => rfl) _ _ ?_⟩
    exact ⟨rfl, hk ⟨ps, fr, ch, sh, dv, fl⟩ i j ⟨by rw [hl]; exact hn2, by rw [hl]; exact hn4, hP, by rw [hl]; exact hF, hfl, hC, hc4, hS, hs4, by rw [hl]; exact hD, hd4, hf1, hf4⟩⟩
end K30
end

section
set_option linter.all false
set_option maxRecDepth 100000
set_option pp.deepTerms false
namespace K30
open PySem L2 Evl Wv
/-- the ticks before the frame m, without its gap -/
def Tn (fr : List Fr) (m : Nat) : Int := ((m / fr.length : Nat) : Int) * ticks fr + ticks (fr.take (m % fr.length))
theorem start_eq (c : Cfg) (m : Nat) : start c (m : Int) = Tn c.fr m + 256 := by
  unfold start Tn
  rw [← Int.natCast_ediv, ← Int.natCast_emod, Int.toNat_natCast]
theorem ticks_succ {fr : List Fr} {i : Nat} {f : Fr} (h : fr[i]? = some f) : ticks (fr.take (i + 1)) = ticks (fr.take i) + (256 + f.2) := by
  unfold ticks
  rw [List.take_succ, h, List.map_append, List.sum_append]
  simp
theorem Tn_succ {fr : List Fr} {m : Nat} {f : Fr} (h0 : 0 < fr.length) (h : fr[m % fr.length]? = some f) : Tn fr (m + 1) = Tn fr m + 256 + f.2 := by
  have hlt := Nat.mod_lt m h0
  unfold Tn
  by_cases e : m % fr.length + 1 < fr.length
  · have h1 : (m + 1) % fr.length = m % fr.length + 1 := by
      rw [Nat.add_mod, Nat.mod_eq_of_lt (show 1 < fr.length by omega), Nat.mod_eq_of_lt e]
    have h2 : (m + 1) / fr.length = m / fr.length := by
      have a := Nat.div_add_mod (m + 1) fr.length
      have b := Nat.div_add_mod m fr.length
      rw [h1] at a
      have : fr.length * ((m + 1) / fr.length) = fr.length * (m / fr.length) := by omega
      exact Nat.eq_of_mul_eq_mul_left h0 this
    rw [h1, h2, ticks_succ h]
    omega
  · have e : m % fr.length + 1 = fr.length := by omega
    have b := Nat.div_add_mod m fr.length
    have hm : m + 1 = fr.length * (m / fr.length + 1) := by rw [Nat.mul_succ]; omega
    have h1 : (m + 1) % fr.length = 0 := by rw [hm, Nat.mul_mod_right]
    have h2 : (m + 1) / fr.length = m / fr.length + 1 := by rw [hm, Nat.mul_div_cancel_left _ h0]
    have h3 := ticks_succ h
    rw [e, List.take_length] at h3
    have h4 : ticks (fr.take 0) = 0 := rfl
    rw [h1, h2, h4]
    generalize m / fr.length = q at *
    have : ((q + 1 : Nat) : Int) * ticks fr = (q : Int) * ticks fr + ticks fr := by
      rw [Int.natCast_add, Int.add_mul]
      simp
    omega
theorem Tn_L (fr : List Fr) (h0 : 0 < fr.length) : Tn fr fr.length = ticks fr := by
  unfold Tn
  rw [Nat.div_self h0, Nat.mod_self]
  show (1 : Int) * ticks fr + ticks [] = _
  have : ticks [] = 0 := rfl
  omega
theorem start_far (c : Cfg) (h0 : 0 < c.fr.length) (m : Nat) : start c ((m : Int) + c.fr.length) = start c m + ticks c.fr := by
  rw [show (m : Int) + c.fr.length = ((m + c.fr.length : Nat) : Int) by simp, start_eq, start_eq]
  unfold Tn
  rw [Nat.add_div_right _ h0, Nat.add_mod_right]
  generalize m / c.fr.length = q
  have : ((q + 1 : Nat) : Int) * ticks c.fr = (q : Int) * ticks c.fr + ticks c.fr := by
    rw [Int.natCast_add, Int.add_mul]
    simp
  show ((q + 1 : Nat) : Int) * ticks c.fr + _ + 256 = _
  omega
/-! == of plain lists and tuples of data, both the same -/
mutual
theorem eqv_self : ∀ (d : D) (p : PyData), d.py = some p → PyData.eqv p p = true
  | .non, _, h => by cases h; rfl
  | .bool b, _, h => by cases h; simp [PyData.eqv]
  | .int i, _, h => by cases h; simp [PyData.eqv]
  | .str s, _, h => by cases h; simp [PyData.eqv]
  | .lst ds, p, h => by
    obtain ⟨ps, h1, rfl⟩ := Option.map_eq_some_iff.mp (show (D.pys ds).map PyData.list = some p from h)
    exact eqvs_self ds ps h1
  | .ro ds, p, h => by
    obtain ⟨ps, h1, rfl⟩ := Option.map_eq_some_iff.mp (show (D.pys ds).map PyData.list = some p from h)
    exact eqvs_self ds ps h1
  | .tup ds, p, h => by
    obtain ⟨ps, h1, rfl⟩ := Option.map_eq_some_iff.mp (show (D.pys ds).map PyData.tuple = some p from h)
    exact eqvs_self ds ps h1
  | .tpx ds, p, h => by
    obtain ⟨ps, h1, rfl⟩ := Option.map_eq_some_iff.mp (show (D.pys ds).map PyData.tuple = some p from h)
    exact eqvs_self ds ps h1
  | .obj _ _, _, h => by cases h
  | .cst _, _, h => by cases h
  | .any, _, h => by cases h
theorem eqvs_self : ∀ (ds : List D) (ps : List PyData), D.pys ds = some ps → PyData.eqvAll ps ps = true
  | [], _, h => by cases h; rfl
  | d :: ds, ps, h => by
    unfold D.pys at h
    cases h1 : d.py with
    | none => rw [h1] at h; cases h
    | some x =>
      cases h2 : D.pys ds with
      | none => rw [h1, h2] at h; cases h
      | some xs =>
        rw [h1, h2] at h
        cases h
        show (PyData.eqv x x && PyData.eqvAll xs xs) = true
        rw [eqv_self d x h1, eqvs_self ds xs h2]
        rfl
end
/-- a datum that is seen to be equal to itself -/
def Plain (d : D) : Prop := ∃ p, d.py = some p ∧ SeqAt.shaped p = true
theorem ne_self {d : D} {rt : Roots} {kk : D → Prop} (hs : D.sc d d = none) (h : Plain d) (hk : kk (.bool false)) : sEq true (.dat d) (.dat d) rt kk := by
  obtain ⟨p, h1, h2⟩ := h
  unfold sEq
  simp only [hs]
  refine ⟨p, p, h1, h1, h2, h2, ?_⟩
  simpa [eqv_self d p h1] using hk
end K30
end

section
set_option linter.all false
set_option maxRecDepth 100000
set_option pp.deepTerms false
namespace K30
open PySem L2 Evl Wv
abbrev okP := ok1 0 3
/-! own == of the two classes -/
theorem spec_ceq (d1 d2 d3 d4 d5 d6 e1 e2 e3 e4 e5 e6 : D) (b : Bool) (hd : D.deeps [d1, d2, d3, d4, d5, d6] ≤ 4) (h : eqDs okP [d1, d2, d3, d4, d5, d6] [e1, e2, e3, e4, e5, e6] = some b) (kk : T → Roots → Prop) (kx) (hk : kk (.dat (.bool b)) []) :
    cConfigEq [.dat (.obj 1 [d1, d2, d3, d4, d5, d6]), .dat (.obj 1 [e1, e2, e3, e4, e5, e6])] [] kk kx := by
  unfold cConfigEq cwOf
  refine ⟨rfl, ?_⟩
  unfold wConfigEq
  refine ⟨rfl, b, fun _ => ⟨rfl, rfl, ?_⟩, ?_⟩
  · refine ⟨rfl, ⟨by show 6 ≤ 1000; decide, rfl, rfl, ?_⟩⟩
    refine ⟨rfl, ⟨by show 6 ≤ 1000; decide, ?_⟩⟩
    exact ⟨hd, b, h, by cases b <;> rfl, rfl⟩
  · cases b <;> exact hk
theorem spec_ceq5 (ds : List D) (i : Int) (kk : T → Roots → Prop) (kx) (hk : kk (.dat (.bool false)) []) : cConfigEq [.dat (.obj 1 ds), .dat (.int i)] [] kk kx := by
  unfold cConfigEq cwOf
  refine ⟨rfl, ?_⟩
  unfold wConfigEq
  exact ⟨false, fun h => (nomatch h), hk⟩
theorem spec_peq5 (ds : List D) (i : Int) (kk : T → Roots → Prop) (kx) (hk : kk (.dat (.bool false)) []) : cPartitionEq [.dat (.obj 0 ds), .dat (.int i)] [] kk kx := by
  unfold cPartitionEq cwOf
  refine ⟨rfl, ?_⟩
  unfold wPartitionEq
  exact ⟨false, fun h => (nomatch h), hk⟩
/-! what is equal to itself, and to itself with more -/
def Self (ok : Nat → Option Nat) (d : D) : Prop := eqD ok d d = some true
theorem eqDs_app {ok : Nat → Option Nat} : ∀ {ds : List D} (es : List D), (∀ d ∈ ds, Self ok d) → eqDs ok ds (ds ++ es) = some es.isEmpty
  | [], [], _ => by simp [eqDs]
  | [], e :: es, _ => by simp [eqDs]
  | d :: ds, es, h => by
    have h1 : eqD ok d d = some true := h d List.mem_cons_self
    have h2 := eqDs_app (ds := ds) es fun x hx => h x (List.mem_cons_of_mem _ hx)
    show eqDs ok (d :: ds) (d :: (ds ++ es)) = _
    simp only [eqDs, h1, h2]
theorem eqDs_app2 {ok : Nat → Option Nat} : ∀ {ds : List D} (es : List D), (∀ d ∈ ds, Self ok d) → eqDs ok (ds ++ es) ds = some es.isEmpty
  | [], [], _ => by simp [eqDs]
  | [], e :: es, _ => by simp [eqDs]
  | d :: ds, es, h => by
    have h1 : eqD ok d d = some true := h d List.mem_cons_self
    have h2 := eqDs_app2 (ds := ds) es fun x hx => h x (List.mem_cons_of_mem _ hx)
    show eqDs ok (d :: (ds ++ es)) (d :: ds) = _
    simp only [eqDs, h1, h2]
theorem eqDs_self {ok : Nat → Option Nat} {ds : List D} (h : ∀ d ∈ ds, Self ok d) : eqDs ok ds ds = some true := by
  have := eqDs_app (ok := ok) (ds := ds) [] h
  rw [List.append_nil] at this
  exact this
theorem self_int {ok : Nat → Option Nat} (i : Int) : Self ok (.int i) := by simp [Self, eqD, D.sc]
theorem self_bool {ok : Nat → Option Nat} (i : Bool) : Self ok (.bool i) := by simp [Self, eqD, D.sc]
theorem self_non {ok : Nat → Option Nat} : Self ok .non := by simp [Self, eqD, D.sc]
theorem self_tup {ok : Nat → Option Nat} {ds : List D} (h : ∀ d ∈ ds, Self ok d) : Self ok (.tup ds) := by
  show eqD ok (.tup ds) (.tup ds) = _
  simp only [eqD]
  exact eqDs_self h
theorem self_tpx {ok : Nat → Option Nat} {ds : List D} (h : ∀ d ∈ ds, Self ok d) : Self ok (.tpx ds) := by
  show eqD ok (.tpx ds) (.tpx ds) = _
  simp only [eqD]
  exact eqDs_self h
theorem self_dints {ok : Nat → Option Nat} (l : List Int) : ∀ d ∈ dints l, Self ok d := fun d hd => by
  obtain ⟨i, _, rfl⟩ := List.mem_map.mp hd
  exact self_int i
theorem deeps_le {n : Nat} : ∀ {ds : List D}, (∀ d ∈ ds, d.deep ≤ n) → D.deeps ds ≤ n
  | [], _ => Nat.zero_le _
  | d :: ds, h => by
    show max _ _ ≤ n
    exact Nat.max_le.mpr ⟨h d List.mem_cons_self, deeps_le fun x hx => h x (List.mem_cons_of_mem _ hx)⟩
theorem deep_dints (l : List Int) : D.deeps (dints l) ≤ 0 := deeps_le fun d hd => by
  obtain ⟨i, _, rfl⟩ := List.mem_map.mp hd
  exact Nat.le_refl _
theorem self_pa (p : List Int × Int) : Self okP (paD p) := by
  show eqD okP (paD p) (paD p) = _
  unfold paD
  simp only [eqD]
  rw [if_pos ⟨trivial, rfl, trivial, by have := deep_dints p.1; show max (D.deeps (dints p.1) + 1) (max 0 (max 0 0)) ≤ 4; omega⟩]
  refine eqDs_self fun d hd => ?_
  simp only [List.mem_cons, List.not_mem_nil, or_false] at hd
  rcases hd with z | z | z
  · rw [z]; exact self_tup (self_dints _)
  · rw [z]; exact self_int _
  · rw [z]; exact self_int _
theorem self_pr {ok : Nat → Option Nat} (f : Pair) : Self ok (prD f) := self_tpx fun d hd => by
  simp only [List.mem_cons, List.not_mem_nil, or_false] at hd
  rcases hd with z | z
  · rw [z]; exact self_int _
  · rw [z]; exact self_int _
theorem self_fr {ok : Nat → Option Nat} (f : Fr) : Self ok (frD f) := self_tup fun d hd => by
  simp only [List.mem_cons, List.not_mem_nil, or_false] at hd
  rcases hd with z | z
  · rw [z]
    split
    · exact self_int _
    · exact self_non
  · rw [z]; exact self_int _
theorem self_ch {ok : Nat → Option Nat} {d : D} (h : ChD d) : Self ok d := by
  obtain ⟨s, t, r, b, rfl⟩ := h
  refine self_tup fun d hd => ?_
  simp only [List.mem_cons, List.not_mem_nil, or_false] at hd
  rcases hd with z | z | z | z
  · rw [z]; exact self_int _
  · rw [z]; exact self_int _
  · rw [z]; exact self_int _
  · rw [z]; exact self_bool _
/-- the six parts -/
def Cfg.parts (c : Cfg) : List (List Wv.D) := [c.ps.map paD, c.fr.map frD, c.ch, c.sh.map prD, dints c.dv, c.fl.map prD]
theorem self_part {c : Cfg} (hc : c.Ok) : ∀ ds ∈ c.parts, ∀ d ∈ ds, Self okP d := fun ds hds d hd => by
  simp only [Cfg.parts, List.mem_cons, List.not_mem_nil, or_false] at hds
  rcases hds with z | z | z | z | z | z <;> rw [z] at hd
  · obtain ⟨x, _, rfl⟩ := List.mem_map.mp hd; exact self_pa x
  · obtain ⟨x, _, rfl⟩ := List.mem_map.mp hd; exact self_fr x
  · exact self_ch (hc.ch d hd)
  · obtain ⟨x, _, rfl⟩ := List.mem_map.mp hd; exact self_pr x
  · exact self_dints _ d hd
  · obtain ⟨x, _, rfl⟩ := List.mem_map.mp hd; exact self_pr x
theorem deep_part {c : Cfg} (hc : c.Ok) : ∀ ds ∈ c.parts, D.deeps ds ≤ 2 := fun ds hds => by
  simp only [Cfg.parts, List.mem_cons, List.not_mem_nil, or_false] at hds
  refine deeps_le fun d hd => ?_
  rcases hds with z | z | z | z | z | z <;> rw [z] at hd
  · obtain ⟨x, _, rfl⟩ := List.mem_map.mp hd; show 0 ≤ 2; decide
  · obtain ⟨x, _, rfl⟩ := List.mem_map.mp hd
    obtain ⟨o, t⟩ := x
    cases o <;> (show 1 ≤ 2; decide)
  · obtain ⟨s, t, r, b, rfl⟩ := hc.ch d hd; show 1 ≤ 2; decide
  · obtain ⟨x, _, rfl⟩ := List.mem_map.mp hd; show 1 ≤ 2; decide
  · obtain ⟨x, _, rfl⟩ := List.mem_map.mp hd; show 0 ≤ 2; decide
  · obtain ⟨x, _, rfl⟩ := List.mem_map.mp hd; show 1 ≤ 2; decide
end K30
end

section
set_option linter.all false
set_option maxRecDepth 100000
set_option maxHeartbeats 4000000
set_option pp.deepTerms false
namespace K30
open PySem L2 Evl Wv
def wA3 : WE := (wOwn 1 cConfigEq true (wVar 12) (wVar 2))
def wB3 : WE := (wOwn 0 cPartitionEq true (wVar 8) (wFrz (wMake 0 cPartitionInit (wCons (wCatT (wFld fld_image (wVar 8)) (wTup (wCons (wC (.int 1)) wNil))) (wCons (wFld fld_pages (wVar 8)) (wCons (wFld fld_start (wVar 8)) wNil))))))
def wC3 : WE := (wOwn 0 cPartitionEq true (wVar 8) (wFrz (wMake 0 cPartitionInit (wCons (wFld fld_image (wVar 8)) (wCons (wAdd (wFld fld_pages (wVar 8)) (wC (.int 1))) (wCons (wFld fld_start (wVar 8)) wNil))))))
def wTail4 : WS := (wRet (wAndV wA3 (wAndV wB3 wC3)))
def wTail3 : WS :=
(wSeq (wAsg 12 (wFrz (wMake 1 cConfigInit (wCons (wIdx (wVar 9) (wC (.int 0))) (wCons (wIdx (wVar 9) (wC (.int 1))) (wCons (wIdx (wVar 9) (wC (.int 2))) (wCons (wIdx (wVar 9) (wC (.int 3))) (wCons (wIdx (wVar 9) (wC (.int 4))) (wCons (wIdx (wVar 9) (wC (.int 5))) wNil)))))))))
wTail4)
def wTail : WS :=
(wSeq (wIf (wOrT (wB (wOwn 0 cPartitionEq true (wVar 8) (wFrz (wMake 0 cPartitionInit (wCons (wFrz (wListOf (wCons (wFld fld_image (wVar 8)) wNil))) (wCons (wFld fld_pages (wVar 8)) (wCons (wFld fld_start (wVar 8)) wNil))))))) (wB (wEqO (ok1 0 3) 4 true (wFrz (wMeth 0 cPartitionFields (wVar 8) wNil)) (wTup (wCons (wFld fld_image (wVar 8)) (wCons (wFld fld_pages (wVar 8)) (wCons (wFld fld_start (wVar 8)) wNil)))))))
(wRet (wC (.bool false)))
wNext)
(wSeq (wApp (wIdx (wVar 9) (wFrz (wCall cLawDraw (wCons (wVar 1) (wCons (wVar 0) (wCons (wC (.int 6)) wNil)))))) (wLift (wTup (wCons (wC (.int 0)) (wCons (wC (.int 1)) wNil)))))
wTail3))
theorem spec_peq (a b : List Int) (m n x y : Int) (r : Bool) (h : eqDs noOk [.tup (dints a), .int m, .int x] [.tup (dints b), .int n, .int y] = some r) (kk : T → Roots → Prop) (kx) (hk : kk (.dat (.bool r)) []) : cPartitionEq [.dat (.obj 0 [.tup (dints a), .int m, .int x]), .dat (.obj 0 [.tup (dints b), .int n, .int y])] [] kk kx :=
  spec_P_eq _ _ r rfl rfl (by have := deep_dints a; show max (D.deeps (dints a) + 1) (max 0 (max 0 0)) ≤ 4; omega) h kk kx hk
theorem eqDs_set {ok : Nat → Option Nat} {x : D} : ∀ {L : List (List D)} {m : Nat} {ds : List D}, L[m]? = some ds → (∀ es ∈ L, ∀ d ∈ es, Self ok d) → eqDs ok ((L.set m (ds ++ [x])).map D.tup) (L.map D.tup) = some false
  | es :: L, 0, ds, h, hs => by
    cases Option.some.inj h
    have := eqDs_app2 (ok := ok) [x] (hs es List.mem_cons_self)
    show eqDs ok (.tup (es ++ [x]) :: _) (.tup es :: _) = _
    simp only [eqDs, eqD, this]
    rfl
  | es :: L, m + 1, ds, h, hs => by
    have h1 := eqDs_self (hs es List.mem_cons_self)
    have h2 := eqDs_set (x := x) (L := L) (m := m) h fun e he => hs e (List.mem_cons_of_mem _ he)
    show eqDs ok (.tup es :: (L.set m (ds ++ [x])).map D.tup) (.tup es :: L.map D.tup) = _
    simp only [eqDs, eqD, h1, h2]
theorem ne_image (im : List Int) (n : Int) : eqDs noOk [.tup (dints im), .int n, .int 0] [.tup (dints im ++ [.int 1]), .int n, .int 0] = some false := by
  have := eqDs_app (ok := noOk) [D.int 1] (self_dints im)
  simp only [eqDs, eqD, this]
  rfl
theorem ne_pages (im : List Int) (n : Int) : eqDs noOk [.tup (dints im), .int n, .int 0] [.tup (dints im), .int (n + 1), .int 0] = some false := by
  have := eqDs_self (ok := noOk) (self_dints im)
  have h2 : decide (n = n + 1) = false := decide_eq_false (by omega)
  simp only [eqDs, eqD, this, D.sc, h2]

theorem dT_app (q : List D) (x : D) : T.lst (q.map T.dat ++ [T.dat x]) = dT (q ++ [x]) := by simp [dT]
theorem cv {F : Roots → Prop} {a b : Roots} (h : a = b) (p : F b) : F a := h ▸ p
theorem deep_im (im : List Int) (n : Int) : D.deeps [.tup (dints im), .int n, .int 0] ≤ 4 := by have := deep_dints im; show max (D.deeps (dints im) + 1) (max 0 (max 0 0)) ≤ 4; omega
theorem e_B3 (im : List Int) (n : Int) (him : im.length ≤ 48) (x0 x1 x2 x3 x4 x5 x6 x7 x9 x10 x11 x12 : Option Val) (ex : Exn → Slots → Roots → Prop) (o L : T) (kk : Val → Roots → Prop) (hk : kk (.dat (.bool true)) [o, L]) : wB3 ⟨[x0, x1, x2, x3, x4, x5, x6, x7, some (.dat (paD (im, n))), x9, x10, x11, x12], ex⟩ [o, L] kk := by
  have hpd := deep_im im n
  unfold wB3
  refine ⟨by show 1 ≤ 1000; decide, by show (dints im).length + 1 ≤ 40000; simp [dints]; omega, rfl, spec_pinit _ (dints im ++ [.int 1]) (fun _ => rfl) (.int n) (.int 0) _ _ ⟨rfl, ?_⟩⟩
  exact ⟨rfl, rfl, spec_P_eq _ _ false rfl rfl hpd (ne_image im n) _ _ hk⟩
theorem e_C3 (im : List Int) (n : Int) (x0 x1 x2 x3 x4 x5 x6 x7 x9 x10 x11 x12 : Option Val) (ex : Exn → Slots → Roots → Prop) (o L : T) (kk : Val → Roots → Prop) (hk : kk (.dat (.bool true)) [o, L]) : wC3 ⟨[x0, x1, x2, x3, x4, x5, x6, x7, some (.dat (paD (im, n))), x9, x10, x11, x12], ex⟩ [o, L] kk := by
  have hpd := deep_im im n
  unfold wC3
  refine ⟨rfl, spec_pinit _ (dints im) (fun _ => rfl) (.int (n + 1)) (.int 0) _ _ ⟨rfl, ?_⟩⟩
  exact ⟨rfl, rfl, spec_P_eq _ _ false rfl rfl hpd (ne_pages im n) _ _ hk⟩
theorem tail4 (im : List Int) (n : Int) (him : im.length ≤ 48) (p1 p2 p3 p4 p5 p6 q1 q2 q3 q4 q5 q6 : List D) (o L : T) (x0 x1 x3 x4 x5 x6 x7 x9 x10 x11 : Option Val) (Z : WEnds) (hz : ∀ rt, Z.rt (.dat (.bool true)) rt)
    (h : eqDs okP [.tup q1, .tup q2, .tup q3, .tup q4, .tup q5, .tup q6] [.tup p1, .tup p2, .tup p3, .tup p4, .tup p5, .tup p6] = some false)
    (hd : D.deeps [.tup q1, .tup q2, .tup q3, .tup q4, .tup q5, .tup q6] ≤ 4) :
    wTail4 Z [x0, x1, some (.dat (.obj 1 [.tup p1, .tup p2, .tup p3, .tup p4, .tup p5, .tup p6])), x3, x4, x5, x6, x7, some (.dat (paD (im, n))), x9, x10, x11, some (.dat (.obj 1 [.tup q1, .tup q2, .tup q3, .tup q4, .tup q5, .tup q6]))] [o, L] := by
  unfold wTail4
  refine ⟨rfl, rfl, spec_ceq _ _ _ _ _ _ _ _ _ _ _ _ false hd h _ _ ⟨true, fun _ => ?_, hz _⟩⟩
  exact e_B3 im n him _ _ _ _ _ _ _ _ _ _ _ _ _ o L _ ⟨true, fun _ => e_C3 im n _ _ _ _ _ _ _ _ _ _ _ _ _ o L _ ⟨rfl, rfl⟩, rfl, rfl⟩
theorem tail3 (cs im : List Int) (n : Int) (him : im.length ≤ 48) (p1 p2 p3 p4 p5 p6 q1 q2 q3 q4 q5 q6 : List D) (o : T) (x3 x4 x5 x6 x7 x10 : Option Val) (Z : WEnds) (hz : ∀ rt, Z.rt (.dat (.bool true)) rt)
    (h : eqDs okP [.tup q1, .tup q2, .tup q3, .tup q4, .tup q5, .tup q6] [.tup p1, .tup p2, .tup p3, .tup p4, .tup p5, .tup p6] = some false)
    (hd : D.deeps [.tup q1, .tup q2, .tup q3, .tup q4, .tup q5, .tup q6] ≤ 4) :
    wTail3 Z [some (.dat (.ro (dints cs))), some (.ref 0 []), some (.dat (.obj 1 [.tup p1, .tup p2, .tup p3, .tup p4, .tup p5, .tup p6])), x3, x4, x5, x6, x7, some (.dat (paD (im, n))), some (.ref 1 []), x10, some (.dat (.obj 1 [.tup p1, .tup p2, .tup p3, .tup p4, .tup p5, .tup p6])), none] [o, .lst [dT q1, dT q2, dT q3, dT q4, dT q5, dT q6]] := by
  unfold wTail3
  refine ⟨0, dT q1, rfl, rfl, 1, dT q2, rfl, rfl, 2, dT q3, rfl, rfl, 3, dT q4, rfl, rfl, 4, dT q5, rfl, rfl, 5, dT q6, rfl, rfl, rfl, ?_⟩
  refine spec_cinit [.lst [dT q1, dT q2, dT q3, dT q4, dT q5, dT q6]] (arg_ref (m := 0) rfl) (arg_ref (m := 1) rfl) (arg_ref (m := 2) rfl) (arg_ref (m := 3) rfl) (arg_ref (m := 4) rfl) (arg_ref (m := 5) rfl) _ _ ⟨rfl, ?_⟩
  exact tail4 im n him p1 p2 p3 p4 p5 p6 q1 q2 q3 q4 q5 q6 o (.lst [dT q1, dT q2, dT q3, dT q4, dT q5, dT q6]) _ _ _ _ _ _ _ _ _ _ _ hz h hd
end K30
end

section
set_option linter.all false
set_option maxRecDepth 100000
set_option maxHeartbeats 4000000
set_option pp.deepTerms false
namespace K30
open PySem L2 Evl Wv
def wAppD : WS := (wApp (wIdx (wVar 9) (wFrz (wCall cLawDraw (wCons (wVar 1) (wCons (wVar 0) (wCons (wC (.int 6)) wNil)))))) (wLift (wTup (wCons (wC (.int 0)) (wCons (wC (.int 1)) wNil)))))
theorem app_end (c : Cfg) (hc : c.Ok) (cs : List Int) (i j : Int) (x2 x3 x4 x5 x6 x7 x8 x10 x11 x12 : Option Val) (Z : WEnds)
    (hk : ∀ (q1 q2 q3 q4 q5 q6 : List D) (i j : Int), eqDs okP [.tup q1, .tup q2, .tup q3, .tup q4, .tup q5, .tup q6] (c.parts.map D.tup) = some false → D.deeps [.tup q1, .tup q2, .tup q3, .tup q4, .tup q5, .tup q6] ≤ 4 → Z.nx [some (.dat (.ro (dints cs))), some (.ref 0 []), x2, x3, x4, x5, x6, x7, x8, some (.ref 1 []), x10, x11, x12] [dst2 i j, .lst [dT q1, dT q2, dT q3, dT q4, dT q5, dT q6]]) :
    wAppD Z [some (.dat (.ro (dints cs))), some (.ref 0 []), x2, x3, x4, x5, x6, x7, x8, some (.ref 1 []), x10, x11, x12] [dst2 i j, .lst (c.parts.map dT)] := by
  unfold wAppD
  refine ⟨rfl, spec_draw _ _ cs 6 (by decide) (by decide) _ _ fun d i j d0 d1 => ?_⟩
  have hx : d = 0 ∨ d = 1 ∨ d = 2 ∨ d = 3 ∨ d = 4 ∨ d = 5 := by omega
  have hlen : ∀ ds ∈ c.parts, ds.length ≤ 16 := fun ds hds => by
    have a1 := hc.n4; have a2 := hc.fr4; have a3 := hc.ch4; have a4 := hc.sh4; have a5 := hc.dv4; have a6 := hc.fl16
    simp only [Cfg.parts, List.mem_cons, List.not_mem_nil, or_false] at hds
    rcases hds with z | z | z | z | z | z <;> rw [z] <;> simp [dints] <;> omega
  have hdp : ∀ (m : Nat) (ds : List D), c.parts[m]? = some ds → D.deeps ((c.parts.set m (ds ++ [Wv.D.tup [Wv.D.int 0, Wv.D.int 1]])).map D.tup) ≤ 4 := fun m ds hm => deeps_le fun e he => by
    obtain ⟨es, h1, rfl⟩ := List.mem_map.mp he
    show D.deeps es + 1 ≤ 4
    rcases List.mem_or_eq_of_mem_set h1 with z | z
    · have := deep_part hc es z; omega
    · have h2 := deep_part hc ds (List.mem_of_getElem? hm)
      have : D.deeps es ≤ 2 := by
        rw [z]
        refine deeps_le fun y hy => ?_
        rcases List.mem_append.mp hy with w | w
        · obtain ⟨i, hi⟩ := List.getElem?_of_mem w
          exact Nat.le_trans (deep_mem hi) h2
        · rw [List.mem_singleton.mp w]; show 1 ≤ 2; decide
      omega
  rcases hx with rfl | rfl | rfl | rfl | rfl | rfl
  · refine ⟨0, dT (c.ps.map paD), rfl, rfl, by show 2 ≤ 1000; decide, by rw [List.length_map]; have := hlen (c.ps.map paD) (List.mem_of_getElem? (i := 0) rfl); omega, ?_⟩
    have hh := hk (c.ps.map paD ++ [Wv.D.tup [Wv.D.int 0, Wv.D.int 1]]) (c.fr.map frD) (c.ch) (c.sh.map prD) (dints c.dv) (c.fl.map prD) i j (eqDs_set (L := c.parts) (m := 0) (x := Wv.D.tup [Wv.D.int 0, Wv.D.int 1]) rfl (self_part hc)) (hdp 0 _ rfl)
    show Z.nx _ [dst2 i j, .lst [T.lst ((c.ps.map paD).map T.dat ++ [T.dat (Wv.D.tup [Wv.D.int 0, Wv.D.int 1])]), dT (c.fr.map frD), dT (c.ch), dT (c.sh.map prD), dT (dints c.dv), dT (c.fl.map prD)]]
    rw [dT_app]
    exact hh
  · refine ⟨1, dT (c.fr.map frD), rfl, rfl, by show 2 ≤ 1000; decide, by rw [List.length_map]; have := hlen (c.fr.map frD) (List.mem_of_getElem? (i := 1) rfl); omega, ?_⟩
    have hh := hk (c.ps.map paD) (c.fr.map frD ++ [Wv.D.tup [Wv.D.int 0, Wv.D.int 1]]) (c.ch) (c.sh.map prD) (dints c.dv) (c.fl.map prD) i j (eqDs_set (L := c.parts) (m := 1) (x := Wv.D.tup [Wv.D.int 0, Wv.D.int 1]) rfl (self_part hc)) (hdp 1 _ rfl)
    show Z.nx _ [dst2 i j, .lst [dT (c.ps.map paD), T.lst ((c.fr.map frD).map T.dat ++ [T.dat (Wv.D.tup [Wv.D.int 0, Wv.D.int 1])]), dT (c.ch), dT (c.sh.map prD), dT (dints c.dv), dT (c.fl.map prD)]]
    rw [dT_app]
    exact hh
  · refine ⟨2, dT (c.ch), rfl, rfl, by show 2 ≤ 1000; decide, by rw [List.length_map]; have := hlen (c.ch) (List.mem_of_getElem? (i := 2) rfl); omega, ?_⟩
    have hh := hk (c.ps.map paD) (c.fr.map frD) (c.ch ++ [Wv.D.tup [Wv.D.int 0, Wv.D.int 1]]) (c.sh.map prD) (dints c.dv) (c.fl.map prD) i j (eqDs_set (L := c.parts) (m := 2) (x := Wv.D.tup [Wv.D.int 0, Wv.D.int 1]) rfl (self_part hc)) (hdp 2 _ rfl)
    show Z.nx _ [dst2 i j, .lst [dT (c.ps.map paD), dT (c.fr.map frD), T.lst ((c.ch).map T.dat ++ [T.dat (Wv.D.tup [Wv.D.int 0, Wv.D.int 1])]), dT (c.sh.map prD), dT (dints c.dv), dT (c.fl.map prD)]]
    rw [dT_app]
    exact hh
  · refine ⟨3, dT (c.sh.map prD), rfl, rfl, by show 2 ≤ 1000; decide, by rw [List.length_map]; have := hlen (c.sh.map prD) (List.mem_of_getElem? (i := 3) rfl); omega, ?_⟩
    have hh := hk (c.ps.map paD) (c.fr.map frD) (c.ch) (c.sh.map prD ++ [Wv.D.tup [Wv.D.int 0, Wv.D.int 1]]) (dints c.dv) (c.fl.map prD) i j (eqDs_set (L := c.parts) (m := 3) (x := Wv.D.tup [Wv.D.int 0, Wv.D.int 1]) rfl (self_part hc)) (hdp 3 _ rfl)
    show Z.nx _ [dst2 i j, .lst [dT (c.ps.map paD), dT (c.fr.map frD), dT (c.ch), T.lst ((c.sh.map prD).map T.dat ++ [T.dat (Wv.D.tup [Wv.D.int 0, Wv.D.int 1])]), dT (dints c.dv), dT (c.fl.map prD)]]
    rw [dT_app]
    exact hh
  · refine ⟨4, dT (dints c.dv), rfl, rfl, by show 2 ≤ 1000; decide, by rw [List.length_map]; have := hlen (dints c.dv) (List.mem_of_getElem? (i := 4) rfl); omega, ?_⟩
    have hh := hk (c.ps.map paD) (c.fr.map frD) (c.ch) (c.sh.map prD) (dints c.dv ++ [Wv.D.tup [Wv.D.int 0, Wv.D.int 1]]) (c.fl.map prD) i j (eqDs_set (L := c.parts) (m := 4) (x := Wv.D.tup [Wv.D.int 0, Wv.D.int 1]) rfl (self_part hc)) (hdp 4 _ rfl)
    show Z.nx _ [dst2 i j, .lst [dT (c.ps.map paD), dT (c.fr.map frD), dT (c.ch), dT (c.sh.map prD), T.lst ((dints c.dv).map T.dat ++ [T.dat (Wv.D.tup [Wv.D.int 0, Wv.D.int 1])]), dT (c.fl.map prD)]]
    rw [dT_app]
    exact hh
  · refine ⟨5, dT (c.fl.map prD), rfl, rfl, by show 2 ≤ 1000; decide, by rw [List.length_map]; have := hlen (c.fl.map prD) (List.mem_of_getElem? (i := 5) rfl); omega, ?_⟩
    have hh := hk (c.ps.map paD) (c.fr.map frD) (c.ch) (c.sh.map prD) (dints c.dv) (c.fl.map prD ++ [Wv.D.tup [Wv.D.int 0, Wv.D.int 1]]) i j (eqDs_set (L := c.parts) (m := 5) (x := Wv.D.tup [Wv.D.int 0, Wv.D.int 1]) rfl (self_part hc)) (hdp 5 _ rfl)
    show Z.nx _ [dst2 i j, .lst [dT (c.ps.map paD), dT (c.fr.map frD), dT (c.ch), dT (c.sh.map prD), dT (dints c.dv), T.lst ((c.fl.map prD).map T.dat ++ [T.dat (Wv.D.tup [Wv.D.int 0, Wv.D.int 1])])]]
    rw [dT_app]
    exact hh
end K30
end

section
set_option linter.all false
set_option maxRecDepth 100000
set_option maxHeartbeats 4000000
set_option pp.deepTerms false
namespace K30
open PySem L2 Evl Wv
theorem law_end (c : Cfg) (hc : c.Ok) (cs : List Int) (im : List Int) (n : Int) (him : im.length ≤ 48) (i j : Int) (x3 x4 x5 x6 x7 x10 : Option Val) (Z : WEnds) (hz : ∀ rt, Z.rt (.dat (.bool true)) rt) :
    wTail Z [some (.dat (.ro (dints cs))), some (.ref 0 []), some (.dat c.D), x3, x4, x5, x6, x7, some (.dat (paD (im, n))), some (.ref 1 []), x10, some (.dat c.D), none] [dst2 i j, .lst (c.parts.map dT)] := by
  unfold wTail
  have hp : eqDs noOk [.tup (dints im), .int n, .int 0] [.tup (dints im), .int n, .int 0] = some true := eqDs_self fun d hd => by
    simp only [List.mem_cons, List.not_mem_nil, or_false] at hd
    rcases hd with z | z | z
    · rw [z]; exact self_tup (self_dints _)
    · rw [z]; exact self_int _
    · rw [z]; exact self_int _
  have hpk : eqDs okP [.tup (dints im), .int n, .int 0] [.tup (dints im), .int n, .int 0] = some true := eqDs_self fun d hd => by
    simp only [List.mem_cons, List.not_mem_nil, or_false] at hd
    rcases hd with z | z | z
    · rw [z]; exact self_tup (self_dints _)
    · rw [z]; exact self_int _
    · rw [z]; exact self_int _
  have hpd := deep_im im n
  refine ⟨rfl, spec_pinit _ (dints im) (fun rt => ?_) (.int n) (.int 0) _ _ ⟨rfl, ?_⟩⟩
  · rw [toD_dats]; rfl
  refine ⟨rfl, rfl, spec_peq im im n n 0 0 true hp _ _ ⟨false, fun _ => ?_, fun h => (nomatch h), fun _ => ?_⟩⟩
  · exact ⟨rfl, rfl, rfl, by show 3 ≤ 1000; decide, by show 3 ≤ 1000; decide, hpd, true, hpk, rfl, rfl⟩
  · show wAppD ⟨wTail3 Z, Z.rt, Z.ro, Z.bk, Z.ct, Z.ex⟩ [some (.dat (.ro (dints cs))), some (.ref 0 []), some (.dat c.D), x3, x4, x5, x6, x7, some (.dat (paD (im, n))), some (.ref 1 []), x10, some (.dat c.D), none] [dst2 i j, .lst (c.parts.map dT)]
    refine app_end c hc cs i j _ _ _ _ _ _ _ _ _ _ _ fun q1 q2 q3 q4 q5 q6 i j h hd => ?_
    exact tail3 cs im n him _ _ _ _ _ _ q1 q2 q3 q4 q5 q6 (dst2 i j) _ _ _ _ _ _ Z hz h hd
end K30
end

section
set_option linter.all false
set_option maxRecDepth 100000
set_option maxHeartbeats 4000000
set_option pp.deepTerms false
namespace K30
open PySem L2 Evl Wv
def wL12 : WS := (wSeq (wIf (wOrT (wB (wOwn 1 cConfigEq true (wVar 11) (wVar 2))) (wOrT (wB (wEqO (ok1 0 3) 4 true (wFrz (wMeth 1 cConfigFields (wVar 11) wNil)) (wFrz (wMeth 1 cConfigFields (wVar 2) wNil)))) (wOrT (wB (wOwn 1 cConfigEq false (wVar 2) (wC (.int 5)))) (wB (wOwn 0 cPartitionEq false (wVar 8) (wC (.int 5)))))))
(wRet (wC (.bool false)))
wNext)
wTail)
def wL11 : WS := (wSeq (wAsg 11 (wFrz (wMake 1 cConfigInit (wCons (wIdx (wVar 9) (wC (.int 0))) (wCons (wIdx (wVar 9) (wC (.int 1))) (wCons (wIdx (wVar 9) (wC (.int 2))) (wCons (wIdx (wVar 9) (wC (.int 3))) (wCons (wIdx (wVar 9) (wC (.int 4))) (wCons (wIdx (wVar 9) (wC (.int 5))) wNil)))))))))
wL12)
def wL8 : WS := (wSeq (wAsg 8 (wIdx (wFld fld_partitions (wVar 2)) (wC (.int 0))))
(wSeq (wNew 9 (wLc (wItT (wFrz (wMeth 1 cConfigFields (wVar 2) wNil))) (tgName 10) [10] wYes (wListOf (wCons (wVar 10) wNil))))
wL11))
theorem nextI {Z : WEnds} {sl : Slots} {rt : Roots} (h : Z.nx sl rt) : wNext Z sl rt := h
theorem law_12 (c : Cfg) (hc : c.Ok) (cs : List Int) (im : List Int) (n : Int) (him : im.length ≤ 48) (i j : Int) (x3 x4 x5 x6 x7 x10 : Option Val) (Z : WEnds) (hz : ∀ rt, Z.rt (.dat (.bool true)) rt) :
    wL12 Z [some (.dat (.ro (dints cs))), some (.ref 0 []), some (.dat c.D), x3, x4, x5, x6, x7, some (.dat (paD (im, n))), some (.ref 1 []), x10, some (.dat c.D), none] [dst2 i j, .lst (c.parts.map dT)] := by
  unfold wL12
  have hself : eqDs okP (c.parts.map D.tup) (c.parts.map D.tup) = some true := eqDs_self fun d hd => by
    obtain ⟨ds, h1, rfl⟩ := List.mem_map.mp hd
    exact self_tup (self_part hc ds h1)
  have hdeep : D.deeps (c.parts.map D.tup) ≤ 4 := deeps_le fun d hd => by
    obtain ⟨ds, h1, rfl⟩ := List.mem_map.mp hd
    have := deep_part hc ds h1
    show D.deeps ds + 1 ≤ 4
    omega
  refine ⟨rfl, rfl, spec_ceq _ _ _ _ _ _ _ _ _ _ _ _ true hdeep hself _ _ ⟨false, fun _ => ?_, fun h => (nomatch h), fun _ => ?_⟩⟩
  · exact ⟨rfl, rfl, rfl, by show 6 ≤ 1000; decide, rfl, rfl, rfl, by show 6 ≤ 1000; decide, hdeep, true, hself, false, fun _ => ⟨rfl, spec_ceq5 _ _ _ _ ⟨false, fun _ => ⟨rfl, spec_peq5 _ _ _ _ ⟨rfl, rfl⟩⟩, rfl, rfl⟩⟩, rfl, rfl⟩
  · exact nextI (law_end c hc cs im n him i j x3 x4 x5 x6 x7 x10 Z hz)
theorem law_11 (c : Cfg) (hc : c.Ok) (cs : List Int) (im : List Int) (n : Int) (him : im.length ≤ 48) (i j : Int) (x3 x4 x5 x6 x7 x10 : Option Val) (Z : WEnds) (hz : ∀ rt, Z.rt (.dat (.bool true)) rt) :
    wL11 Z [some (.dat (.ro (dints cs))), some (.ref 0 []), some (.dat c.D), x3, x4, x5, x6, x7, some (.dat (paD (im, n))), some (.ref 1 []), x10, none, none] [dst2 i j, .lst (c.parts.map dT)] := by
  unfold wL11
  refine ⟨0, dT (c.ps.map paD), rfl, rfl, 1, dT (c.fr.map frD), rfl, rfl, 2, dT c.ch, rfl, rfl, 3, dT (c.sh.map prD), rfl, rfl, 4, dT (dints c.dv), rfl, rfl, 5, dT (c.fl.map prD), rfl, rfl, rfl, ?_⟩
  refine spec_cinit [.lst (c.parts.map dT)] (arg_ref (m := 0) rfl) (arg_ref (m := 1) rfl) (arg_ref (m := 2) rfl) (arg_ref (m := 3) rfl) (arg_ref (m := 4) rfl) (arg_ref (m := 5) rfl) _ _ ⟨rfl, ?_⟩
  exact law_12 c hc cs im n him i j x3 x4 x5 x6 x7 x10 Z hz
end K30
end

section
set_option linter.all false
set_option maxRecDepth 100000
set_option maxHeartbeats 8000000
set_option pp.deepTerms false
namespace K30
open PySem L2 Evl Wv
def PlainL (ds : List D) : Prop := ∃ ps, D.pys ds = some ps ∧ PyData.canLayAll0 ps = true ∧ PyData.depthAll ps ≤ 8
theorem plain_nil : PlainL [] := ⟨[], rfl, rfl, by show 0 ≤ 8; decide⟩
theorem plain_cons {d : D} {ds : List D} {p : PyData} (h1 : d.py = some p) (h2 : p.canLay0 = true) (h3 : p.depth ≤ 8) (h : PlainL ds) : PlainL (d :: ds) := by
  obtain ⟨ps, k1, k2, k3⟩ := h
  refine ⟨p :: ps, by simp [D.pys, h1, k1], by simp [PyData.canLayAll0, h2, k2], ?_⟩
  show max _ _ ≤ 8
  exact Nat.max_le.mpr ⟨h3, k3⟩
theorem plain_app : ∀ {ds es : List D}, PlainL ds → PlainL es → PlainL (ds ++ es)
  | [], _, _, h => h
  | d :: ds, es, h, h' => by
    obtain ⟨ps, k1, k2, k3⟩ := h
    unfold D.pys at k1
    cases h1 : d.py with
    | none => rw [h1] at k1; cases k1
    | some x =>
      cases h2 : D.pys ds with
      | none => rw [h1, h2] at k1; cases k1
      | some xs =>
        rw [h1, h2] at k1
        cases k1
        simp only [PyData.canLayAll0, Bool.and_eq_true] at k2
        have k3 : max x.depth (PyData.depthAll xs) ≤ 8 := k3
        obtain ⟨k4, k5⟩ := Nat.max_le.mp k3
        exact plain_cons h1 k2.1 k4 (plain_app ⟨xs, h2, k2.2, k5⟩ h')
theorem plain_map {α : Type} (f : α → D) (h : ∀ a, ∃ p, (f a).py = some p ∧ p.canLay0 = true ∧ p.depth ≤ 8) : ∀ l : List α, PlainL (l.map f)
  | [] => plain_nil
  | a :: l => by
    obtain ⟨p, h1, h2, h3⟩ := h a
    exact plain_cons h1 h2 h3 (plain_map f h l)
theorem plain_fm {α : Type} (f : α × Nat → Option D) (h : ∀ a d, f a = some d → ∃ p, d.py = some p ∧ p.canLay0 = true ∧ p.depth ≤ 8) (l : List α) (i : Nat) : PlainL (fm f l i) := by
  unfold fm
  generalize l.zipIdx.take i = m
  induction m with
  | nil => exact plain_nil
  | cons a m ih =>
    cases hf : f a with
    | none => rw [List.filterMap_cons_none hf]; exact ih
    | some d =>
      rw [List.filterMap_cons_some hf]
      obtain ⟨p, h1, h2, h3⟩ := h a d hf
      exact plain_cons h1 h2 h3 ih
theorem plain_lst {ds : List D} (h : PlainL ds) : Plain (.lst ds) := by
  obtain ⟨ps, h1, h2, h3⟩ := h
  refine ⟨.list ps, by simp [D.py, h1], ?_⟩
  unfold SeqAt.shaped
  rw [Bool.and_eq_true]
  refine ⟨h2, decide_eq_true ?_⟩
  simp only [PyData.depth]
  omega
theorem lay3 (s : Str) (a b : Int) (h : PyData.canLay0 (.str s) = true) : (PyData.tuple [.str s, .int a, .int b]).canLay0 = true := by
  simp only [PyData.canLay0, PyData.canLayAll0, Bool.and_true] at h ⊢
  exact h
theorem plain_pages (c : Cfg) (p n : Int) : Plain (.lst (pagesL c p n)) := by
  refine plain_lst (plain_app (plain_app (plain_map _ (fun k => ⟨_, rfl, lay3 _ _ _ (by decide +kernel), by show 1 ≤ 8; decide⟩) _) (plain_fm _ (fun a d h => ?_) _ _)) (plain_fm _ (fun a d h => ?_) _ _))
  · unfold shareD at h
    split at h
    · cases h
      exact ⟨_, rfl, lay3 _ _ _ (by decide +kernel), by show 1 ≤ 8; decide⟩
    · cases h
  · unfold deviceD at h
    split at h
    · cases h
      exact ⟨_, rfl, lay3 _ _ _ (by decide +kernel), by show 1 ≤ 8; decide⟩
    · cases h
theorem plain_ints (l : List Int) : Plain (.lst (dints l)) := plain_lst (plain_map _ (fun k => ⟨_, rfl, rfl, by show 0 ≤ 8; decide⟩) _)
theorem spec_lawreach2 (c : Cfg) (t : Int) (hn : c.ps.length < 100) (hf : FlOk c.ps.length c.fl) (k : T → Roots → Prop) (kx : Exn → Roots → Prop)
    (hk : k (.lst (lints ((reachL c t).map fun (p : Nat) => (p : Int)))) []) : cLawReach [.dat c.D, .dat (.int t)] [] k kx :=
  spec_lawreach c t hn hf k kx (by unfold lints at hk; rw [List.map_map] at hk; exact hk)
theorem law_two (c : Cfg) (hc : c.Ok) (cs : List Int) (i j : Int) (x3 x4 x5 x6 x7 : Option Val) (Z : WEnds) (hz : ∀ rt, Z.rt (.dat (.bool true)) rt) :
    wL8 Z [some (.dat (.ro (dints cs))), some (.ref 0 []), some (.dat c.D), x3, x4, x5, x6, x7, none, none, none, none, none] [dst2 i j] := by
  unfold wL8
  have hn2 := hc.n2
  obtain ⟨⟨im, n⟩, hp0⟩ : ∃ x, c.ps[0]? = some x := ⟨_, List.getElem?_eq_getElem (by omega)⟩
  have hat0 : atI (c.ps.map paD) 0 = some (paD (im, n)) := idx_at (i := 0) (by simp [hp0])
  refine ⟨paD (im, n), hat0, ?_⟩
  refine ⟨rfl, rfl, rfl, by show 6 ≤ 1000; decide, fun m acc rt => acc = (c.parts.take m).map dT ∧ rt = [dst2 i j], ⟨rfl, rfl⟩, ?_, ?_⟩
  · rintro m d _ _ hd ⟨rfl, rfl⟩
    have hd : (c.parts.map D.tup)[m]? = some d := hd
    rw [List.getElem?_map] at hd
    obtain ⟨ds, hm, rfl⟩ := Option.map_eq_some_iff.mp hd
    have hm6 : m < 6 := (List.getElem?_eq_some_iff.mp hm).1
    refine ⟨by simp; omega, fun _ => ⟨?_, rfl⟩, fun h => (nomatch h)⟩
    rw [List.take_succ, hm]
    simp
  · rintro _ _ ⟨rfl, rfl⟩
    have hb := hc.pg _ (List.mem_of_getElem? hp0)
    exact law_11 c hc cs im n hb.2.2 i j x3 x4 x5 x6 x7 none Z hz
theorem wLaw_tail : wLaw = ((wSeq (wNew 1 (wLst (wCons (wC (.int 0)) (wCons (wC (.int 0)) wNil))))
(wSeq (wAsg 2 (wFrz (wCall cLawConfig (wCons (wVar 1) (wCons (wVar 0) wNil)))))
(wSeq (wIf (wB (wBin (sEq true) (wFrz (wLst (wCons (wC (.int 16)) (wCons (wC (.int 8)) (wCons (wC (.int 256)) (wCons (wC (.int 96)) wNil)))))) (wFrz (wLst (wCons (wC (.int 16)) (wCons (wC (.int 8)) (wCons (wC (.int 256)) (wCons (wC (.int 96)) wNil))))))))
(wRet (wC (.bool false)))
wNext)
(wSeq (wAsg 3 (wC (.int 0)))
(wCut (wFor (wRng1 (wCons (wMul (wC (.int 3)) (wCB fLen (wCons (wFld fld_frames (wVar 2)) wNil))) wNil)) (tgName 4)
(wSeq (wIf (wB (wBin (sEq true) (wFrz (wCall cFrameStart (wCons (wVar 2) (wCons (wVar 4) wNil)))) (wAdd (wVar 3) (wC (.int 256)))))
(wRet (wC (.bool false)))
wNext)
(wSeq (wAsg 3 (wAdd (wAdd (wVar 3) (wC (.int 256))) (wIdx (wIdx (wFld fld_frames (wVar 2)) (wMod (wCB fInt (wCons (wVar 4) wNil)) (wCB fLen (wCons (wFld fld_frames (wVar 2)) wNil)))) (wC (.int 1)))))
(wIf (wAndT (wB (wBin (sEq false) (wAdd (wVar 4) (wC (.int 1))) (wCB fLen (wCons (wFld fld_frames (wVar 2)) wNil)))) (wB (wBin (sEq true) (wFrz (wCall cRoundLength (wCons (wVar 2) wNil))) (wVar 3))))
(wRet (wC (.bool false)))
wNext))))
(wSeq (wAsg 5 (wFrz (wCall cLawDraw (wCons (wVar 1) (wCons (wVar 0) (wCons (wC (.int 100000)) wNil))))))
(wSeq (wIf (wB (wBin (sEq true) (wFrz (wCall cFrameStart (wCons (wVar 2) (wCons (wAdd (wVar 5) (wCB fLen (wCons (wFld fld_frames (wVar 2)) wNil))) wNil)))) (wAdd (wFrz (wCall cFrameStart (wCons (wVar 2) (wCons (wVar 5) wNil)))) (wFrz (wCall cRoundLength (wCons (wVar 2) wNil))))))
(wRet (wC (.bool false)))
wNext)
(wCut (wFor (wRng1 (wCons (wCB fLen (wCons (wFld fld_partitions (wVar 2)) wNil)) wNil)) (tgName 6)
(wSeq (wIf (wOrT (wB (wBin (sEq true) (wFrz (wCall cPageMap (wCons (wVar 2) (wCons (wVar 6) wNil)))) (wFrz (wCall cLawPages (wCons (wVar 2) (wCons (wVar 6) wNil)))))) (wB (wBin (sEq true) (wFrz (wCall cSourcesOf (wCons (wVar 2) (wCons (wVar 6) wNil)))) (wFrz (wCall cLawReach (wCons (wVar 2) (wCons (wVar 6) wNil)))))))
(wRet (wC (.bool false)))
wNext)
(wFor (wRng1 (wCons (wCB fLen (wCons (wFld fld_partitions (wVar 2)) wNil)) wNil)) (tgName 7)
(wIf (wB (wBin (sEq true) (wFrz (wCall cMayFlow (wCons (wVar 2) (wCons (wVar 6) (wCons (wVar 7) wNil))))) (wOrV (wBin (sEq false) (wVar 6) (wVar 7)) (wBin sInT (wTupX (wCons (wVar 6) (wCons (wVar 7) wNil))) (wFld fld_flows (wVar 2))))))
(wRet (wC (.bool false)))
wNext))))
wL8))))))))) := rfl
theorem spec_law (cs : List Int) (k : T → Roots → Prop) (kx : Exn → Roots → Prop) (hk : k (.dat (.bool true)) []) : cLaw [.dat (.ro (dints cs))] [] k kx := by
  unfold cLaw cwOf
  refine ⟨rfl, ?_⟩
  rw [wLaw_tail]
  refine ⟨by show 2 ≤ 1000; decide, rfl, spec_config _ _ cs _ _ fun c i j hc => ?_⟩
  simp only [Cfg.toD]
  refine ⟨by show 4 ≤ 1000; decide, by show 4 ≤ 1000; decide, _, _, rfl, rfl, rfl, rfl, fun h => absurd h (by decide), fun _ => ?_⟩
  have hL : ((c.fr.map frD).length : Int) = c.fr.length := by simp
  have h0 : 0 < c.fr.length := hc.fr1
  have hl4 := hc.fr4
  refine ⟨fun sl rt => ∃ x3 x4 : Option Val, sl = [some (.dat (.ro (dints cs))), some (.ref 0 []), some (.dat c.D), x3, x4, none, none, none, none, none, none, none, none] ∧ rt = [dst2 i j], ?_, ?_⟩
  · refine ⟨Or.inl ⟨by decide, by decide⟩, by rw [hL]; omega, by rw [hL]; omega, fun m sl rt => ∃ x4 : Option Val, sl = [some (.dat (.ro (dints cs))), some (.ref 0 []), some (.dat c.D), some (.dat (.int (Tn c.fr m))), x4, none, none, none, none, none, none, none, none] ∧ rt = [dst2 i j], ⟨none, ?_, rfl⟩, ?_, ?_⟩
    · have : Tn c.fr 0 = 0 := by simp [Tn, ticks]
      rw [this]
      rfl
    · rintro m d _ _ hd ⟨x4, rfl, rfl⟩
      rw [List.getElem?_map] at hd
      obtain ⟨q, hq, rfl⟩ := Option.map_eq_some_iff.mp hd
      obtain ⟨hi, rfl⟩ := List.getElem?_eq_some_iff.mp hq
      rw [List.getElem_range]
      have hm12 : m < 12 := by
        simp at hi
        omega
      refine ⟨rfl, spec_start c m h0 (by omega) (by omega) (by omega) _ _ ⟨fun h => ?_, fun _ => ?_⟩⟩
      · have h : (!decide (start c (m : Int) = Tn c.fr m + 256)) = true := h
        rw [start_eq] at h
        simp at h
      · obtain ⟨f, hf⟩ : ∃ f, c.fr[m % c.fr.length]? = some f := ⟨_, List.getElem?_eq_getElem (Nat.mod_lt _ h0)⟩
        have hat : atI (c.fr.map frD) ((m : Int) % ((c.fr.map frD).length : Int)) = some (frD f) := by
          rw [hL, ← Int.natCast_emod]
          exact idx_at (by simp [hf])
        refine ⟨by rw [hL]; show (0 : Int) < c.fr.length; omega, frD f, hat, .int f.2, rfl, ?_⟩
        have hT := Tn_succ h0 hf
        refine ⟨decide (ticks c.fr ≠ Tn c.fr (m + 1)), fun h => ⟨rfl, spec_round c (by omega) _ _ ⟨?_, rfl⟩⟩, fun h => ?_, fun h => ?_⟩
        · rw [hT]
          simp
        · have h : (decide ((m : Int) + 1 = ((c.fr.map frD).length : Int)) && decide (ticks c.fr ≠ Tn c.fr (m + 1))) = true := h
          rw [hL] at h
          simp only [Bool.and_eq_true, decide_eq_true_eq] at h
          obtain ⟨h1, h2⟩ := h
          have e : m + 1 = c.fr.length := by omega
          rw [e, Tn_L c.fr h0] at h2
          exact absurd rfl h2
        · refine .inl ⟨some (.dat (.int (m : Nat))), ?_, rfl⟩
          rw [hT]
          rfl
    · rintro _ _ ⟨x4, rfl, rfl⟩
      exact ⟨_, _, rfl, rfl⟩
  · rintro _ _ ⟨x3, x4, rfl, rfl⟩
    refine ⟨rfl, spec_draw _ _ cs 100000 (by decide) (by decide) _ _ fun far i j f0 f1 => ?_⟩
    obtain ⟨fn, hfn⟩ : ∃ n : Nat, (n : Int) = far := ⟨far.toNat, by omega⟩
    subst hfn
    refine ⟨rfl, spec_start c _ h0 (by omega) (by rw [hL]; omega) (by rw [hL]; omega) _ _ ⟨rfl, spec_start c _ h0 (by omega) (by omega) (by omega) _ _ ⟨rfl, spec_round c (by omega) _ _ ⟨fun h => ?_, fun _ => ?_⟩⟩⟩⟩
    · have h : (!decide (start c ((fn : Int) + ((c.fr.map frD).length : Int)) = start c fn + ticks c.fr)) = true := h
      rw [hL, start_far c h0] at h
      simp at h
    · have hpl : ((c.ps.map paD).length : Int).toNat = c.ps.length := by simp
      have hn4 := hc.n4
      have hs4 := hc.sh4
      have hd4 := hc.dv4
      refine ⟨fun sl rt => ∃ x6 x7 : Option Val, sl = [some (.dat (.ro (dints cs))), some (.ref 0 []), some (.dat c.D), x3, x4, some (.dat (.int (fn : Nat))), x6, x7, none, none, none, none, none] ∧ rt = [dst2 i j], ?_, ?_⟩
      · refine ⟨by simp <;> omega, by simp <;> omega, fun _ sl rt => ∃ x6 x7 : Option Val, sl = [some (.dat (.ro (dints cs))), some (.ref 0 []), some (.dat c.D), x3, x4, some (.dat (.int (fn : Nat))), x6, x7, none, none, none, none, none] ∧ rt = [dst2 i j], ⟨none, none, rfl, rfl⟩, ?_, fun _ _ h => h⟩
        rintro p d _ _ hd ⟨x6, x7, rfl, rfl⟩
        rw [hpl, List.getElem?_map] at hd
        obtain ⟨q, hq, rfl⟩ := Option.map_eq_some_iff.mp hd
        obtain ⟨hi, rfl⟩ := List.getElem?_eq_some_iff.mp hq
        rw [List.getElem_range]
        have hpn : p < c.ps.length := by simpa using hi
        obtain ⟨⟨im, n⟩, hp⟩ : ∃ x, c.ps[p]? = some x := ⟨_, List.getElem?_eq_getElem hpn⟩
        have hb := hc.pg _ (List.mem_of_getElem? hp)
        refine ⟨rfl, spec_pagemap c p im n hp (by have := hb.1; omega) (by have := hb.2.1; omega) (by omega) (by omega) _ _ ⟨rfl, spec_lawpages c p im n hp (by have := hb.1; omega) (by have := hb.2.1; omega) (by omega) (by omega) _ _ ?_⟩⟩
        simp only [toD_dats]
        refine ne_self rfl (plain_pages c p n) ?_
        refine ⟨false, fun _ => ⟨rfl, spec_sources c p (by omega) (by omega) (by omega) hc.fl _ _ fun l ns hF hcl hpm hsr => ⟨rfl, spec_lawreach2 c p (by omega) hc.fl _ _ ?_⟩⟩, fun h => (nomatch h), fun _ => ?_⟩
        · rw [found_same c p (by omega) (by omega) hc.fl l ns hF hcl hpm hsr]
          simp only [toD_lints]
          exact ne_self rfl (plain_ints _) ⟨rfl, rfl⟩
        · refine ⟨by simp <;> omega, by simp <;> omega, fun _ sl rt => ∃ x7 : Option Val, sl = [some (.dat (.ro (dints cs))), some (.ref 0 []), some (.dat c.D), x3, x4, some (.dat (.int (fn : Nat))), some (.dat (.int (p : Nat))), x7, none, none, none, none, none] ∧ rt = [dst2 i j], ⟨x7, rfl, rfl⟩, ?_, ?_⟩
          · rintro q d _ _ hd ⟨x7, rfl, rfl⟩
            rw [hpl, List.getElem?_map] at hd
            obtain ⟨q', hq, rfl⟩ := Option.map_eq_some_iff.mp hd
            obtain ⟨hi, rfl⟩ := List.getElem?_eq_some_iff.mp hq
            rw [List.getElem_range]
            refine ⟨rfl, spec_may c p q _ _ ?_⟩
            refine ⟨decide (((p : Int), (q : Int)) ∈ c.fl), fun _ => ⟨by show 2 ≤ 1000; decide, .tuple [.int (p : Nat), .int (q : Nat)], c.fl.map prP, rfl, pys_pr c.fl, rfl, by show 1 ≤ 32; decide, shaped_pr c.fl, ?_, rfl⟩, ?_⟩
            · rw [any_pr]
            · refine ⟨fun h => ?_, fun _ => .inl ⟨_, rfl, rfl⟩⟩
              simp at h
          · rintro _ _ ⟨x7, rfl, rfl⟩
            exact .inl ⟨_, x7, rfl, rfl⟩
      · rintro _ _ ⟨x6, x7, rfl, rfl⟩
        exact law_two c hc cs i j x3 x4 (some (.dat (.int (fn : Nat)))) x6 x7 _ (fun rt => hk)
end K30
end

section
set_option Elab.async false
set_option linter.all false
set_option maxRecDepth 100000
set_option maxHeartbeats 4000000
namespace K30
open PySem PySem.Spec PyProof.Rows L2 Evl Wv
def spLaw (K : PySem.W.Frag) : Sp := fun vs H Q _ => ∃ (a : Addr) (ns : List Int), vs = [.ref a] ∧ SqL K H a (ns.map V.int) ∧ ns.length ≤ 63 ∧ ∀ H', Q (.bl true) H'
theorem ok_fin {P : Program} {w : World} {K : PySem.W.Frag} {mg : Str → Option Value} {base : Heap} (T : Tx K mg) : FnOk P w K mg base CX0 26 T.aLaw T.fdLaw PLaw (spLaw K) :=
  (ok_law T).imp fun vs H Q E h => by
    obtain ⟨a, ns, rfl, hS, hl, q⟩ := h
    refine ⟨H, [], [], [.dat (.ro (dints ns))], [], fun t rt => t = .dat (.bool true) ∧ rt = [], fun _ _ => False, ⟨Ex.refl _, .nil, List.nodup_nil, fun _ z => (nomatch z)⟩, .cons (DR.ro hS (DRs.of_ints ns)) .nil, spec_law ns _ _ ⟨rfl, rfl⟩, ?_, fun _ _ _ _ _ _ _ _ _ _ z => z⟩
    rintro t rt' fps' fp G' H' v _ _ o _ ⟨rfl, rfl⟩
    cases o.tr with
    | dat h => cases h; exact q _
theorem all_mk {l : PySem.W.OpenLaw} {w : World} {K : PySem.W.Frag} {h : Heap} {mg : Str → Option Value} {fa : Addr} (X : K.In h) (G : h.Ns mainGlobals mg) (hfa : mg "law" = some (.ref fa))
    {C0 : Addr}
    {C1 : Addr}
    {f0 : Addr} {od0 an0 : Option Addr} {sl0 : Array (Option Value)} {oc0 kV0 dc0 pm0 cd0 ct0 : Value}
    {f1 : Addr} {od1 an1 : Option Addr} {sl1 : Array (Option Value)} {oc1 kV1 dc1 pm1 cd1 ct1 : Value}
    {f2 : Addr} {od2 an2 : Option Addr} {sl2 : Array (Option Value)} {oc2 kV2 dc2 pm2 cd2 ct2 : Value}
    {f3 : Addr} {od3 an3 : Option Addr} {sl3 : Array (Option Value)} {oc3 kV3 dc3 pm3 cd3 ct3 : Value}
    {f4 : Addr} {od4 an4 : Option Addr} {sl4 : Array (Option Value)} {oc4 kV4 dc4 pm4 cd4 ct4 : Value}
    {f5 : Addr} {od5 an5 : Option Addr} {sl5 : Array (Option Value)} {oc5 kV5 dc5 pm5 cd5 ct5 : Value}
    {f6 : Addr} {od6 an6 : Option Addr} {sl6 : Array (Option Value)} {oc6 kV6 dc6 pm6 cd6 ct6 : Value}
    {f7 : Addr} {od7 an7 : Option Addr} {sl7 : Array (Option Value)} {oc7 kV7 dc7 pm7 cd7 ct7 : Value}
    {f8 : Addr} {od8 an8 : Option Addr} {sl8 : Array (Option Value)} {oc8 kV8 dc8 pm8 cd8 ct8 : Value}
    {f9 : Addr} {od9 an9 : Option Addr} {sl9 : Array (Option Value)} {oc9 kV9 dc9 pm9 cd9 ct9 : Value}
    {f10 : Addr} {od10 an10 : Option Addr} {sl10 : Array (Option Value)} {oc10 kV10 dc10 pm10 cd10 ct10 : Value}
    {f11 : Addr} {od11 an11 : Option Addr} {sl11 : Array (Option Value)} {oc11 kV11 dc11 pm11 cd11 ct11 : Value}
    {f12 : Addr} {od12 an12 : Option Addr} {sl12 : Array (Option Value)} {oc12 kV12 dc12 pm12 cd12 ct12 : Value}
    {f13 : Addr} {od13 an13 : Option Addr} {sl13 : Array (Option Value)} {oc13 kV13 dc13 pm13 cd13 ct13 : Value}
    {f14 : Addr} {od14 an14 : Option Addr} {sl14 : Array (Option Value)} {oc14 kV14 dc14 pm14 cd14 ct14 : Value}
    {f15 : Addr} {od15 an15 : Option Addr} {sl15 : Array (Option Value)} {oc15 kV15 dc15 pm15 cd15 ct15 : Value}
    {f16 : Addr} {od16 an16 : Option Addr} {sl16 : Array (Option Value)} {oc16 kV16 dc16 pm16 cd16 ct16 : Value}
    {f17 : Addr} {od17 an17 : Option Addr} {sl17 : Array (Option Value)} {oc17 kV17 dc17 pm17 cd17 ct17 : Value}
    {f18 : Addr} {od18 an18 : Option Addr} {sl18 : Array (Option Value)} {oc18 kV18 dc18 pm18 cd18 ct18 : Value}
    {f19 : Addr} {od19 an19 : Option Addr} {sl19 : Array (Option Value)} {oc19 kV19 dc19 pm19 cd19 ct19 : Value}
    {f20 : Addr} {od20 an20 : Option Addr} {sl20 : Array (Option Value)} {oc20 kV20 dc20 pm20 cd20 ct20 : Value}
    {f21 : Addr} {od21 an21 : Option Addr} {sl21 : Array (Option Value)} {oc21 kV21 dc21 pm21 cd21 ct21 : Value}
    {f22 : Addr} {od22 an22 : Option Addr} {sl22 : Array (Option Value)} {oc22 kV22 dc22 pm22 cd22 ct22 : Value}
    {tgPAGE : PySem.Tok}
    {tgVIRTUAL : PySem.Tok}
    {tgGAP : PySem.Tok}
    {tgCALL : PySem.Tok}
    {tgREAD : PySem.Tok}
    {tgWRITE : PySem.Tok}
    {tgEXECUTE : PySem.Tok}
    (ca0 : PySem.W.nsIn K mainGlobals "Partition" = some (some (.ref C0)))
    (cp0 : PySem.W.plainGet K C0 PySem.Str.empty = true)
    (ch0 : PySem.W.hasDictIn K C0 = true)
    (co0 : PySem.W.plainOver K C0 = true)
    (cs0 : PySem.W.findIn K (.ref C0) "__setattr__" = some (some (.builtin "object.__setattr__")))
    (n0_image : PySem.W.findIn K (.ref C0) "image" = some none)
    (n0_pages : PySem.W.findIn K (.ref C0) "pages" = some none)
    (n0_start : PySem.W.findIn K (.ref C0) "start" = some none)
    (cc0 : PySem.W.findIn K (.ref C0) "__class__" = some (some (.builtin "object.__class__")))
    (cm0 : PySem.W.mroIn K C0 (.type "object") = some true)
    (ck0 : PySem.W.kitOne K (.ref C0) (.ref C0) = some true)
    (ci0 : PySem.W.kitOne K (.type "int") (.ref C0) = some false)
    (ca1 : PySem.W.nsIn K mainGlobals "Config" = some (some (.ref C1)))
    (cp1 : PySem.W.plainGet K C1 PySem.Str.empty = true)
    (ch1 : PySem.W.hasDictIn K C1 = true)
    (co1 : PySem.W.plainOver K C1 = true)
    (cs1 : PySem.W.findIn K (.ref C1) "__setattr__" = some (some (.builtin "object.__setattr__")))
    (n1_partitions : PySem.W.findIn K (.ref C1) "partitions" = some none)
    (n1_frames : PySem.W.findIn K (.ref C1) "frames" = some none)
    (n1_channels : PySem.W.findIn K (.ref C1) "channels" = some none)
    (n1_shares : PySem.W.findIn K (.ref C1) "shares" = some none)
    (n1_devices : PySem.W.findIn K (.ref C1) "devices" = some none)
    (n1_flows : PySem.W.findIn K (.ref C1) "flows" = some none)
    (cc1 : PySem.W.findIn K (.ref C1) "__class__" = some (some (.builtin "object.__class__")))
    (cm1 : PySem.W.mroIn K C1 (.type "object") = some true)
    (ck1 : PySem.W.kitOne K (.ref C1) (.ref C1) = some true)
    (ci1 : PySem.W.kitOne K (.type "int") (.ref C1) = some false)
    (sp0 : PySem.W.specialIn K (.builtin "object.__class__") "__get__" = some (some (.builtin "getset_descriptor.__get__")))
    (tk0 : PySem.W.takesIn K (.builtin "object.__class__") = some true)
    (a0 : PySem.W.nsIn K mainGlobals "_law_draw" = some (some (.ref f0)))
    (l0 : K.lookup f0 = some ⟨oc0, od0, .func (PySem.W.fnOf "_law_draw" "_law_draw" (defArgs sLawDraw) (defBody sLawDraw) (defScope sLawDraw) .none kV0 dc0 pm0 an0 cd0 ct0), sl0⟩)
    (c0 : PySem.W.codeIn K cd0 "_law_draw" = true)
    (k0 : PySem.W.keepIn K (.ref f0) = true)
    (a1 : PySem.W.nsIn K mainGlobals "_law_word" = some (some (.ref f1)))
    (l1 : K.lookup f1 = some ⟨oc1, od1, .func (PySem.W.fnOf "_law_word" "_law_word" (defArgs sLawWord) (defBody sLawWord) (defScope sLawWord) .none kV1 dc1 pm1 an1 cd1 ct1), sl1⟩)
    (c1 : PySem.W.codeIn K cd1 "_law_word" = true)
    (k1 : PySem.W.keepIn K (.ref f1) = true)
    (a2 : PySem.W.nsIn K mainGlobals "_law_line" = some (some (.ref f2)))
    (l2 : K.lookup f2 = some ⟨oc2, od2, .func (PySem.W.fnOf "_law_line" "_law_line" (defArgs sLawLine) (defBody sLawLine) (defScope sLawLine) .none kV2 dc2 pm2 an2 cd2 ct2), sl2⟩)
    (c2 : PySem.W.codeIn K cd2 "_law_line" = true)
    (k2 : PySem.W.keepIn K (.ref f2) = true)
    (a3 : PySem.W.nsIn K mainGlobals "_law_image" = some (some (.ref f3)))
    (l3 : K.lookup f3 = some ⟨oc3, od3, .func (PySem.W.fnOf "_law_image" "_law_image" (defArgs sLawImage) (defBody sLawImage) (defScope sLawImage) .none kV3 dc3 pm3 an3 cd3 ct3), sl3⟩)
    (c3 : PySem.W.codeIn K cd3 "_law_image" = true)
    (k3 : PySem.W.keepIn K (.ref f3) = true)
    (a4 : PySem.W.nsIn K mainGlobals "_law_parts" = some (some (.ref f4)))
    (l4 : K.lookup f4 = some ⟨oc4, od4, .func (PySem.W.fnOf "_law_parts" "_law_parts" (defArgs sLawParts) (defBody sLawParts) (defScope sLawParts) .none kV4 dc4 pm4 an4 cd4 ct4), sl4⟩)
    (c4 : PySem.W.codeIn K cd4 "_law_parts" = true)
    (k4 : PySem.W.keepIn K (.ref f4) = true)
    (a5 : PySem.W.findIn K (.ref C0) "__init__" = some (some (.ref f5)))
    (t5 : PySem.W.isFn K (.ref f5) = true)
    (l5 : K.lookup f5 = some ⟨oc5, od5, .func (PySem.W.fnOf "__init__" "Partition.__init__" (defArgs sPartitionInit) (defBody sPartitionInit) (defScope sPartitionInit) .none kV5 dc5 pm5 an5 cd5 ct5), sl5⟩)
    (c5 : PySem.W.codeIn K cd5 "Partition.__init__" = true)
    (k5 : PySem.W.keepIn K (.ref f5) = true)
    (mk0 : PySem.W.makesIn K C0 = true)
    (kc0 : PySem.W.keepIn K (.ref C0) = true)
    (a6 : PySem.W.findIn K (.ref C0) "fields" = some (some (.ref f6)))
    (t6 : PySem.W.isFn K (.ref f6) = true)
    (l6 : K.lookup f6 = some ⟨oc6, od6, .func (PySem.W.fnOf "fields" "Partition.fields" (defArgs sPartitionFields) (defBody sPartitionFields) (defScope sPartitionFields) .none kV6 dc6 pm6 an6 cd6 ct6), sl6⟩)
    (c6 : PySem.W.codeIn K cd6 "Partition.fields" = true)
    (k6 : PySem.W.keepIn K (.ref f6) = true)
    (a7 : PySem.W.findIn K (.ref C0) "__eq__" = some (some (.ref f7)))
    (t7 : PySem.W.isFn K (.ref f7) = true)
    (l7 : K.lookup f7 = some ⟨oc7, od7, .func (PySem.W.fnOf "__eq__" "Partition.__eq__" (defArgs sPartitionEq) (defBody sPartitionEq) (defScope sPartitionEq) .none kV7 dc7 pm7 an7 cd7 ct7), sl7⟩)
    (c7 : PySem.W.codeIn K cd7 "Partition.__eq__" = true)
    (k7 : PySem.W.keepIn K (.ref f7) = true)
    (ne0 : PySem.W.findIn K (.ref C0) "__ne__" = some (some (.builtin "object.__ne__")))
    (a8 : PySem.W.findIn K (.ref C1) "__init__" = some (some (.ref f8)))
    (t8 : PySem.W.isFn K (.ref f8) = true)
    (l8 : K.lookup f8 = some ⟨oc8, od8, .func (PySem.W.fnOf "__init__" "Config.__init__" (defArgs sConfigInit) (defBody sConfigInit) (defScope sConfigInit) .none kV8 dc8 pm8 an8 cd8 ct8), sl8⟩)
    (c8 : PySem.W.codeIn K cd8 "Config.__init__" = true)
    (k8 : PySem.W.keepIn K (.ref f8) = true)
    (mk1 : PySem.W.makesIn K C1 = true)
    (kc1 : PySem.W.keepIn K (.ref C1) = true)
    (a9 : PySem.W.findIn K (.ref C1) "fields" = some (some (.ref f9)))
    (t9 : PySem.W.isFn K (.ref f9) = true)
    (l9 : K.lookup f9 = some ⟨oc9, od9, .func (PySem.W.fnOf "fields" "Config.fields" (defArgs sConfigFields) (defBody sConfigFields) (defScope sConfigFields) .none kV9 dc9 pm9 an9 cd9 ct9), sl9⟩)
    (c9 : PySem.W.codeIn K cd9 "Config.fields" = true)
    (k9 : PySem.W.keepIn K (.ref f9) = true)
    (a10 : PySem.W.findIn K (.ref C1) "__eq__" = some (some (.ref f10)))
    (t10 : PySem.W.isFn K (.ref f10) = true)
    (l10 : K.lookup f10 = some ⟨oc10, od10, .func (PySem.W.fnOf "__eq__" "Config.__eq__" (defArgs sConfigEq) (defBody sConfigEq) (defScope sConfigEq) .none kV10 dc10 pm10 an10 cd10 ct10), sl10⟩)
    (c10 : PySem.W.codeIn K cd10 "Config.__eq__" = true)
    (k10 : PySem.W.keepIn K (.ref f10) = true)
    (ne1 : PySem.W.findIn K (.ref C1) "__ne__" = some (some (.builtin "object.__ne__")))
    (a11 : PySem.W.nsIn K mainGlobals "_law_partition" = some (some (.ref f11)))
    (l11 : K.lookup f11 = some ⟨oc11, od11, .func (PySem.W.fnOf "_law_partition" "_law_partition" (defArgs sLawPartition) (defBody sLawPartition) (defScope sLawPartition) .none kV11 dc11 pm11 an11 cd11 ct11), sl11⟩)
    (c11 : PySem.W.codeIn K cd11 "_law_partition" = true)
    (k11 : PySem.W.keepIn K (.ref f11) = true)
    (a12 : PySem.W.nsIn K mainGlobals "_law_config" = some (some (.ref f12)))
    (l12 : K.lookup f12 = some ⟨oc12, od12, .func (PySem.W.fnOf "_law_config" "_law_config" (defArgs sLawConfig) (defBody sLawConfig) (defScope sLawConfig) .none kV12 dc12 pm12 an12 cd12 ct12), sl12⟩)
    (c12 : PySem.W.codeIn K cd12 "_law_config" = true)
    (k12 : PySem.W.keepIn K (.ref f12) = true)
    (a13 : PySem.W.nsIn K mainGlobals "share_rights" = some (some (.ref f13)))
    (l13 : K.lookup f13 = some ⟨oc13, od13, .func (PySem.W.fnOf "share_rights" "share_rights" (defArgs sShareRights) (defBody sShareRights) (defScope sShareRights) .none kV13 dc13 pm13 an13 cd13 ct13), sl13⟩)
    (c13 : PySem.W.codeIn K cd13 "share_rights" = true)
    (k13 : PySem.W.keepIn K (.ref f13) = true)
    (a14 : PySem.W.nsIn K mainGlobals "page_map" = some (some (.ref f14)))
    (l14 : K.lookup f14 = some ⟨oc14, od14, .func (PySem.W.fnOf "page_map" "page_map" (defArgs sPageMap) (defBody sPageMap) (defScope sPageMap) .none kV14 dc14 pm14 an14 cd14 ct14), sl14⟩)
    (c14 : PySem.W.codeIn K cd14 "page_map" = true)
    (k14 : PySem.W.keepIn K (.ref f14) = true)
    (a15 : PySem.W.nsIn K mainGlobals "ticks_of" = some (some (.ref f15)))
    (l15 : K.lookup f15 = some ⟨oc15, od15, .func (PySem.W.fnOf "ticks_of" "ticks_of" (defArgs sTicksOf) (defBody sTicksOf) (defScope sTicksOf) .none kV15 dc15 pm15 an15 cd15 ct15), sl15⟩)
    (c15 : PySem.W.codeIn K cd15 "ticks_of" = true)
    (k15 : PySem.W.keepIn K (.ref f15) = true)
    (a16 : PySem.W.nsIn K mainGlobals "round_length" = some (some (.ref f16)))
    (l16 : K.lookup f16 = some ⟨oc16, od16, .func (PySem.W.fnOf "round_length" "round_length" (defArgs sRoundLength) (defBody sRoundLength) (defScope sRoundLength) .none kV16 dc16 pm16 an16 cd16 ct16), sl16⟩)
    (c16 : PySem.W.codeIn K cd16 "round_length" = true)
    (k16 : PySem.W.keepIn K (.ref f16) = true)
    (a17 : PySem.W.nsIn K mainGlobals "frame_start" = some (some (.ref f17)))
    (l17 : K.lookup f17 = some ⟨oc17, od17, .func (PySem.W.fnOf "frame_start" "frame_start" (defArgs sFrameStart) (defBody sFrameStart) (defScope sFrameStart) .none kV17 dc17 pm17 an17 cd17 ct17), sl17⟩)
    (c17 : PySem.W.codeIn K cd17 "frame_start" = true)
    (k17 : PySem.W.keepIn K (.ref f17) = true)
    (a18 : PySem.W.nsIn K mainGlobals "may_flow" = some (some (.ref f18)))
    (l18 : K.lookup f18 = some ⟨oc18, od18, .func (PySem.W.fnOf "may_flow" "may_flow" (defArgs sMayFlow) (defBody sMayFlow) (defScope sMayFlow) .none kV18 dc18 pm18 an18 cd18 ct18), sl18⟩)
    (c18 : PySem.W.codeIn K cd18 "may_flow" = true)
    (k18 : PySem.W.keepIn K (.ref f18) = true)
    (a19 : PySem.W.nsIn K mainGlobals "sources_of" = some (some (.ref f19)))
    (l19 : K.lookup f19 = some ⟨oc19, od19, .func (PySem.W.fnOf "sources_of" "sources_of" (defArgs sSourcesOf) (defBody sSourcesOf) (defScope sSourcesOf) .none kV19 dc19 pm19 an19 cd19 ct19), sl19⟩)
    (c19 : PySem.W.codeIn K cd19 "sources_of" = true)
    (k19 : PySem.W.keepIn K (.ref f19) = true)
    (a20 : PySem.W.nsIn K mainGlobals "_law_pages" = some (some (.ref f20)))
    (l20 : K.lookup f20 = some ⟨oc20, od20, .func (PySem.W.fnOf "_law_pages" "_law_pages" (defArgs sLawPages) (defBody sLawPages) (defScope sLawPages) .none kV20 dc20 pm20 an20 cd20 ct20), sl20⟩)
    (c20 : PySem.W.codeIn K cd20 "_law_pages" = true)
    (k20 : PySem.W.keepIn K (.ref f20) = true)
    (a21 : PySem.W.nsIn K mainGlobals "_law_reach" = some (some (.ref f21)))
    (l21 : K.lookup f21 = some ⟨oc21, od21, .func (PySem.W.fnOf "_law_reach" "_law_reach" (defArgs sLawReach) (defBody sLawReach) (defScope sLawReach) .none kV21 dc21 pm21 an21 cd21 ct21), sl21⟩)
    (c21 : PySem.W.codeIn K cd21 "_law_reach" = true)
    (k21 : PySem.W.keepIn K (.ref f21) = true)
    (a22 : PySem.W.nsIn K mainGlobals "law" = some (some (.ref f22)))
    (l22 : K.lookup f22 = some ⟨oc22, od22, .func (PySem.W.fnOf "law" "law" (defArgs sLaw) (defBody sLaw) (defScope sLaw) .none kV22 dc22 pm22 an22 cd22 ct22), sl22⟩)
    (c22 : PySem.W.codeIn K cd22 "law" = true)
    (k22 : PySem.W.keepIn K (.ref f22) = true)
    (z_len : PySem.W.nsIn K mainGlobals "len" = some none)
    (z_int : PySem.W.nsIn K mainGlobals "int" = some none)
    (z_range : PySem.W.nsIn K mainGlobals "range" = some none)
    (z_sum : PySem.W.nsIn K mainGlobals "sum" = some none)
    (z_tuple : PySem.W.nsIn K mainGlobals "tuple" = some none)
    (z_divmod : PySem.W.nsIn K mainGlobals "divmod" = some none)
    (z_list : PySem.W.nsIn K mainGlobals "list" = some none)
    (z_isinstance : PySem.W.nsIn K mainGlobals "isinstance" = some none)
    (z_sorted : PySem.W.nsIn K mainGlobals "sorted" = some none)
    (z_enumerate : PySem.W.nsIn K mainGlobals "enumerate" = some none)
    (ggPAGE : PySem.W.nsIn K mainGlobals "PAGE" = some (some (.int 16 tgPAGE)))
    (ggVIRTUAL : PySem.W.nsIn K mainGlobals "VIRTUAL" = some (some (.int 8 tgVIRTUAL)))
    (ggGAP : PySem.W.nsIn K mainGlobals "GAP" = some (some (.int 256 tgGAP)))
    (ggCALL : PySem.W.nsIn K mainGlobals "CALL" = some (some (.int 96 tgCALL)))
    (ggREAD : PySem.W.nsIn K mainGlobals "READ" = some (some (.int 1 tgREAD)))
    (ggWRITE : PySem.W.nsIn K mainGlobals "WRITE" = some (some (.int 2 tgWRITE)))
    (ggEXECUTE : PySem.W.nsIn K mainGlobals "EXECUTE" = some (some (.int 4 tgEXECUTE))) :
    ∃ fd : FuncData, (∀ (s : Shared) (v : Value), BindsTo s fd ⟨[v], []⟩ [("script", v)]) ∧ ∀ base : Heap, K.In base → base.Ns mainGlobals mg → FnOk l.prog w K mg base CX0 26 fa fd ["script"] (spLaw K) := by
  have e := hfa.symm.trans (PySem.W.mg_of X G a22)
  cases e
  let T : Tx K mg :=
    { cPartition := C0
      gPartition := PySem.W.mg_of X G ca0
      clPartition := ⟨cp0, ch0, co0, cs0⟩
      nPartition_image := n0_image
      nPartition_pages := n0_pages
      nPartition_start := n0_start
      isPartition := ⟨⟨cp0, ch0, co0, cs0⟩, cc0, sp0, tk0, cm0, ck0, ci0⟩
      cConfig := C1
      gConfig := PySem.W.mg_of X G ca1
      clConfig := ⟨cp1, ch1, co1, cs1⟩
      nConfig_partitions := n1_partitions
      nConfig_frames := n1_frames
      nConfig_channels := n1_channels
      nConfig_shares := n1_shares
      nConfig_devices := n1_devices
      nConfig_flows := n1_flows
      isConfig := ⟨⟨cp1, ch1, co1, cs1⟩, cc1, sp0, tk0, cm1, ck1, ci1⟩
      aLawDraw := f0
      fdLawDraw := PySem.W.fnOf "_law_draw" "_law_draw" (defArgs sLawDraw) (defBody sLawDraw) (defScope sLawDraw) .none kV0 dc0 pm0 an0 cd0 ct0
      dLawDraw := ⟨fun_mk (st := sLawDraw) l0 c0 k0, PySem.W.mg_of X G a0, (fun_mk (st := sLawDraw) l0 c0 k0).binds (ps := PLawDraw) fun _ _ _ _ _ _ us hl => match us, hl with | [_, _, _], _ => rfl⟩
      aLawWord := f1
      fdLawWord := PySem.W.fnOf "_law_word" "_law_word" (defArgs sLawWord) (defBody sLawWord) (defScope sLawWord) .none kV1 dc1 pm1 an1 cd1 ct1
      dLawWord := ⟨fun_mk (st := sLawWord) l1 c1 k1, PySem.W.mg_of X G a1, (fun_mk (st := sLawWord) l1 c1 k1).binds (ps := PLawWord) fun _ _ _ _ _ _ us hl => match us, hl with | [_, _, _, _], _ => rfl⟩
      aLawLine := f2
      fdLawLine := PySem.W.fnOf "_law_line" "_law_line" (defArgs sLawLine) (defBody sLawLine) (defScope sLawLine) .none kV2 dc2 pm2 an2 cd2 ct2
      dLawLine := ⟨fun_mk (st := sLawLine) l2 c2 k2, PySem.W.mg_of X G a2, (fun_mk (st := sLawLine) l2 c2 k2).binds (ps := PLawLine) fun _ _ _ _ _ _ us hl => match us, hl with | [_, _, _], _ => rfl⟩
      aLawImage := f3
      fdLawImage := PySem.W.fnOf "_law_image" "_law_image" (defArgs sLawImage) (defBody sLawImage) (defScope sLawImage) .none kV3 dc3 pm3 an3 cd3 ct3
      dLawImage := ⟨fun_mk (st := sLawImage) l3 c3 k3, PySem.W.mg_of X G a3, (fun_mk (st := sLawImage) l3 c3 k3).binds (ps := PLawImage) fun _ _ _ _ _ _ us hl => match us, hl with | [_, _, _, _], _ => rfl⟩
      aLawParts := f4
      fdLawParts := PySem.W.fnOf "_law_parts" "_law_parts" (defArgs sLawParts) (defBody sLawParts) (defScope sLawParts) .none kV4 dc4 pm4 an4 cd4 ct4
      dLawParts := ⟨fun_mk (st := sLawParts) l4 c4 k4, PySem.W.mg_of X G a4, (fun_mk (st := sLawParts) l4 c4 k4).binds (ps := PLawParts) fun _ _ _ _ _ _ us hl => match us, hl with | [_, _], _ => rfl⟩
      aPartitionInit := f5
      fdPartitionInit := PySem.W.fnOf "__init__" "Partition.__init__" (defArgs sPartitionInit) (defBody sPartitionInit) (defScope sPartitionInit) .none kV5 dc5 pm5 an5 cd5 ct5
      mPartitionInit := ⟨fun_mk (st := sPartitionInit) l5 c5 k5, (fun_mk (st := sPartitionInit) l5 c5 k5).binds (ps := PPartitionInit) fun _ _ _ _ _ _ us hl => match us, hl with | [_, _, _, _], _ => rfl⟩
      mkPartition := ⟨mk0, a5, t5, kc0⟩
      aPartitionFields := f6
      fdPartitionFields := PySem.W.fnOf "fields" "Partition.fields" (defArgs sPartitionFields) (defBody sPartitionFields) (defScope sPartitionFields) .none kV6 dc6 pm6 an6 cd6 ct6
      mPartitionFields := ⟨fun_mk (st := sPartitionFields) l6 c6 k6, (fun_mk (st := sPartitionFields) l6 c6 k6).binds (ps := PPartitionFields) fun _ _ _ _ _ _ us hl => match us, hl with | [_], _ => rfl⟩
      hPartitionFields := ⟨a6, t6, k6⟩
      aPartitionEq := f7
      fdPartitionEq := PySem.W.fnOf "__eq__" "Partition.__eq__" (defArgs sPartitionEq) (defBody sPartitionEq) (defScope sPartitionEq) .none kV7 dc7 pm7 an7 cd7 ct7
      mPartitionEq := ⟨fun_mk (st := sPartitionEq) l7 c7 k7, (fun_mk (st := sPartitionEq) l7 c7 k7).binds (ps := PPartitionEq) fun _ _ _ _ _ _ us hl => match us, hl with | [_, _], _ => rfl⟩
      eqPartition := ⟨a7, ne0, t7, cm0⟩
      aConfigInit := f8
      fdConfigInit := PySem.W.fnOf "__init__" "Config.__init__" (defArgs sConfigInit) (defBody sConfigInit) (defScope sConfigInit) .none kV8 dc8 pm8 an8 cd8 ct8
      mConfigInit := ⟨fun_mk (st := sConfigInit) l8 c8 k8, (fun_mk (st := sConfigInit) l8 c8 k8).binds (ps := PConfigInit) fun _ _ _ _ _ _ us hl => match us, hl with | [_, _, _, _, _, _, _], _ => rfl⟩
      mkConfig := ⟨mk1, a8, t8, kc1⟩
      aConfigFields := f9
      fdConfigFields := PySem.W.fnOf "fields" "Config.fields" (defArgs sConfigFields) (defBody sConfigFields) (defScope sConfigFields) .none kV9 dc9 pm9 an9 cd9 ct9
      mConfigFields := ⟨fun_mk (st := sConfigFields) l9 c9 k9, (fun_mk (st := sConfigFields) l9 c9 k9).binds (ps := PConfigFields) fun _ _ _ _ _ _ us hl => match us, hl with | [_], _ => rfl⟩
      hConfigFields := ⟨a9, t9, k9⟩
      aConfigEq := f10
      fdConfigEq := PySem.W.fnOf "__eq__" "Config.__eq__" (defArgs sConfigEq) (defBody sConfigEq) (defScope sConfigEq) .none kV10 dc10 pm10 an10 cd10 ct10
      mConfigEq := ⟨fun_mk (st := sConfigEq) l10 c10 k10, (fun_mk (st := sConfigEq) l10 c10 k10).binds (ps := PConfigEq) fun _ _ _ _ _ _ us hl => match us, hl with | [_, _], _ => rfl⟩
      eqConfig := ⟨a10, ne1, t10, cm1⟩
      aLawPartition := f11
      fdLawPartition := PySem.W.fnOf "_law_partition" "_law_partition" (defArgs sLawPartition) (defBody sLawPartition) (defScope sLawPartition) .none kV11 dc11 pm11 an11 cd11 ct11
      dLawPartition := ⟨fun_mk (st := sLawPartition) l11 c11 k11, PySem.W.mg_of X G a11, (fun_mk (st := sLawPartition) l11 c11 k11).binds (ps := PLawPartition) fun _ _ _ _ _ _ us hl => match us, hl with | [_, _, _, _], _ => rfl⟩
      aLawConfig := f12
      fdLawConfig := PySem.W.fnOf "_law_config" "_law_config" (defArgs sLawConfig) (defBody sLawConfig) (defScope sLawConfig) .none kV12 dc12 pm12 an12 cd12 ct12
      dLawConfig := ⟨fun_mk (st := sLawConfig) l12 c12 k12, PySem.W.mg_of X G a12, (fun_mk (st := sLawConfig) l12 c12 k12).binds (ps := PLawConfig) fun _ _ _ _ _ _ us hl => match us, hl with | [_, _], _ => rfl⟩
      aShareRights := f13
      fdShareRights := PySem.W.fnOf "share_rights" "share_rights" (defArgs sShareRights) (defBody sShareRights) (defScope sShareRights) .none kV13 dc13 pm13 an13 cd13 ct13
      dShareRights := ⟨fun_mk (st := sShareRights) l13 c13 k13, PySem.W.mg_of X G a13, (fun_mk (st := sShareRights) l13 c13 k13).binds (ps := PShareRights) fun _ _ _ _ _ _ us hl => match us, hl with | [_, _], _ => rfl⟩
      aPageMap := f14
      fdPageMap := PySem.W.fnOf "page_map" "page_map" (defArgs sPageMap) (defBody sPageMap) (defScope sPageMap) .none kV14 dc14 pm14 an14 cd14 ct14
      dPageMap := ⟨fun_mk (st := sPageMap) l14 c14 k14, PySem.W.mg_of X G a14, (fun_mk (st := sPageMap) l14 c14 k14).binds (ps := PPageMap) fun _ _ _ _ _ _ us hl => match us, hl with | [_, _], _ => rfl⟩
      aTicksOf := f15
      fdTicksOf := PySem.W.fnOf "ticks_of" "ticks_of" (defArgs sTicksOf) (defBody sTicksOf) (defScope sTicksOf) .none kV15 dc15 pm15 an15 cd15 ct15
      dTicksOf := ⟨fun_mk (st := sTicksOf) l15 c15 k15, PySem.W.mg_of X G a15, (fun_mk (st := sTicksOf) l15 c15 k15).binds (ps := PTicksOf) fun _ _ _ _ _ _ us hl => match us, hl with | [_], _ => rfl⟩
      aRoundLength := f16
      fdRoundLength := PySem.W.fnOf "round_length" "round_length" (defArgs sRoundLength) (defBody sRoundLength) (defScope sRoundLength) .none kV16 dc16 pm16 an16 cd16 ct16
      dRoundLength := ⟨fun_mk (st := sRoundLength) l16 c16 k16, PySem.W.mg_of X G a16, (fun_mk (st := sRoundLength) l16 c16 k16).binds (ps := PRoundLength) fun _ _ _ _ _ _ us hl => match us, hl with | [_], _ => rfl⟩
      aFrameStart := f17
      fdFrameStart := PySem.W.fnOf "frame_start" "frame_start" (defArgs sFrameStart) (defBody sFrameStart) (defScope sFrameStart) .none kV17 dc17 pm17 an17 cd17 ct17
      dFrameStart := ⟨fun_mk (st := sFrameStart) l17 c17 k17, PySem.W.mg_of X G a17, (fun_mk (st := sFrameStart) l17 c17 k17).binds (ps := PFrameStart) fun _ _ _ _ _ _ us hl => match us, hl with | [_, _], _ => rfl⟩
      aMayFlow := f18
      fdMayFlow := PySem.W.fnOf "may_flow" "may_flow" (defArgs sMayFlow) (defBody sMayFlow) (defScope sMayFlow) .none kV18 dc18 pm18 an18 cd18 ct18
      dMayFlow := ⟨fun_mk (st := sMayFlow) l18 c18 k18, PySem.W.mg_of X G a18, (fun_mk (st := sMayFlow) l18 c18 k18).binds (ps := PMayFlow) fun _ _ _ _ _ _ us hl => match us, hl with | [_, _, _], _ => rfl⟩
      aSourcesOf := f19
      fdSourcesOf := PySem.W.fnOf "sources_of" "sources_of" (defArgs sSourcesOf) (defBody sSourcesOf) (defScope sSourcesOf) .none kV19 dc19 pm19 an19 cd19 ct19
      dSourcesOf := ⟨fun_mk (st := sSourcesOf) l19 c19 k19, PySem.W.mg_of X G a19, (fun_mk (st := sSourcesOf) l19 c19 k19).binds (ps := PSourcesOf) fun _ _ _ _ _ _ us hl => match us, hl with | [_, _], _ => rfl⟩
      aLawPages := f20
      fdLawPages := PySem.W.fnOf "_law_pages" "_law_pages" (defArgs sLawPages) (defBody sLawPages) (defScope sLawPages) .none kV20 dc20 pm20 an20 cd20 ct20
      dLawPages := ⟨fun_mk (st := sLawPages) l20 c20 k20, PySem.W.mg_of X G a20, (fun_mk (st := sLawPages) l20 c20 k20).binds (ps := PLawPages) fun _ _ _ _ _ _ us hl => match us, hl with | [_, _], _ => rfl⟩
      aLawReach := f21
      fdLawReach := PySem.W.fnOf "_law_reach" "_law_reach" (defArgs sLawReach) (defBody sLawReach) (defScope sLawReach) .none kV21 dc21 pm21 an21 cd21 ct21
      dLawReach := ⟨fun_mk (st := sLawReach) l21 c21 k21, PySem.W.mg_of X G a21, (fun_mk (st := sLawReach) l21 c21 k21).binds (ps := PLawReach) fun _ _ _ _ _ _ us hl => match us, hl with | [_, _], _ => rfl⟩
      aLaw := fa
      fdLaw := PySem.W.fnOf "law" "law" (defArgs sLaw) (defBody sLaw) (defScope sLaw) .none kV22 dc22 pm22 an22 cd22 ct22
      dLaw := ⟨fun_mk (st := sLaw) l22 c22 k22, PySem.W.mg_of X G a22, (fun_mk (st := sLaw) l22 c22 k22).binds (ps := PLaw) fun _ _ _ _ _ _ us hl => match us, hl with | [_], _ => rfl⟩
      b_len := PySem.W.mg_none_of X G z_len
      b_int := PySem.W.mg_none_of X G z_int
      b_range := PySem.W.mg_none_of X G z_range
      b_sum := PySem.W.mg_none_of X G z_sum
      b_tuple := PySem.W.mg_none_of X G z_tuple
      b_divmod := PySem.W.mg_none_of X G z_divmod
      b_list := PySem.W.mg_none_of X G z_list
      b_isinstance := PySem.W.mg_none_of X G z_isinstance
      b_sorted := PySem.W.mg_none_of X G z_sorted
      b_enumerate := PySem.W.mg_none_of X G z_enumerate
      gPAGE := ⟨tgPAGE, PySem.W.mg_of X G ggPAGE⟩
      gVIRTUAL := ⟨tgVIRTUAL, PySem.W.mg_of X G ggVIRTUAL⟩
      gGAP := ⟨tgGAP, PySem.W.mg_of X G ggGAP⟩
      gCALL := ⟨tgCALL, PySem.W.mg_of X G ggCALL⟩
      gREAD := ⟨tgREAD, PySem.W.mg_of X G ggREAD⟩
      gWRITE := ⟨tgWRITE, PySem.W.mg_of X G ggWRITE⟩
      gEXECUTE := ⟨tgEXECUTE, PySem.W.mg_of X G ggEXECUTE⟩ }
  exact ⟨T.fdLaw, fun s v => .of_eq rfl, fun base _ _ => ok_fin T⟩
theorem walk {l : PySem.W.OpenLaw} {q : Program} {loose : List Str} {XP : (Str → Option Value) → Heap → Prop} {YP : World → Heap → Prop} {d : DefRec} {K : Params → PySem.W.Frag} (hn : l.most = some 63) (hdf : d.params.defaults = [])
    (hY : ∀ (w : World) (h : Heap), YP w h → (K w.params).In h)
    (F : ∀ (w : World) (mg : Str → Option Value) (fa : Addr) (h : Heap), (K w.params).In h → h.Ns mainGlobals mg → mg d.name = some (.ref fa) →
      ∃ fd : FuncData, (∀ (s : Shared) (u : Value), BindsTo s fd ⟨[u], []⟩ [("script", u)]) ∧ ∀ base : Heap, (K w.params).In base → base.Ns mainGlobals mg → FnOk l.prog w (K w.params) mg base CX0 26 fa fd ["script"] (spLaw (K w.params))) :
    PySem.W.WalkO q loose XP YP l.row.toRowW d [] (fun f vs => PySem.call f vs) :=
  L2.walk_of (n := 63) (k := 26) (x := "script") (CX := fun _ => CX0) (sp := fun w => spLaw (K w.params)) hn (by decide) hdf ⟨rfl, by decide, by decide⟩ hY F (fun _ _ a ns hl _ hS => ⟨a, ns, rfl, hS, hl, fun _ => rfl⟩) fun _ _ _ _ _ z => z
end K30
open PySem PySem.W PyProof.Rows
set_option maxRecDepth 100000 in
set_option maxHeartbeats 0 in
theorem PySem.Challenge.cw_merestone_k30_configurations_holds : PySem.Challenge.rw_merestone_k30_configurations.Holds := by
  w_on; o_law; k_head; (case hw => w_witness2)
  k_fill
  refine K30.walk (l := PySem.Challenge.rw_merestone_k30_configurations) rfl rfl (fun w h Y => PySem.W.kIn_of Y) ?F
  case F =>
    intro w mg fa h KX G hmg
    refine' K30.all_mk KX G hmg ?ca0 ?cp0 ?ch0 ?co0 ?cs0 ?n0_image ?n0_pages ?n0_start ?cc0 ?cm0 ?ck0 ?ci0 ?ca1 ?cp1 ?ch1 ?co1 ?cs1 ?n1_partitions ?n1_frames ?n1_channels ?n1_shares ?n1_devices ?n1_flows ?cc1 ?cm1 ?ck1 ?ci1 ?sp0 ?tk0 ?a0 ?l0 ?c0 ?k0 ?a1 ?l1 ?c1 ?k1 ?a2 ?l2 ?c2 ?k2 ?a3 ?l3 ?c3 ?k3 ?a4 ?l4 ?c4 ?k4 ?a5 ?t5 ?l5 ?c5 ?k5 ?mk0 ?kc0 ?a6 ?t6 ?l6 ?c6 ?k6 ?a7 ?t7 ?l7 ?c7 ?k7 ?ne0 ?a8 ?t8 ?l8 ?c8 ?k8 ?mk1 ?kc1 ?a9 ?t9 ?l9 ?c9 ?k9 ?a10 ?t10 ?l10 ?c10 ?k10 ?ne1 ?a11 ?l11 ?c11 ?k11 ?a12 ?l12 ?c12 ?k12 ?a13 ?l13 ?c13 ?k13 ?a14 ?l14 ?c14 ?k14 ?a15 ?l15 ?c15 ?k15 ?a16 ?l16 ?c16 ?k16 ?a17 ?l17 ?c17 ?k17 ?a18 ?l18 ?c18 ?k18 ?a19 ?l19 ?c19 ?k19 ?a20 ?l20 ?c20 ?k20 ?a21 ?l21 ?c21 ?k21 ?a22 ?l22 ?c22 ?k22 ?z_len ?z_int ?z_range ?z_sum ?z_tuple ?z_divmod ?z_list ?z_isinstance ?z_sorted ?z_enumerate ?ggPAGE ?ggVIRTUAL ?ggGAP ?ggCALL ?ggREAD ?ggWRITE ?ggEXECUTE
    (case ca0 => k_is)
    (case cp0 => k_is)
    (case ch0 => k_is)
    (case co0 => k_is)
    (case cs0 => k_is)
    (case n0_image => k_is)
    (case n0_pages => k_is)
    (case n0_start => k_is)
    (case cc0 => k_is)
    (case cm0 => k_is)
    (case ck0 => kit_is)
    (case ci0 => kit_is)
    (case ca1 => k_is)
    (case cp1 => k_is)
    (case ch1 => k_is)
    (case co1 => k_is)
    (case cs1 => k_is)
    (case n1_partitions => k_is)
    (case n1_frames => k_is)
    (case n1_channels => k_is)
    (case n1_shares => k_is)
    (case n1_devices => k_is)
    (case n1_flows => k_is)
    (case cc1 => k_is)
    (case cm1 => k_is)
    (case ck1 => kit_is)
    (case ci1 => kit_is)
    (case sp0 => k_is)
    (case tk0 => k_is)
    (case a0 => k_is)
    (case l0 => k_is)
    (case c0 => k_is)
    (case k0 => k_is)
    (case a1 => k_is)
    (case l1 => k_is)
    (case c1 => k_is)
    (case k1 => k_is)
    (case a2 => k_is)
    (case l2 => k_is)
    (case c2 => k_is)
    (case k2 => k_is)
    (case a3 => k_is)
    (case l3 => k_is)
    (case c3 => k_is)
    (case k3 => k_is)
    (case a4 => k_is)
    (case l4 => k_is)
    (case c4 => k_is)
    (case k4 => k_is)
    (case a5 => k_is)
    (case t5 => k_is)
    (case l5 => k_is)
    (case c5 => k_is)
    (case k5 => k_is)
    (case mk0 => k_is)
    (case kc0 => k_is)
    (case a6 => k_is)
    (case t6 => k_is)
    (case l6 => k_is)
    (case c6 => k_is)
    (case k6 => k_is)
    (case a7 => k_is)
    (case t7 => k_is)
    (case l7 => k_is)
    (case c7 => k_is)
    (case k7 => k_is)
    (case ne0 => k_is)
    (case a8 => k_is)
    (case t8 => k_is)
    (case l8 => k_is)
    (case c8 => k_is)
    (case k8 => k_is)
    (case mk1 => k_is)
    (case kc1 => k_is)
    (case a9 => k_is)
    (case t9 => k_is)
    (case l9 => k_is)
    (case c9 => k_is)
    (case k9 => k_is)
    (case a10 => k_is)
    (case t10 => k_is)
    (case l10 => k_is)
    (case c10 => k_is)
    (case k10 => k_is)
    (case ne1 => k_is)
    (case a11 => k_is)
    (case l11 => k_is)
    (case c11 => k_is)
    (case k11 => k_is)
    (case a12 => k_is)
    (case l12 => k_is)
    (case c12 => k_is)
    (case k12 => k_is)
    (case a13 => k_is)
    (case l13 => k_is)
    (case c13 => k_is)
    (case k13 => k_is)
    (case a14 => k_is)
    (case l14 => k_is)
    (case c14 => k_is)
    (case k14 => k_is)
    (case a15 => k_is)
    (case l15 => k_is)
    (case c15 => k_is)
    (case k15 => k_is)
    (case a16 => k_is)
    (case l16 => k_is)
    (case c16 => k_is)
    (case k16 => k_is)
    (case a17 => k_is)
    (case l17 => k_is)
    (case c17 => k_is)
    (case k17 => k_is)
    (case a18 => k_is)
    (case l18 => k_is)
    (case c18 => k_is)
    (case k18 => k_is)
    (case a19 => k_is)
    (case l19 => k_is)
    (case c19 => k_is)
    (case k19 => k_is)
    (case a20 => k_is)
    (case l20 => k_is)
    (case c20 => k_is)
    (case k20 => k_is)
    (case a21 => k_is)
    (case l21 => k_is)
    (case c21 => k_is)
    (case k21 => k_is)
    (case a22 => k_is)
    (case l22 => k_is)
    (case c22 => k_is)
    (case k22 => k_is)
    (case z_len => k_is)
    (case z_int => k_is)
    (case z_range => k_is)
    (case z_sum => k_is)
    (case z_tuple => k_is)
    (case z_divmod => k_is)
    (case z_list => k_is)
    (case z_isinstance => k_is)
    (case z_sorted => k_is)
    (case z_enumerate => k_is)
    (case ggPAGE => k_is)
    (case ggVIRTUAL => k_is)
    (case ggGAP => k_is)
    (case ggCALL => k_is)
    (case ggREAD => k_is)
    (case ggWRITE => k_is)
    (case ggEXECUTE => k_is)
#print axioms PySem.Challenge.cw_merestone_k30_configurations_holds
end
